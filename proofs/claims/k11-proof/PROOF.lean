import PyProof.Rows.All
import Wide.All
import OpenK.AllK
import Wide.FinOn
import PySem.Challenge.RW_mathgalley_k11_classes_and_spaces
import HandS.ForMost
import HandS.ForExc
import HandS.IsInst
import HandS.Zip
import HandS.Codes
import HandS.TupAny
import HandS.TupMul
import HandS.Star
import HandS.SetBool
import HandS.SetKeys
import HandS.Evl
import HandS.DictComp
import HandS.ExcOwn
import HandS.Exc
import HandS.ExcInit
import HandS.ExcSuper
import KE.KExcSuper
import HandS.FStr
import HandS.Flow
import KE.DataMinMax
import HandS.SortKw
import HandS.Text
import HandS.Iter
import HandS.Strs
import HandS.More
import HandS.TryOnly
import HandS.ExcIs
import KE.RegKSuper
set_option Elab.async false
set_option linter.all false
set_option maxRecDepth 100000
set_option maxHeartbeats 2000000
namespace Mg
open PySem L2
/-! a def of the text that keeps a promise, as callers see it -/
structure Cal (P : Program) (w : World) (K : PySem.W.Frag) (mg : Str → Option Value) (base : Heap) (CX : CXT) (k : Nat) (x : Str) (ps : List Str) (sp : Sp) : Prop where
  ex : ∃ (f : Addr) (fd : FuncData), FnOk P w K mg base CX k f fd ps sp ∧ mg x = some (.ref f) ∧ PySem.W.keepIn K (.ref f) = true ∧ Binds K fd ps []
section
variable {X : Cx} {CX : CXT} {k : Nat} {ps : List Str} {sp : Sp} {E : XK} {x : Str} {p pos : Pos} {e : Expr} {es : List Expr} {t : TA}
theorem pe_cal (c : Cal X.prog X.w X.K X.mg X.base CX k x ps sp) (hr : Room k X.A) (hg : Gl X x) (hx : Passes CX X E) (ha : PA X (e :: es) t)
    (hdb : (x == ("__debug__" : Str)) = false := by decide) (he : starEach (e :: es) X.env = (false, eval e X.env) :: starEach es X.env := by rfl) (hpl : (backTo pos (starEach es X.env)).any (·.1) = false := by rfl) :
    PE X (.Call (.Name x p) (e :: es) [] pos) (tCall sp [] E t) := by
  obtain ⟨f, fd, F, hm, hk, hb⟩ := c.ex
  exact pe_call F hr hg hm hk hb .nil hx ha hdb he hpl
theorem pe_cal0 (c : Cal X.prog X.w X.K X.mg X.base CX k x ps sp) (hr : Room k X.A) (hg : Gl X x) (hx : Passes CX X E) (hdb : (x == ("__debug__" : Str)) = false := by decide) :
    PE X (.Call (.Name x p) [] [] pos) (tCall sp [] E tNil) := by
  obtain ⟨f, fd, F, hm, hk, hb⟩ := c.ex
  exact pe_call0 F hr hg hm hk hb .nil hx hdb
end
theorem Cal.mono {P : Program} {w : World} {K : PySem.W.Frag} {mg : Str → Option Value} {base : Heap} {CX : CXT} {j k : Nat} {x : Str} {ps : List Str} {sp : Sp} (c : Cal P w K mg base CX j x ps sp) (h : j ≤ k) : Cal P w K mg base CX k x ps sp := by
  obtain ⟨f, fd, F, r⟩ := c.ex
  exact ⟨f, fd, F.mono h, r⟩
/-! heaps -/
/-- what stood stands, but for what is at pl -/
def KeepB (pl : Addr) (H H' : Hp) : Prop := ∀ b o, H b = some o → b ≠ pl → H' b = some o
theorem KeepB.refl (pl : Addr) (H : Hp) : KeepB pl H H := fun _ _ h _ => h
theorem KeepB.trans {pl : Addr} {H H1 H2 : Hp} (a : KeepB pl H H1) (b : KeepB pl H1 H2) : KeepB pl H H2 := fun c o h n => b c o (a c o h n) n
theorem KeepB.of {pl : Addr} {H H' : Hp} (a : Same H H') : KeepB pl H H' := fun c o h _ => a c o h
theorem same_new {H : Hp} {p : Addr} {o : HO} (h : H p = none) : Same H (upd H p o) := fun b x e => by
  rw [upd_ne (ne_of_none e h)]
  exact e
theorem same_upd_new {H H' : Hp} {p : Addr} {o : HO} (s : Same H H') (h : H p = none) : Same H (upd H' p o) := fun b x e => by
  rw [upd_ne (ne_of_none e h)]
  exact s _ _ e
theorem keep_upd {pl : Addr} {H : Hp} {o : HO} : KeepB pl H (upd H pl o) := fun b x e n => by
  rw [upd_ne n]
  exact e
theorem keep_upd_new {pl p : Addr} {H H' : Hp} {o : HO} (s : KeepB pl H H') (h : H p = none) : KeepB pl H (upd H' p o) := fun b x e n => by
  rw [upd_ne (ne_of_none e h)]
  exact s _ _ e n
theorem room_of {j k : Nat} {A : Around} (r : Room k A) (h : j ≤ k := by decide) : Room j A := r.mono h
theorem iteP {c A B : Prop} [Decidable c] (hc : c) (h : A) : if c then A else B := by
  rw [if_pos hc]
  exact h
theorem iteN {c A B : Prop} [Decidable c] (hc : ¬ c) (h : B) : if c then A else B := by
  rw [if_neg hc]
  exact h
end Mg

set_option Elab.async false
set_option linter.all false
set_option maxRecDepth 100000
set_option maxHeartbeats 2000000
namespace Mg
open PySem PySem.Spec PyProof.Rows L2
/-! len of what is read, with its bound -/
theorem call_len_sq {X : Cx} : CallR X (.builtin "len") (fun xs H Q => ∃ p ys, xs = [.ref p] ∧ (SqL X.K H p ys ∨ SqT X.K H p ys) ∧ (ys.length ≤ sizeLine → Q (.int ys.length) H)) := by
  intro pins s σ H xs us Q I r h
  obtain ⟨p, ys, rfl, hq, q⟩ := h
  refine call_len_seq pins s σ H [.ref p] us Q I r ⟨p, ys, rfl, hq, q ?_⟩
  rcases hq with hq | hq
  · obtain ⟨its, r', pl, hz⟩ := I.list hq
    exact hz
  · obtain ⟨its, r', pl, hz⟩ := I.tuple hq
    exact hz
theorem line62 {n : Nat} (h : n ≤ sizeLine) : (n : Int) < 2 ^ 62 := by
  have e := sizeLine_eq
  omega
/-! the types of what is read -/
theorem tyx_tup {K : PySem.W.Frag} {H : Hp} {a : Addr} {xs : List V} (h : SqT K H a xs) : TyX K H (.ref a) (.type "tuple") := by
  rcases h with (h | ⟨o, h⟩) | ⟨o, its, n, hk, hc, _⟩
  · exact .base (.tup h)
  · exact .fTuple h
  · exact .kTuple hk hc
theorem tyx_lst {K : PySem.W.Frag} {H : Hp} {a : Addr} {xs : List V} (h : SqL K H a xs) : TyX K H (.ref a) (.type "list") := by
  rcases h with (h | ⟨o, h⟩) | ⟨o, its, n, hk, hc, _⟩
  · exact .base (.lst h)
  · exact .base (.frz h)
  · exact .kList hk hc
/-- the type's name of data -/
def tyD : PyData → String
  | .none => "NoneType" | .bool _ => "bool" | .int _ => "int" | .str _ => "str" | .list _ => "list" | .tuple _ => "tuple" | .dict _ => "dict"
theorem tyx_D {K : PySem.W.Frag} {H : Hp} {v : V} {d : PyData} (h : Dp K H v d) : TyX K H v (.type (tyD d)) := by
  cases h with
  | non => exact .base .non
  | bl b => exact .base (.bl b)
  | int i => exact .base (.int i)
  | str x => exact .base (.str x)
  | lst hs _ => exact tyx_lst hs
  | tup hs _ => exact tyx_tup hs
/-- isinstance of data and a built-in type -/
theorem isi_D {K : PySem.W.Frag} {H : Hp} {v : V} {d : PyData} {n : String} {b : Bool} {Q : VK} (h : Dp K H v d) (e : kitB (tyD d) n = some b) (q : Q (.bl b) H) : rIsi K [v, .ty n] H Q :=
  ⟨v, .ty n, _, _, b, rfl, .ty n, tyx_D h, kit_ty e, q⟩
/-! data stay -/
/-- tuples that are read stay -/
def TupK (H H' : Hp) : Prop := ∀ a xs, Rd H a (.tup xs) → Rd H' a (.tup xs)
theorem TupK.of {H H' : Hp} (s : Same H H') : TupK H H' := fun a xs h => by
  rcases h with h | ⟨o, h⟩
  · exact .inl (s _ _ h)
  · exact .inr ⟨o, s _ _ h⟩
theorem TupK.trans {H H1 H2 : Hp} (a : TupK H H1) (b : TupK H1 H2) : TupK H H2 := fun c xs h => b c xs (a c xs h)
theorem TupK.keep {pl : Addr} {H H' : Hp} {xs : List V} (s : KeepB pl H H') (hp : H pl = some (.lst xs)) : TupK H H' := fun a ys h => by
  have n : ∀ o, H a = some o → (∀ z, o ≠ .lst z) → a ≠ pl := fun o e z q => by
    rw [q, hp] at e
    exact z _ (Option.some.inj e).symm
  rcases h with h | ⟨o, h⟩
  · exact .inl (s _ _ h (n _ h fun _ z => nomatch z))
  · exact .inr ⟨o, s _ _ h (n _ h fun _ z => nomatch z)⟩
theorem TupK.seq {K : PySem.W.Frag} {H H' : Hp} {a : Addr} {xs : List V} (s : TupK H H') (h : SqT K H a xs) : SqT K H' a xs := by
  rcases h with h | h
  · exact .inl (s _ _ h)
  · exact .inr h
theorem same_sqt {K : PySem.W.Frag} {H H' : Hp} {a : Addr} {xs : List V} (s : Same H H') (h : SqT K H a xs) : SqT K H' a xs := (TupK.of s).seq h
mutual
theorem Dp_same {K : PySem.W.Frag} {H H' : Hp} (s : Same H H') : ∀ {d : PyData} {v : V}, Dp K H v d → Dp K H' v d
  | _, _, .non => .non
  | _, _, .bl b => .bl b
  | _, _, .int i => .int i
  | _, _, .str x => .str x
  | _, _, .lst h r => .lst (s.seq h) (DpAll_same s r)
  | _, _, .tup h r => .tup (same_sqt s h) (DpAll_same s r)
theorem DpAll_same {K : PySem.W.Frag} {H H' : Hp} (s : Same H H') : ∀ {ds : List PyData} {vs : List V}, DpAll K H vs ds → DpAll K H' vs ds
  | _, _, .nil => .nil
  | _, _, .cons h r => .cons (Dp_same s h) (DpAll_same s r)
end
/-- data made of tuples alone -/
inductive Tp (K : PySem.W.Frag) (H : Hp) : V → PyData → Prop
  | non : Tp K H .non .none
  | bl (b : Bool) : Tp K H (.bl b) (.bool b)
  | int (i : Int) : Tp K H (.int i) (.int i)
  | str (x : Str) : Tp K H (.str x) (.str x)
  | tup {a : Addr} {xs : List V} {ds : List PyData} : SqT K H a xs → xs.length = ds.length → (∀ (i : Nat) (x : V) (d : PyData), xs[i]? = some x → ds[i]? = some d → Tp K H x d) → Tp K H (.ref a) (.tuple ds)
theorem Tp.stay {K : PySem.W.Frag} {H H' : Hp} (s : TupK H H') {v : V} {d : PyData} (h : Tp K H v d) : Tp K H' v d := by
  induction h with
  | non => exact .non
  | bl b => exact .bl b
  | int i => exact .int i
  | str x => exact .str x
  | tup hs hl _ ih => exact .tup (s.seq hs) hl ih
theorem all_of_get {K : PySem.W.Frag} {H : Hp} : ∀ {ds : List PyData} {xs : List V}, xs.length = ds.length → (∀ (i : Nat) (x : V) (d : PyData), xs[i]? = some x → ds[i]? = some d → Dp K H x d) → DpAll K H xs ds
  | [], [], _, _ => .nil
  | [], _ :: _, e, _ => by simp at e
  | _ :: _, [], e, _ => by simp at e
  | d :: ds, x :: xs, e, h => .cons (h 0 x d rfl rfl) (all_of_get (by simpa using e) fun i y z h1 h2 => h (i + 1) y z h1 h2)
theorem Tp.dp {K : PySem.W.Frag} {H : Hp} {v : V} {d : PyData} (h : Tp K H v d) : Dp K H v d := by
  induction h with
  | non => exact .non
  | bl b => exact .bl b
  | int i => exact .int i
  | str x => exact .str x
  | tup hs hl _ ih => exact .tup hs (all_of_get hl ih)
theorem DpAll.len {K : PySem.W.Frag} {H : Hp} : ∀ {ds : List PyData} {vs : List V}, DpAll K H vs ds → vs.length = ds.length
  | _, _, .nil => rfl
  | _, _, .cons _ r => by rw [List.length_cons, List.length_cons, DpAll.len r]
theorem DpAll.get {K : PySem.W.Frag} {H : Hp} : ∀ {ds : List PyData} {vs : List V} {i : Nat} {d : PyData}, DpAll K H vs ds → ds[i]? = some d → ∃ v, vs[i]? = some v ∧ Dp K H v d
  | _, _, _, _, .nil, e => by simp at e
  | _, _, 0, _, .cons h _, e => by
    cases Option.some.inj e
    exact ⟨_, rfl, h⟩
  | _, _, i + 1, _, .cons _ r, e => by
    obtain ⟨v, h1, h2⟩ := DpAll.get (i := i) r e
    exact ⟨v, h1, h2⟩
theorem depth_get : ∀ {ds : List PyData} {i : Nat} {d : PyData}, ds[i]? = some d → d.depth ≤ PyData.depthAll ds
  | [], _, _, e => by simp at e
  | x :: xs, 0, _, e => by
    cases Option.some.inj e
    simp only [PyData.depthAll]
    omega
  | x :: xs, i + 1, d, e => by
    have := depth_get (ds := xs) (i := i) (d := d) e
    simp only [PyData.depthAll]
    omega
end Mg

set_option Elab.async false
set_option linter.all false
set_option maxRecDepth 100000
set_option maxHeartbeats 2000000
namespace Mg
open PySem PySem.Spec PyProof.Rows L2
/-- a comprehension's walk by a word: acc is the list so far -/
theorem lc_word {J : It} {n : Nat} {g : TG} {tt : TT} {te : TE} {vs : List Nat} {σ : L2.St} {H1 : Hp} {D : Addr} {Qd : Hp → Prop} (Pv : Nat → List V → Hp → Prop) (h0 : Pv 0 [] (upd H1 D (.lst [])))
    (hgo : ∀ i acc H, i < n → Pv i acc H → J.go i H) (hst : ∀ acc H, Pv n acc H → J.stop n H)
    (hs : ∀ i acc x H H' (R : VK) (Z : Hp → Prop), i < n → Pv i acc H → H D = some (.lst acc) → J.yld i H x H' →
      (∀ y H3, H3 D = some (.lst acc) → acc.length < sizeLine → Pv (i + 1) (acc ++ [y]) (upd H3 D (.lst (acc ++ [y]))) → R y H3) → g x (wipe σ vs) H' fun σ2 H2 => wipe σ2 vs = wipe σ vs ∧ tt σ2 H2 fun b H3 => if b = true then te σ2 H3 R else Z H3)
    (hd : ∀ acc H, Pv n acc H → H D = some (.lst acc) → Qd H) :
    ∃ W : Nat → Nat → Hp → Prop, (∃ m, W 0 m (upd H1 D (.lst []))) ∧ ∀ i m H, W i m H → (J.stop i H ∧ Qd H) ∨ (J.go i H ∧ ∃ Nx : Hp → Prop, (∀ H', Nx H' → ∃ m', m' < m ∧ W (i + 1) m' H') ∧ ∀ x H', J.yld i H x H' →
      g x (wipe σ vs) H' fun σ2 H2 => wipe σ2 vs = wipe σ vs ∧ tt σ2 H2 fun b H3 => if b = true then te σ2 H3 fun y H4 => ∃ acc, H4 D = some (.lst acc) ∧ acc.length < sizeLine ∧ Nx (upd H4 D (.lst (acc ++ [y]))) else Nx H3) := by
  refine ⟨fun i m H => m = n - i ∧ i ≤ n ∧ ∃ acc, Pv i acc H ∧ H D = some (.lst acc), ⟨n, rfl, Nat.zero_le _, [], h0, upd_same⟩, ?_⟩
  rintro i m H ⟨rfl, hi, acc, p, hD⟩
  by_cases hlt : i < n
  · refine .inr ⟨hgo i acc H hlt p, fun H' => ∃ acc, Pv (i + 1) acc H' ∧ H' D = some (.lst acc), fun H' q => ⟨n - (i + 1), by omega, rfl, hlt, q⟩, fun x H' y => ?_⟩
    exact hs i acc x H H' _ _ hlt p hD y fun z H3 e hz q => ⟨acc, e, hz, acc ++ [z], q, upd_same⟩
  · have e : i = n := by omega
    subst e
    exact .inl ⟨hst acc H p, hd acc H p hD⟩
/-- .. where each item gives its value of a list, and nothing that stood is changed -/
theorem lc_pure {J : It} {g : TG} {tt : TT} {te : TE} {vs : List Nat} {σ : L2.St} {H1 : Hp} {D : Addr} {Qd : Hp → Prop} (outs : List V) (hD : H1 D = none) (hz : outs.length ≤ sizeLine)
    (hgo : ∀ i H, i < outs.length → Same H1 H → J.go i H) (hst : ∀ H, Same H1 H → J.stop outs.length H)
    (hs : ∀ i x H H' (R : VK) (Z : Hp → Prop), i < outs.length → Same H1 H → J.yld i H x H' → (∀ y H3, outs[i]? = some y → Same H H3 → R y H3) →
      g x (wipe σ vs) H' fun σ2 H2 => wipe σ2 vs = wipe σ vs ∧ tt σ2 H2 fun b H3 => if b = true then te σ2 H3 R else Z H3)
    (hd : ∀ H, Same H1 H → H D = some (.lst outs) → Qd H) :
    ∃ W : Nat → Nat → Hp → Prop, (∃ m, W 0 m (upd H1 D (.lst []))) ∧ ∀ i m H, W i m H → (J.stop i H ∧ Qd H) ∨ (J.go i H ∧ ∃ Nx : Hp → Prop, (∀ H', Nx H' → ∃ m', m' < m ∧ W (i + 1) m' H') ∧ ∀ x H', J.yld i H x H' →
      g x (wipe σ vs) H' fun σ2 H2 => wipe σ2 vs = wipe σ vs ∧ tt σ2 H2 fun b H3 => if b = true then te σ2 H3 fun y H4 => ∃ acc, H4 D = some (.lst acc) ∧ acc.length < sizeLine ∧ Nx (upd H4 D (.lst (acc ++ [y]))) else Nx H3) := by
  refine lc_word (n := outs.length) (fun i acc H => acc = outs.take i ∧ Same H1 H) ⟨by simp, same_new hD⟩ (fun i acc H hi p => hgo i H hi p.2) (fun acc H p => hst H p.2) ?_ (fun acc H p e => hd H p.2 (by rw [e, p.1, List.take_length]))
  rintro i acc x H H' R Z hi ⟨rfl, s⟩ e y k
  refine hs i x H H' R Z hi s y fun v H3 hv s3 => k v H3 (s3 _ _ e) (by rw [List.length_take]; omega) ⟨?_, same_upd_new (s.trans s3) hD⟩
  rw [List.take_add_one, hv]
  rfl
theorem pe_gstr {X : Cx} {x z : Str} {pos : Pos} (hg : Gl X x) (h : ∃ t, X.mg x = some (.str z t)) (hd : (x == ("__debug__" : Str)) = false := by decide) : PE X (.Name x pos) (tC (.str z)) := by
  obtain ⟨t, h⟩ := h
  exact pe_glob hg h ⟨_, rfl⟩ hd
theorem pe_gint {X : Cx} {x : Str} {z : Int} {pos : Pos} (hg : Gl X x) (h : ∃ t, X.mg x = some (.int z t)) (hd : (x == ("__debug__" : Str)) = false := by decide) : PE X (.Name x pos) (tC (.int z)) := by
  obtain ⟨t, h⟩ := h
  exact pe_glob hg h ⟨_, rfl⟩ hd
theorem pe_gref {X : Cx} {x : Str} {a : Addr} {pos : Pos} (hg : Gl X x) (h : X.mg x = some (.ref a)) (hd : (x == ("__debug__" : Str)) = false := by decide) : PE X (.Name x pos) (tC (.ref a)) :=
  pe_glob (v := .ref a) hg h rfl hd
/-! pieces of texts -/
theorem cut_from (z : Str) (n : Nat) : cutS z (some (n : Int)) none = SX.S (z.cps.toList.drop n) := by
  rw [C8.cutS_slice]
  have e : Txt.slice (SX.S z.cps.toList) (some (n : Int)) none = SX.S (z.cps.toList.drop n) := by
    rw [SX.slice_from (by omega)]
    rfl
  rw [SX.S_tl] at e
  exact e
theorem cut_to (z : Str) (n : Nat) : cutS z none (some (n : Int)) = SX.S (z.cps.toList.take n) := by
  rw [C8.cutS_slice]
  have e : Txt.slice (SX.S z.cps.toList) none (some (n : Int)) = SX.S (z.cps.toList.take n) := by
    rw [SX.slice_to (by omega)]
    rfl
  rw [SX.S_tl] at e
  exact e
theorem str_len (z : Str) : z.length = z.cps.toList.length := by simp [Str.length]
end Mg

set_option Elab.async false
set_option linter.all false
set_option maxRecDepth 100000
set_option maxHeartbeats 2000000
namespace Mg
open PySem L2
def top (i : Nat) : Stmt := PySem.Challenge.pw_mathgalley_k11_classes_and_spaces.main.body.getD i (.Pass ⟨0, 0, 0, 0⟩)
abbrev sCell : Stmt := top 57
abbrev sDraws : Stmt := top 58
abbrev sStream : Stmt := top 59
abbrev sNext : Stmt := top 60
local macro_rules | `(tactic| walk_at "go") => `(tactic| repeat (first | refine ⟨_, rfl, ?_⟩ | refine ⟨_, _, rfl, rfl, ?_⟩))
structure TxtB (mg : Str → Option Value) : Prop where
  b_len : mg "len" = none
  b_int : mg "int" = none
  b_abs : mg "abs" = none
  range : mg "range" = none
  b_isinstance : mg "isinstance" = none
  b_tuple : mg "tuple" = none
  b_list : mg "list" = none
section
variable {P : Program} {w : World} {K : PySem.W.Frag} {mg : Str → Option Value} {base : Heap}
/-! _law_cell: some int -/
def spCellN (K : PySem.W.Frag) : Sp := fun vs H Q _ => ∃ (a : Addr) (ns : List Int) (j : Int), vs = [.ref a, .int j] ∧ SqL K H a (ns.map V.int) ∧ 0 ≤ j ∧ ∀ n : Int, Q (.int n) H
theorem scCell : FnScope ["script", "k"] ["script", "k"] (defScope sCell) := ⟨rfl, rfl, rfl, by decide +kernel, rfl, by decide +kernel, by decide +kernel⟩
theorem ok_cell {f : Addr} {fd : FuncData} (F : Fun K "_law_cell" "_law_cell" sCell f fd) (T : TxtB mg) : FnOk P w K mg base CX0 1 f fd ["script", "k"] (spCellN K) := by
  have sc := scCell
  refine F.ok scCell (fun vs H Q E h => ?_) (fun cdv A outer s H vs Q E hr h => ?_)
  · obtain ⟨a, ns, j, rfl, _⟩ := h
    rfl
  · obtain ⟨a, ns, j, rfl, hs, hj, k⟩ := h
    refine ⟨_, (pss_cons (ps_if (pt_cmpR op_lt (pv 1) (pe_callB call_len_seq (by rfl) T.b_len PySem.boot_len (pa_cons (pv 0) pa_nil)) (nomark _))
  (pss_one (ps_ret (pe_callTy call_int1 (by rfl) T.b_int (by decide +kernel) (pa_cons (pe_ix ix_list (pv 0) (pv 1) (fun _ _ => rfl)) pa_nil))))
  pss_nil)
  (pss_one (ps_ret pe_int))), ?_⟩
    refine ⟨_, rfl, _, rfl, a, _, rfl, .inl hs, _, _, rfl, rfl, _, rfl, ?_⟩
    rw [List.length_map]
    refine ite2 (fun c => ?_) (fun c => ?_)
    · have c' := of_decide_eq_true c
      obtain ⟨n, rfl⟩ := Int.eq_ofNat_of_zero_le hj
      have hn : n < ns.length := by omega
      have e1 : (ns.map V.int)[n]? = some (.int ns[n]) := by
        rw [List.getElem?_map, List.getElem?_eq_getElem hn]
        rfl
      exact ⟨_, rfl, _, rfl, a, _, _, _, rfl, rfl, hs, atI_nat e1, .inl ⟨_, rfl, k _⟩⟩
    · exact k 0

/-! _law_draws: count digits from 0 to 59, a new list -/
def Digits (ds : List Int) : Prop := ∀ d ∈ ds, 0 ≤ d ∧ d < 60
def spDraws : Sp := fun vs H Q _ => ∃ (n : Int) (c : Nat), vs = [.int n, .int (c : Int)] ∧ c ≤ 60 ∧ ∀ (ds : List Int) (l : Addr) (H' : Hp), H l = none → Same H H' → H' l = some (.lst (ds.map V.int)) → ds.length = c → Digits ds → Q (.ref l) H'
theorem digits_snoc {ds : List Int} {d : Int} (h : Digits ds) (h1 : 0 ≤ d) (h2 : d < 60) : Digits (ds ++ [d]) := fun x hx => by
  rcases List.mem_append.mp hx with z | z
  · exact h x z
  · rw [List.mem_singleton.mp z]
    exact ⟨h1, h2⟩
theorem scDraws : FnScope ["cell", "count", "number", "great", "found", "k", "mixed"] ["cell", "count"] (defScope sDraws) := ⟨rfl, rfl, rfl, by decide +kernel, rfl, by decide +kernel, by decide +kernel⟩
theorem ok_draws {f : Addr} {fd : FuncData} (F : Fun K "_law_draws" "_law_draws" sDraws f fd) (T : TxtB mg) : FnOk P w K mg base CX0 1 f fd ["cell", "count"] spDraws := by
  have sc := scDraws
  refine F.ok scDraws (fun vs H Q E h => ?_) (fun cdv A outer s H vs Q E hr h => ?_)
  · obtain ⟨n, c, rfl, _⟩ := h
    rfl
  · obtain ⟨n, c, rfl, hc, k⟩ := h
    refine ⟨_, (pss_cons (ps_set (i := 2) sc.nd rfl (Or.inl rfl) (pe_callB call_abs (by rfl) T.b_abs (by decide +kernel) (pa_cons (pe_callTy call_int1 (by rfl) T.b_int (by decide +kernel) (pa_cons (pv 0) pa_nil)) pa_nil)))
  (pss_cons (ps_set (i := 3) sc.nd rfl (Or.inl rfl) (pe_cmpR op_ge (pv 2) (pe_op op_pow pe_int pe_int) (nomark _)))
  (pss_cons (ps_set (i := 4) sc.nd rfl (Or.inl rfl) (pe_lst pa_nil))
  (pss_cons (ps_for PassesOwn.never rfl (pi_range1 rfl T.range (pa_cons pe_int pa_nil)) (pg_name (i := 5) sc.nd rfl (Or.inl rfl))
  (pss_one (ps_if (PW.pt (pw_and (pt_cmpR op_lt (pv 5) (pv 1) (nomark _)) (pw_and1 (pt_val (pv 3)))))
  (pss_cons (ps_expr (pe_bm PySem.F.plainAttrs_list PySem.F.slot_list_append PySem.F.type_list_append mt_append (pv 4) (pa_cons (pe_op op_mod (pv 2) pe_int) pa_nil)))
  (pss_one (ps_set (i := 2) sc.nd rfl (Or.inl rfl) (pe_op op_fdiv (pv 2) pe_int))))
  (pss_one (ps_if (pt_cmpR op_lt (pv 5) (pv 1) (nomark _))
  (pss_cons (ps_set (i := 6) sc.nd rfl (Or.inl rfl) (pe_op op_mod (pe_op op_add (pe_op op_add (pe_op op_mul (pe_callTy call_int1 (by rfl) T.b_int (by decide +kernel) (pa_cons (pv 2) pa_nil)) pe_int) (pe_op op_mul (pv 5) pe_int)) pe_int) pe_int))
  (pss_cons (ps_set (i := 6) sc.nd rfl (Or.inl rfl) (pe_op op_mod (pe_op op_add (pe_op op_add (pe_op op_mul (pe_callTy call_int1 (by rfl) T.b_int (by decide +kernel) (pa_cons (pv 6) pa_nil)) (pe_callTy call_int1 (by rfl) T.b_int (by decide +kernel) (pa_cons (pv 6) pa_nil))) (pe_op op_mul (pv 5) pe_int)) pe_int) pe_int))
  (pss_one (ps_expr (pe_bm PySem.F.plainAttrs_list PySem.F.slot_list_append PySem.F.type_list_append mt_append (pv 4) (pa_cons (pe_op op_mod (pe_callTy call_int1 (by rfl) T.b_int (by decide +kernel) (pa_cons (pv 6) pa_nil)) pe_int) pa_nil))))))
  pss_nil)))))
  (pss_one (ps_ret (pv 4))))))), ?_⟩
    refine ⟨_, rfl, .inl ⟨_, rfl, _, rfl, ?_⟩⟩
    refine ⟨_, rfl, _, _, rfl, rfl, ⟨by decide, by decide, by decide⟩, _, _, rfl, rfl, ?_⟩
    refine ⟨Nat.zero_le _, fun l hl => ?_⟩
    generalize (if n < 0 then -n else n) = n0
    obtain ⟨g, hg⟩ : ∃ g : Bool, g = decide ((10 : Int) ^ (Int.toNat 18) ≤ n0) := ⟨_, rfl⟩
    refine ⟨60, rfl, by decide, by decide, for_range (n := 60) (fun i σ H' => ∃ (nb : Int) (ds : List Int) (x5 x6 : Option V), σ = [some (.int n), some (.int (c : Int)), some (.int nb), some (.bl g), some (.ref l), x5, x6] ∧ ds.length = min i c ∧ Digits ds ∧ Same H H' ∧ H' l = some (.lst (ds.map V.int)))
      ⟨n0, [], none, none, (by rw [hg]; rfl), by simp, (fun _ hx => nomatch hx), same_new hl, upd_same⟩ ?_ ?_⟩
    · rintro i σ H' hi ⟨nb, ds, x5, x6, rfl, hlen, hd, hs, hL⟩
      have hz : ∀ m : Int, 0 ≤ m % 60 ∧ m % 60 < 60 := fun m => ⟨Int.emod_nonneg _ (by decide), Int.emod_lt_of_pos _ (by decide)⟩
      have hsz : (ds.map V.int).length < sizeLine := by
        rw [List.length_map]
        exact small1000 (by omega)
      refine ⟨_, rfl, _, rfl, _, _, rfl, rfl, _, rfl, ?_⟩
      refine ite2 (fun q => ?_) (fun q => ?_)
      · have q' : (0 : Int) + (i : Int) < (c : Int) := of_decide_eq_true q
        refine ⟨_, rfl, _, rfl, ?_⟩
        cases g with
        | true =>
          refine iteT ?_
          refine ⟨_, rfl, .inl ⟨rfl, _, SqL.of hL⟩, _, rfl, _, _, rfl, rfl, (by show (0 : Int) < 60; decide), _, _, _, rfl, rfl, hL, hsz, ?_⟩
          refine ⟨_, rfl, _, _, rfl, rfl, ⟨by decide, by decide⟩, ?_⟩
          exact ⟨_, ds ++ [nb % 60], _, _, rfl, by rw [List.length_append, hlen]; simp; omega, digits_snoc hd (hz _).1 (hz _).2, same_upd_new hs hl, by rw [upd_same, List.map_append]; rfl⟩
        | false =>
          refine iteF ?_
          refine ⟨_, rfl, _, rfl, _, _, rfl, rfl, _, rfl, ?_⟩
          refine iteP q ?_
          refine ⟨_, rfl, .inl ⟨_, rfl, ?_⟩⟩
          refine ⟨_, _, rfl, rfl, .inr ⟨by decide, by decide⟩, _, rfl, _, _, rfl, rfl, .inr ⟨by decide, by decide⟩, _, _, rfl, rfl, _, _, rfl, rfl, _, _, rfl, rfl, (by show (0 : Int) < 2147483647; decide), ?_⟩
          generalize hm : (nb * 48271 + (0 + (i : Int)) * 69621 + 11) % 2147483647 = m
          have m0 : 0 ≤ m := hm ▸ Int.emod_nonneg _ (by decide)
          have m1 : m < 2147483647 := hm ▸ Int.emod_lt_of_pos _ (by decide)
          refine ⟨_, rfl, .inl ⟨_, rfl, _, rfl, .inl ⟨_, rfl, ?_⟩⟩⟩
          refine ⟨_, _, rfl, rfl, .inr ⟨by omega, by omega⟩, _, rfl, _, _, rfl, rfl, .inr ⟨by decide, by decide⟩, _, _, rfl, rfl, _, _, rfl, rfl, _, _, rfl, rfl, (by show (0 : Int) < 998244353; decide), ?_⟩
          refine ⟨_, rfl, .inl ⟨rfl, _, SqL.of hL⟩, _, rfl, .inl ⟨_, rfl, _, _, rfl, rfl, (by show (0 : Int) < 60; decide), _, _, _, rfl, rfl, hL, hsz, ?_⟩⟩
          exact ⟨_, ds ++ [_], _, _, rfl, by rw [List.length_append, hlen]; simp; omega, digits_snoc hd (hz _).1 (hz _).2, same_upd_new hs hl, by rw [upd_same, List.map_append]; rfl⟩
      · refine iteF ?_
        refine ⟨_, rfl, _, rfl, _, _, rfl, rfl, _, rfl, ?_⟩
        refine iteN q ?_
        have q' : ¬ (0 : Int) + (i : Int) < (c : Int) := fun z => q (decide_eq_true z)
        exact ⟨_, ds, _, _, rfl, by rw [hlen]; omega, hd, hs, hL⟩
    · rintro σ H' ⟨nb, ds, x5, x6, rfl, hlen, hd, hs, hL⟩
      exact ⟨_, rfl, k ds l H' hl hs hL (by omega) hd⟩

/-! _law_stream: a new list of a list of digits and a list of one place -/
def Stream (H : Hp) (s pd pl : Addr) : Prop := pd ≠ pl ∧ s ≠ pl ∧ ∃ (ds : List Int) (k : Int), H s = some (.lst [.ref pd, .ref pl]) ∧ H pd = some (.lst (ds.map V.int)) ∧ H pl = some (.lst [.int k]) ∧ ds ≠ [] ∧ Digits ds ∧ ds.length ≤ 1000 ∧ 0 ≤ k
def spStream (K : PySem.W.Frag) : Sp := fun vs H Q _ => ∃ (a : Addr) (ns : List Int) (c : Nat), vs = [.ref a, .int 0, .int (c : Int)] ∧ SqL K H a (ns.map V.int) ∧ 1 ≤ c ∧ c ≤ 60 ∧
  ∀ (st pd pl : Addr) (H' : Hp), H st = none → H pd = none → H pl = none → Same H H' → Stream H' st pd pl → Q (.ref st) H'
theorem scStream : FnScope ["script", "first", "count", "found", "k"] ["script", "first", "count"] (defScope sStream) := ⟨rfl, rfl, rfl, by decide +kernel, rfl, by decide +kernel, by decide +kernel⟩
theorem ok_stream {f : Addr} {fd : FuncData} (F : Fun K "_law_stream" "_law_stream" sStream f fd) (T : TxtB mg) (C_law_cell : Cal P w K mg base CX0 1 "_law_cell" ["script", "k"] (spCellN K)) (C_law_draws : Cal P w K mg base CX0 1 "_law_draws" ["cell", "count"] spDraws) :
    FnOk P w K mg base CX0 2 f fd ["script", "first", "count"] (spStream K) := by
  have sc := scStream
  refine F.ok scStream (fun vs H Q E h => ?_) (fun cdv A outer s H vs Q E hr h => ?_)
  · obtain ⟨a, ns, c, rfl, _⟩ := h
    rfl
  · obtain ⟨a, ns, c, rfl, hS, c1, c2, k⟩ := h
    have hrlaw_draws : Room 1 _ := hr.mono (by decide)
    have hrlaw_cell : Room 1 _ := hr.mono (by decide)
    refine ⟨_, (pss_cons (ps_set (i := 3) sc.nd rfl (Or.inl rfl) (pe_lst pa_nil))
  (pss_cons (ps_for PassesOwn.never rfl (pi_range1 rfl T.range (pa_cons (pv 2) pa_nil)) (pg_name (i := 4) sc.nd rfl (Or.inl rfl))
  (pss_one (ps_expr (pe_bm PySem.F.plainAttrs_list PySem.F.slot_list_extend PySem.F.type_list_extend mt_extend (pv 3) (pa_cons (pe_cal C_law_draws hrlaw_draws rfl pass0 (pa_cons (pe_cal C_law_cell hrlaw_cell rfl pass0 (pa_cons (pv 0) (pa_cons (pe_op op_add (pv 1) (pv 4)) pa_nil))) (pa_cons pe_int pa_nil))) pa_nil)))))
  (pss_one (ps_ret (pe_lst (pa_cons (pv 3) (pa_cons (pe_lst (pa_cons pe_int pa_nil)) pa_nil))))))), ?_⟩
    refine ⟨Nat.zero_le _, fun l hl => ?_⟩
    refine ⟨_, rfl, (c : Int), rfl, by omega, by omega, for_range (n := c) (fun i σ H' => ∃ (ds : List Int) (x4 : Option V), σ = [some (.ref a), some (.int 0), some (.int (c : Int)), some (.ref l), x4] ∧ ds.length = 12 * i ∧ Digits ds ∧ Same H H' ∧ H' l = some (.lst (ds.map V.int)))
      ⟨[], none, rfl, rfl, (fun _ hx => nomatch hx), same_new hl, upd_same⟩ ?_ ?_⟩
    · rintro i σ H' hi ⟨ds, x4, rfl, hlen, hd, hs, hL⟩
      refine ⟨_, rfl, .inl ⟨rfl, _, SqL.of hL⟩, _, rfl, _, rfl, _, rfl, _, _, rfl, rfl, ?_⟩
      refine ⟨a, ns, _, rfl, hs.seq hS, by omega, fun n => ?_⟩
      refine ⟨n, 12, rfl, by decide, fun es l2 H2 n2 s2 h2 hl2 hd2 => ?_⟩
      refine ⟨l, l2, _, _, rfl, rfl, s2 _ _ hL, h2, ?_, ?_⟩
      · rw [List.length_map, List.length_map]
        exact Nat.le_of_lt (small1000 (by omega))
      · refine ⟨ds ++ es, _, rfl, by rw [List.length_append]; omega, fun x hx => (List.mem_append.mp hx).elim (hd x) (hd2 x), ?_, by rw [upd_same, List.map_append]⟩
        exact same_upd_new (hs.trans s2) hl
    · rintro σ H' ⟨ds, x4, rfl, hlen, hd, hs, hL⟩
      refine ⟨_, rfl, (by show 1 ≤ sizeLine; decide), fun pl hpl => ⟨(by show 2 ≤ sizeLine; decide), fun st hst => ?_⟩⟩
      have npl : l ≠ pl := ne_of_none hL hpl
      have nst : st ≠ pl := fun e => by
        rw [e, upd_same] at hst
        cases hst
      have hst' : H' st = none := by
        rw [upd_ne nst] at hst
        exact hst
      have nls : l ≠ st := ne_of_none hL hst'
      refine k st l pl _ (hs.free hst') hl (hs.free hpl) (same_upd_new (same_upd_new hs (hs.free hpl)) (hs.free hst')) ⟨npl, nst, ds, 0, upd_same, ?_, ?_, ?_, hd, by omega, by decide⟩
      · rw [upd_ne nls, upd_ne npl]
        exact hL
      · rw [upd_ne nst.symm, upd_same]
      · intro e
        rw [e] at hlen
        simp at hlen
        omega
/-! _law_next: some number below many; the place goes on -/
def spNext : Sp := fun vs H Q _ => ∃ (st pd pl : Addr) (m : Int), vs = [.ref st, .int m] ∧ 0 < m ∧ Stream H st pd pl ∧ ∀ (v : Int) (H' : Hp), 0 ≤ v → v < m → KeepB pl H H' → Stream H' st pd pl → Q (.int v) H'
theorem scNext : FnScope ["stream", "many", "digits", "place", "value"] ["stream", "many"] (defScope sNext) := ⟨rfl, rfl, rfl, by decide +kernel, rfl, by decide +kernel, by decide +kernel⟩
theorem ok_next {f : Addr} {fd : FuncData} (F : Fun K "_law_next" "_law_next" sNext f fd) (T : TxtB mg) : FnOk P w K mg base CX0 1 f fd ["stream", "many"] spNext := by
  have sc := scNext
  refine F.ok scNext (fun vs H Q E h => ?_) (fun cdv A outer s H vs Q E hr h => ?_)
  · obtain ⟨st, pd, pl, m, rfl, _⟩ := h
    rfl
  · obtain ⟨st, pd, pl, m, rfl, hm, ⟨n1, n2, ds, i, h1, h2, h3, hne, hd, hl, hi⟩, k⟩ := h
    refine ⟨_, (pss_cons (ps_set (i := 2) sc.nd rfl (Or.inl rfl) (pe_ix ix_list (pv 0) pe_int (fun _ _ => rfl)))
  (pss_cons (ps_set (i := 3) sc.nd rfl (Or.inl rfl) (pe_ix ix_list (pv 0) pe_int (fun _ _ => rfl)))
  (pss_cons (ps_set (i := 4) sc.nd rfl (Or.inl rfl) (pe_op op_mod (pe_callTy call_int1 (by rfl) T.b_int (by decide +kernel) (pa_cons (pe_ix ix_list (pv 2) (pe_op op_mod (pe_callTy call_int1 (by rfl) T.b_int (by decide +kernel) (pa_cons (pe_ix ix_list (pv 3) pe_int (fun _ _ => rfl)) pa_nil)) (pe_callB call_len_seq (by rfl) T.b_len PySem.boot_len (pa_cons (pv 2) pa_nil))) (fun _ _ => rfl)) pa_nil)) (pv 1)))
  (pss_cons (ps_asg (pe_op op_add (pe_ix ix_list (pv 3) pe_int (fun _ _ => rfl)) pe_int) (pg_sub (pv 3) pe_int set_list))
  (pss_one (ps_ret (pv 4))))))), ?_⟩
    have hlen : 0 < ds.length := List.length_pos_iff.mpr hne
    obtain ⟨q, hq⟩ : ∃ q : Nat, i % ((ds.length : Nat) : Int) = (q : Int) := ⟨_, (Int.toNat_of_nonneg (Int.emod_nonneg _ (by omega))).symm⟩
    have hq2 : q < ds.length := by
      have := Int.emod_lt_of_pos i (show (0 : Int) < ((ds.length : Nat) : Int) by omega)
      omega
    have e1 : (ds.map V.int)[q]? = some (.int ds[q]) := by
      rw [List.getElem?_map, List.getElem?_eq_getElem hq2]
      rfl
    refine ⟨_, rfl, st, _, _, _, rfl, rfl, SqL.of h1, rfl, ?_⟩
    refine ⟨_, rfl, st, _, _, _, rfl, rfl, SqL.of h1, rfl, ?_⟩
    refine ⟨_, rfl, _, rfl, pl, _, _, _, rfl, rfl, SqL.of h3, rfl, .inl ⟨_, rfl, ?_⟩⟩
    refine ⟨_, rfl, pd, _, rfl, .inl (SqL.of h2), _, _, rfl, rfl, (by rw [List.length_map]; omega), ?_⟩
    refine ⟨pd, _, _, _, rfl, rfl, SqL.of h2, (by rw [List.length_map, hq]; exact atI_nat e1), .inl ⟨_, rfl, ?_⟩⟩
    refine ⟨_, rfl, _, _, rfl, rfl, hm, ?_⟩
    refine ⟨_, rfl, pl, _, _, _, rfl, rfl, SqL.of h3, rfl, _, _, rfl, rfl, ?_⟩
    refine ⟨_, rfl, pl, _, _, 0, rfl, rfl, h3, rfl, ?_⟩
    refine ⟨_, rfl, k _ _ (Int.emod_nonneg _ (by omega)) (Int.emod_lt_of_pos _ hm) keep_upd ⟨n1, n2, ds, i + 1, ?_, ?_, upd_same, hne, hd, hl, by omega⟩⟩
    · rw [upd_ne n2]
      exact h1
    · rw [upd_ne n1]
      exact h2
end
end Mg

set_option Elab.async false
set_option linter.all false
set_option maxRecDepth 100000
set_option maxHeartbeats 2000000
namespace Mg
open PySem L2
abbrev sSame : Stmt := top 61
structure TxtC (mg : Str → Option Value) : Prop extends TxtB mg where
  b_bool : mg "bool" = none
  b_str : mg "str" = none
section
variable {P : Program} {w : World} {K : PySem.W.Frag} {mg : Str → Option Value} {base : Heap}
/-! _law_same: equal data are told so -/
def spSame (K : PySem.W.Frag) (n : Nat) : Sp := fun vs H Q _ => ∃ (v u : V) (d : PyData), vs = [v, u] ∧ Dp K H v d ∧ Dp K H u d ∧ d.depth ≤ n ∧ Q (.bl true) H
theorem scSame : FnScope ["actual", "expected", "k"] ["actual", "expected"] (defScope sSame) := ⟨rfl, rfl, rfl, by decide +kernel, rfl, by decide +kernel, by decide +kernel⟩
def spSameR (K : PySem.W.Frag) : Nat → Sp
  | 0 => fun _ _ _ _ => False
  | n + 1 => spSame K n
theorem FnOk.no {P : Program} {w : World} {K : PySem.W.Frag} {mg : Str → Option Value} {base : Heap} {CX : CXT} {k : Nat} {f : Addr} {fd : FuncData} {ps : List Str} : FnOk P w K mg base CX k f fd ps (fun _ _ _ _ => False) :=
  ⟨fun _ _ _ _ h => h.elim, fun _ _ _ _ _ _ _ _ _ _ _ _ _ h => h.elim⟩
theorem ok_same1 {f : Addr} {fd : FuncData} {n : Nat} (F : Fun K "_law_same" "_law_same" sSame f fd) (T : TxtC mg)
    (C_law_same : Cal P w K mg base CX0 n "_law_same" ["actual", "expected"] (spSameR K n)) : FnOk P w K mg base CX0 (n + 1) f fd ["actual", "expected"] (spSame K n) := by
  have sc := scSame
  refine F.ok scSame (fun vs H Q E h => ?_) (fun cdv A outer s H vs Q E hr h => ?_)
  · obtain ⟨v, u, d, rfl, _⟩ := h
    rfl
  · obtain ⟨v, u, d, rfl, hv, hu, hn, k⟩ := h
    have hrlaw_same : Room n _ := hr
    refine ⟨_, (pss_cons (ps_if (pt_cmpR op_isN (pv 1) pe_non (nomark _))
  (pss_one (ps_ret (pe_cmpR op_isN (pv 0) pe_non (nomark _))))
  pss_nil)
  (pss_cons (ps_if (pt_val (pe_callB call_isi (by rfl) T.b_isinstance (by decide +kernel) (pa_cons (pv 1) (pa_cons (pe_bltn (v := .ty "bool") (by rfl) T.b_bool PyProof.Rows.boot_bool rfl) pa_nil))))
  (pss_one (ps_ret (pe_and (pe_callB call_isi (by rfl) T.b_isinstance (by decide +kernel) (pa_cons (pv 0) (pa_cons (pe_bltn (v := .ty "bool") (by rfl) T.b_bool PyProof.Rows.boot_bool rfl) pa_nil))) (pe_one (pe_cmpR op_eq (pv 0) (pv 1) (nomark _))))))
  pss_nil)
  (pss_cons (ps_if (pt_val (pe_callB call_isi (by rfl) T.b_isinstance (by decide +kernel) (pa_cons (pv 1) (pa_cons (pe_bltn (v := .ty "int") (by rfl) T.b_int PyProof.Rows.boot_int rfl) pa_nil))))
  (pss_one (ps_ret (pe_and (pe_callB call_isi (by rfl) T.b_isinstance (by decide +kernel) (pa_cons (pv 0) (pa_cons (pe_bltn (v := .ty "int") (by rfl) T.b_int PyProof.Rows.boot_int rfl) pa_nil))) (pe_and (pe_not (pe_callB call_isi (by rfl) T.b_isinstance (by decide +kernel) (pa_cons (pv 0) (pa_cons (pe_bltn (v := .ty "bool") (by rfl) T.b_bool PyProof.Rows.boot_bool rfl) pa_nil)))) (pe_one (pe_cmpR op_eq (pv 0) (pv 1) (nomark _)))))))
  pss_nil)
  (pss_cons (ps_if (pt_val (pe_callB call_isi (by rfl) T.b_isinstance (by decide +kernel) (pa_cons (pv 1) (pa_cons (pe_bltn (v := .ty "str") (by rfl) T.b_str PyProof.Rows.boot_str rfl) pa_nil))))
  (pss_one (ps_ret (pe_and (pe_callB call_isi (by rfl) T.b_isinstance (by decide +kernel) (pa_cons (pv 0) (pa_cons (pe_bltn (v := .ty "str") (by rfl) T.b_str PyProof.Rows.boot_str rfl) pa_nil))) (pe_one (pe_cmpR op_eq (pv 0) (pv 1) (nomark _))))))
  pss_nil)
  (pss_cons (ps_if (PW.pt (pw_and (pt_val (pe_callB call_isi (by rfl) T.b_isinstance (by decide +kernel) (pa_cons (pv 1) (pa_cons (pe_bltn (v := .ty "tuple") (by rfl) T.b_tuple PyProof.Rows.boot_tuple rfl) pa_nil)))) (pw_and1 (pt_not (pt_val (pe_callB call_isi (by rfl) T.b_isinstance (by decide +kernel) (pa_cons (pv 0) (pa_cons (pe_bltn (v := .ty "tuple") (by rfl) T.b_tuple PyProof.Rows.boot_tuple rfl) pa_nil))))))))
  (pss_one (ps_ret pe_bl))
  pss_nil)
  (pss_cons (ps_if (PW.pt (pw_and (pt_val (pe_callB call_isi (by rfl) T.b_isinstance (by decide +kernel) (pa_cons (pv 1) (pa_cons (pe_bltn (v := .ty "list") (by rfl) T.b_list PyProof.Rows.boot_list rfl) pa_nil)))) (pw_and1 (pt_not (pt_val (pe_callB call_isi (by rfl) T.b_isinstance (by decide +kernel) (pa_cons (pv 0) (pa_cons (pe_bltn (v := .ty "list") (by rfl) T.b_list PyProof.Rows.boot_list rfl) pa_nil))))))))
  (pss_one (ps_ret pe_bl))
  pss_nil)
  (pss_cons (ps_if (pt_cmpR op_ne (pe_callB call_len_sq (by rfl) T.b_len PySem.boot_len (pa_cons (pv 0) pa_nil)) (pe_callB call_len_sq (by rfl) T.b_len PySem.boot_len (pa_cons (pv 1) pa_nil)) (nomark _))
  (pss_one (ps_ret pe_bl))
  pss_nil)
  (pss_cons (ps_for PassesOwn.never rfl (pi_range1 rfl T.range (pa_cons (pe_callB call_len_sq (by rfl) T.b_len PySem.boot_len (pa_cons (pv 1) pa_nil)) pa_nil)) (pg_name (i := 2) sc.nd rfl (Or.inl rfl))
  (pss_one (ps_if (pt_not (pt_val (pe_cal C_law_same hrlaw_same rfl pass0 (pa_cons (pe_ix ix_seq (pv 0) (pv 2) (fun _ _ => rfl)) (pa_cons (pe_ix ix_seq (pv 1) (pv 2) (fun _ _ => rfl)) pa_nil)))))
  (pss_one (ps_ret pe_bl))
  pss_nil)))
  (pss_one (ps_ret pe_bl)))))))))), ?_⟩
    refine ⟨_, rfl, rfl, _, rfl, ?_⟩
    cases hu with
    | non =>
      cases hv
      refine iteP (by simp) ?_
      exact ⟨_, rfl, rfl, by simpa using k⟩
    | bl b =>
      cases hv
      refine iteN (by simp) ?_
      refine ⟨_, rfl, _, _, _, _, true, rfl, .ty _, tyx_D (Dp.bl b), kit_ty (show kitB "bool" "bool" = some true by decide +kernel), _, rfl, ?_⟩
      refine iteT ?_
      refine ⟨_, rfl, _, _, _, _, true, rfl, .ty _, tyx_D (Dp.bl b), kit_ty (show kitB "bool" "bool" = some true by decide +kernel), _, rfl, ?_⟩
      refine iteT ?_
      exact ⟨_, rfl, _, rfl, rfl, by simpa using k⟩
    | int i =>
      cases hv
      refine iteN (by simp) ?_
      refine ⟨_, rfl, _, _, _, _, false, rfl, .ty _, tyx_D (Dp.int i), kit_ty (show kitB "int" "bool" = some false by decide +kernel), _, rfl, ?_⟩
      refine iteF ?_
      refine ⟨_, rfl, _, _, _, _, true, rfl, .ty _, tyx_D (Dp.int i), kit_ty (show kitB "int" "int" = some true by decide +kernel), _, rfl, ?_⟩
      refine iteT ?_
      refine ⟨_, rfl, _, _, _, _, true, rfl, .ty _, tyx_D (Dp.int i), kit_ty (show kitB "int" "int" = some true by decide +kernel), _, rfl, ?_⟩
      refine iteT ?_
      refine ⟨_, rfl, _, _, _, _, false, rfl, .ty _, tyx_D (Dp.int i), kit_ty (show kitB "int" "bool" = some false by decide +kernel), _, rfl, _, rfl, ?_⟩
      refine iteT ?_
      exact ⟨_, rfl, _, rfl, rfl, by simpa using k⟩
    | str x =>
      cases hv
      refine iteN (by simp) ?_
      refine ⟨_, rfl, _, _, _, _, false, rfl, .ty _, tyx_D (Dp.str x), kit_ty (show kitB "str" "bool" = some false by decide +kernel), _, rfl, ?_⟩
      refine iteF ?_
      refine ⟨_, rfl, _, _, _, _, false, rfl, .ty _, tyx_D (Dp.str x), kit_ty (show kitB "str" "int" = some false by decide +kernel), _, rfl, ?_⟩
      refine iteF ?_
      refine ⟨_, rfl, _, _, _, _, true, rfl, .ty _, tyx_D (Dp.str x), kit_ty (show kitB "str" "str" = some true by decide +kernel), _, rfl, ?_⟩
      refine iteT ?_
      refine ⟨_, rfl, _, _, _, _, true, rfl, .ty _, tyx_D (Dp.str x), kit_ty (show kitB "str" "str" = some true by decide +kernel), _, rfl, ?_⟩
      refine iteT ?_
      exact ⟨_, rfl, _, rfl, rfl, by simpa using k⟩
    | @lst a xs ds hs ha =>
      have hu : Dp K H (.ref a) (.list ds) := .lst hs ha
      have hv0 := hv
      cases hv with
      | @lst b ys _ hs2 ha2 =>
      refine iteN (by simp) ?_
      refine ⟨_, rfl, _, _, _, _, false, rfl, .ty _, tyx_D hu, kit_ty (show kitB "list" "bool" = some false by decide +kernel), _, rfl, ?_⟩
      refine iteF ?_
      refine ⟨_, rfl, _, _, _, _, false, rfl, .ty _, tyx_D hu, kit_ty (show kitB "list" "int" = some false by decide +kernel), _, rfl, ?_⟩
      refine iteF ?_
      refine ⟨_, rfl, _, _, _, _, false, rfl, .ty _, tyx_D hu, kit_ty (show kitB "list" "str" = some false by decide +kernel), _, rfl, ?_⟩
      refine iteF ?_
      refine ⟨_, rfl, _, _, _, _, false, rfl, .ty _, tyx_D hu, kit_ty (show kitB "list" "tuple" = some false by decide +kernel), _, rfl, ?_⟩
      refine iteF (iteF ?_)
      refine ⟨_, rfl, _, _, _, _, true, rfl, .ty _, tyx_D hu, kit_ty (show kitB "list" "list" = some true by decide +kernel), _, rfl, ?_⟩
      refine iteT ?_
      refine ⟨_, rfl, _, _, _, _, true, rfl, .ty _, tyx_D hv0, kit_ty (show kitB "list" "list" = some true by decide +kernel), _, rfl, ?_⟩
      refine iteF ?_
      have e1 := DpAll.len ha
      have e2 := DpAll.len ha2
      refine ⟨_, rfl, _, _, rfl, .inl hs2, fun _ => ⟨_, rfl, _, _, rfl, .inl hs, fun hz => ⟨rfl, _, rfl, ?_⟩⟩⟩
      refine iteN (by simp; omega) ?_
      refine ⟨_, rfl, a, xs, rfl, .inl hs, fun _ => ⟨(xs.length : Int), rfl, by omega, line62 hz, for_range (n := xs.length) (fun i σ H' => ∃ x2, σ = [some (.ref b), some (.ref a), x2] ∧ H' = H) ⟨none, rfl, rfl⟩ ?_ ?_⟩⟩
      · rintro i σ H' hi ⟨x2, rfl, rfl⟩
        obtain ⟨d, hd⟩ : ∃ d, ds[i]? = some d := ⟨_, List.getElem?_eq_getElem (by omega)⟩
        obtain ⟨x, hx, dx⟩ := DpAll.get ha hd
        obtain ⟨y, hy, dy⟩ := DpAll.get ha2 hd
        have dn := depth_get hd
        simp only [PyData.depth] at hn
        refine ⟨_, rfl, _, rfl, .inl ⟨b, ys, _, _, rfl, rfl, hs2, at_of (by omega) hy, _, rfl, _, rfl, .inl ⟨a, xs, _, _, rfl, rfl, hs, at_of (by omega) hx, ?_⟩⟩⟩
        cases n with
        | zero => omega
        | succ m =>
          refine ⟨y, x, d, rfl, dy, dx, by omega, _, rfl, ?_⟩
          exact iteF ⟨_, rfl, rfl⟩
      · rintro σ H' ⟨x2, rfl, rfl⟩
        exact k
    | @tup a xs ds hs ha =>
      have hu : Dp K H (.ref a) (.tuple ds) := .tup hs ha
      have hv0 := hv
      cases hv with
      | @tup b ys _ hs2 ha2 =>
      refine iteN (by simp) ?_
      refine ⟨_, rfl, _, _, _, _, false, rfl, .ty _, tyx_D hu, kit_ty (show kitB "tuple" "bool" = some false by decide +kernel), _, rfl, ?_⟩
      refine iteF ?_
      refine ⟨_, rfl, _, _, _, _, false, rfl, .ty _, tyx_D hu, kit_ty (show kitB "tuple" "int" = some false by decide +kernel), _, rfl, ?_⟩
      refine iteF ?_
      refine ⟨_, rfl, _, _, _, _, false, rfl, .ty _, tyx_D hu, kit_ty (show kitB "tuple" "str" = some false by decide +kernel), _, rfl, ?_⟩
      refine iteF ?_
      refine ⟨_, rfl, _, _, _, _, true, rfl, .ty _, tyx_D hu, kit_ty (show kitB "tuple" "tuple" = some true by decide +kernel), _, rfl, ?_⟩
      refine iteT ?_
      refine ⟨_, rfl, _, _, _, _, true, rfl, .ty _, tyx_D hv0, kit_ty (show kitB "tuple" "tuple" = some true by decide +kernel), _, rfl, ?_⟩
      refine iteF ?_
      refine ⟨_, rfl, _, _, _, _, false, rfl, .ty _, tyx_D hu, kit_ty (show kitB "tuple" "list" = some false by decide +kernel), _, rfl, ?_⟩
      refine iteF (iteF ?_)
      have e1 := DpAll.len ha
      have e2 := DpAll.len ha2
      refine ⟨_, rfl, _, _, rfl, .inr hs2, fun _ => ⟨_, rfl, _, _, rfl, .inr hs, fun hz => ⟨rfl, _, rfl, ?_⟩⟩⟩
      refine iteN (by simp; omega) ?_
      refine ⟨_, rfl, a, xs, rfl, .inr hs, fun _ => ⟨(xs.length : Int), rfl, by omega, line62 hz, for_range (n := xs.length) (fun i σ H' => ∃ x2, σ = [some (.ref b), some (.ref a), x2] ∧ H' = H) ⟨none, rfl, rfl⟩ ?_ ?_⟩⟩
      · rintro i σ H' hi ⟨x2, rfl, rfl⟩
        obtain ⟨d, hd⟩ : ∃ d, ds[i]? = some d := ⟨_, List.getElem?_eq_getElem (by omega)⟩
        obtain ⟨x, hx, dx⟩ := DpAll.get ha hd
        obtain ⟨y, hy, dy⟩ := DpAll.get ha2 hd
        have dn := depth_get hd
        simp only [PyData.depth] at hn
        refine ⟨_, rfl, _, rfl, .inr (.inl ⟨b, ys, _, _, rfl, rfl, hs2, at_of (by omega) hy, _, rfl, _, rfl, .inr (.inl ⟨a, xs, _, _, rfl, rfl, hs, at_of (by omega) hx, ?_⟩)⟩)⟩
        cases n with
        | zero => omega
        | succ m =>
          refine ⟨y, x, d, rfl, dy, dx, by omega, _, rfl, ?_⟩
          exact iteF ⟨_, rfl, rfl⟩
      · rintro σ H' ⟨x2, rfl, rfl⟩
        exact k
/-- at every depth -/
theorem ok_same {f : Addr} {fd : FuncData} (F : Fun K "_law_same" "_law_same" sSame f fd) (T : TxtC mg) (hm : mg "_law_same" = some (.ref f)) (hk : PySem.W.keepIn K (.ref f) = true) (hb : Binds K fd ["actual", "expected"] []) :
    ∀ n, Cal P w K mg base CX0 n "_law_same" ["actual", "expected"] (spSameR K n)
  | 0 => ⟨f, fd, FnOk.no, hm, hk, hb⟩
  | n + 1 => ⟨f, fd, ok_same1 F T (ok_same F T hm hk hb n), hm, hk, hb⟩
end
end Mg

set_option Elab.async false
set_option linter.all false
set_option maxRecDepth 100000
set_option maxHeartbeats 4000000
namespace Mg
open PySem PySem.Spec PyProof.Rows L2
/-! a set comprehension whose members are ints and texts -/
section
variable {X : Cx}
/-- {e for t in it if ..}: D is the new set -/
def tSk (P : Program) (w : World) (wi : TI) (g : TG) (tt : TT) (te : TE) (own : List Nat) : TE := fun σ H Q => wi σ H fun J Ha => ∀ D, Ha D = none →
  ∃ W : Nat → Nat → Hp → Prop, (∃ m, W 0 m (upd Ha D (SetK P w D (fun _ => false) 0))) ∧ ∀ i m Hb, W i m Hb → (J.stop i Hb ∧ Q (.ref D) Hb) ∨ (J.go i Hb ∧ ∃ Z : Hp → Prop, (∀ Hc, Z Hc → ∃ m', m' < m ∧ W (i + 1) m' Hc) ∧
    ∀ x Hc, J.yld i Hb x Hc → g x (wipe σ own) Hc fun ρ Hd => wipe ρ own = wipe σ own ∧ tt ρ Hd fun b He => if b = true then te ρ He fun y Hf => ∃ (k : Key) (S : Key → Bool) (n : Nat), y = kV k ∧ Hf D = some (SetK P w D S n) ∧ n + 1 < scanBound ∧
      Z (upd Hf D (SetK P w D (fun j => S j || decide (j = k)) (if S k = true then n else n + 1))) else Z He)
theorem setk_fresh (P : Program) (w : World) (h : Heap) : (h.push { cls := .type "set", dict := none, data := .set #[] 0 (.fresh 0 0 (!w.params.followText "set-order")) }).SetOf (mixKind P w) h.objs.size (fun _ => false) 0 := by
  refine ⟨_, #[], 0, _, Heap.get?_push_size _ rfl, ⟨rfl, rfl, rfl⟩, rfl, ?_, ?_, by decide, by rfl, rfl⟩
  · intro e he
    simp at he
  · intro k
    simp
theorem pe_sk {elt tg iter : Expr} {ifs : List Expr} {scope : Scope} {own : List (PySem.Str × Nat)} {pos : Pos} {wi : TI} {g : TG} {tt : TT} {te : TE} (calm : X.calm = true) (nd : X.N.Nodup) (hi : PI X tg iter wi) (ok : BlkOk X.N X.env.scope scope own)
    (hg : ∀ s H C cl fp, PG (X.blk s H scope (compEnvC scope cl C X.env) fp) tg g) (ht : ∀ s H C cl fp, PTs (X.blk s H scope (compEnvC scope cl C X.env) fp) ifs tt)
    (he : ∀ s H C cl fp, PE (X.blk s H scope (compEnvC scope cl C X.env) fp) elt te) (hf : ∀ x, foldedSetIterable iter X.env x = pure x := by intro _; rfl) :
    PE X (.SetComp elt [⟨tg, iter, ifs, 0⟩] scope pos) (tSk X.prog X.w wi g tt te (own.map (·.2))) := by
  refine ⟨fun pins s σ H Q I h => ?_⟩
  rw [PpSet.eval_SetComp]
  have free : ∀ y ∈ scope.names, y.2 = .free → ∃ c, X.env.cells.lookup y.1 = some c := fun y hy e => (ok.free y hy e).elim (fun k => I.ok.has _ (.inl k)) fun k => I.ok.has _ (.inr k)
  refine wpAny_comprehension_free (use := none) rfl hf (closure_ok free) ok.kind (fun y hy e => by rw [ok.uniq y hy, e]) ?_
  refine thn (hi.run pins s σ H _ I h) fun xv s1 hx => thn hx fun itv s2 h2 => ?_
  obtain ⟨it, fp, tn, J, Ha, rfl, Ia, T, sta, fa, q⟩ := h2
  refine PpSet.newSet_ok (newEnv_comp ?_)
  obtain ⟨D, hD⟩ : ∃ D, s2.heap.objs.size = D := ⟨_, rfl⟩
  rw [hD]
  obtain ⟨W, ⟨m0, w0⟩, turn⟩ := q D (Ia.hok.fresh (Nat.le_of_eq hD))
  obtain ⟨s3, hs3⟩ : ∃ s3 : Shared, s3 = { s2 with heap := s2.heap.push { cls := .type "set", dict := none, data := .set #[] 0 (.fresh 0 0 (!X.w.params.followText "set-order")) } } := ⟨_, rfl⟩
  rw [← hs3]
  have heap3 : s3.heap = s2.heap.push { cls := .type "set", dict := none, data := .set #[] 0 (.fresh 0 0 (!X.w.params.followText "set-order")) } := by rw [hs3]
  obtain ⟨Hd, hHd⟩ : ∃ Hd, Hd = upd Ha D (SetK X.prog X.w D (fun _ => false) 0) := ⟨_, rfl⟩
  rw [← hHd] at w0
  have Id : Inv X pins σ Hd s3 := by
    rw [hs3, hHd]
    refine Ia.laid (t' := s2.toks) (fun b o e => Heap.get?_push_of_some _ e) (Nat.le_of_eq hD) ?_
    rw [← hD]
    exact setK_new (setk_fresh X.prog X.w s2.heap)
  have small : ∀ b ∈ fp, b < s2.heap.objs.size := fun b hb => (T.obj _ _ sta b hb).elim fun o e => Heap.lt_size e.1
  have fd : ∀ b ∈ fp, FpOk X pins Hd b ∧ b < s3.heap.objs.size := fun b hb => by
    have lt := small b hb
    refine ⟨⟨?_, (fa b hb).2⟩, by rw [heap3, Heap.size_push]; exact Nat.lt_succ_of_lt lt⟩
    rw [hHd, upd_ne (by rw [← hD]; exact Nat.ne_of_lt lt)]
    exact (fa b hb).1
  have std : tn 0 s3.heap := T.keep _ _ _ sta fun b _ o e => by rw [heap3]; exact Heap.get?_push_of_some _ e
  have I4 := block_start Id ok nd fd
  obtain ⟨cl, hcl⟩ : ∃ cl, cl = cellsFrom (s3.heap.objs.size + 1) scope.names (cloFrom X.env.cells scope.names []) := ⟨_, rfl⟩
  rw [← hcl] at I4
  show codeAny _ _ (.compStart (.SetComp elt [⟨tg, iter, ifs, 0⟩] scope pos) 0 (.ref it) (.ref D) (compEnvC scope (cellsFrom (s3.heap.objs.size + 1) scope.names (cloFrom X.env.cells scope.names [])) s3.heap.objs.size X.env)) _ { s3 with heap := pushCells (s3.heap.push { cls := .type "dict", data := .dict #[] }) scope.names }
  rw [← hcl]
  have pg := hg s3 Hd s3.heap.objs.size cl fp
  have pt := ht s3 Hd s3.heap.objs.size cl fp
  have pe := he s3 Hd s3.heap.objs.size cl fp
  have none4 : ∀ b ∈ fp, Hd b = none := fun b hb => (fd b hb).1.1
  obtain ⟨ce, hce⟩ : ∃ ce, ce = compEnvC scope cl s3.heap.objs.size X.env := ⟨_, rfl⟩
  rw [← hce] at I4 pg pt pe ⊢
  have loc : ce.locals = s3.heap.objs.size := by rw [hce]; rfl
  obtain ⟨s4, hs4⟩ : ∃ s4 : Shared, s4 = { s3 with heap := pushCells (s3.heap.push { cls := .type "dict", data := .dict #[] }) scope.names } := ⟨_, rfl⟩
  rw [← hs4] at I4 ⊢
  have st4 : tn 0 s4.heap := T.keep _ _ _ std fun b _ o e => by rw [hs4]; exact pushCells_keeps _ _ _ _ (Heap.get?_push_of_some _ e)
  have fps : ∀ {σ' : L2.St} {H' : Hp} {s' : Shared}, Inv (X.blk s3 Hd scope ce fp) [] σ' H' s' → (∀ b ∈ fp, H' b = none) → ∀ b ∈ fp, FpOk (X.blk s3 Hd scope ce fp) [] H' b := fun {σ' H' s'} I' hn b hb =>
    ⟨hn b hb, (I'.ok.exf b hb).1, I'.ok.exfs b hb, .inl hb, fun x c e => (I'.ok.exf b hb).2 x c e, fun p hp => absurd (show p ∈ ([] : List (Addr × Obj)) ++ [] from hp) (by simp)⟩
  refine PpSet.codeAny_compStart_set ?loop (T.self X.A 0 _ _ _ st4 ?loop)
  refine PpSet.compLoopS_any (fun n s' => ∃ i Hk, Inv (X.blk s3 Hd scope ce fp) [] (wipe σ (own.map (·.2))) Hk s' ∧ tn i s'.heap ∧ (∀ b ∈ fp, Hk b = none) ∧ W i n Hk) ?_ m0 ⟨0, Hd, I4, st4, none4, w0⟩
  rintro n s5 ⟨i, H5, I5, st5, n5, w5⟩
  rcases turn i n H5 w5 with ⟨stop, fin⟩ | ⟨go, Z, hZ, step⟩
  · refine thnF (T.done (X.blk s3 Hd scope ce fp) rfl rfl rfl calm i [] s5 _ H5 (fun _ _ => False) I5 (fps I5 n5) st5 stop) fun r s6 ⟨hr, I6⟩ => ?_
    subst hr
    have I7 : Inv X pins σ H5 s6 := Id.call' (ch := fp) I6.os I6.base I6.hok I6.bare fun b hb => ⟨(fd b hb).1.2.2.2.1, (fd b hb).1.2.1, (fd b hb).1.2.2.2.2.1, (fd b hb).1.2.2.2.2.2⟩
    have gone : H5 s3.heap.objs.size = none := by
      rw [← loc]
      exact I6.free
    obtain ⟨mm, hn, _⟩ := I6.loc
    have hn : s6.heap.Ns ce.locals mm := hn
    rw [loc] at hn
    obtain ⟨f0, f1, f2, f3, f4, f5⟩ := Id.fpOk (Nat.le_refl _) gone
    exact ⟨mm, hn, fun h'' sb => ⟨.ref D, H5, I7.turned (t' := s6.toks) (fun b o hb e => (sb.2 b hb).trans e) f0 f1 f3 f4 f5, rfl, fin⟩⟩
  · refine thnF (T.item (X.blk s3 Hd scope ce fp) rfl rfl rfl calm i [] s5 _ H5 (fun _ _ => False) I5 (fps I5 n5) st5 go) fun r s6 ⟨u, hr, h6⟩ => ?_
    subst hr
    refine thnF h6 fun _ s7 ⟨x, H7, I7, r7, y7, st7, n7⟩ => ?_
    refine thnF (pg.run _ s7 _ H7 x u _ (I7.pinned (fps I7 n7) (T.obj _ _ st7)) r7 (step x H7 y7)) fun _ s8 ⟨σ8, H8, I8, hw8, q8⟩ => ?_
    refine thnF (pt.run _ s8 σ8 H8 _ I8 q8) fun b s9 ⟨H9, I9, q9⟩ => ?_
    have next : ∀ {s' : Shared} {H' : Hp}, Inv (X.blk s3 Hd scope ce fp) ([] ++ pinsAt fp s7.heap) σ8 H' s' → Z H' → ∃ m, m < n ∧ ∃ i Hk, Inv (X.blk s3 Hd scope ce fp) [] (wipe σ (own.map (·.2))) Hk s' ∧ tn i s'.heap ∧ (∀ b ∈ fp, Hk b = none) ∧ W i m Hk := fun {s' H'} I' nx => by
      obtain ⟨m', hm, w'⟩ := hZ H' nx
      have kept : ∀ b ∈ fp, ∀ o, s7.heap.get? b = some o → s'.heap.get? b = some o ∧ H' b = none := fun b hb o e => by
        have z := I'.pin (b, o) (List.mem_append_right _ (List.mem_append_right _ (mem_pinsAt hb e)))
        exact ⟨z.1, z.2.1⟩
      refine ⟨m', hm, i + 1, H', (I'.unpinned (pins := [])).weak (by rw [← hw8, wipe_length]) (fun j v e => ?_), T.keep _ _ _ st7 fun b hb o e => (kept b hb o e).1, fun b hb => ?_, w'⟩
      · rw [← hw8] at e
        exact (wipe_some e).1
      · obtain ⟨o, e, _⟩ := T.obj _ _ st7 b hb
        exact (kept b hb o e).2
    cases b with
    | false =>
      rw [if_neg Bool.false_ne_true] at q9
      exact next I9 q9
    | true =>
      rw [if_pos (rfl : true = true)] at q9
      refine thnF (pe.run _ s9 σ8 H9 _ I9 q9) fun z s10 ⟨yv, H10, I10, r10, k, S, n0, ey, hD10, room, nx⟩ => ?_
      subst ey
      refine thnF (mt_saddK (X := X.blk s3 Hd scope ce fp) _ s10 σ8 H10 (.ref D) [kV k] (.ref D) [z] (fun _ H' => Z H') I10 rfl (.cons r10 .nil) ⟨D, k, S, n0, rfl, rfl, hD10, room, nx⟩) fun _ s11 ⟨_, H11, I11, _, q11⟩ => ?_
      exact next I11 q11
end
end Mg


set_option Elab.async false
set_option linter.all false
set_option maxRecDepth 100000
set_option maxHeartbeats 2000000
namespace Mg
open PySem L2
local macro_rules | `(tactic| walk_at "dec") => `(tactic| (first | (apply decide_eq_true; omega) | (simp only [Bool.not_eq_true', decide_eq_true_eq, decide_eq_false_iff_not, Bool.not_eq_true, Bool.not_eq_false', Decidable.not_not] <;> omega)))
abbrev sIsCommand : Stmt := top 12
abbrev sIsSymbol : Stmt := top 13
/-! ### names of symbols, over texts -/
def cLETTERS : Str := PySem.Str.ofString "abcdefghijklmnopqrstuvwxyz"
def cSIGNS : Str := PySem.Str.ofString "abcdefghijklmnopqrstuvwxyzABCDEFGHIJKLMNOPQRSTUVWXYZ0123456789+-*/=<>()[],;:!?.'"
def cRESERVED : List Str := ["@frac", "@root", "@left", "@right", "@grid"]
structure TxtS (K : PySem.W.Frag) (mg : Str → Option Value) (aR : Addr) : Prop where
  b_len : mg "len" = none
  b_all : mg "all" = none
  c_LETTERS : ∃ t, mg "LETTERS" = some (.str cLETTERS t)
  c_SIGNS : ∃ t, mg "SIGNS" = some (.str cSIGNS t)
  c_MOST_LETTERS : ∃ t, mg "MOST_LETTERS" = some (.int 8 t)
  c_RESERVED : mg "RESERVED" = some (.ref aR)
  k_RESERVED : ∀ H, SqT K H aR (cRESERVED.map V.str)
def isCommand (w : Str) : Bool := SX.S (w.cps.toList.take 1) == ("@" : Str) && (decide (1 ≤ (w.cps.toList.drop 1).length) && decide ((w.cps.toList.drop 1).length ≤ 8)) && (w.cps.toList.drop 1).all fun c => decide (c ∈ cLETTERS.cps.toList)
def isSymbol (w : Str) : Bool := if w.cps.toList.length = 1 then w.cps.toList.all fun c => decide (c ∈ cSIGNS.cps.toList) else isCommand w && !(cRESERVED.any fun r => r == w)
section
variable {P : Program} {w : World} {K : PySem.W.Frag} {mg : Str → Option Value} {base : Heap} {aR : Addr}
def spIsCommand : Sp := fun vs H Q _ => ∃ z : Str, vs = [.str z] ∧ z.length ≤ 1000 ∧ ∀ H', Same H H' → Q (.bl (isCommand z)) H'
theorem scIsCommand : FnScope ["word", "letters", "letter"] ["word"] (defScope sIsCommand) := ⟨rfl, rfl, rfl, by decide +kernel, rfl, by decide +kernel, by decide +kernel⟩
theorem dec_not {p : Prop} [Decidable p] (h : (!decide p) = true) : ¬ p := by simpa using h
theorem ok_is_command {f : Addr} {fd : FuncData} (F : Fun K "is_command" "is_command" sIsCommand f fd) (T : TxtS K mg aR) : FnOk P w K mg base CX0 1 f fd ["word"] spIsCommand := by
  have sc := scIsCommand
  refine F.ok scIsCommand (fun vs H Q E h => ?_) (fun cdv A outer s H vs Q E hr h => ?_)
  · obtain ⟨z, rfl, _⟩ := h
    rfl
  · obtain ⟨z, rfl, hz, k⟩ := h
    have big : z.length ≤ sizeLine := Nat.le_of_lt (small1000 hz)
    refine ⟨_, (pss_cons (ps_set (i := 1) sc.nd rfl (Or.inl rfl) (pe_slice sl_str (pv 0) (po_some pe_int) po_none))
  (pss_cons (ps_if (PW.pt (pw_or (pt_cmpR op_ne (pe_slice sl_str (pv 0) po_none (po_some pe_int)) pe_str (nomark _)) (pw_or1 (pt_not (pt_chain op_le op_le pe_int (pe_callB call_len_str (by rfl) T.b_len PySem.boot_len (pa_cons (pv 1) pa_nil)) (pe_gint rfl T.c_MOST_LETTERS))))))
  (pss_one (ps_ret pe_bl))
  pss_nil)
  (pss_one (ps_ret (pe_callB (cr_all rfl) (by rfl) T.b_all (by decide +kernel) (pa_cons (pe_lc (own := [("letter", 2)]) rfl sc.nd (pi_str (pv 1)) (blkOk_by (own := [("letter", 2)]) (N := ["word", "letters", "letter"]) (sc := defScope sIsCommand) (by decide +kernel)) (fun _ _ _ _ _ => (pg_name (i := 2) sc.nd rfl (Or.inl rfl))) (fun _ _ _ _ _ => pts_nil) (fun _ _ _ _ _ => (pe_cmpR op_in_sign (pv 2) (pe_gstr rfl T.c_LETTERS) (by rfl)))) pa_nil)))))), ?_⟩
    obtain ⟨l, hl⟩ : ∃ l, l = z.cps.toList := ⟨_, rfl⟩
    have zl : z.length = l.length := by rw [hl, str_len]
    have dl : (l.drop 1).length ≤ 1000 := by rw [List.length_drop]; omega
    refine ⟨_, rfl, 1, rfl, z, rfl, big, ?_⟩
    rw [show cutS z (some 1) none = SX.S (l.drop 1) by rw [hl]; exact cut_from z 1]
    refine ⟨_, rfl, 1, rfl, z, rfl, big, rfl, ?_⟩
    rw [show cutS z none (some 1) = SX.S (l.take 1) by rw [hl]; exact cut_to z 1]
    refine ⟨_, rfl, ?_⟩
    have kk : ∀ b : Bool, isCommand z = b → ∀ H', Same H H' → Q (.bl b) H' := fun b e H' s => e ▸ k H' s
    unfold isCommand at kk
    rw [← hl] at kk
    by_cases c1 : SX.S (l.take 1) = ("@" : Str)
    · refine iteN (by simp [c1]) ?_
      refine ⟨_, rfl, _, rfl, (by rw [SX.S_len]; exact Nat.le_of_lt (small1000 dl)), ?_⟩
      rw [SX.S_len]
      refine ⟨_, _, rfl, rfl, _, rfl, ?_⟩
      by_cases c2 : 1 ≤ (l.drop 1).length
      · refine iteP (by walk_at "dec") ?_
        refine ⟨_, _, rfl, rfl, _, rfl, ?_⟩
        by_cases c3 : (l.drop 1).length ≤ 8
        · refine iteN (by walk_at "dec") ?_
          refine ⟨_, rfl, _, rfl, fun D hD => lc_pure (H1 := H) ((l.drop 1).map fun c => V.bl (decide (c ∈ cLETTERS.cps.toList))) hD (by rw [List.length_map]; exact Nat.le_of_lt (small1000 dl)) ?_ ?_ ?_ ?_⟩
          · intro i H' hi _
            rw [List.length_map] at hi
            show i < (SX.S (l.drop 1)).cps.size
            simpa using hi
          · intro H' _
            rw [List.length_map]
            show (SX.S (l.drop 1)).cps.size ≤ _
            simp
          · rintro i x H' H'' R Z hi s ⟨rfl, c, hc, rfl⟩ kR
            have hc' : (l.drop 1)[i]? = some c := by simpa using hc
            refine ⟨rfl, ?_⟩
            refine ⟨_, rfl, c, _, rfl, rfl, kR _ _ ?_ (Same.refl _)⟩
            rw [List.getElem?_map, hc']
            rfl
          · intro H' s e
            refine ⟨D, (l.drop 1).map (fun c => decide (c ∈ cLETTERS.cps.toList)), rfl, SqL.of (by rw [e, List.map_map]; rfl), kk _ ?_ H' s⟩
            rw [c1, decide_eq_true c2, decide_eq_true c3, List.all_map]
            rfl
        · refine iteP (by walk_at "dec") ?_
          refine kk _ ?_ H (Same.refl _)
          rw [decide_eq_false c3]
          simp
      · refine iteN (by walk_at "dec") ⟨_, rfl, ?_⟩
        refine iteP (by rfl) ?_
        refine kk _ ?_ H (Same.refl _)
        rw [decide_eq_false c2]
        simp
    · refine iteP (by simp [c1]) ?_
      refine iteP rfl ?_
      refine kk _ ?_ H (Same.refl _)
      rw [beq_false_of_ne c1]
      simp
def spIsSymbol : Sp := fun vs H Q _ => ∃ z : Str, vs = [.str z] ∧ z.length ≤ 1000 ∧ ∀ H', Same H H' → Q (.bl (isSymbol z)) H'
theorem scIsSymbol : FnScope ["word"] ["word"] (defScope sIsSymbol) := ⟨rfl, rfl, rfl, by decide +kernel, rfl, by decide +kernel, by decide +kernel⟩
theorem inV_strs (z : Str) (l : List Str) : inV (.str z) (l.map V.str) = l.any fun r => r == z := by
  unfold inV
  rw [List.any_map]
  rfl
theorem flat_strs (l : List Str) : (l.map V.str).all flatV = true := by
  rw [List.all_map]
  exact List.all_eq_true.mpr fun _ _ => rfl
theorem ok_is_symbol {f : Addr} {fd : FuncData} (F : Fun K "is_symbol" "is_symbol" sIsSymbol f fd) (T : TxtS K mg aR) (C_is_command : Cal P w K mg base CX0 1 "is_command" ["word"] spIsCommand) : FnOk P w K mg base CX0 2 f fd ["word"] spIsSymbol := by
  have sc := scIsSymbol
  refine F.ok scIsSymbol (fun vs H Q E h => ?_) (fun cdv A outer s H vs Q E hr h => ?_)
  · obtain ⟨z, rfl, _⟩ := h
    rfl
  · obtain ⟨z, rfl, hz, k⟩ := h
    have big : z.length ≤ sizeLine := Nat.le_of_lt (small1000 hz)
    have hris_command : Room 1 _ := hr.mono (by decide)
    refine ⟨_, (pss_cons (ps_if (pt_cmpR op_eq (pe_callB call_len_str (by rfl) T.b_len PySem.boot_len (pa_cons (pv 0) pa_nil)) pe_int (nomark _))
  (pss_one (ps_ret (pe_cmpR op_in_sign (pv 0) (pe_gstr rfl T.c_SIGNS) (by rfl))))
  pss_nil)
  (pss_one (ps_ret (pe_and (pe_cal C_is_command hris_command rfl pass0 (pa_cons (pv 0) pa_nil)) (pe_one (pe_cmpR op_notIn_seq (pv 0) (pe_gref rfl T.c_RESERVED) (by rfl))))))), ?_⟩
    unfold isSymbol at k
    rw [← str_len] at k
    refine ⟨_, rfl, z, rfl, big, rfl, _, rfl, ?_⟩
    by_cases c : z.length = 1
    · refine iteP (by simp [c]) ?_
      rw [if_pos c] at k
      have c' : z.cps.toList.length = 1 := by rw [← str_len]; exact c
      obtain ⟨x, hx⟩ := List.length_eq_one_iff.mp c'
      have ez : z = ⟨#[x]⟩ := by
        rw [← SX.S_tl z, hx]
      refine ⟨_, rfl, x, _, by rw [ez], rfl, ?_⟩
      have q := k H (Same.refl _)
      rw [hx, List.all_cons, List.all_nil, Bool.and_true] at q
      exact q
    · refine iteN (by simp only [decide_eq_true_eq]; intro e; injection e with e; omega) ?_
      rw [if_neg c] at k
      refine ⟨_, rfl, z, rfl, hz, fun H1 s1 => ⟨_, rfl, ?_⟩⟩
      by_cases d : isCommand z = true
      · rw [d] at k
        refine iteP d ?_
        refine ⟨_, rfl, aR, _, rfl, .inr (T.k_RESERVED _), rfl, flat_strs _, ?_⟩
        have q := k H1 s1
        rw [Bool.true_and] at q
        show Q (V.bl (!inV (.str z) (cRESERVED.map V.str))) H1
        rw [inV_strs]
        exact q
      · refine iteN d ?_
        have q := k H1 s1
        rw [Bool.not_eq_true] at d
        rw [d, Bool.false_and] at q
        exact q
end
end Mg

set_option Elab.async false
set_option linter.all false
set_option maxRecDepth 100000
set_option maxHeartbeats 2000000
namespace Mg
open PySem L2
local macro_rules | `(tactic| walk_at "dec") => `(tactic| (first | (apply decide_eq_true; omega) | (simp only [Bool.not_eq_true', decide_eq_true_eq, decide_eq_false_iff_not, Bool.not_eq_true, Bool.not_eq_false', Decidable.not_not] <;> omega)))
abbrev sIsEntry : Stmt := top 27
abbrev sIsInteger : Stmt := top 29
def cCLASSES : List Str := ["op", "ord", "bin", "rel", "open", "close", "punct"]
structure TxtE (K : PySem.W.Frag) (mg : Str → Option Value) (aC : Addr) : Prop extends TxtC mg where
  b_all : mg "all" = none
  c_ROOT_SIGN : ∃ t, mg "ROOT_SIGN" = some (.str "@root" t)
  c_MOST_MEASURE : ∃ t, mg "MOST_MEASURE" = some (.int 1000 t)
  c_CLASSES : mg "CLASSES" = some (.ref aC)
  k_CLASSES : ∀ H, SqT K H aC (cCLASSES.map V.str)
def isInt (lo hi : Int) : PyData → Bool
  | .int i => decide (lo ≤ i) && decide (i ≤ hi)
  | _ => false
section
variable {P : Program} {w : World} {K : PySem.W.Frag} {mg : Str → Option Value} {base : Heap} {aC : Addr}
def spIsInteger (K : PySem.W.Frag) : Sp := fun vs H Q _ => ∃ (v : V) (d : PyData) (lo hi : Int), vs = [v, .int lo, .int hi] ∧ Dp K H v d ∧ Q (.bl (isInt lo hi d)) H
theorem scIsInteger : FnScope ["value", "least", "most"] ["value", "least", "most"] (defScope sIsInteger) := ⟨rfl, rfl, rfl, by decide +kernel, rfl, by decide +kernel, by decide +kernel⟩
theorem ok_is_integer {f : Addr} {fd : FuncData} (F : Fun K "is_integer" "is_integer" sIsInteger f fd) (T : TxtC mg) : FnOk P w K mg base CX0 1 f fd ["value", "least", "most"] (spIsInteger K) := by
  have sc := scIsInteger
  refine F.ok scIsInteger (fun vs H Q E h => ?_) (fun cdv A outer s H vs Q E hr h => ?_)
  · obtain ⟨v, d, lo, hi, rfl, _⟩ := h
    rfl
  · obtain ⟨v, d, lo, hi, rfl, hv, k⟩ := h
    refine ⟨_, (pss_one (ps_ret (pe_and (pe_callB call_isi (by rfl) T.b_isinstance (by decide +kernel) (pa_cons (pv 0) (pa_cons (pe_bltn (v := .ty "int") (by rfl) T.b_int PyProof.Rows.boot_int rfl) pa_nil))) (pe_and (pe_not (pe_callB call_isi (by rfl) T.b_isinstance (by decide +kernel) (pa_cons (pv 0) (pa_cons (pe_bltn (v := .ty "bool") (by rfl) T.b_bool PyProof.Rows.boot_bool rfl) pa_nil)))) (pe_one (pe_chain op_le op_le (pv 1) (pv 0) (pv 2))))))), ?_⟩
    have hv0 := hv
    cases hv with
    | non => exact ⟨_, rfl, _, _, _, _, false, rfl, .ty _, tyx_D hv0, kit_ty (show kitB "NoneType" "int" = some false by decide +kernel), _, rfl, iteF k⟩
    | str x => exact ⟨_, rfl, _, _, _, _, false, rfl, .ty _, tyx_D hv0, kit_ty (show kitB "str" "int" = some false by decide +kernel), _, rfl, iteF k⟩
    | lst hs ha => exact ⟨_, rfl, _, _, _, _, false, rfl, .ty _, tyx_D hv0, kit_ty (show kitB "list" "int" = some false by decide +kernel), _, rfl, iteF k⟩
    | tup hs ha => exact ⟨_, rfl, _, _, _, _, false, rfl, .ty _, tyx_D hv0, kit_ty (show kitB "tuple" "int" = some false by decide +kernel), _, rfl, iteF k⟩
    | bl b =>
      refine ⟨_, rfl, _, _, _, _, true, rfl, .ty _, tyx_D hv0, kit_ty (show kitB "bool" "int" = some true by decide +kernel), _, rfl, iteT ?_⟩
      exact ⟨_, rfl, _, _, _, _, true, rfl, .ty _, tyx_D hv0, kit_ty (show kitB "bool" "bool" = some true by decide +kernel), _, rfl, _, rfl, iteF k⟩
    | int i =>
      refine ⟨_, rfl, _, _, _, _, true, rfl, .ty _, tyx_D hv0, kit_ty (show kitB "int" "int" = some true by decide +kernel), _, rfl, iteT ?_⟩
      refine ⟨_, rfl, _, _, _, _, false, rfl, .ty _, tyx_D hv0, kit_ty (show kitB "int" "bool" = some false by decide +kernel), _, rfl, _, rfl, iteT ?_⟩
      refine ⟨_, rfl, _, rfl, _, _, rfl, rfl, _, rfl, ?_⟩
      have k' : Q (V.bl (decide (lo ≤ i) && decide (i ≤ hi))) H := k
      by_cases c : lo ≤ i
      · rw [decide_eq_true c, Bool.true_and] at k'
        exact iteP (decide_eq_true c) ⟨_, rfl, _, _, rfl, rfl, k'⟩
      · rw [decide_eq_false c, Bool.false_and] at k'
        exact iteN (by walk_at "dec") k'
/-! ### an entry -/
def isName : PyData → Bool
  | .str s => isSymbol s || s == "@root"
  | _ => false
def isKind : PyData → Bool
  | .str s => cCLASSES.any fun r => r == s
  | _ => false
def isEntry : PyData → Bool
  | .tuple [n, k, a, b, c] => isName n && (isKind k && (isInt 0 1000 a && (isInt 0 1000 b && isInt 0 1000 c)))
  | _ => false
def flatD : PyData → Bool
  | .none => true | .bool _ => true | .int _ => true | .str _ => true | _ => false
/-- what is asked of what may be an entry: names are no long texts, kinds are flat -/
def PreE : PyData → Prop
  | .tuple [n, k, _, _, _] => (∀ s, n = .str s → s.length ≤ 1000) ∧ flatD k = true
  | _ => True
theorem flat_of {K : PySem.W.Frag} {H : Hp} {v : V} {d : PyData} (h : Dp K H v d) (f : flatD d = true) : flatV v = true := by
  cases h <;> first | rfl | exact absurd f Bool.false_ne_true
theorem inV_kind {K : PySem.W.Frag} {H : Hp} {v : V} {d : PyData} (h : Dp K H v d) (f : flatD d = true) : inV v (cCLASSES.map V.str) = isKind d := by
  cases h <;> first | rfl | exact absurd f Bool.false_ne_true | exact inV_strs _ _
def spIsEntry (K : PySem.W.Frag) : Sp := fun vs H Q _ => ∃ (v : V) (d : PyData), vs = [v] ∧ Dp K H v d ∧ PreE d ∧ ∀ H', Same H H' → Q (.bl (isEntry d)) H'
theorem scIsEntry : FnScope ["value", "name", "kind", "width", "height", "depth", "n"] ["value"] (defScope sIsEntry) := ⟨rfl, rfl, rfl, by decide +kernel, rfl, by decide +kernel, by decide +kernel⟩
theorem no_entry {ds : List PyData} (h : ¬ ds.length = 5) : isEntry (.tuple ds) = false := by
  match ds, h with
  | [], _ => rfl
  | [_], _ => rfl
  | [_, _], _ => rfl
  | [_, _, _], _ => rfl
  | [_, _, _, _], _ => rfl
  | [_, _, _, _, _], h => exact absurd rfl h
  | _ :: _ :: _ :: _ :: _ :: _ :: _, _ => rfl
theorem five {α : Type} {l : List α} (h : l.length = 5) : ∃ a b c d e, l = [a, b, c, d, e] := by
  match l, h with
  | [a, b, c, d, e], _ => exact ⟨a, b, c, d, e, rfl⟩
theorem ok_is_entry {f : Addr} {fd : FuncData} (F : Fun K "is_entry" "is_entry" sIsEntry f fd) (T : TxtE K mg aC) (C_is_symbol : Cal P w K mg base CX0 2 "is_symbol" ["word"] spIsSymbol)
    (C_is_integer : Cal P w K mg base CX0 1 "is_integer" ["value", "least", "most"] (spIsInteger K)) : FnOk P w K mg base CX0 3 f fd ["value"] (spIsEntry K) := by
  have sc := scIsEntry
  refine F.ok scIsEntry (fun vs H Q E h => ?_) (fun cdv A outer s H vs Q E hr h => ?_)
  · obtain ⟨v, d, rfl, _⟩ := h
    rfl
  · obtain ⟨v, d, rfl, hv, pre, k⟩ := h
    have hris_symbol : Room 2 _ := hr.mono (by decide)
    have hris_integer : Room 1 _ := hr.mono (by decide)
    refine ⟨_, (pss_cons (ps_if (PW.pt (pw_or (pt_not (pt_val (pe_callB call_isi (by rfl) T.b_isinstance (by decide +kernel) (pa_cons (pv 0) (pa_cons (pe_bltn (v := .ty "tuple") (by rfl) T.b_tuple PyProof.Rows.boot_tuple rfl) pa_nil))))) (pw_or1 (pt_cmpR op_ne (pe_callB call_len_sq (by rfl) T.b_len PySem.boot_len (pa_cons (pv 0) pa_nil)) pe_int (nomark _)))))
  (pss_one (ps_ret pe_bl))
  pss_nil)
  (pss_cons (ps_asg (pv 0) (pg_tup rfl (pgs_cons (pg_name (i := 1) sc.nd rfl (Or.inl rfl)) (pgs_cons (pg_name (i := 2) sc.nd rfl (Or.inl rfl)) (pgs_cons (pg_name (i := 3) sc.nd rfl (Or.inl rfl)) (pgs_cons (pg_name (i := 4) sc.nd rfl (Or.inl rfl)) (pgs_cons (pg_name (i := 5) sc.nd rfl (Or.inl rfl)) pgs_nil)))))))
  (pss_cons (ps_if (PW.pt (pw_or (pt_not (pt_val (pe_callB call_isi (by rfl) T.b_isinstance (by decide +kernel) (pa_cons (pv 1) (pa_cons (pe_bltn (v := .ty "str") (by rfl) T.b_str PyProof.Rows.boot_str rfl) pa_nil))))) (pw_or1 (pt_not (PW.pt (pw_or (pt_val (pe_cal C_is_symbol hris_symbol rfl pass0 (pa_cons (pv 1) pa_nil))) (pw_or1 (pt_cmpR op_eq (pv 1) (pe_gstr rfl T.c_ROOT_SIGN) (nomark _)))))))))
  (pss_one (ps_ret pe_bl))
  pss_nil)
  (pss_one (ps_ret (pe_and (pe_cmpR op_in_seq (pv 2) (pe_gref rfl T.c_CLASSES) (by rfl)) (pe_one (pe_callB (cr_all rfl) (by rfl) T.b_all (by decide +kernel) (pa_cons (pe_lc (own := [("n", 6)]) rfl sc.nd (pi_tup (pe_tup (pa_cons (pv 3) (pa_cons (pv 4) (pa_cons (pv 5) pa_nil))))) (blkOk_by (own := [("n", 6)]) (N := ["value", "name", "kind", "width", "height", "depth", "n"]) (sc := defScope sIsEntry) (by decide +kernel)) (fun _ _ _ _ _ => (pg_name (i := 6) sc.nd rfl (Or.inl rfl))) (fun _ _ _ _ _ => pts_nil) (fun _ _ _ _ _ => (pe_cal C_is_integer hris_integer rfl pass0 (pa_cons (pv 6) (pa_cons pe_int (pa_cons (pe_gint rfl T.c_MOST_MEASURE) pa_nil)))))) pa_nil))))))))), ?_⟩
    have hv0 := hv
    cases hv with
    | non => exact ⟨_, rfl, _, _, _, _, false, rfl, .ty _, tyx_D hv0, kit_ty (show kitB "NoneType" "tuple" = some false by decide +kernel), _, rfl, iteT (iteT (k _ (Same.refl _)))⟩
    | bl b => exact ⟨_, rfl, _, _, _, _, false, rfl, .ty _, tyx_D hv0, kit_ty (show kitB "bool" "tuple" = some false by decide +kernel), _, rfl, iteT (iteT (k _ (Same.refl _)))⟩
    | int b => exact ⟨_, rfl, _, _, _, _, false, rfl, .ty _, tyx_D hv0, kit_ty (show kitB "int" "tuple" = some false by decide +kernel), _, rfl, iteT (iteT (k _ (Same.refl _)))⟩
    | str x => exact ⟨_, rfl, _, _, _, _, false, rfl, .ty _, tyx_D hv0, kit_ty (show kitB "str" "tuple" = some false by decide +kernel), _, rfl, iteT (iteT (k _ (Same.refl _)))⟩
    | lst hs ha => exact ⟨_, rfl, _, _, _, _, false, rfl, .ty _, tyx_D hv0, kit_ty (show kitB "list" "tuple" = some false by decide +kernel), _, rfl, iteT (iteT (k _ (Same.refl _)))⟩
    | @tup a xs ds hs ha =>
      refine ⟨_, rfl, _, _, _, _, true, rfl, .ty _, tyx_D hv0, kit_ty (show kitB "tuple" "tuple" = some true by decide +kernel), _, rfl, iteF ?_⟩
      have el := DpAll.len ha
      refine ⟨_, rfl, a, xs, rfl, .inr hs, fun _ => ⟨rfl, _, rfl, ?_⟩⟩
      by_cases c : ¬ ds.length = 5
      · refine iteP (by simp only [Bool.not_eq_true', decide_eq_false_iff_not]; intro z; injection z with z; omega) ?_
        have q := k H (Same.refl _)
        rw [no_entry c] at q
        exact q
      have c := Decidable.not_not.mp c
      refine iteN (by simp only [Bool.not_eq_true', Bool.not_eq_false, decide_eq_true_eq]; rw [el, c]; rfl) ?_
      obtain ⟨n, kd, w1, w2, w3, rfl⟩ := five c
      obtain ⟨x1, x2, x3, x4, x5, rfl⟩ := five (show xs.length = 5 by omega)
      cases ha with
      | cons d1 ha => cases ha with
      | cons d2 ha => cases ha with
      | cons d3 ha => cases ha with
      | cons d4 ha => cases ha with
      | cons d5 ha =>
      obtain ⟨p1, p2⟩ := pre
      refine ⟨_, rfl, a, _, rfl, hs, rfl, x1, _, rfl, x2, _, rfl, x3, _, rfl, x4, _, rfl, x5, _, rfl, rfl, ?_⟩
      have kk : ∀ b : Bool, (isName n && (isKind kd && (isInt 0 1000 w1 && (isInt 0 1000 w2 && isInt 0 1000 w3)))) = b → ∀ H', Same H H' → Q (.bl b) H' := fun b e H' s => e ▸ k H' s
      have d10 := d1
      cases d1 with
      | non => exact ⟨_, rfl, _, _, _, _, false, rfl, .ty _, tyx_D d10, kit_ty (show kitB "NoneType" "str" = some false by decide +kernel), _, rfl, iteT (iteT (kk _ rfl _ (Same.refl _)))⟩
      | bl b => exact ⟨_, rfl, _, _, _, _, false, rfl, .ty _, tyx_D d10, kit_ty (show kitB "bool" "str" = some false by decide +kernel), _, rfl, iteT (iteT (kk _ rfl _ (Same.refl _)))⟩
      | int b => exact ⟨_, rfl, _, _, _, _, false, rfl, .ty _, tyx_D d10, kit_ty (show kitB "int" "str" = some false by decide +kernel), _, rfl, iteT (iteT (kk _ rfl _ (Same.refl _)))⟩
      | lst hs ha => exact ⟨_, rfl, _, _, _, _, false, rfl, .ty _, tyx_D d10, kit_ty (show kitB "list" "str" = some false by decide +kernel), _, rfl, iteT (iteT (kk _ rfl _ (Same.refl _)))⟩
      | tup hs ha => exact ⟨_, rfl, _, _, _, _, false, rfl, .ty _, tyx_D d10, kit_ty (show kitB "tuple" "str" = some false by decide +kernel), _, rfl, iteT (iteT (kk _ rfl _ (Same.refl _)))⟩
      | str z =>
        have hz := p1 z rfl
        refine ⟨_, rfl, _, _, _, _, true, rfl, .ty _, tyx_D d10, kit_ty (show kitB "str" "str" = some true by decide +kernel), _, rfl, iteF ?_⟩
        refine (Evl.et_not (Evl.et_or (b := decide (V.str z = V.str "@root")) (Evl.et_B (Evl.ev_call (Evl.ea_cons (Evl.ev_var rfl) Evl.ea_nil) (fun H1 _ Q q E => ⟨z, rfl, hz, fun H' s => q H' s⟩))) fun _ => Evl.et_test (Evl.ev_op (Evl.ev_var rfl) Evl.ev_c (Evl.rv_eq rfl)))) H (Evl.Ex.refl H) _ fun H2 s2 => ?_
        have en : (isSymbol z || decide (V.str z = V.str "@root")) = isName (.str z) := by
          show _ = (isSymbol z || z == "@root")
          rw [dec_str]
        rw [en]
        cases hN : isName (.str z) with
        | false =>
          refine iteT ?_
          rw [hN] at kk
          exact kk _ rfl _ s2
        | true =>
          refine iteF ?_
          rw [hN] at kk
          refine ⟨_, rfl, aC, _, rfl, .inr (T.k_CLASSES _), flat_of d2 p2, flat_strs _, _, rfl, ?_⟩
          show (if (inV x2 (cCLASSES.map V.str)) = true then _ else _)
          rw [inV_kind d2 p2]
          cases hK : isKind kd with
          | false =>
            refine iteF ?_
            rw [hK] at kk
            exact kk _ rfl _ s2
          | true =>
            refine iteT ?_
            rw [hK] at kk
            have D3 := Dp_same s2 d3
            have D4 := Dp_same s2 d4
            have D5 := Dp_same s2 d5
            refine ⟨_, rfl, _, rfl, _, rfl, (by show 3 ≤ sizeLine; decide), fun t ht => ⟨t, rfl, ⟨_, SqT.of upd_same⟩, fun D hD => ?_⟩⟩
            have st : ∀ {H'}, Same (upd H2 t (.tup [x3, x4, x5])) H' → SqT K H' t [x3, x4, x5] := fun s => same_sqt s (SqT.of upd_same)
            refine lc_pure ([w1, w2, w3].map fun d => V.bl (isInt 0 1000 d)) hD (by show 3 ≤ sizeLine; decide) (fun i H' hi s => ?_) (fun H' s => ⟨_, st s, Nat.le_refl 3⟩) ?_ ?_
            · have hi : i < 3 := hi
              exact ⟨_, ([x3, x4, x5] : List V)[i], st s, List.getElem?_eq_getElem hi⟩
            · rintro i x H' H'' R Z hi s ⟨rfl, hy⟩ kR
              have hi : i < 3 := hi
              have hx := hy _ (st s)
              have sS : Same H2 H'' := (same_new ht).trans s
              obtain ⟨d, hd, dx⟩ : ∃ d, ([w1, w2, w3] : List PyData)[i]? = some d ∧ Dp K H'' x d := by
                match i, hi with
                | 0, _ =>
                  cases hx
                  exact ⟨_, rfl, Dp_same sS D3⟩
                | 1, _ =>
                  cases hx
                  exact ⟨_, rfl, Dp_same sS D4⟩
                | 2, _ =>
                  cases hx
                  exact ⟨_, rfl, Dp_same sS D5⟩
              refine ⟨rfl, ?_⟩
              exact ⟨_, rfl, x, d, 0, 1000, rfl, dx, kR _ _ (by rw [List.getElem?_map, hd]; rfl) (Same.refl _)⟩
            · intro H' s e
              refine ⟨D, [isInt 0 1000 w1, isInt 0 1000 w2, isInt 0 1000 w3], rfl, SqL.of e, kk _ ?_ H' (s2.trans ((same_new ht).trans s))⟩
              simp
end
end Mg

set_option Elab.async false
set_option linter.all false
set_option maxRecDepth 100000
set_option maxHeartbeats 2000000
namespace Mg
open PySem L2
local macro_rules | `(tactic| walk_at "dec") => `(tactic| (first | (apply decide_eq_true; omega) | (simp only [Bool.not_eq_true', decide_eq_true_eq, decide_eq_false_iff_not, Bool.not_eq_true, Bool.not_eq_false', Decidable.not_not] <;> omega)))
theorem call_len_setk {X : Cx} : CallR X (.builtin "len") (fun xs H Q => ∃ p S n, xs = [.ref p] ∧ H p = some (SetK X.prog X.w p S n) ∧ Q (.int (n : Nat)) H) := by
  intro pins s σ H xs us Q I r h
  obtain ⟨p, S, n, rfl, hp, q⟩ := h
  obtain ⟨u, rfl, rx⟩ := vals1 r
  cases rx
  obtain ⟨o, es, ep, t, ho, hx, hd, g, hm, hb, hf, hn⟩ := setK_get I hp
  have small : (es.size : Int) < 2 ^ 63 := by
    have e : scanBound ≤ 1000000000 := by unfold scanBound; decide
    omega
  refine call_len_set ho hx hd hf small ⟨.int (n : Nat), H, I.tok _, ⟨_, by rw [hn]⟩, q⟩
abbrev sAreSymbols : Stmt := top 26
structure TxtF (K : PySem.W.Frag) (mg : Str → Option Value) (aC : Addr) : Prop extends TxtE K mg aC where
  c_MOST_SYMBOLS : ∃ t, mg "MOST_SYMBOLS" = some (.int 60 t)
/-- an entry's name -/
def nameD : PyData → Str
  | .tuple (.str s :: _) => s
  | _ => ""
def areSymbols : PyData → Bool
  | .tuple ds => decide (1 ≤ ds.length) && decide (ds.length ≤ 60) && ds.all isEntry && decide (ds.map nameD).Nodup
  | _ => false
def PreS : PyData → Prop
  | .tuple ds => ∀ d ∈ ds, PreE d
  | _ => True
theorem entry_name {d : PyData} (h : isEntry d = true) : ∃ n k a b c, d = .tuple [.str n, k, a, b, c] := by
  unfold isEntry at h
  split at h
  · rename_i n k a b c
    rw [Bool.and_eq_true] at h
    obtain ⟨h1, _⟩ := h
    unfold isName at h1
    split at h1
    · exact ⟨_, _, _, _, _, rfl⟩
    · cases h1
  · cases h
section
variable {P : Program} {w : World} {K : PySem.W.Frag} {mg : Str → Option Value} {base : Heap} {aC : Addr}
def spAreSymbols (K : PySem.W.Frag) : Sp := fun vs H Q _ => ∃ (v : V) (d : PyData), vs = [v] ∧ Dp K H v d ∧ PreS d ∧ ∀ H', Same H H' → Q (.bl (areSymbols d)) H'
theorem scAreSymbols : FnScope ["value", "entry"] ["value"] (defScope sAreSymbols) := ⟨rfl, rfl, rfl, by decide +kernel, rfl, by decide +kernel, by decide +kernel⟩
theorem take_snoc {α : Type} {l : List α} {i : Nat} {x : α} (h : l[i]? = some x) : l.take (i + 1) = l.take i ++ [x] := by
  rw [List.take_add_one, h]
  rfl
theorem ok_are_symbols {f : Addr} {fd : FuncData} (F : Fun K "are_symbols" "are_symbols" sAreSymbols f fd) (T : TxtF K mg aC) (C_is_entry : Cal P w K mg base CX0 3 "is_entry" ["value"] (spIsEntry K)) : FnOk P w K mg base CX0 4 f fd ["value"] (spAreSymbols K) := by
  have sc := scAreSymbols
  refine F.ok scAreSymbols (fun vs H Q E h => ?_) (fun cdv A outer s H vs Q E hr h => ?_)
  · obtain ⟨v, d, rfl, _⟩ := h
    rfl
  · obtain ⟨v, d, rfl, hv, pre, k⟩ := h
    have hris_entry : Room 3 _ := hr.mono (by decide)
    refine ⟨_, (pss_cons (ps_if (PW.pt (pw_or (pt_not (pt_val (pe_callB call_isi (by rfl) T.b_isinstance (by decide +kernel) (pa_cons (pv 0) (pa_cons (pe_bltn (v := .ty "tuple") (by rfl) T.b_tuple PyProof.Rows.boot_tuple rfl) pa_nil))))) (pw_or1 (pt_not (pt_chain op_le op_le pe_int (pe_callB call_len_sq (by rfl) T.b_len PySem.boot_len (pa_cons (pv 0) pa_nil)) (pe_gint rfl T.c_MOST_SYMBOLS))))))
  (pss_one (ps_ret pe_bl))
  pss_nil)
  (pss_cons (ps_if (pt_not (pt_val (pe_callB (cr_all rfl) (by rfl) T.b_all (by decide +kernel) (pa_cons (pe_lc (own := [("entry", 1)]) rfl sc.nd (pi_tup (pv 0)) (blkOk_by (own := [("entry", 1)]) (N := ["value", "entry"]) (sc := defScope sAreSymbols) (by decide +kernel)) (fun _ _ _ _ _ => (pg_name (i := 1) sc.nd rfl (Or.inl rfl))) (fun _ _ _ _ _ => pts_nil) (fun _ _ _ _ _ => (pe_cal C_is_entry hris_entry rfl pass0 (pa_cons (pv 1) pa_nil)))) pa_nil))))
  (pss_one (ps_ret pe_bl))
  pss_nil)
  (pss_one (ps_ret (pe_cmpR op_eq (pe_callB call_len_setk (by rfl) T.b_len PySem.boot_len (pa_cons (pe_sk (own := [("entry", 1)]) rfl sc.nd (pi_tup (pv 0)) (blkOk_by (own := [("entry", 1)]) (N := ["value", "entry"]) (sc := defScope sAreSymbols) (by decide +kernel)) (fun _ _ _ _ _ => (pg_name (i := 1) sc.nd rfl (Or.inl rfl))) (fun _ _ _ _ _ => pts_nil) (fun _ _ _ _ _ => (pe_ix (r := rIxT K) ix_tup (pv 1) pe_int (fun _ _ => rfl)))) pa_nil)) (pe_callB call_len_sq (by rfl) T.b_len PySem.boot_len (pa_cons (pv 0) pa_nil)) (nomark _)))))), ?_⟩
    have hv0 := hv
    cases hv with
    | non => exact ⟨_, rfl, _, _, _, _, false, rfl, .ty _, tyx_D hv0, kit_ty (show kitB "NoneType" "tuple" = some false by decide +kernel), _, rfl, iteT (iteT (k _ (Same.refl _)))⟩
    | bl b => exact ⟨_, rfl, _, _, _, _, false, rfl, .ty _, tyx_D hv0, kit_ty (show kitB "bool" "tuple" = some false by decide +kernel), _, rfl, iteT (iteT (k _ (Same.refl _)))⟩
    | int b => exact ⟨_, rfl, _, _, _, _, false, rfl, .ty _, tyx_D hv0, kit_ty (show kitB "int" "tuple" = some false by decide +kernel), _, rfl, iteT (iteT (k _ (Same.refl _)))⟩
    | str x => exact ⟨_, rfl, _, _, _, _, false, rfl, .ty _, tyx_D hv0, kit_ty (show kitB "str" "tuple" = some false by decide +kernel), _, rfl, iteT (iteT (k _ (Same.refl _)))⟩
    | lst hs ha => exact ⟨_, rfl, _, _, _, _, false, rfl, .ty _, tyx_D hv0, kit_ty (show kitB "list" "tuple" = some false by decide +kernel), _, rfl, iteT (iteT (k _ (Same.refl _)))⟩
    | @tup a xs ds hs ha =>
      refine ⟨_, rfl, _, _, _, _, true, rfl, .ty _, tyx_D hv0, kit_ty (show kitB "tuple" "tuple" = some true by decide +kernel), _, rfl, iteF ?_⟩
      have el := DpAll.len ha
      refine ⟨_, rfl, a, xs, rfl, .inr hs, fun hz => ⟨_, _, rfl, rfl, _, rfl, ?_⟩⟩
      have kk : ∀ b : Bool, (decide (1 ≤ ds.length) && decide (ds.length ≤ 60) && ds.all isEntry && decide (ds.map nameD).Nodup) = b → ∀ H', Same H H' → Q (.bl b) H' := fun b e H' s => e ▸ k H' s
      by_cases c1 : ¬ 1 ≤ ds.length
      · refine iteN (by walk_at "dec") ⟨_, rfl, iteT ?_⟩
        refine kk _ ?_ H (Same.refl _)
        rw [decide_eq_false c1]
        rfl
      have c1 := Decidable.not_not.mp c1
      refine iteP (by walk_at "dec") ⟨_, _, rfl, rfl, _, rfl, ?_⟩
      rw [el]
      by_cases c2 : ¬ ds.length ≤ 60
      · refine iteP (by walk_at "dec") ?_
        refine kk _ ?_ H (Same.refl _)
        rw [decide_eq_false c2]
        simp
      have c2 := Decidable.not_not.mp c2
      refine iteN (by walk_at "dec") ?_
      rw [decide_eq_true c1, decide_eq_true c2] at kk
      have small : ds.length ≤ sizeLine := Nat.le_of_lt (small1000 (by omega))
      refine ⟨_, rfl, a, rfl, ⟨_, hs⟩, fun D hD => lc_pure (ds.map fun d => V.bl (isEntry d)) hD (by rw [List.length_map]; exact small) (fun i H' hi s => ?_) (fun H' s => ⟨_, same_sqt s hs, by rw [List.length_map]; omega⟩) ?_ ?_⟩
      · rw [List.length_map] at hi
        exact ⟨xs, xs[i], same_sqt s hs, List.getElem?_eq_getElem (by omega)⟩
      · rintro i x H' H'' R Z hi s ⟨rfl, hy⟩ kR
        rw [List.length_map] at hi
        have hx := hy _ (same_sqt s hs)
        have hd : ds[i]? = some ds[i] := List.getElem?_eq_getElem hi
        obtain ⟨x', hx', dx⟩ := DpAll.get (DpAll_same s ha) hd
        have e : x' = x := by rw [hx'] at hx; exact Option.some.inj hx
        subst e
        refine ⟨rfl, ?_⟩
        exact ⟨_, rfl, x', _, rfl, dx, pre _ (List.getElem_mem hi), fun H3 s3 => kR _ _ (by rw [List.getElem?_map, hd]; rfl) s3⟩
      · intro H' s e
        refine ⟨D, ds.map isEntry, rfl, SqL.of (by rw [e, List.map_map]; rfl), _, rfl, ?_⟩
        rw [List.all_map]
        show (if (!(ds.all isEntry)) = true then _ else _)
        cases hE : ds.all isEntry with
        | false =>
          refine iteT (kk _ ?_ H' s)
          rw [hE]
          simp
        | true =>
          refine iteF ?_
          rw [hE] at kk
          have names : ∀ (i : Nat) (x : V), xs[i]? = some x → ∀ H2, Same H H2 → ∃ (t : Addr) (y1 y2 y3 y4 : V) (nm : Str), x = V.ref t ∧ SqT K H2 t [V.str nm, y1, y2, y3, y4] ∧ (ds.map nameD)[i]? = some nm := by
            intro i x hx H2 s2
            have hi : i < ds.length := by
              have := (List.getElem?_eq_some_iff.mp hx).1
              omega
            have hd : ds[i]? = some ds[i] := List.getElem?_eq_getElem hi
            obtain ⟨x', hx', dx⟩ := DpAll.get ha hd
            have e : x' = x := by rw [hx'] at hx; exact Option.some.inj hx
            subst e
            obtain ⟨n, k1, b1, b2, b3, hn⟩ := entry_name (List.all_eq_true.mp hE _ (List.getElem_mem hi))
            rw [hn] at dx
            cases dx with
            | @tup t ys _ ht hall =>
              have h5 := DpAll.len hall
              obtain ⟨y0, y1, y2, y3, y4, rfl⟩ := five (show ys.length = 5 from h5)
              cases hall with
              | cons q0 _ =>
                cases q0
                refine ⟨t, y1, y2, y3, y4, n, rfl, same_sqt s2 ht, ?_⟩
                rw [List.getElem?_map, hd, hn]
                rfl
          refine ⟨_, rfl, a, rfl, ⟨_, same_sqt s hs⟩, fun D2 hD2 => ?_⟩
          have nl : (ds.map nameD).length = ds.length := List.length_map _
          refine ⟨fun i m H2 => m = ds.length - i ∧ i ≤ ds.length ∧ Same H' H2 ∧ ∃ (S : Key → Bool) (n : Nat), H2 D2 = some (SetK P w D2 S n) ∧ (∀ j, S j = true ↔ j ∈ ((ds.map nameD).take i).map Sum.inr) ∧ n ≤ i ∧ (n = i ↔ ((ds.map nameD).take i).Nodup),
            ⟨ds.length, rfl, Nat.zero_le _, same_new hD2, _, _, upd_same, by simp, Nat.le_refl _, by simp⟩, ?_⟩
          rintro i m H2 ⟨rfl, hi, s2, S, n, hS, hm, hn, hnd⟩
          have sA := s.trans s2
          by_cases hlt : i < ds.length
          · refine .inr ⟨⟨xs, xs[i], same_sqt sA hs, List.getElem?_eq_getElem (by omega)⟩, fun H3 => Same H' H3 ∧ ∃ (S : Key → Bool) (n : Nat), H3 D2 = some (SetK P w D2 S n) ∧ (∀ j, S j = true ↔ j ∈ ((ds.map nameD).take (i + 1)).map Sum.inr) ∧ n ≤ i + 1 ∧ (n = i + 1 ↔ ((ds.map nameD).take (i + 1)).Nodup), fun H3 q => ⟨ds.length - (i + 1), by omega, rfl, hlt, q⟩, ?_⟩
            rintro x H3 ⟨rfl, hy⟩
            have hx := hy _ (same_sqt sA hs)
            obtain ⟨t, y1, y2, y3, y4, nm, rfl, ht, hnm⟩ := names i x hx H3 sA
            refine ⟨rfl, ?_⟩
            refine ⟨_, rfl, t, _, 0, _, rfl, rfl, ht, rfl, Sum.inr nm, S, n, rfl, hS, ?_, same_upd_new s2 hD2, _, _, upd_same, fun j => ?_, ?_, ?_⟩
            · have e : 1000 ≤ scanBound := by unfold scanBound; decide
              omega
            · rw [Bool.or_eq_true, decide_eq_true_eq, hm, take_snoc hnm, List.map_append, List.mem_append]
              exact ⟨fun z => z.imp id fun e => by simp [e], fun z => z.imp id fun e => by simpa using e⟩
            · split <;> omega
            · rw [take_snoc hnm]
              have mem : S (Sum.inr nm) = true ↔ nm ∈ (ds.map nameD).take i := by
                rw [hm, List.mem_map]
                constructor
                · rintro ⟨y, h1, h2⟩
                  cases h2
                  exact h1
                · exact fun h => ⟨nm, h, rfl⟩
              have nda : ((ds.map nameD).take i ++ [nm]).Nodup ↔ ((ds.map nameD).take i).Nodup ∧ nm ∉ (ds.map nameD).take i := by
                rw [List.nodup_append]
                simp
                intro _
                constructor
                · intro h hin
                  exact h nm hin rfl
                · intro h b hb e
                  exact h (e ▸ hb)
              rw [nda, ← hnd, ← mem]
              cases hSn : S (Sum.inr nm) with
              | true =>
                simp
                omega
              | false =>
                simp
          · have e : i = ds.length := by omega
            subst e
            refine .inl ⟨⟨xs, same_sqt sA hs, by omega⟩, D2, S, n, rfl, hS, ?_⟩
            refine ⟨_, rfl, a, xs, rfl, .inr (same_sqt sA hs), fun _ => ⟨rfl, ?_⟩⟩
            rw [show (ds.map nameD).take ds.length = ds.map nameD by rw [← nl, List.take_length]] at hnd
            have eq : decide (V.int (n : Nat) = V.int xs.length) = decide (ds.map nameD).Nodup := by
              rw [dec_int, el]
              by_cases z : n = ds.length
              · rw [decide_eq_true (hnd.mp z), z]
                simp
              · rw [decide_eq_false (fun q => z (hnd.mpr q))]
                simp
                omega
            rw [eq]
            exact kk _ (by simp) H2 sA
end
end Mg

set_option Elab.async false
set_option linter.all false
set_option maxRecDepth 100000
set_option maxHeartbeats 2000000
namespace Mg
open PySem L2
abbrev sAreLengths : Stmt := top 28
def cLIM : List (Int × Int) := [(0, 200), (1, 50), (0, 100), (0, 300), (0, 200), (0, 200), (0, 200), (1, 200)]
structure TxtL (K : PySem.W.Frag) (mg : Str → Option Value) (aL : Addr) : Prop extends TxtC mg where
  b_all : mg "all" = none
  b_zip : mg "zip" = none
  c_LENGTH_LIMITS : mg "LENGTH_LIMITS" = some (.ref aL)
  k_LIM : ∃ als : List Addr, als.length = 8 ∧ (∀ H, SqT K H aL (als.map V.ref)) ∧ ∀ (i : Nat) (a : Addr), als[i]? = some a → ∃ p : Int × Int, cLIM[i]? = some p ∧ ∀ H, SqT K H a [.int p.1, .int p.2]
def areLengths : PyData → Bool
  | .tuple ds => decide (ds.length = 8) && (List.zipWith (fun d (p : Int × Int) => isInt p.1 p.2 d) ds cLIM).all id
  | _ => false
section
variable {P : Program} {w : World} {K : PySem.W.Frag} {mg : Str → Option Value} {base : Heap} {aL : Addr}
def spAreLengths (K : PySem.W.Frag) : Sp := fun vs H Q _ => ∃ (v : V) (d : PyData), vs = [v] ∧ Dp K H v d ∧ ∀ H', Same H H' → Q (.bl (areLengths d)) H'
theorem scAreLengths : FnScope ["value", "n", "least", "most"] ["value"] (defScope sAreLengths) := ⟨rfl, rfl, rfl, by decide +kernel, rfl, by decide +kernel, by decide +kernel⟩
theorem ok_are_lengths {f : Addr} {fd : FuncData} (F : Fun K "are_lengths" "are_lengths" sAreLengths f fd) (T : TxtL K mg aL) (C_is_integer : Cal P w K mg base CX0 1 "is_integer" ["value", "least", "most"] (spIsInteger K)) : FnOk P w K mg base CX0 2 f fd ["value"] (spAreLengths K) := by
  have sc := scAreLengths
  refine F.ok scAreLengths (fun vs H Q E h => ?_) (fun cdv A outer s H vs Q E hr h => ?_)
  · obtain ⟨v, d, rfl, _⟩ := h
    rfl
  · obtain ⟨v, d, rfl, hv, k⟩ := h
    have hris_integer : Room 1 _ := hr.mono (by decide)
    refine ⟨_, (pss_cons (ps_if (PW.pt (pw_or (pt_not (pt_val (pe_callB call_isi (by rfl) T.b_isinstance (by decide +kernel) (pa_cons (pv 0) (pa_cons (pe_bltn (v := .ty "tuple") (by rfl) T.b_tuple PyProof.Rows.boot_tuple rfl) pa_nil))))) (pw_or1 (pt_cmpR op_ne (pe_callB call_len_sq (by rfl) T.b_len PySem.boot_len (pa_cons (pv 0) pa_nil)) (pe_callB call_len_sq (by rfl) T.b_len PySem.boot_len (pa_cons (pe_gref rfl T.c_LENGTH_LIMITS) pa_nil)) (nomark _)))))
  (pss_one (ps_ret pe_bl))
  pss_nil)
  (pss_one (ps_ret (pe_callB (cr_all rfl) (by rfl) T.b_all (by decide +kernel) (pa_cons (pe_lc (own := [("n", 1), ("least", 2), ("most", 3)]) (g := (gTup K 2 (gCons (gName 1) (gCons (gTup K 2 (gCons (gName 2) (gCons (gName 3) gNil))) gNil)))) rfl sc.nd (RZ.pi_zipA rfl T.b_zip (pa_cons (pv 0) (pa_cons (pe_gref rfl T.c_LENGTH_LIMITS) pa_nil))) (blkOk_by (own := [("n", 1), ("least", 2), ("most", 3)]) (N := ["value", "n", "least", "most"]) (sc := defScope sAreLengths) (by decide +kernel)) (fun _ _ _ _ _ => (pg_tup rfl (pgs_cons (pg_name (i := 1) sc.nd rfl (Or.inl rfl)) (pgs_cons (pg_tup rfl (pgs_cons (pg_name (i := 2) sc.nd rfl (Or.inl rfl)) (pgs_cons (pg_name (i := 3) sc.nd rfl (Or.inl rfl)) pgs_nil))) pgs_nil)))) (fun _ _ _ _ _ => pts_nil) (fun _ _ _ _ _ => (pe_cal C_is_integer hris_integer rfl pass0 (pa_cons (pv 1) (pa_cons (pv 2) (pa_cons (pv 3) pa_nil)))))) pa_nil))))), ?_⟩
    have hv0 := hv
    cases hv with
    | non => exact ⟨_, rfl, _, _, _, _, false, rfl, .ty _, tyx_D hv0, kit_ty (show kitB "NoneType" "tuple" = some false by decide +kernel), _, rfl, iteT (iteT (k _ (Same.refl _)))⟩
    | bl b => exact ⟨_, rfl, _, _, _, _, false, rfl, .ty _, tyx_D hv0, kit_ty (show kitB "bool" "tuple" = some false by decide +kernel), _, rfl, iteT (iteT (k _ (Same.refl _)))⟩
    | int b => exact ⟨_, rfl, _, _, _, _, false, rfl, .ty _, tyx_D hv0, kit_ty (show kitB "int" "tuple" = some false by decide +kernel), _, rfl, iteT (iteT (k _ (Same.refl _)))⟩
    | str x => exact ⟨_, rfl, _, _, _, _, false, rfl, .ty _, tyx_D hv0, kit_ty (show kitB "str" "tuple" = some false by decide +kernel), _, rfl, iteT (iteT (k _ (Same.refl _)))⟩
    | lst hs ha => exact ⟨_, rfl, _, _, _, _, false, rfl, .ty _, tyx_D hv0, kit_ty (show kitB "list" "tuple" = some false by decide +kernel), _, rfl, iteT (iteT (k _ (Same.refl _)))⟩
    | @tup a xs ds hs ha =>
      refine ⟨_, rfl, _, _, _, _, true, rfl, .ty _, tyx_D hv0, kit_ty (show kitB "tuple" "tuple" = some true by decide +kernel), _, rfl, iteF ?_⟩
      have el := DpAll.len ha
      obtain ⟨als, l8, hL, hA⟩ := T.k_LIM
      have hLl : (als.map V.ref).length = 8 := by rw [List.length_map]; exact l8
      refine ⟨_, rfl, a, xs, rfl, .inr hs, fun _ => ⟨aL, _, rfl, .inr (hL H), fun _ => ⟨rfl, _, rfl, ?_⟩⟩⟩
      rw [hLl]
      by_cases c : ¬ ds.length = 8
      · refine iteP (by simp only [Bool.not_eq_true', decide_eq_false_iff_not]; intro z; injection z with z; omega) ?_
        have q : Q (.bl (decide (ds.length = 8) && (List.zipWith (fun d (p : Int × Int) => isInt p.1 p.2 d) ds cLIM).all id)) H := k H (Same.refl _)
        rw [decide_eq_false c] at q
        exact q
      have c := Decidable.not_not.mp c
      refine iteN (by simp only [Bool.not_eq_true', Bool.not_eq_false, decide_eq_true_eq]; rw [el, c]) ?_
      have zl : (List.zipWith (fun d (p : Int × Int) => isInt p.1 p.2 d) ds cLIM).length = 8 := by rw [List.length_zipWith, c]; rfl
      refine ⟨_, rfl, a, aL, xs, als.map V.ref, rfl, .inr ⟨hs, hL H, fun D hD => ?_⟩⟩
      refine lc_pure ((List.zipWith (fun d (p : Int × Int) => isInt p.1 p.2 d) ds cLIM).map V.bl) hD (by rw [List.length_map, zl]; decide) (fun i H' hi s => ?_) (fun H' s => ?_) ?_ ?_
      · rw [List.length_map, zl] at hi
        exact ⟨xs, als.map V.ref, xs[i], V.ref als[i], same_sqt s hs, hL H', List.getElem?_eq_getElem (by omega), by rw [List.getElem?_map, List.getElem?_eq_getElem (by omega)]; rfl⟩
      · rw [List.length_map, zl]
        exact ⟨xs, als.map V.ref, same_sqt s hs, hL H', .inl (by omega)⟩
      · rintro i v H' H'' R Z hi s ⟨t, x, y, rfl, ht, rfl, hx, hy⟩ kR
        rw [List.length_map, zl] at hi
        have hx := hx _ (same_sqt s hs)
        have hy := hy _ (hL H')
        rw [List.getElem?_map, List.getElem?_eq_getElem (show i < als.length by omega)] at hy
        have ey : V.ref als[i] = y := Option.some.inj hy
        subst ey
        obtain ⟨p, hp, hS⟩ := hA i als[i] (List.getElem?_eq_getElem (by omega))
        have sS : Same H (upd H' t (.tup [x, V.ref als[i]])) := s.trans (same_new ht)
        have hd : ds[i]? = some ds[i] := List.getElem?_eq_getElem (by omega)
        obtain ⟨x', hx', dx⟩ := DpAll.get (DpAll_same sS ha) hd
        have e : x' = x := by rw [hx'] at hx; exact Option.some.inj hx
        subst e
        refine ⟨t, _, rfl, SqT.of upd_same, rfl, x', _, rfl, V.ref als[i], _, rfl, als[i], _, rfl, hS _, rfl, V.int p.1, _, rfl, V.int p.2, _, rfl, rfl, rfl, rfl, ?_⟩
        refine ⟨_, rfl, _, rfl, _, rfl, x', _, p.1, p.2, rfl, dx, kR _ _ ?_ (same_new ht)⟩
        rw [List.getElem?_map, List.getElem?_zipWith, hd, hp]
        rfl
      · intro H' s e
        refine ⟨D, _, rfl, SqL.of e, ?_⟩
        have q : Q (.bl (decide (ds.length = 8) && (List.zipWith (fun d (p : Int × Int) => isInt p.1 p.2 d) ds cLIM).all id)) H' := k H' s
        rw [decide_eq_true c, Bool.true_and] at q
        exact q
end
end Mg

set_option Elab.async false
set_option linter.all false
set_option maxRecDepth 100000
set_option maxHeartbeats 2000000
namespace Mg
open PySem L2
abbrev sScaled : Stmt := top 23
abbrev sFInit : Stmt := inClass (top 24) 0
/-! ### scaled -/
def scN (n s : Int) : Int := if s = 2 then 7 * n / 10 else if s = 3 then n / 2 else n
section
variable {P : Program} {w : World} {K : PySem.W.Frag} {mg : Str → Option Value} {base : Heap}
def spScaled : Sp := fun vs H Q _ => ∃ n s : Int, vs = [.int n, .int s] ∧ Q (.int (scN n s)) H
theorem scScaled : FnScope ["number", "style"] ["number", "style"] (defScope sScaled) := ⟨rfl, rfl, rfl, by decide +kernel, rfl, by decide +kernel, by decide +kernel⟩
theorem ok_scaled {f : Addr} {fd : FuncData} (F : Fun K "scaled" "scaled" sScaled f fd) : FnOk P w K mg base CX0 1 f fd ["number", "style"] spScaled := by
  have sc := scScaled
  refine F.ok scScaled (fun vs H Q E h => ?_) (fun cdv A outer s H vs Q E hr h => ?_)
  · obtain ⟨n, st, rfl, _⟩ := h
    rfl
  · obtain ⟨n, st, rfl, k⟩ := h
    refine ⟨_, (pss_cons (ps_if (pt_cmpR op_eq (pv 1) pe_int (nomark _))
  (pss_one (ps_ret (pe_op op_fdiv (pe_op op_mul pe_int (pv 0)) pe_int)))
  pss_nil)
  (pss_cons (ps_if (pt_cmpR op_eq (pv 1) pe_int (nomark _))
  (pss_one (ps_ret (pe_op op_fdiv (pv 0) pe_int)))
  pss_nil)
  (pss_one (ps_ret (pv 0))))), ?_⟩
    unfold scN at k
    refine ⟨_, rfl, rfl, _, rfl, ?_⟩
    by_cases c : st = 2
    · refine iteP (by simp [c]) ?_
      rw [if_pos c] at k
      exact ⟨_, rfl, _, _, rfl, rfl, .inl ⟨by decide, by decide⟩, _, _, rfl, rfl, ⟨by decide, by decide⟩, k⟩
    · refine iteN (by simp [c]) ?_
      rw [if_neg c] at k
      refine ⟨_, rfl, rfl, _, rfl, ?_⟩
      by_cases d : st = 3
      · refine iteP (by simp [d]) ?_
        rw [if_pos d] at k
        exact ⟨_, rfl, _, _, rfl, rfl, ⟨by decide, by decide⟩, k⟩
      · refine iteN (by simp [d]) ?_
        rw [if_neg d] at k
        exact ⟨_, rfl, k⟩
end
/-! ### a font -/
structure Sym where
  nm : Str
  cl : Str
  wd : Int
  ht : Int
  dp : Int
def Sym.vs (s : Sym) : List V := [.str s.nm, .str s.cl, .int s.wd, .int s.ht, .int s.dp]
def Sym.d (s : Sym) : PyData := .tuple [.str s.nm, .str s.cl, .int s.wd, .int s.ht, .int s.dp]
def symsD (ss : List Sym) : PyData := .tuple (ss.map Sym.d)
def lensD (ls : List Int) : PyData := .tuple (ls.map .int)
theorem nSL : ¬ (("symbols" : Str) = "lengths") := by decide +kernel
theorem nSE : ¬ (("symbols" : Str) = "_entries") := by decide +kernel
theorem nLE : ¬ (("lengths" : Str) = "_entries") := by decide +kernel
def ff (vs vl : V) (e : Addr) : List (Str × V) := putF "_entries" (.ref e) (putF "lengths" vl (putF "symbols" vs []))
theorem ff_sym (vs vl : V) (e : Addr) : (ff vs vl e).lookup ("symbols" : Str) = some vs := by
  unfold ff
  rw [lookup_putF, if_neg nSE, lookup_putF, if_neg nSL, lookup_putF, if_pos rfl]
theorem ff_len (vs vl : V) (e : Addr) : (ff vs vl e).lookup ("lengths" : Str) = some vl := by
  unfold ff
  rw [lookup_putF, if_neg nLE, lookup_putF, if_pos rfl]
theorem ff_ent (vs vl : V) (e : Addr) : (ff vs vl e).lookup ("_entries" : Str) = some (.ref e) := by
  unfold ff
  rw [lookup_putF, if_pos rfl]
theorem ff_no (vs vl : V) (e : Addr) {m : Str} (h1 : ¬ m = "symbols") (h2 : ¬ m = "lengths") (h3 : ¬ m = "_entries") : (ff vs vl e).lookup m = none := by
  unfold ff
  rw [lookup_putF, if_neg h3, lookup_putF, if_neg h2, lookup_putF, if_neg h1]
  rfl
def look (ss : List Sym) (x : Str) : Option Sym := ss.find? fun s => s.nm == x
/-- a Font of these symbols and lengths stands at p -/
structure FontAt (K : PySem.W.Frag) (C : Addr) (H : Hp) (p : Addr) (va vl : V) (ss : List Sym) (ls : List Int) : Prop where
  good : areSymbols (symsD ss) = true ∧ areLengths (lensD ls) = true
  syms : Tp K H va (symsD ss)
  lens : Tp K H vl (lensD ls)
  ob : ∃ (dx e : Addr) (kvs : List (Key × V)), H p = some (.ins C dx (ff va vl e)) ∧ H e = some (.dK kvs) ∧
    (∀ x s, look ss x = some s → ∃ t, valV kvs (Sum.inr x : Key) = some (.ref t) ∧ SqT K H t s.vs) ∧ ∀ x, look ss x = none → valV kvs (Sum.inr x : Key) = none
section
variable {K : PySem.W.Frag} {C : Addr} {H H' : Hp} {p pl : Addr} {va vl : V} {ss : List Sym} {ls : List Int} {xs : List V}
theorem FontAt.same (F : FontAt K C H p va vl ss ls) (s : Same H H') : FontAt K C H' p va vl ss ls := by
  obtain ⟨g, a, b, dx, e, kvs, h1, h2, h3, h4⟩ := F
  refine ⟨g, a.stay (TupK.of s), b.stay (TupK.of s), dx, e, kvs, s _ _ h1, s _ _ h2, fun x y hx => ?_, h4⟩
  obtain ⟨t, q1, q2⟩ := h3 x y hx
  exact ⟨t, q1, same_sqt s q2⟩
theorem FontAt.keep (F : FontAt K C H p va vl ss ls) (s : KeepB pl H H') (hp : H pl = some (.lst xs)) : FontAt K C H' p va vl ss ls := by
  obtain ⟨g, a, b, dx, e, kvs, h1, h2, h3, h4⟩ := F
  have tk := TupK.keep s hp
  refine ⟨g, a.stay tk, b.stay tk, dx, e, kvs, s _ _ h1 (ne_of h1 hp (by intro z; cases z)), s _ _ h2 (ne_of h2 hp (by intro z; cases z)), fun x y hx => ?_, h4⟩
  obtain ⟨t, q1, q2⟩ := h3 x y hx
  exact ⟨t, q1, tk.seq q2⟩
end
/-- data that are good symbols are some -/
theorem syms_of : ∀ {ds : List PyData}, ds.all isEntry = true → ∃ ss : List Sym, ds = ss.map Sym.d
  | [], _ => ⟨[], rfl⟩
  | d :: ds, h => by
    rw [List.all_cons, Bool.and_eq_true] at h
    obtain ⟨ss, e⟩ := syms_of h.2
    obtain ⟨n, k, a, b, c, rfl⟩ := entry_name h.1
    have q : (isName (.str n) && (isKind k && (isInt 0 1000 a && (isInt 0 1000 b && isInt 0 1000 c)))) = true := h.1
    simp only [Bool.and_eq_true] at q
    obtain ⟨_, q1, q2, q3, q4⟩ := q
    have ik : ∀ {d : PyData}, isKind d = true → ∃ s, d = .str s := fun {d} z => by
      cases d <;> first | exact ⟨_, rfl⟩ | cases z
    have ii : ∀ {d : PyData}, isInt 0 1000 d = true → ∃ s, d = .int s := fun {d} z => by
      cases d <;> first | exact ⟨_, rfl⟩ | cases z
    obtain ⟨k, rfl⟩ := ik q1
    obtain ⟨a, rfl⟩ := ii q2
    obtain ⟨b, rfl⟩ := ii q3
    obtain ⟨c, rfl⟩ := ii q4
    exact ⟨⟨n, k, a, b, c⟩ :: ss, by rw [e]; rfl⟩
theorem lens_of {d : PyData} (h : areLengths d = true) : ∃ ls : List Int, d = lensD ls ∧ ls.length = 8 := by
  unfold areLengths at h
  split at h
  · rename_i ds
    rw [Bool.and_eq_true, decide_eq_true_eq] at h
    obtain ⟨h1, h2⟩ := h
    have all : ∀ (ps : List (Int × Int)) (ds : List PyData), ps.length = ds.length → (List.zipWith (fun d (p : Int × Int) => isInt p.1 p.2 d) ds ps).all id = true → ∃ ls : List Int, ds = ls.map .int := by
      intro ps
      induction ps with
      | nil =>
        intro ds hl _
        cases ds with
        | nil => exact ⟨[], rfl⟩
        | cons _ _ => simp at hl
      | cons p ps ih =>
        intro ds hl hz
        cases ds with
        | nil => simp at hl
        | cons d ds =>
          rw [List.zipWith_cons_cons, List.all_cons, Bool.and_eq_true] at hz
          obtain ⟨ls, e⟩ := ih ds (by simpa using hl) hz.2
          have hd : isInt p.1 p.2 d = true := hz.1
          cases d with
          | int i => exact ⟨i :: ls, by rw [e]; rfl⟩
          | none => cases hd
          | bool _ => cases hd
          | str _ => cases hd
          | list _ => cases hd
          | tuple _ => cases hd
          | dict _ => cases hd
    obtain ⟨ls, e⟩ := all cLIM ds (by rw [h1]; rfl) h2
    exact ⟨ls, by rw [e]; rfl, by rw [e, List.length_map] at h1; exact h1⟩
  · cases h
theorem tp_sym {K : PySem.W.Frag} {H : Hp} {v : V} {s : Sym} (h : Dp K H v s.d) : ∃ t, v = .ref t ∧ SqT K H t s.vs := by
  cases h with
  | @tup a xs _ hs ha =>
    cases ha with
    | cons d1 ha => cases ha with
    | cons d2 ha => cases ha with
    | cons d3 ha => cases ha with
    | cons d4 ha => cases ha with
    | cons d5 ha =>
      cases ha
      cases d1
      cases d2
      cases d3
      cases d4
      cases d5
      exact ⟨a, rfl, hs⟩
theorem tp_ints {K : PySem.W.Frag} {H : Hp} {v : V} {ls : List Int} (h : Dp K H v (lensD ls)) : ∃ a, v = .ref a ∧ SqT K H a (ls.map V.int) := by
  have key : ∀ {ls : List Int} {xs : List V}, DpAll K H xs (ls.map .int) → xs = ls.map V.int := by
    intro ls
    induction ls with
    | nil =>
      intro xs h
      cases h
      rfl
    | cons i ls ih =>
      intro xs h
      cases h with
      | cons d r =>
        cases d
        rw [ih r]
        rfl
  cases h with
  | @tup a xs _ hs ha =>
    rw [key ha] at hs
    exact ⟨a, rfl, hs⟩
theorem ints_tp {K : PySem.W.Frag} {H : Hp} {a : Addr} {ls : List Int} (h : SqT K H a (ls.map V.int)) : Tp K H (.ref a) (lensD ls) := by
  refine .tup h (by rw [List.length_map, List.length_map]) fun i x d hx hd => ?_
  rw [List.getElem?_map] at hx hd
  cases e : ls[i]? with
  | none => rw [e] at hx; cases hx
  | some z =>
    rw [e] at hx hd
    cases Option.some.inj hx
    cases Option.some.inj hd
    exact .int z
theorem sym_tp {K : PySem.W.Frag} {H : Hp} {t : Addr} {s : Sym} (h : SqT K H t s.vs) : Tp K H (.ref t) s.d := by
  refine .tup h rfl fun i x d hx hd => ?_
  match i with
  | 0 => cases Option.some.inj hx; cases Option.some.inj hd; exact .str _
  | 1 => cases Option.some.inj hx; cases Option.some.inj hd; exact .str _
  | 2 => cases Option.some.inj hx; cases Option.some.inj hd; exact .int _
  | 3 => cases Option.some.inj hx; cases Option.some.inj hd; exact .int _
  | 4 => cases Option.some.inj hx; cases Option.some.inj hd; exact .int _
  | n + 5 => cases hx
end Mg

set_option Elab.async false
set_option linter.all false
set_option maxRecDepth 100000
set_option maxHeartbeats 2000000
namespace Mg
open PySem L2
/-- an error class without an own __init__, over ValueError by own classes -/
structure ExB (K : PySem.W.Frag) (mg : Str → Option Value) (x : Str) (C : Addr) : Prop where
  g : mg x = some (.ref C)
  x : PySem.W.excIn K C [.type "ValueError", .type "Exception", .type "BaseException", .type "object"] "ValueError.__new__" = true
  k : PySem.W.keepIn K (.ref C) = true
  b : PySem.W.subIn K (.ref C) (.type "BaseException") = some true
  t : PySem.W.typeIn K (.ref C) = some (.type "type")
structure TxtO (K : PySem.W.Frag) (C : Addr) : Prop where
  cl : Cls K C
  nS : NoAttr K C "symbols"
  nL : NoAttr K C "lengths"
  nE : NoAttr K C "_entries"
section
variable {P : Program} {w : World} {K : PySem.W.Frag} {mg : Str → Option Value} {base : Heap} {CF CB : Addr}
def spFInit (K : PySem.W.Frag) (CF CB : Addr) : Sp := fun vs H Q E => ∃ (p dx : Addr) (va vl : V) (d l : PyData), vs = [.ref p, va, vl] ∧ H p = some (.ins CF dx []) ∧ Dp K H va d ∧ Dp K H vl l ∧ PreS d ∧
  ((areSymbols d && areLengths l) = true → ∀ H' ss ls, d = symsD ss → l = lensD ls → KeepB p H H' → FontAt K CF H' p va vl ss ls → Q .non H') ∧ ((areSymbols d && areLengths l) = false → ∀ H', Same H H' → E (.ref CB) none H')
theorem scFInit : FnScope ["self", "symbols", "lengths", "entry"] ["self", "symbols", "lengths"] (defScope sFInit) := ⟨rfl, rfl, rfl, by decide +kernel, rfl, by decide +kernel, by decide +kernel⟩
theorem ff_few (vs vl : V) (e : Addr) : ∃ n, n < 1000 ∧ (putF "lengths" vl (putF "symbols" vs [])).length ≤ n := ⟨2, by decide, Nat.le_trans (length_putF _ _ _) (Nat.succ_le_succ (Nat.le_trans (length_putF _ _ _) (Nat.le_refl _)))⟩
theorem ok_finit {f : Addr} {fd : FuncData} (F : Fun K "__init__" "Font.__init__" sFInit f fd) (T : TxtO K CF) (B : ExB K mg "BadFont" CB) (C_are_symbols : Cal P w K mg base CX0 4 "are_symbols" ["value"] (spAreSymbols K))
    (C_are_lengths : Cal P w K mg base CX0 2 "are_lengths" ["value"] (spAreLengths K)) : FnOk P w K mg base (L2.CX P w) 5 f fd ["self", "symbols", "lengths"] (spFInit K CF CB) := by
  have sc := scFInit
  refine F.okX scFInit (fun vs H Q E h => ?_) (fun cdv A outer s H vs Q E hr h => ?_)
  · obtain ⟨p, dx, va, vl, d, l, rfl, _⟩ := h
    rfl
  · obtain ⟨p, dx, va, vl, d, l, rfl, hp, hd, hl, pre, kQ, kE⟩ := h
    have hrare_symbols : Room 4 _ := hr.mono (by decide)
    have hrare_lengths : Room 2 _ := hr.mono (by decide)
    refine ⟨_, (pss_cons (ps_if (PW.pt (pw_or (pt_not (pt_val (pe_cal C_are_symbols hrare_symbols rfl pass0 (pa_cons (pv 1) pa_nil)))) (pw_or1 (pt_not (pt_val (pe_cal C_are_lengths hrare_lengths rfl pass0 (pa_cons (pv 2) pa_nil)))))))
  (pss_one (ps_raise rfl (takes_of rfl rfl rfl rfl) (pmk_own PySem.F.excBase_ValueError B.x B.g B.k (raises_own B.b B.t) rfl)))
  pss_nil)
  (pss_cons (ps_fld (pv 0) (pv 1) rfl)
  (pss_cons (ps_fld (pv 0) (pv 2) rfl)
  (pss_one (ps_fld (pv 0) (pe_dc (own := [("entry", 3)]) rfl sc.nd (pi_tup (pv 1)) (blkOk_by (own := [("entry", 3)]) (N := ["self", "symbols", "lengths", "entry"]) (sc := defScope sFInit) (by decide +kernel)) (fun _ _ _ _ _ => (pg_name (i := 3) sc.nd rfl (Or.inl rfl))) (fun _ _ _ _ _ => pts_nil) (fun _ _ _ _ _ => (pe_ix (r := rIxT K) ix_tup (pv 3) pe_int (fun _ _ => rfl))) (fun _ _ _ _ _ => (pv 3))) rfl))))), ?_⟩
    refine ⟨_, rfl, va, d, rfl, hd, pre, fun H1 s1 => ⟨_, rfl, ?_⟩⟩
    cases hS : areSymbols d with
    | false =>
      rw [hS] at kE
      exact iteT (iteT (kE rfl H1 s1))
    | true =>
      refine iteF ?_
      refine ⟨_, rfl, vl, l, rfl, Dp_same s1 hl, fun H2 s2 => ⟨_, rfl, ?_⟩⟩
      have s12 := s1.trans s2
      cases hL : areLengths l with
      | false =>
        rw [hS, hL] at kE
        exact iteT (kE rfl H2 s12)
      | true =>
        refine iteF ?_
        rw [hS, hL] at kQ
        obtain ⟨ds, rfl⟩ : ∃ ds, d = .tuple ds := by
          cases d with
          | tuple ds => exact ⟨ds, rfl⟩
          | none => cases hS
          | bool _ => cases hS
          | int _ => cases hS
          | str _ => cases hS
          | list _ => cases hS
          | dict _ => cases hS
        have hS' := hS
        simp only [areSymbols, Bool.and_eq_true, decide_eq_true_eq] at hS'
        obtain ⟨⟨⟨c1, c2⟩, c3⟩, c4⟩ := hS'
        obtain ⟨ss, rfl⟩ := syms_of c3
        obtain ⟨ls, rfl, l8⟩ := lens_of hL
        have hd2 := Dp_same s12 hd
        have hl2 := Dp_same s12 hl
        obtain ⟨al, rfl, hal⟩ := tp_ints hl2
        cases hd2 with
        | @tup a xs _ hs ha =>
        have el := DpAll.len ha
        rw [List.length_map] at el c1 c2
        have ent : ∀ (i : Nat) (s : Sym), ss[i]? = some s → ∃ t, xs[i]? = some (V.ref t) ∧ SqT K H2 t s.vs := by
          intro i s e
          obtain ⟨v, h1, h2⟩ := DpAll.get ha (show (ss.map Sym.d)[i]? = some s.d by rw [List.getElem?_map, e]; rfl)
          obtain ⟨t, rfl, h3⟩ := tp_sym h2
          exact ⟨t, h1, h3⟩
        have nd : (ss.map (·.nm)).Nodup := by
          rw [List.map_map] at c4
          exact c4
        have hp2 := s12 _ _ hp
        have np : ∀ {b : Addr} {o : HO}, H2 b = some o → (∀ c x fs, o ≠ .ins c x fs) → b ≠ p := fun h n => ne_of h hp2 (n _ _ _)
        obtain ⟨n2, n2l, n2e⟩ := ff_few (.ref a) (.ref al) a
        refine ⟨_, rfl, _, rfl, p, CF, dx, [], rfl, hp2, T.cl, T.nS, (by show 0 < 1000; decide), ?_⟩
        refine ⟨_, rfl, _, rfl, p, CF, dx, _, rfl, upd_same, T.cl, T.nL, Nat.lt_of_le_of_lt (length_putF _ _ _) (by show 0 + 1 < 1000; decide), ?_⟩
        rw [upd_upd]
        generalize hH3 : upd H2 p (.ins CF dx (putF "lengths" (.ref al) (putF "symbols" (.ref a) []))) = H3
        have k3 : KeepB p H2 H3 := hH3 ▸ keep_upd
        have h3p : H3 p = some (.ins CF dx (putF "lengths" (.ref al) (putF "symbols" (.ref a) []))) := by rw [← hH3, upd_same]
        have tk : TupK H2 H3 := fun b ys hb => by
          rcases hb with hb | ⟨o, hb⟩
          · exact .inl (k3 _ _ hb (np hb fun _ _ _ z => nomatch z))
          · exact .inr ⟨o, k3 _ _ hb (np hb fun _ _ _ z => nomatch z)⟩
        refine ⟨_, rfl, a, rfl, ⟨_, tk.seq hs⟩, fun D hD => ?_⟩
        refine ⟨fun i m H4 => m = ss.length - i ∧ i ≤ ss.length ∧ Same H3 H4 ∧ ∃ kvs : List (Key × V), H4 D = some (.dK kvs) ∧ kvs.length ≤ i ∧ (∀ (j : Nat) (s : Sym), j < i → ss[j]? = some s → ∃ t, valV kvs (Sum.inr s.nm : Key) = some (.ref t) ∧ SqT K H4 t s.vs) ∧
            ∀ x, (∀ (j : Nat) (s : Sym), j < i → ss[j]? = some s → s.nm ≠ x) → valV kvs (Sum.inr x : Key) = none,
          ⟨ss.length, rfl, Nat.zero_le _, same_new hD, [], upd_same, Nat.le_refl _, fun _ _ h => absurd h (Nat.not_lt_zero _), fun _ _ => rfl⟩, ?_⟩
        rintro i m H4 ⟨rfl, hi, s4, kvs, hK, hlen, hin, hno⟩
        have q4 := (tk.trans (TupK.of s4)).seq hs
        by_cases hlt : i < ss.length
        · refine .inr ⟨⟨xs, xs[i], q4, List.getElem?_eq_getElem (by omega)⟩, fun H5 => Same H3 H5 ∧ ∃ kvs : List (Key × V), H5 D = some (.dK kvs) ∧ kvs.length ≤ i + 1 ∧ (∀ (j : Nat) (s : Sym), j < i + 1 → ss[j]? = some s → ∃ t, valV kvs (Sum.inr s.nm : Key) = some (.ref t) ∧ SqT K H5 t s.vs) ∧
              ∀ x, (∀ (j : Nat) (s : Sym), j < i + 1 → ss[j]? = some s → s.nm ≠ x) → valV kvs (Sum.inr x : Key) = none, fun H5 q => ⟨ss.length - (i + 1), by omega, rfl, hlt, q⟩, ?_⟩
          rintro x H5 ⟨rfl, hy⟩
          have hs0 : ss[i]? = some ss[i] := List.getElem?_eq_getElem hlt
          obtain ⟨t, ht, hq⟩ := ent i _ hs0
          have hx := hy _ q4
          rw [ht] at hx
          cases Option.some.inj hx
          have hq4 := (tk.trans (TupK.of s4)).seq hq
          refine ⟨rfl, ?_⟩
          refine ⟨_, rfl, t, _, 0, _, rfl, rfl, hq4, rfl, _, rfl, kvs, Sum.inr ss[i].nm, rfl, hK, small1000 (by omega), same_upd_new s4 hD, _, upd_same, ?_, ?_, ?_⟩
          · have := length_putK kvs (Sum.inr ss[i].nm : Key) (V.ref t)
            omega
          · intro j s hj hsj
            rw [valV_put]
            have nD : ∀ {b : Addr} {ys : List V}, SqT K H5 b ys → SqT K (upd H5 D (.dK (putK kvs (Sum.inr ss[i].nm) (V.ref t)))) b ys := fun {b ys} z => by
              rcases z with (z | ⟨o, z⟩) | z
              · exact .inl (.inl (by rw [upd_ne (ne_of z hK (by intro q; cases q))]; exact z))
              · exact .inl (.inr ⟨o, by rw [upd_ne (ne_of z hK (by intro q; cases q))]; exact z⟩)
              · exact .inr z
            by_cases e : j = i
            · subst e
              rw [hs0] at hsj
              cases Option.some.inj hsj
              rw [if_pos rfl]
              exact ⟨t, rfl, nD hq4⟩
            · have hne : ¬ (Sum.inr s.nm : Key) = Sum.inr ss[i].nm := fun z => by
                have z' : s.nm = ss[i].nm := Sum.inr.inj z
                have h1 : (ss.map (·.nm))[j]? = some s.nm := by rw [List.getElem?_map, hsj]; rfl
                have h2 : (ss.map (·.nm))[i]? = some s.nm := by rw [List.getElem?_map, hs0, z']; rfl
                exact e (nd_ix nd h1 h2)
              rw [if_neg hne]
              obtain ⟨t', a1, a2⟩ := hin j s (by omega) hsj
              exact ⟨t', a1, nD a2⟩
          · intro x hx2
            rw [valV_put, if_neg (fun z => hx2 i _ (Nat.lt_succ_self _) hs0 (Sum.inr.inj z).symm)]
            exact hno x fun j s hj => hx2 j s (by omega)
        · have e : i = ss.length := by omega
          subst e
          refine .inl ⟨⟨xs, q4, by omega⟩, ?_⟩
          have hp4 := s4 _ _ h3p
          refine ⟨_, rfl, p, CF, dx, _, rfl, hp4, T.cl, T.nE, Nat.lt_of_le_of_lt n2e n2l, ?_⟩
          have nDp : D ≠ p := ne_of hK hp4 (by intro z; cases z)
          have tk4 : TupK H2 (upd H4 p (.ins CF dx (putF "_entries" (.ref D) (putF "lengths" (.ref al) (putF "symbols" (.ref a) []))))) := (tk.trans (TupK.of s4)).trans fun b ys hb => by
            rcases hb with hb | ⟨o, hb⟩
            · exact .inl (by rw [upd_ne (ne_of hb hp4 (by intro z; cases z))]; exact hb)
            · exact .inr ⟨o, by rw [upd_ne (ne_of hb hp4 (by intro z; cases z))]; exact hb⟩
          refine kQ rfl _ ss ls rfl rfl ?_ ⟨⟨hS, hL⟩, ?_, ints_tp (tk4.seq hal), dx, D, kvs, upd_same, by rw [upd_ne nDp]; exact hK, ?_, ?_⟩
          · intro b o hb hne
            rw [upd_ne hne]
            exact s4 _ _ (k3 _ _ (s12 _ _ hb) hne)
          · refine .tup (tk4.seq hs) (by rw [List.length_map]; exact el) fun j x dd hx hdd => ?_
            rw [List.getElem?_map] at hdd
            cases e : ss[j]? with
            | none => rw [e] at hdd; cases hdd
            | some sy =>
              rw [e] at hdd
              cases Option.some.inj hdd
              obtain ⟨t, ht, hq⟩ := ent j sy e
              rw [ht] at hx
              cases Option.some.inj hx
              exact sym_tp (tk4.seq hq)
          · intro x sy hx
            have hm := List.mem_of_find?_eq_some hx
            have hn : sy.nm = x := by simpa using List.find?_some hx
            obtain ⟨j, hj⟩ := List.getElem?_of_mem hm
            obtain ⟨t, a1, a2⟩ := hin j sy (List.getElem?_eq_some_iff.mp hj).1 hj
            rw [hn] at a1
            refine ⟨t, a1, ?_⟩
            rcases a2 with (z | ⟨o, z⟩) | z
            · exact .inl (.inl (by rw [upd_ne (ne_of z hp4 (by intro q; cases q))]; exact z))
            · exact .inl (.inr ⟨o, by rw [upd_ne (ne_of z hp4 (by intro q; cases q))]; exact z⟩)
            · exact .inr z
          · intro x hx
            refine hno x fun j s _ hj e => ?_
            have q := List.find?_eq_none.mp hx s (List.mem_of_getElem? hj)
            simp [e] at q
end
end Mg

set_option Elab.async false
set_option linter.all false
set_option maxRecDepth 100000
set_option maxHeartbeats 4000000
namespace PySem
namespace MgU
open PySem.W PySem.Calls PyProof.Rows PySem.HandSPX
/-! an own error below ValueError: __init__(self, name): super().__init__(f'..{name}'); self.name = name -/
def iA (p1 p2 : Pos) : Arguments := { posonlyargs := [], args := [{ arg := "self", annotation := none, pos := p1 }, { arg := "name", annotation := none, pos := p2 }], vararg := none, kwonlyargs := [], kw_defaults := [], kwarg := none, defaults := [] }
def iB (pre : Str) (a1 a2 a3 a4 a5 a6 a7 a8 a9 b1 b2 b3 b4 : Pos) : List Stmt :=
  [.Expr (.Call (.Attribute (.Call (.Name "super" a1) [] [] a2) "__init__" a3) [.JoinedStr [.Constant (.str pre) 0 a4, .FormattedValue (.Name "name" a5) (-1) none a6] a7] [] a8) a9,
   .Assign [.Attribute (.Name "self" b1) "name" b2] (.Name "name" b3) b4]
def iS : Scope := { kind := .function, names := [(PySem.Str.ofString "self", .local), (PySem.Str.ofString "name", .local), (PySem.Str.ofString "__class__", .free), (PySem.Str.ofString "super", .globalImplicit)], isGenerator := false, isCoroutine := false, more := [] }
structure UTxt (prog : Program) (K : Frag) (mg : Str → Option Value) (nm qi pre : Str) (C fI cc : Addr) : Prop where
  gC : mg nm = some (.ref C)
  cls : ∃ nm q N bs bm sn sub ab col dd k0 k1 k2 k3 k5, K.lookup C = some (excClassObj nm q C N bs bm true sn sub ab col dd k0 k1 k2 k3 k5 "ValueError.__new__") ∧ refsVE bm = true
  sa : findIn K (.ref C) "__setattr__" = some (some (.builtin "object.__setattr__"))
  noN : findIn K (.ref C) "name" = some none
  iC : findIn K (.ref C) "__init__" = some (some (.ref fI))
  tC : typeIn K (.ref fI) = some (.type "function")
  kC : keepIn K (.ref C) = true
  exC : subIn K (.ref C) (.type "BaseException") = some true
  tyC : typeIn K (.ref C) = some (.type "type")
  hC : subIn K (.ref C) (.type "ValueError") = some true
  alg : ks_superIn K C C "__init__" = some (some (.builtin "ValueError.__init__"))
  op : nsIn K cStatics "thirdparty.any" = some none
  cell : ∃ cl cld csl, K.lookup cc = some ⟨cl, cld, .cell (some (.ref C)), csl⟩
  sup : mg "super" = none
  own : mroIn K C (.ref C) = some true
  htop : (prog.main.scope.names.lookup ("super" : Str)).isSome = false
  fn : ∃ (oc : Value) (od : Option Addr) (doc pm : Value) (an : Option Addr) (cda : Addr) (ct : Value) (osl : Array (Option Value)) (p1 p2 a1 a2 a3 a4 a5 a6 a7 a8 a9 b1 b2 b3 b4 : Pos),
    K.lookup fI = some ⟨oc, od, .func (ksFn "__init__" qi (iA p1 p2) (iB pre a1 a2 a3 a4 a5 a6 a7 a8 a9 b1 b2 b3 b4) iS .none .none doc pm an (.ref cda) ct cc), osl⟩ ∧ codeIn K (.ref cda) qi = true ∧ (a3.endLine == a8.line) = true ∧
    ∃ ccl cdd vs ccs file tf, K.lookup cda = some ⟨ccl, cdd, .fields vs, ccs⟩ ∧ vs[2]? = some (.str file tf) ∧ ((prog.main.file : Str) == file) = true
theorem kept_but {K : Frag} {h h' : Heap} {x : Addr} (X : K.In h) (hx : K.lookup x = none) (k : ∀ b o, b ≠ x → h.get? b = some o → h'.get? b = some o) : K.In h' := fun a o e =>
  k a o (fun z => by rw [z, hx] at e; cases e) (X a o e)
theorem one_size (v : Value) : [v].length ≤ sizeLine := by
  rw [sizeLine_eq]
  exact (by decide : 1 ≤ 16777216)
structure InitEnd (h h' : Heap) (x C dx : Addr) (v : Value) : Prop where
  keep : ∀ b o, b ≠ x → h.get? b = some o → h'.get? b = some o
  obj : ∃ t1, h'.get? x = some { cls := .ref C, dict := some dx, data := .fields #[.ref t1, .none, .none, .none, .bool false, .none] }
  dbig : h.objs.size ≤ dx
  dne : dx ≠ x
  ns : h'.Ns1 dx (fun y => if y = "name" then some v else none)
structure OwnMade (h h' : Heap) (e C d : Addr) (v : Value) : Prop where
  keep : ∀ b o, h.get? b = some o → h'.get? b = some o
  new : h.objs.size ≤ e
  obj : ∃ oe vs, h'.get? e = some oe ∧ oe.cls = .ref C ∧ oe.dict = some d ∧ oe.data = .fields vs ∧ vs[1]? = some .none
  dbig : h.objs.size ≤ d
  dne : d ≠ e
  ns : h'.Ns1 d (fun y => if y = "name" then some v else none)
theorem call_eq {env : Env} {pre : Str} {a1 a2 a3 a4 a5 a6 a7 a8 : Pos} (h : (a3.endLine == a8.line) = true) :
    eval (.Call (.Attribute (.Call (.Name "super" a1) [] [] a2) "__init__" a3) [.JoinedStr [.Constant (.str pre) 0 a4, .FormattedValue (.Name "name" a5) (-1) none a6] a7] [] a8) env = (do
      let ov ← attributeBase (.Call (.Name "super" a1) [] [] a2) "__init__" env (eval (.Call (.Name "super" a1) [] [] a2) env)
      standAt a3.atName
      let (f, first) ← holding [ov] (getMethod ov "__init__" (do return (← importBound (.Call (.Name "super" a1) [] [] a2) env).getD true))
      callWith a8 f first (backTo a8 (starEach [.JoinedStr [.Constant (.str pre) 0 a4, .FormattedValue (.Name "name" a5) (-1) none a6] a7] env)) []) := by
  have e : methodCallPos true (.Call (.Name "super" a1) [] [] a2) env a3 a8 = pure a8 := by
    unfold methodCallPos
    rw [h]
    rfl
  show (do
      let ov ← attributeBase (.Call (.Name "super" a1) [] [] a2) "__init__" env (eval (.Call (.Name "super" a1) [] [] a2) env)
      standAt a3.atName
      let (f, first) ← holding [ov] (getMethod ov "__init__" (do return (← importBound (.Call (.Name "super" a1) [] [] a2) env).getD true))
      let callPos ← methodCallPos true (.Call (.Name "super" a1) [] [] a2) env a3 a8
      callWith callPos f first (backTo a8 (starEach [.JoinedStr [.Constant (.str pre) 0 a4, .FormattedValue (.Name "name" a5) (-1) none a6] a7] env)) []) = _
  rw [e]
  rfl
section
variable {prog : Program} {w : World} {A : Around} {E : Value → Shared → Prop} {R : Result → Shared → Prop} {s : Shared} {K : Frag} {mg : Str → Option Value} {C fI cc : Addr} {nm qi pre : Str}
/-- the bound __init__ of ValueError called -/
theorem call_bwV {h : Heap} {g : Array GenState} {d : Drawn} {t : Nat} {os : OsState} {u e t0 : Addr} {rest : List Value} {Q : Value → Shared → Prop} {nm q : Str} {C N : Addr} {bs bm : List Value} {hdct : Bool} {sn : List Str} {sub : List Value} {ab : Bool} {col : Option Bool} {dd : Option Addr} {k0 k1 k2 k3 k5 : Option Value}
    (hC : h.get? C = some (excClassObj nm q C N bs bm hdct sn sub ab col dd k0 k1 k2 k3 k5 "ValueError.__new__")) (he : h.get? e = some (excO C t0)) (hu : h.get? u = some (kxs_mw "ValueError.__init__" e)) (hrest : rest.length ≤ sizeLine)
    (hq : ∀ h' t1, (∀ b o, b ≠ e → h.get? b = some o → h'.get? b = some o) → h'.get? e = some (excO C t1) → h.objs.size ≤ h'.objs.size → Q .none ⟨h', g, d, t, os⟩) :
    wpAny (model prog w) A (call (.ref u) rest) Q E ⟨h, g, d, t, os⟩ := by
  refine wpAny_call (codeAny_of_tree ?_)
  show wpAny _ A.in1 (callAny (.ref u) ⟨rest, []⟩) _ _ _
  simp only [callAny]
  refine wpAny_bind (wpAny_load hu ?_)
  simp only [kxs_mw, show (Value.type "method-wrapper" == Value.type "method" || Value.type "method-wrapper" == Value.type "builtin_function_or_method" || Value.type "method-wrapper" == Value.type "method-wrapper") = true by decide, if_true]
  refine KFB.if_so (by decide) ?_
  refine wpAny_bind (check_bound_init F.excBase_ValueError.toExcCallFacts hC he rfl ?_)
  refine wpAny_bind (wpAny_pure (wpAny_pure ?_))
  refine ⟨plainId_quiet F.excBase_ValueError.init.plain _, codeAny_builtin F.excBase_ValueError.initEntry ?_⟩
  rw [Around.under_plainId F.excBase_ValueError.init.plain _]
  refine exc_init_tree (cls := .ref C) (t0 := t0) (dv := none) (c2 := .none) (c3 := .none) (b4 := .bool false) he hrest fun h' k e' t' => ?_
  exact hq h' h.objs.size k e' (Nat.le_of_lt (Heap.lt_size t'))
theorem u_init (T : UTxt prog K mg nm qi pre C fI cc) {x t0 : Addr} {y : Str} {ty : Tok} (X : K.In s.heap) (hlim : s.heap.NoLimit) (hx : s.heap.get? x = some (excO C t0)) (hnx : K.lookup x = none) (hroom : A.depth < recursionLimit)
    (hG : s.heap.Ns mainGlobals mg) (hB : ∃ mb, s.heap.Ns builtinsNs mb ∧ ∀ x : Str, x ≠ "__name__" → mb x = bootBuiltins x) (hp : (Str.empty ++ pre).length ≤ sizeLine) (hy : (Str.empty ++ pre ++ y).length ≤ sizeLine) (hz : y.length ≤ sizeLine)
    (hq : ∀ h' tk dx, InitEnd s.heap h' x C dx (.str y ty) → R (.ok (.ret .none)) { s with heap := h', toks := tk }) :
    codeAny (model prog w) A (.call (.ref fI) ⟨[.ref x, .str y ty], []⟩) R s := by
  obtain ⟨oc, od, doc, pm, an, cda, ct, osl, p1, p2, a1, a2, a3, a4, a5, a6, a7, a8, a9, b1, b2, b3, b4, ho, hcd, hpos, ccl, cdd, vs, ccs, file, tf, hcda, hvs, hfile⟩ := T.fn
  obtain ⟨nm', q, N, bs, bm, sn, sub, ab, col, dd, k0, k1, k2, k3, k5, hC, hbm⟩ := T.cls
  obtain ⟨cl, cld, csl, hcell⟩ := T.cell
  have hcl : clsIn K C = some { name := nm', bases := bs, mro := .ref C :: bm, ns := N, qualname := q, hasDict := true, slotNames := sn, subclasses := sub, abstract := ab, collection := col, hasDel := false } := by unfold clsIn; rw [hC] <;> rfl
  obtain ⟨hp0, g, dr, tk, os⟩ := s
  refine ks_codeAny_call_defAt (fd := ksFn "__init__" qi (iA p1 p2) (iB pre a1 a2 a3 a4 a5 a6 a7 a8 a9 b1 b2 b3 b4) iS .none .none doc pm an (.ref cda) ct cc) (body := iB pre a1 a2 a3 a4 a5 a6 a7 a8 a9 b1 b2 b3 b4) (binds := [("self", .ref x), ("name", .str y ty)])
    hroom (X _ _ ho) rfl hlim (codeRec_of X hcd) rfl (BindsTo.of_eq (by first | rfl | with_unfolding_all rfl)) (show ∀ z ∈ iS.names, z.2 ≠ .cell by decide) (fun (z : Str × Value) hz => ?_) fun h₁ hn k => ?_
  · have hz' : z = (("self" : Str), Value.ref x) ∨ z = (("name" : Str), Value.str y ty) := by simpa using hz
    rcases hz' with rfl | rfl <;> first | rfl | decide
  have X₁ : K.In h₁ := X.keeps k
  have hx₁ := k _ _ hx
  have hself : ([("self", Value.ref x), ("name", .str y ty)] : List (Str × Value)).reverse.lookup ("self" : Str) = some (Value.ref x) := by first | rfl | kernel_rfl
  have hname : ([("self", Value.ref x), ("name", .str y ty)] : List (Str × Value)).reverse.lookup ("name" : Str) = some (Value.str y ty) := by first | rfl | kernel_rfl
  have hG₁ : h₁.Ns mainGlobals mg := hG.keeps k
  obtain ⟨mb, hB1, hB2⟩ := hB
  have hB₁ : h₁.Ns builtinsNs mb := hB1.keeps k
  have hD₁ := X₁ _ _ hC
  refine ks_wpAt_execs_cons (ks_wpAt_Expr_any (ks_wpAt_MethodCall ?_ (call_eq hpos)))
  refine ks_wpAt_super_base (by rfl) (by rfl) (by rfl) rfl (X₁ _ _ ho) rfl (by rfl) rfl (X₁ _ _ hcda) rfl hvs hfile T.htop ?_
  refine ks_loadName_global (by rfl) (by rfl) (loadGlobal_builtin hG₁ T.sup hB₁ ((hB2 _ (by decide)).trans (by first | rfl | decide)) ⟨rfl, ?_⟩)
  refine wpAny_loadName_free (by rfl) (by rfl) (by rfl) ⟨_, X₁ _ _ hcell, rfl⟩ ?_
  refine wpAny_loadName_local (by rfl) (by rfl) hn hself ?_
  refine ks_wpAny_isType_cls hD₁ rfl ⟨rfl, ?_⟩
  refine ks_wpAny_call_super hD₁ rfl hx₁ rfl (fun c e => by cases e) (looks_mroIn X₁ T.own) fun h₂ e₂ k₂ => ?_
  have X₂ : K.In h₂ := X₁.keeps k₂
  have hx₂ := k₂ _ _ hx₁
  have hn₂ := hn.keeps k₂
  have I₂ : W.InstAt h₂ x (excO C t0) C none := ⟨hx₂, rfl, rfl, trivial⟩
  have hI : Looks (model prog w) h₂ (isInstance (.ref x) (.type "ValueError")) true := I₂.type.andThen (looks_subIn X₂ T.hC)
  have halg := T.alg
  unfold ks_superIn at halg
  rw [hcl] at halg
  refine kxs_getMethod kxs_ValueError e₂ (looks_opaque X₂ T.op) (l₀ := .ref C :: bm) (fun A Q E s k q => wpAny_bind ((looks_clsIn X₂ hcl) A _ E s k (wpAny_pure q))) rfl X₂ halg hI (ks_ne X₂ I₂ hcl) (by rfl) ?_
  have k₃ : ∀ b o, h₂.get? b = some o → (h₂.push (kxs_mw "ValueError.__init__" x)).get? b = some o := fun b o e => Heap.get?_push_of_some _ e
  have hu₃ : (h₂.push (kxs_mw "ValueError.__init__" x)).get? h₂.objs.size = some (kxs_mw "ValueError.__init__" x) := Heap.get?_push_at rfl rfl
  have hn₃ := hn₂.keeps k₃
  have hx₃ := k₃ _ _ hx₂
  have X₃ := X₂.keeps k₃
  refine kxs_callWith (i := "ValueError.__init__") (x := x) (by rfl) (evalArgs_plain ?_)
  refine spliced_cons ?_
  rw [if_neg Bool.false_ne_true]
  refine wpAny_JoinedStr ?_
  have ev0 : ∀ (env : Env), evalEach [Expr.Constant (Const.str pre) 0 a4, (Expr.Name (PySem.Str.ofString "name") a5).FormattedValue (-1) none a6] env = [eval (Expr.Constant (Const.str pre) 0 a4) env, eval ((Expr.Name (PySem.Str.ofString "name") a5).FormattedValue (-1) none a6) env] := fun env => by first | rfl | simp [evalEach]
  rw [ev0]
  show wpAny _ _ (eval (Expr.Constant (Const.str pre) 0 a4) _) _ _ _
  refine wpAny_Constant_str ⟨pre, _, rfl, hp, ?_⟩
  show wpAny _ _ (eval ((Expr.Name (PySem.Str.ofString "name") a5).FormattedValue (-1) none a6) _) _ _ _
  refine FormattedValue_plain (wpAny_Name (wpAny_loadName_local (by rfl) (by rfl) hn₃ hname ?_) (by decide))
  refine formatField_str (fun t' tk' => ⟨y, _, rfl, hy, ?_⟩) hz
  refine ⟨hy, ?_⟩
  refine spliced_nil ⟨hu₃, ?_⟩
  refine call_bwV (X₃ _ _ hC) hx₃ hu₃ (one_size _) fun h₄ t1 k₄ hx₄ hs₄ => ?_
  show wpAt _ _ _ (execs _ _) _ _ _
  have hxL : hp0.objs.size ≠ x := Nat.ne_of_gt (Heap.lt_size hx)
  have X₄ : K.In h₄ := kept_but X₃ hnx k₄
  have hn₄ : h₄.Ns hp0.objs.size (fun z => ([("self", Value.ref x), ("name", .str y ty)] : List (Str × Value)).reverse.lookup z) := by
    obtain ⟨oL, es, ep, hL, r⟩ := hn₃
    exact ⟨oL, es, ep, k₄ _ _ hxL hL, r⟩
  refine wpAt_of_wpAny (wpAny_execs_cons (plainObj_wpAny_Assign_Attribute ?_))
  refine wpAny_Name (wpAny_loadName_local (by rfl) (by rfl) hn₄ hname ?_) (by decide)
  refine wpAny_Name (wpAny_loadName_local (by rfl) (by rfl) hn₄ hself ?_) (by decide)
  refine set_plain X₄ (ox := excO C t1) (od := none) ⟨hx₄, rfl, rfl, trivial⟩ T.sa ?_
  refine exc_osa X₄ hx₄ hcl (show refsVE (.ref C :: bm) = true from hbm) rfl T.noN (fun h₅ tk₅ dx k₅ dn dne hx₅ hn₅ => ?_)
  show wpAny _ _ (execs _ _) _ _ _
  refine wpAny_execs_nil (hq h₅ tk₅ dx ⟨fun b o hb e => k₅ b o hb (k₄ b o hb (k₃ b o (k₂ b o (k b o e)))), ⟨t1, hx₅⟩, ?_, dne, hn₅⟩)
  exact Nat.le_of_lt (Nat.lt_of_lt_of_le hn₄.lt dn)
theorem u_made (T : UTxt prog K mg nm qi pre C fI cc) {y : Str} {ty : Tok} (X : K.In s.heap) (hlim : s.heap.NoLimit) (hroom : A.depth + 1 < recursionLimit)
    (hG : s.heap.Ns mainGlobals mg) (hB : ∃ mb, s.heap.Ns builtinsNs mb ∧ ∀ x : Str, x ≠ "__name__" → mb x = bootBuiltins x) (hp : (Str.empty ++ pre).length ≤ sizeLine) (hy : (Str.empty ++ pre ++ y).length ≤ sizeLine) (hz : y.length ≤ sizeLine)
    (hq : ∀ h' tk e d, OwnMade s.heap h' e C d (.str y ty) → R (.ok (.ret (.ref e))) { s with heap := h', toks := tk }) :
    codeAny (model prog w) A (.call (.ref C) ⟨[.str y ty], []⟩) R s := by
  obtain ⟨nm, q, N, bs, bm, sn, sub, ab, col, dd, k0, k1, k2, k3, k5, hC, hbm⟩ := T.cls
  obtain ⟨hp0, g, dr, tk, os⟩ := s
  have k : ∀ b o, hp0.get? b = some o → ((hp0.push (kdv_tup [Value.str y ty])).push (excO C hp0.objs.size)).get? b = some o := fun b o e => Heap.get?_push_of_some _ (Heap.get?_push_of_some _ e)
  have hget : ((hp0.push (kdv_tup [Value.str y ty])).push (excO C hp0.objs.size)).get? (hp0.objs.size + 1) = some (excO C hp0.objs.size) := by heap_get
  have hnx : K.lookup (hp0.objs.size + 1) = none := by
    cases e : K.lookup (hp0.objs.size + 1) with
    | none => rfl
    | some o =>
      have z : hp0.get? (hp0.objs.size + 1) = some o := X _ _ e
      exact absurd (Nat.lt_of_succ_lt (Heap.lt_size z)) (Nat.lt_irrefl _)
  refine call_own F.excBase_ValueError (fun X => refsVE_contains X bm hbm) (X _ _ hC) (looks_findIn X T.iC) (fun self => bind_fn X self T.tC) (one_size (.str y ty)) ?_
  obtain ⟨mb, hB1, hB2⟩ := hB
  refine u_init (s := ⟨(hp0.push (kdv_tup [Value.str y ty])).push (excO C hp0.objs.size), g, dr, tk, os⟩) T (X.keeps k) (hlim.keeps k) hget hnx ?_ (hG.keeps k) ⟨mb, hB1.keeps k, hB2⟩ hp hy hz fun h' tk' dx ⟨k', ⟨t1, hx⟩, dn, dne, hns⟩ => ?_
  · show A.depth + 1 < recursionLimit
    exact hroom
  · have old : ∀ b o, hp0.get? b = some o → h'.get? b = some o := fun b o e => k' b o (Nat.ne_of_lt (Nat.lt_succ_of_lt (Heap.lt_size e))) (k b o e)
    have z : hp0.objs.size + 1 + 1 ≤ dx := by
      first
        | (simpa only [Heap.size_push] using dn)
        | exact dn
        | (have q := dn; rw [Heap.size_push, Heap.size_push] at q; exact q)
    exact ⟨rfl, hq h' tk' (hp0.objs.size + 1) dx ⟨old, Nat.le_succ _, ⟨_, _, hx, rfl, rfl, rfl, rfl⟩, Nat.le_trans (Nat.le_trans (Nat.le_succ _) (Nat.le_succ _)) z, dne, hns⟩⟩
end
end MgU
end PySem

set_option Elab.async false
set_option linter.all false
set_option maxRecDepth 100000
set_option maxHeartbeats 4000000
namespace Mg
open PySem PySem.Spec PyProof.Rows L2
theorem relO_name {v : V} {v' : Value} (r : RelV v v') (f : Str) : RelO (List.lookup f [(("name" : Str), v)]) (if f = "name" then some v' else none) := by
  by_cases hw : f = "name"
  · subst hw
    rw [if_pos rfl]
    have q : List.lookup ("name" : Str) [(("name" : Str), v)] = some v := by simp [List.lookup]
    rw [q]
    exact r
  · rw [if_neg hw]
    have qw : (f == ("name" : Str)) = false := by simpa using hw
    have q2 : List.lookup f [(("name" : Str), v)] = none := by simp [List.lookup, qw]
    rw [q2]
    trivial
theorem pmk_u {X : Cx} {nm qi pre : Str} {C fI cc : Addr} {ta : TE} {p pa pos : Pos} {k : Nat} (T : PySem.MgU.UTxt X.prog X.K X.mg nm qi pre C fI cc) (hpre : pre.length ≤ 1000) (hr : Room k X.A) (ha : PE X (.Name "name" pa) ta) (hg : Gl X nm) (hd : (nm == ("__debug__" : Str)) = false) (hk : 1 ≤ k) :
    PMk X (.Call (.Name nm p) [.Name "name" pa] [] pos) (fun σ H Q => tCons ta tNil σ H fun vs H1 => ∃ z : Str, vs = [.str z] ∧ z.length ≤ 1000 ∧ ∀ d, H1 d = none → Q (.ref C) (some d) (upd H1 d (.xd [("name", .str z)]))) := by
  intro pins s σ H Q I h
  refine wpAny_Call_Name_kw (ld_glob I hg T.gC ?_ hd)
  refine PySem.W.callWith_K (h₀ := X.base) I.ok.mod.kin T.kC (thn ((pa_cons ha pa_nil).run pos pins s σ H (fun vs H1 => ∃ z : Str, vs = [.str z] ∧ z.length ≤ 1000 ∧ ∀ d, H1 d = none → Q (.ref C) (some d) (upd H1 d (.xd [("name", .str z)]))) I h) fun us s1 hh => ?_) (by rfl) (by rfl)
  · obtain ⟨vs, H1, I1, r1, z, ev, hz, q1⟩ := hh
    subst ev
    refine ⟨I1.kIn, ?_⟩
    cases r1 with
    | cons rv rn =>
      rename_i v' us'
      cases rn
      show wpAny _ _ (call (.ref C) [v']) _ _ _
      have rv0 := rv
      obtain ⟨ty, rfl⟩ := rv
      have hlim := I1.nolimit
      have hG : s1.heap.Ns mainGlobals X.mg := by have q := I1.mod.glob.keeps I1.bk; exact q
      have hB : ∃ mb, s1.heap.Ns builtinsNs mb ∧ ∀ x : Str, x ≠ "__name__" → mb x = bootBuiltins x := by
        obtain ⟨mb, h1, h2⟩ := I1.mod.blt
        exact ⟨mb, h1.keeps I1.bk, h2⟩
      have e0 : (Str.empty ++ pre).length = pre.length := by rw [PySem.strLen_append]; simp [Str.length, Str.empty]
      have hs := sizeLine_eq
      obtain ⟨hp, g, dr, tk, os⟩ := s1
      refine wpAny_call (PySem.MgU.u_made T I1.kIn hlim (by have := hr.dp; omega) hG hB (by rw [e0]; omega) (by rw [PySem.strLen_append, e0]; omega) (by omega) fun h' tk' e d M => ?_)
      show MkP X pins σ Q (.ref e) ⟨h', g, dr, tk', os⟩
      obtain ⟨oe, fv, hoe, hc, hd', hdat, h1⟩ := M.obj
      have hns := M.ns
      obtain ⟨G', g1, g2⟩ := restrict h' fun b => decide (b ≠ e)
      have gk : ∀ b, b ≠ e → G'.get? b = h'.get? b := fun b hb => g1 b (decide_eq_true hb)
      have ge : G'.get? e = none := g2 e (by simp)
      have old : ∀ b o, hp.get? b = some o → G'.get? b = some o := fun b o q => (gk b (Nat.ne_of_lt (Nat.lt_of_lt_of_le (Heap.lt_size q) M.new))).trans (M.keep b o q)
      have ob : ObjOk X.prog X.w (upd H1 d (.xd [(("name" : Str), .str z)])) G' d (.xd [(("name" : Str), .str z)]) :=
        ⟨_, hns.at (fun o q => (gk d M.dne).trans q), fun f => relO_name rv0 f⟩
      have J : Inv X pins σ (upd H1 d (.xd [(("name" : Str), .str z)])) ⟨G', g, dr, tk', os⟩ := I1.laid (t' := tk') old M.dbig ob
      refine ⟨e, oe, fv, ⟨G', g, dr, tk', os⟩, _, .ref C, some d, rfl, J, fun b o q => ?_, ge, hoe, ⟨hc, hd'⟩, hdat, h1, ?_, rfl, I1.bare, raises_own T.exC T.tyC, q1 d (I1.hok.fresh M.dbig)⟩
      · by_cases hb : b = e
        · have q' : G'.get? b = some o := q
          rw [hb, ge] at q'; cases q'
        · exact (gk b hb).symm.trans q
      · rw [upd_ne (Ne.symm M.dne)]
        exact I1.hok.fresh M.new
/-- UnknownSymbol(name) is made: its own dict has the name -/
def MkU (P : Program) (K : PySem.W.Frag) (mg : Str → Option Value) (CU : Addr) : Prop := ∀ {X : Cx} {ta : TE} {p pa pos : Pos}, X.prog = P → X.K = K → X.mg = mg → Room 2 X.A → PE X (.Name "name" pa) ta → Gl X "UnknownSymbol" →
  PMk X (.Call (.Name "UnknownSymbol" p) [.Name "name" pa] [] pos) (fun σ H Q => tCons ta tNil σ H fun vs H1 => ∃ z : Str, vs = [.str z] ∧ z.length ≤ 1000 ∧ ∀ d, H1 d = none → Q (.ref CU) (some d) (upd H1 d (.xd [("name", .str z)])))
theorem mkU {P : Program} {K : PySem.W.Frag} {mg : Str → Option Value} {qi pre : Str} {C fI cc : Addr} (T : PySem.MgU.UTxt P K mg "UnknownSymbol" qi pre C fI cc) (hpre : pre.length ≤ 1000) : MkU P K mg C := by
  intro X ta p pa pos hP hK hm hr ha hg
  subst hP
  subst hK
  subst hm
  exact pmk_u T hpre hr ha hg (by decide) (by decide)
end Mg

set_option Elab.async false
set_option linter.all false
set_option maxRecDepth 100000
set_option maxHeartbeats 2000000
namespace Mg
open PySem L2
structure CalM (P : Program) (w : World) (K : PySem.W.Frag) (mg : Str → Option Value) (base : Heap) (CX : CXT) (k : Nat) (C : Addr) (m : Str) (ps : List Str) (sp : Sp) : Prop where
  ex : ∃ (f : Addr) (fd : FuncData), FnOk P w K mg base CX k f fd ps sp ∧ Meth K C m f ∧ Binds K fd ps []
section
variable {X : Cx} {CX : CXT} {k : Nat} {C : Addr} {ps : List Str} {sp : Sp} {E : XK} {m : Str} {apos pos : Pos} {o e : Expr} {es : List Expr} {t : TA} {ta : TE}
theorem pe_calm {pl : Sem Bool} (he : PE X o ta) (cl : Cls X.K C) (c : CalM X.prog X.w X.K X.mg X.base CX k C m ps sp) (hr : Room k X.A) (hx : Passes CX X E) (ha : PA X (e :: es) t)
    (h1 : starEach (e :: es) X.env = (false, eval e X.env) :: starEach es X.env := by rfl) (h2 : (backTo pos (starEach es X.env)).any (·.1) = false := by rfl)
    (h3 : eval (.Call (.Attribute o m apos) (e :: es) [] pos) X.env = (do let ov ← eval o X.env; standAt apos.atName; let (f, first) ← holding [ov] (getMethod ov m pl); callWith pos f first (backTo pos (starEach (e :: es) X.env)) (backToKw pos (keywordEach [] X.env))) := by rfl) :
    PE X (.Call (.Attribute o m apos) (e :: es) [] pos) (tMeth C m sp [] E ta t) := by
  obtain ⟨f, fd, F, hm, hb⟩ := c.ex
  exact pe_meth (pl := pl) he cl hm F hr hb .nil hx ha h1 h2 h3
theorem pe_calm0 {pl : Sem Bool} (he : PE X o ta) (cl : Cls X.K C) (c : CalM X.prog X.w X.K X.mg X.base CX k C m ps sp) (hr : Room k X.A) (hx : Passes CX X E)
    (h3 : eval (.Call (.Attribute o m apos) [] [] pos) X.env = (do let ov ← eval o X.env; standAt apos.atName; let (f, first) ← holding [ov] (getMethod ov m pl); callWith pos f first (backTo pos (starEach [] X.env)) (backToKw pos (keywordEach [] X.env))) := by rfl) :
    PE X (.Call (.Attribute o m apos) [] [] pos) (tMeth C m sp [] E ta tNil) := by
  obtain ⟨f, fd, F, hm, hb⟩ := c.ex
  exact pe_meth0 (pl := pl) he cl hm F hr hb .nil hx h3
end
theorem passX {P : Program} {w : World} {K : PySem.W.Frag} {mg : Str → Option Value} {base : Heap} {N : List Str} {qual : Str} {sc : Scope} {f : Addr} {cdv : Value} {A : Around} {outer : List Env} {s : Shared} {H : Hp} {E : XK} :
    Passes (L2.CX P w) (cxOf (L2.CX P w) P w K mg base N qual sc f cdv A outer s H E) E := passes_call (takes_of rfl rfl rfl rfl) fun _ _ _ _ h => h
abbrev sFClassOf : Stmt := inClass (top 24) 3
abbrev sFEntry : Stmt := inClass (top 24) 6
section
variable {P : Program} {w : World} {K : PySem.W.Frag} {mg : Str → Option Value} {base : Heap} {CF CU : Addr}
/-! ### _entry -/
def spEntry (K : PySem.W.Frag) (CF CU : Addr) : Sp := fun vs H Q E => ∃ (p : Addr) (x : Str) (va vl : V) (ss : List Sym) (ls : List Int), vs = [.ref p, .str x] ∧ x.length ≤ 1000 ∧ FontAt K CF H p va vl ss ls ∧
  (∀ s t, look ss x = some s → SqT K H t s.vs → Q (.ref t) H) ∧ (look ss x = none → ∀ d, H d = none → E (.ref CU) (some d) (upd H d (.xd [("name", .str x)])))
theorem scFEntry : FnScope ["self", "name"] ["self", "name"] (defScope sFEntry) := ⟨rfl, rfl, rfl, by decide +kernel, rfl, by decide +kernel, by decide +kernel⟩
theorem ok_fentry {f : Addr} {fd : FuncData} (F : Fun K "_entry" "Font._entry" sFEntry f fd) (T : TxtO K CF) (U : MkU P K mg CU) : FnOk P w K mg base (L2.CX P w) 3 f fd ["self", "name"] (spEntry K CF CU) := by
  have sc := scFEntry
  refine F.okX scFEntry (fun vs H Q E h => ?_) (fun cdv A outer s H vs Q E hr h => ?_)
  · obtain ⟨p, x, va, vl, ss, ls, rfl, _⟩ := h
    rfl
  · obtain ⟨p, x, va, vl, ss, ls, rfl, hx, FA, kQ, kE⟩ := h
    have hu := hu_of hr
    have hrU : Room 2 _ := hr
    obtain ⟨_, _, _, dx, e, kvs, h1, h2, h3, h4⟩ := FA
    refine ⟨_, (pss_cons (ps_if (pt_cmp (pc_dnotin hu (pv 1) (pe_fld (pv 0) rfl)))
  (pss_one (ps_raise rfl (takes_of rfl rfl rfl rfl) (U rfl rfl rfl hrU (pv 1) rfl)))
  pss_nil)
  (pss_one (ps_ret (pe_dget hu (pe_fld (pv 0) rfl) (pv 1) (fun _ _ => rfl))))), ?_⟩
    refine ⟨_, rfl, _, rfl, p, CF, dx, _, _, rfl, h1, T.cl, T.nE, ff_ent _ _ _, e, _, rfl, DGet.k (k := Sum.inr x) h2, _, rfl, ?_⟩
    cases hl : look ss x with
    | none =>
      rw [h4 x hl]
      refine iteT ?_
      exact ⟨_, rfl, x, rfl, hx, kE hl⟩
    | some s =>
      obtain ⟨t, a1, a2⟩ := h3 x s hl
      rw [a1]
      refine iteF ?_
      exact ⟨_, rfl, p, CF, dx, _, _, rfl, h1, T.cl, T.nE, ff_ent _ _ _, _, rfl, e, _, rfl, by have q := DGet.k (k := Sum.inr x) h2; rw [a1] at q; exact q, kQ s t hl a2⟩
/-! ### class_of -/
def spClassOf (K : PySem.W.Frag) (CF CU : Addr) : Sp := fun vs H Q E => ∃ (p : Addr) (x : Str) (va vl : V) (ss : List Sym) (ls : List Int), vs = [.ref p, .str x] ∧ x.length ≤ 1000 ∧ FontAt K CF H p va vl ss ls ∧
  (∀ s, look ss x = some s → Q (.str s.cl) H) ∧ (look ss x = none → ∀ d, H d = none → E (.ref CU) (some d) (upd H d (.xd [("name", .str x)])))
theorem no_entry_name (va vl : V) (e : Addr) : (ff va vl e).lookup ("_entry" : Str) = none := ff_no va vl e (by decide +kernel) (by decide +kernel) (by decide +kernel)
theorem no_metrics_name (va vl : V) (e : Addr) : (ff va vl e).lookup ("metrics" : Str) = none := ff_no va vl e (by decide +kernel) (by decide +kernel) (by decide +kernel)
theorem scFClassOf : FnScope ["self", "name"] ["self", "name"] (defScope sFClassOf) := ⟨rfl, rfl, rfl, by decide +kernel, rfl, by decide +kernel, by decide +kernel⟩
theorem ok_fclass_of {f : Addr} {fd : FuncData} (F : Fun K "class_of" "Font.class_of" sFClassOf f fd) (T : TxtO K CF) (C_entry : CalM P w K mg base (L2.CX P w) 3 CF "_entry" ["self", "name"] (spEntry K CF CU)) : FnOk P w K mg base (L2.CX P w) 4 f fd ["self", "name"] (spClassOf K CF CU) := by
  have sc := scFClassOf
  refine F.okX scFClassOf (fun vs H Q E h => ?_) (fun cdv A outer s H vs Q E hr h => ?_)
  · obtain ⟨p, x, va, vl, ss, ls, rfl, _⟩ := h
    rfl
  · obtain ⟨p, x, va, vl, ss, ls, rfl, hx, FA, kQ, kE⟩ := h
    have hrentry : Room 3 _ := hr
    refine ⟨_, (pss_one (ps_ret (pe_ix ix_tup (pe_calm (pv 0) T.cl C_entry hrentry passX (pa_cons (pv 1) pa_nil)) pe_int (fun _ _ => rfl)))), ?_⟩
    have FA0 := FA
    obtain ⟨_, _, _, dx, e, kvs, h1, h2, h3, h4⟩ := FA
    exact ⟨_, rfl, p, dx, _, rfl, h1, no_entry_name _ _ _, _, rfl, p, x, va, vl, ss, ls, rfl, hx, FA0, fun sy t hl ht => ⟨t, _, 1, _, rfl, rfl, ht, rfl, kQ sy hl⟩, kE⟩
end
end Mg

set_option Elab.async false
set_option linter.all false
set_option maxRecDepth 100000
set_option maxHeartbeats 4000000
namespace Mg
open PySem L2
abbrev sNames : Stmt := top 62
abbrev sLFont : Stmt := top 66
def nms : List Str := ["x", "a", "2", "+", "=", "(", ")", ",", "@sum", "@alpha", "-", "!"]
def nmsR : List Str := nms ++ [("@root" : Str)]
def kvKind : List (Key × V) := mergeK [] [(Sum.inr ("+" : Str), V.str "bin"), (Sum.inr ("-" : Str), V.str "bin"), (Sum.inr ("=" : Str), V.str "rel"), (Sum.inr ("(" : Str), V.str "open"), (Sum.inr (")" : Str), V.str "close"), (Sum.inr ("," : Str), V.str "punct"), (Sum.inr ("@sum" : Str), V.str "op")]
def kindOf (x : Str) : Str := if x = "+" then "bin" else if x = "-" then "bin" else if x = "=" then "rel" else if x = "(" then "open" else if x = ")" then "close" else if x = "," then "punct" else if x = "@sum" then "op" else "ord"
theorem kv_kind : ∀ x ∈ nmsR, (valV kvKind (Sum.inr x : Key)).getD (V.str "ord") = V.str (kindOf x) := by decide +kernel
/-- a drawn font's symbols -/
def Sym.ok (s : Sym) : Prop := s.cl = kindOf s.nm ∧ 0 ≤ s.wd ∧ s.wd ≤ 33 ∧ 0 ≤ s.ht ∧ s.ht ≤ 33 ∧ 0 ≤ s.dp ∧ s.dp ≤ 33
def LensOk (ls : List Int) : Prop := ∃ a b c d e f g h : Int, ls = [a, b, c, d, e, f, g, h] ∧ (0 ≤ a ∧ a ≤ 8) ∧ (1 ≤ b ∧ b ≤ 4) ∧ (0 ≤ c ∧ c ≤ 5) ∧ (0 ≤ d ∧ d ≤ 14) ∧ (0 ≤ e ∧ e ≤ 4) ∧ (0 ≤ f ∧ f ≤ 7) ∧ (0 ≤ g ∧ g ≤ 11) ∧ 1 ≤ h ∧ h ≤ 9
section
variable {P : Program} {w : World} {K : PySem.W.Frag} {mg : Str → Option Value} {base : Heap}
def spNames : Sp := fun vs H Q _ => vs = [] ∧ ∀ l, H l = none → Q (.ref l) (upd H l (.lst (nms.map V.str)))
theorem scNames : FnScope [] [] (defScope sNames) := ⟨rfl, rfl, rfl, by decide +kernel, rfl, by decide +kernel, by decide +kernel⟩
theorem ok_names {f : Addr} {fd : FuncData} (F : Fun K "_law_names" "_law_names" sNames f fd) : FnOk P w K mg base CX0 1 f fd [] spNames := by
  have sc := scNames
  refine F.ok scNames (fun vs H Q E h => ?_) (fun cdv A outer s H vs Q E hr h => ?_)
  · obtain ⟨rfl, _⟩ := h
    rfl
  · obtain ⟨rfl, k⟩ := h
    refine ⟨_, (pss_one (ps_ret (pe_lst (pa_cons pe_str (pa_cons pe_str (pa_cons pe_str (pa_cons pe_str (pa_cons pe_str (pa_cons pe_str (pa_cons pe_str (pa_cons pe_str (pa_cons pe_str (pa_cons pe_str (pa_cons pe_str (pa_cons pe_str pa_nil))))))))))))))), ?_⟩
    exact ⟨(by show 12 ≤ sizeLine; decide), k⟩
theorem Stream.new {H H' : Hp} {st pd pl : Addr} (S : Stream H st pd pl) (s : Same H H') : Stream H' st pd pl := by
  obtain ⟨n1, n2, ds, k, h1, h2, h3, r⟩ := S
  exact ⟨n1, n2, ds, k, s _ _ h1, s _ _ h2, s _ _ h3, r⟩
theorem Stream.pl {H : Hp} {st pd pl : Addr} (S : Stream H st pd pl) : ∃ k : Int, H pl = some (.lst [.int k]) := by
  obtain ⟨n1, n2, ds, k, h1, h2, h3, r⟩ := S
  exact ⟨k, h3⟩
theorem Stream.at {H : Hp} {st pd pl : Addr} (S : Stream H st pd pl) : ∃ o, H st = some o := by
  obtain ⟨n1, n2, ds, k, h1, h2, h3, r⟩ := S
  exact ⟨_, h1⟩
/-- three sizes drawn -/
def spLFont (K : PySem.W.Frag) : Sp := fun vs H Q _ => ∃ (st pd pl : Addr), vs = [.ref st] ∧ Stream H st pd pl ∧ ∀ (f a b : Addr) (ss : List Sym) (ls : List Int) (H' : Hp), KeepB pl H H' → Stream H' st pd pl → H' f = some (.tup [.ref a, .ref b]) →
  SqT K H' b (ls.map V.int) → Tp K H' (.ref a) (symsD ss) → ss.map (·.nm) = nmsR → (∀ s ∈ ss, s.ok) → LensOk ls → Q (.ref f) H'
theorem scLFont : FnScope ["stream", "kinds", "symbols", "name", "size", "lengths", "spaces", "k"] ["stream"] (defScope sLFont) := ⟨rfl, rfl, rfl, by decide +kernel, rfl, by decide +kernel, by decide +kernel⟩
theorem ok_lfont {f : Addr} {fd : FuncData} (F : Fun K "_law_font" "_law_font" sLFont f fd) (T : TxtB mg) (C_law_names : Cal P w K mg base CX0 1 "_law_names" [] spNames) (C_law_next : Cal P w K mg base CX0 1 "_law_next" ["stream", "many"] spNext) : FnOk P w K mg base CX0 2 f fd ["stream"] (spLFont K) := by
  have sc := scLFont
  refine F.ok scLFont (fun vs H Q E h => ?_) (fun cdv A outer s H vs Q E hr h => ?_)
  · obtain ⟨st, pd, pl, rfl, _⟩ := h
    rfl
  · obtain ⟨st, pd, pl, rfl, S, k⟩ := h
    have hrlaw_names : Room 1 _ := hr.mono (by decide)
    have hrlaw_next : Room 1 _ := hr.mono (by decide)
    have hu := hu_of hr
    refine ⟨_, (pss_cons (ps_set (i := 1) sc.nd rfl (Or.inl rfl) (pe_disp (pps_cons pe_str pe_str (pps_cons pe_str pe_str (pps_cons pe_str pe_str (pps_cons pe_str pe_str (pps_cons pe_str pe_str (pps_cons pe_str pe_str (pps_cons pe_str pe_str pps_nil))))))) (by rfl) (by rfl) (fun z => by cases z) (by decide)))
  (pss_cons (ps_set (i := 2) sc.nd rfl (Or.inl rfl) (pe_lst pa_nil))
  (pss_cons (ps_for PassesOwn.never rfl (pi_list (pe_op op_cat (by exact (pe_cal0 C_law_names hrlaw_names rfl pass0)) (pe_lst (pa_cons pe_str pa_nil)))) (pg_name (i := 3) sc.nd rfl (Or.inl rfl))
  (pss_cons (ps_setLc (i := 4) (own := [("k", 7)]) rfl sc.nd rfl rfl (sw_true rfl rfl rfl (by decide +kernel)) (pi_range1 rfl T.range (pa_cons pe_int pa_nil)) (blkOk_by (own := [("k", 7)]) (N := ["stream", "kinds", "symbols", "name", "size", "lengths", "spaces", "k"]) (sc := defScope sLFont) (by decide +kernel)) (fun _ _ _ _ _ => (pg_name (i := 7) sc.nd rfl (Or.inl rfl))) (fun _ _ _ _ _ => pts_nil) (fun _ _ _ _ _ => (pe_op op_mul (pe_cal C_law_next hrlaw_next rfl pass0 (pa_cons (pv 0) (pa_cons pe_int pa_nil))) (pe_ix (r := rIxL K) ix_list (pe_lst (pa_cons pe_int (pa_cons pe_int (pa_cons pe_int pa_nil)))) (pe_cal C_law_next hrlaw_next rfl pass0 (pa_cons (pv 0) (pa_cons pe_int pa_nil))) (fun _ _ => rfl)))))
  (pss_one (ps_expr (pe_bm PySem.F.plainAttrs_list PySem.F.slot_list_append PySem.F.type_list_append mt_append (pv 2) (pa_cons (pe_tup (pa_cons (pv 3) (pa_cons (pe_dget2 hu (pv 1) (pv 3) pe_str (by exact ⟨rfl, rfl, rfl, rfl⟩)) (pa_cons (pe_ix ix_list (pv 4) pe_int (fun _ _ => rfl)) (pa_cons (pe_ix ix_list (pv 4) pe_int (fun _ _ => rfl)) (pa_cons (pe_ix ix_list (pv 4) pe_int (fun _ _ => rfl)) pa_nil)))))) pa_nil))))))
  (pss_cons (ps_set (i := 5) sc.nd rfl (Or.inl rfl) (pe_tup (pa_cons (pe_cal C_law_next hrlaw_next rfl pass0 (pa_cons (pv 0) (pa_cons pe_int pa_nil))) (pa_cons (pe_op op_add pe_int (pe_cal C_law_next hrlaw_next rfl pass0 (pa_cons (pv 0) (pa_cons pe_int pa_nil)))) (pa_cons (pe_cal C_law_next hrlaw_next rfl pass0 (pa_cons (pv 0) (pa_cons pe_int pa_nil))) (pa_cons (pe_cal C_law_next hrlaw_next rfl pass0 (pa_cons (pv 0) (pa_cons pe_int pa_nil))) pa_nil))))))
  (pss_cons (ps_set (i := 6) sc.nd rfl (Or.inl rfl) (pe_tup (pa_cons (pe_cal C_law_next hrlaw_next rfl pass0 (pa_cons (pv 0) (pa_cons pe_int pa_nil))) (pa_cons (pe_cal C_law_next hrlaw_next rfl pass0 (pa_cons (pv 0) (pa_cons pe_int pa_nil))) (pa_cons (pe_cal C_law_next hrlaw_next rfl pass0 (pa_cons (pv 0) (pa_cons pe_int pa_nil))) (pa_cons (pe_op op_add pe_int (pe_cal C_law_next hrlaw_next rfl pass0 (pa_cons (pv 0) (pa_cons pe_int pa_nil)))) pa_nil))))))
  (pss_one (ps_ret (pe_tup (pa_cons (pe_callTy call_tuple_of (by rfl) T.b_tuple (by decide +kernel) (pa_cons (pv 2) pa_nil)) (pa_cons (pe_op op_catT (pv 5) (pv 6)) pa_nil)))))))))), ?_⟩
    intro kp hkp
    refine ⟨upd_same, [(Sum.inr ("+" : Str), V.str "bin"), (Sum.inr ("-" : Str), V.str "bin"), (Sum.inr ("=" : Str), V.str "rel"), (Sum.inr ("(" : Str), V.str "open"), (Sum.inr (")" : Str), V.str "close"), (Sum.inr ("," : Str), V.str "punct"), (Sum.inr ("@sum" : Str), V.str "op")], rfl, by decide, ?_⟩
    rw [upd_upd]
    show tSeq _ _ _ _ (upd H kp (.dK kvKind))
    have s1 : Same H (upd H kp (.dK kvKind)) := same_new hkp
    refine ⟨Nat.zero_le _, fun l hl => ?_⟩
    have s2 : Same (upd H kp (.dK kvKind)) (upd (upd H kp (.dK kvKind)) l (.lst [])) := same_new hl
    have hkd : (upd (upd H kp (.dK kvKind)) l (.lst [])) kp = some (.dK kvKind) := s2 _ _ upd_same
    have hll : (upd (upd H kp (.dK kvKind)) l (.lst [])) l = some (.lst []) := upd_same
    have sB := s1.trans s2
    have SB := S.new sB
    have lH : H l = none := s1.free hl
    generalize (upd (upd H kp (.dK kvKind)) l (.lst [])) = HB at hkd hll sB SB ⊢
    refine ⟨rfl, fun la hla => ⟨(by show 1 ≤ sizeLine; decide), fun lb hlb => ?_⟩⟩
    have nla : la ≠ lb := fun e => by
      rw [← e, upd_same] at hlb
      cases hlb
    refine ⟨la, lb, nms.map V.str, [V.str "@root"], rfl, rfl, by rw [upd_ne nla]; exact upd_same, upd_same, by show 13 ≤ sizeLine; decide, fun ln hln => ?_⟩
    have sN : Same HB (upd (upd (upd HB la (.lst (nms.map V.str))) lb (.lst [V.str "@root"])) ln (.lst (nms.map V.str ++ [V.str "@root"]))) := ((same_new hla).trans (same_new hlb)).trans (same_new hln)
    have hnn : (upd (upd (upd HB la (.lst (nms.map V.str))) lb (.lst [V.str "@root"])) ln (.lst (nms.map V.str ++ [V.str "@root"]))) ln = some (.lst (nmsR.map V.str)) := by
      rw [upd_same]
      rfl
    have lnH : HB ln = none := by
      have z := ((same_new hla).trans (same_new hlb)).free hln
      exact z
    generalize (upd (upd (upd HB la (.lst (nms.map V.str))) lb (.lst [V.str "@root"])) ln (.lst (nms.map V.str ++ [V.str "@root"]))) = HN at sN hnn ⊢
    have SN := SB.new sN
    have lnpl : ln ≠ pl := fun e => by
      obtain ⟨q, hq⟩ := SB.pl
      rw [← e, lnH] at hq
      cases hq
    have lpl : l ≠ pl := fun e => by
      obtain ⟨q, hq⟩ := S.pl
      rw [← e, lH] at hq
      cases hq
    have lln : l ≠ ln := fun e => by
      rw [e, lnH] at hll
      cases hll
    have kppl : kp ≠ pl := fun e => by
      obtain ⟨q, hq⟩ := S.pl
      rw [← e, hkp] at hq
      cases hq
    have lnl : (nmsR.map V.str).length = 13 := rfl
    refine ⟨ln, rfl, ⟨_, SqL.of hnn⟩, for_list (K := K) (a := ln) (xs := nmsR.map V.str) (fun i σ H' => ∃ (ts : List Addr) (ss : List Sym) (x3 x4 : Option V), σ = [some (.ref st), some (.ref kp), some (.ref l), x3, x4, none, none, none] ∧ KeepB pl H H' ∧ Stream H' st pd pl ∧ H' kp = some (.dK kvKind) ∧
        H' ln = some (.lst (nmsR.map V.str)) ∧ H' l = some (.lst (ts.map V.ref)) ∧ ts.length = i ∧ ss.length = i ∧ (∀ (j : Nat) (t : Addr) (s : Sym), ts[j]? = some t → ss[j]? = some s → SqT K H' t s.vs) ∧ ss.map (·.nm) = nmsR.take i ∧ ∀ s ∈ ss, s.ok)
      ⟨[], [], none, none, rfl, KeepB.of (sB.trans sN), SN, sN _ _ hkd, hnn, sN _ _ hll, rfl, rfl, fun j t s h => by simp at h, rfl, fun s h => nomatch h⟩ (fun i σ H' _ ⟨_, _, _, _, _, _, _, _, e, _⟩ => SqL.of e) ?_ ?_⟩
    · rintro i y σ H' hi ⟨ts, ss, x3, x4, rfl, kb, S', hK, hN, hL, tl, sl, hT, hnm, hok⟩
      obtain ⟨x, hx, rfl⟩ : ∃ x, nmsR[i]? = some x ∧ y = V.str x := by
        rw [List.getElem?_map] at hi
        cases e : nmsR[i]? with
        | none => rw [e] at hi; cases hi
        | some z => rw [e] at hi; exact ⟨z, rfl, (Option.some.inj hi).symm⟩
      have i13 : i < 13 := (List.getElem?_eq_some_iff.mp hx).1
      -- the sizes
      refine ⟨3, rfl, by decide, by decide, fun D hD => ?_⟩
      have Dpl : D ≠ pl := fun e => by
        obtain ⟨q, hq⟩ := S'.pl
        rw [← e, hD] at hq
        cases hq
      refine lc_word (n := 3) (fun j acc H2 => ∃ zs : List Int, acc = zs.map V.int ∧ zs.length = j ∧ (∀ z ∈ zs, 0 ≤ z ∧ z ≤ 33) ∧ KeepB pl H' H2 ∧ Stream H2 st pd pl) ⟨[], rfl, rfl, (fun _ h => nomatch h), KeepB.of (same_new hD), S'.new (same_new hD)⟩ (fun j acc H2 hj _ => hj) (fun acc H2 _ => Nat.le_refl _) ?_ ?_
      · rintro j acc xx H2 H3 R Z hj ⟨zs, rfl, zl, zb, kb2, S2⟩ hDl ⟨rfl, rfl⟩ kR
        refine ⟨rfl, ?_⟩
        refine ⟨_, rfl, st, pd, pl, 12, rfl, by decide, S2, fun v H4 v0 v1 kb4 S4 => ?_⟩
        refine ⟨(by show 3 ≤ sizeLine; decide), fun q hq => ?_⟩
        refine ⟨_, rfl, st, pd, pl, 3, rfl, by decide, S4.new (same_new hq), fun u H5 u0 u1 kb5 S5 => ?_⟩
        have qpl : q ≠ pl := fun e => by
          obtain ⟨m, hm⟩ := S4.pl
          rw [← e, hq] at hm
          cases hm
        have hq5 := kb5 _ _ upd_same qpl
        have kk : ∀ m : Int, 0 ≤ m → m ≤ 3 → ∀ idx : atI ([V.int 0, V.int 1, V.int 3] : List V) u = some (V.int m), R (V.int (v * m)) H5 := fun m m0 m1 _ => by
          have hD5 : H5 D = some (.lst (zs.map V.int)) := kb5 _ _ (same_new hq _ _ (kb4 _ _ hDl Dpl)) Dpl
          refine kR _ _ hD5 (by rw [List.length_map]; exact small1000 (by omega)) ⟨zs ++ [v * m], by rw [List.map_append]; rfl, by rw [List.length_append, zl]; rfl, fun z hz => ?_, ?_, ?_⟩
          · rcases List.mem_append.mp hz with z1 | z1
            · exact zb z z1
            · rw [List.mem_singleton.mp z1]
              exact ⟨Int.mul_nonneg v0 m0, Int.le_trans (Int.mul_le_mul (show v ≤ 11 by omega) m1 m0 (by decide)) (by decide)⟩
          · refine keep_upd_new ?_ hD
            exact (kb2.trans kb4).trans ((KeepB.of (same_new hq)).trans kb5)
          · obtain ⟨n1, n2, ds, kk, g1, g2, g3, r⟩ := S5
            have stD : st ≠ D := fun e => by
              obtain ⟨o, ho⟩ := S'.at
              rw [e, hD] at ho
              cases ho
            have pdD : pd ≠ D := fun e => by
              obtain ⟨m1, m2, ds', k', g1', g2', g3', r'⟩ := S'
              rw [e, hD] at g2'
              cases g2'
            exact ⟨n1, n2, ds, kk, by rw [upd_ne stD]; exact g1, by rw [upd_ne pdD]; exact g2, by rw [upd_ne Dpl.symm]; exact g3, r⟩
        obtain ⟨m, m0, m1, hm⟩ : ∃ m : Int, 0 ≤ m ∧ m ≤ 3 ∧ atI ([V.int 0, V.int 1, V.int 3] : List V) u = some (V.int m) := by
          rcases (show u = 0 ∨ u = 1 ∨ u = 2 by omega) with rfl | rfl | rfl
          · exact ⟨0, by decide, by decide, rfl⟩
          · exact ⟨1, by decide, by decide, rfl⟩
          · exact ⟨3, by decide, by decide, rfl⟩
        exact ⟨q, _, u, _, rfl, rfl, SqL.of hq5, hm, v, m, rfl, rfl, .inl ⟨by omega, by omega⟩, kk m m0 m1 hm⟩
      · rintro acc H2 ⟨zs, rfl, zl, zb, kb2, S2⟩ hDl
        obtain ⟨z1, z2, z3, rfl⟩ : ∃ a b c, zs = [a, b, c] := by
          match zs, zl with
          | [a, b, c], _ => exact ⟨a, b, c, rfl⟩
        have hK2 := kb2 _ _ hK kppl
        refine ⟨_, rfl, .inl ⟨rfl, _, SqL.of (kb2 _ _ hL lpl)⟩, ?_⟩
        refine ⟨_, rfl, _, rfl, kp, rfl, .inl ⟨_, .inl hK2⟩, _, rfl, _, DGet.k (k := Sum.inr x) hK2, ?_⟩
        rw [kv_kind x (List.mem_of_getElem? hx)]
        refine ⟨_, rfl, D, _, 0, _, rfl, rfl, SqL.of hDl, rfl, _, rfl, D, _, 1, _, rfl, rfl, SqL.of hDl, rfl, _, rfl, D, _, 2, _, rfl, rfl, SqL.of hDl, rfl, (by show 5 ≤ sizeLine; decide), fun t ht => ?_⟩
        have tl2 : t ≠ l := fun e => by
          have z := kb2 _ _ hL lpl
          rw [← e, ht] at z
          cases z
        refine ⟨l, _, _, rfl, rfl, by rw [upd_ne tl2.symm]; exact kb2 _ _ hL lpl, by rw [List.length_map]; exact small1000 (by omega), ?_⟩
        have b1 := zb z1 (by simp)
        have b2 := zb z2 (by simp)
        have b3 := zb z3 (by simp)
        have kbT : KeepB pl H' (upd H2 t (.tup [V.str x, V.str (kindOf x), V.int z1, V.int z2, V.int z3])) := kb2.trans (KeepB.of (same_new ht))
        have nl : ∀ {b : Addr} {o : HO}, (upd H2 t (.tup [V.str x, V.str (kindOf x), V.int z1, V.int z2, V.int z3])) b = some o → b ≠ l → (upd (upd H2 t (.tup [V.str x, V.str (kindOf x), V.int z1, V.int z2, V.int z3])) l (.lst (ts.map V.ref ++ [V.ref t]))) b = some o := fun h n => by
          rw [upd_ne n]
          exact h
        have llst : (upd H2 t (.tup [V.str x, V.str (kindOf x), V.int z1, V.int z2, V.int z3])) l = some (.lst (ts.map V.ref)) := by
          rw [upd_ne tl2.symm]
          exact kb2 _ _ hL lpl
        have nT : ∀ {b : Addr} {ys : List V}, SqT K (upd H2 t (.tup [V.str x, V.str (kindOf x), V.int z1, V.int z2, V.int z3])) b ys → SqT K (upd (upd H2 t (.tup [V.str x, V.str (kindOf x), V.int z1, V.int z2, V.int z3])) l (.lst (ts.map V.ref ++ [V.ref t]))) b ys := fun {b ys} z => by
          rcases z with (z | ⟨o, z⟩) | z
          · exact .inl (.inl (nl z (ne_of z llst (by intro q; cases q))))
          · exact .inl (.inr ⟨o, nl z (ne_of z llst (by intro q; cases q))⟩)
          · exact .inr z
        refine ⟨ts ++ [t], ss ++ [⟨x, kindOf x, z1, z2, z3⟩], _, _, rfl, fun b o hb nb => ?_, ?_, ?_, ?_, by rw [upd_same, List.map_append]; rfl, by rw [List.length_append, tl]; rfl, by rw [List.length_append, sl]; rfl, ?_, by rw [List.map_append, hnm, take_snoc hx]; rfl, ?_⟩
        · have nbl : b ≠ l := fun e => by
            rw [e, lH] at hb
            cases hb
          exact nl (kbT _ _ (kb _ _ hb nb) nb) nbl
        · obtain ⟨n1, n2, ds, kk, g1, g2, g3, r⟩ := S2.new (same_new (o := .tup [V.str x, V.str (kindOf x), V.int z1, V.int z2, V.int z3]) ht)
          have stl : st ≠ l := fun e => by
            obtain ⟨o, ho⟩ := S.at
            rw [e, lH] at ho
            cases ho
          have pdl : pd ≠ l := fun e => by
            obtain ⟨m1, m2, ds', k', g1', g2', g3', r'⟩ := S
            rw [e, lH] at g2'
            cases g2'
          exact ⟨n1, n2, ds, kk, nl g1 stl, nl g2 pdl, nl g3 lpl.symm, r⟩
        · exact nl (kbT _ _ hK kppl) (ne_of hK hL (by intro z; cases z))
        · exact nl (kbT _ _ hN lnpl) lln.symm
        · intro j t' s' hj hs'
          by_cases e : j < ts.length
          · rw [List.getElem?_append_left e] at hj
            rw [List.getElem?_append_left (by omega)] at hs'
            have q := hT j t' s' hj hs'
            obtain ⟨m, hm⟩ := S'.pl
            exact nT ((TupK.keep kbT hm).seq q)
          · have ej : j = ts.length := by
              have := (List.getElem?_eq_some_iff.mp hj).1
              rw [List.length_append] at this
              simp at this
              omega
            subst ej
            rw [List.getElem?_append_right (Nat.le_refl _), Nat.sub_self] at hj
            rw [List.getElem?_append_right (by omega), show ts.length - ss.length = 0 by omega] at hs'
            cases Option.some.inj hj
            cases Option.some.inj hs'
            exact nT (SqT.of upd_same)
        · intro s' hs'
          rcases List.mem_append.mp hs' with z | z
          · exact hok s' z
          · rw [List.mem_singleton.mp z]
            exact ⟨rfl, b1.1, b1.2, b2.1, b2.2, b3.1, b3.2⟩
    · rintro σ H1 ⟨ts, ss, x3, x4, rfl, kb, S1, hK, hN, hL, tl, sl, hT, hnm, hok⟩
      rw [lnl] at tl sl hnm
      refine ⟨_, rfl, st, pd, pl, 9, rfl, by decide, S1, fun a1 H2 a10 a11 kb2 S2 => ?_⟩
      refine ⟨_, rfl, st, pd, pl, 4, rfl, by decide, S2, fun a2 H3 a20 a21 kb3 S3 => ?_⟩
      refine ⟨_, _, rfl, rfl, _, rfl, st, pd, pl, 6, rfl, by decide, S3, fun a3 H4 a30 a31 kb4 S4 => ?_⟩
      refine ⟨_, rfl, st, pd, pl, 15, rfl, by decide, S4, fun a4 H5 a40 a41 kb5 S5 => ⟨(by show 4 ≤ sizeLine; decide), fun t1 ht1 => ?_⟩⟩
      have s6 := same_new (o := .tup [V.int a1, V.int (1 + a2), V.int a3, V.int a4]) ht1
      have S6 := S5.new s6
      refine ⟨_, rfl, st, pd, pl, 5, rfl, by decide, S6, fun b1 H7 b10 b11 kb7 S7 => ?_⟩
      refine ⟨_, rfl, st, pd, pl, 8, rfl, by decide, S7, fun b2 H8 b20 b21 kb8 S8 => ?_⟩
      refine ⟨_, rfl, st, pd, pl, 12, rfl, by decide, S8, fun b3 H9 b30 b31 kb9 S9 => ?_⟩
      refine ⟨_, rfl, st, pd, pl, 9, rfl, by decide, S9, fun b4 HA b40 b41 kbA SA => ?_⟩
      refine ⟨_, _, rfl, rfl, (by show 4 ≤ sizeLine; decide), fun t2 ht2 => ?_⟩
      have sC := same_new (o := .tup [V.int b1, V.int b2, V.int b3, V.int (1 + b4)]) ht2
      have kbZ : KeepB pl H5 HA := (KeepB.of s6).trans (((kb7.trans kb8).trans kb9).trans kbA)
      have kbY : KeepB pl H1 H5 := ((kb2.trans kb3).trans kb4).trans kb5
      have kbX : KeepB pl H1 (upd HA t2 (.tup [V.int b1, V.int b2, V.int b3, V.int (1 + b4)])) := (kbY.trans kbZ).trans (KeepB.of sC)
      have SC := SA.new sC
      have t1pl : t1 ≠ pl := fun e => by
        obtain ⟨m, hm⟩ := S5.pl
        rw [← e, ht1] at hm
        cases hm
      have h1C : (upd HA t2 (.tup [V.int b1, V.int b2, V.int b3, V.int (1 + b4)])) t1 = some (.tup [V.int a1, V.int (1 + a2), V.int a3, V.int a4]) := sC _ _ ((((kb7.trans kb8).trans kb9).trans kbA) _ _ upd_same t1pl)
      have h2C : (upd HA t2 (.tup [V.int b1, V.int b2, V.int b3, V.int (1 + b4)])) t2 = some (.tup [V.int b1, V.int b2, V.int b3, V.int (1 + b4)]) := upd_same
      have hLC : (upd HA t2 (.tup [V.int b1, V.int b2, V.int b3, V.int (1 + b4)])) l = some (.lst (ts.map V.ref)) := kbX _ _ hL lpl
      generalize (upd HA t2 (.tup [V.int b1, V.int b2, V.int b3, V.int (1 + b4)])) = HC at kbX SC h1C h2C hLC ⊢
      refine ⟨_, rfl, l, _, rfl, .inl ⟨SqL.of hLC, fun u hu2 => ?_⟩⟩
      have sU := same_new (o := .tup (ts.map V.ref)) hu2
      refine ⟨_, rfl, _, rfl, t1, t2, _, _, rfl, rfl, SqT.of (sU _ _ h1C), SqT.of (sU _ _ h2C), by simp, (by show 8 ≤ sizeLine; decide), fun z => by simp at z, fun _ u2 hu3 => ?_⟩
      have sV := same_new (o := .tup ([V.int a1, V.int (1 + a2), V.int a3, V.int a4] ++ [V.int b1, V.int b2, V.int b3, V.int (1 + b4)])) hu3
      refine ⟨(by show 2 ≤ sizeLine; decide), fun fz hfz => ?_⟩
      have sW := same_new (o := .tup [V.ref u, V.ref u2]) hfz
      have sT := (sU.trans sV).trans sW
      obtain ⟨pq, hpq⟩ := S1.pl
      have tkF := (TupK.keep kbX hpq).trans (TupK.of sT)
      refine k fz u u2 ss [a1, 1 + a2, a3, a4, b1, b2, b3, 1 + b4] _ ((kb.trans kbX).trans (KeepB.of sT)) (SC.new sT) upd_same (SqT.of (sW _ _ upd_same)) ?_ hnm hok ⟨a1, 1 + a2, a3, a4, b1, b2, b3, 1 + b4, rfl, ⟨a10, by omega⟩, ⟨by omega, by omega⟩, ⟨a30, by omega⟩, ⟨a40, by omega⟩, ⟨b10, by omega⟩, ⟨b20, by omega⟩, ⟨b30, by omega⟩, by omega, by omega⟩
      refine .tup (SqT.of (sW _ _ (sV _ _ upd_same))) (by rw [List.length_map, List.length_map, tl, sl]) fun j x d hx hd => ?_
      rw [List.getElem?_map] at hx hd
      cases e1 : ts[j]? with
      | none => rw [e1] at hx; cases hx
      | some tj =>
        cases e2 : ss[j]? with
        | none => rw [e2] at hd; cases hd
        | some sj =>
          rw [e1] at hx
          rw [e2] at hd
          cases Option.some.inj hx
          cases Option.some.inj hd
          exact sym_tp (tkF.seq (hT j tj sj e1 e2))
end
end Mg

set_option Elab.async false
set_option linter.all false
set_option maxRecDepth 100000
set_option maxHeartbeats 4000000
namespace Mg
open PySem L2
/-! fonts drawn, and fonts made (out of k10's texts) -/
structure MkF (P : Program) (w : World) (K : PySem.W.Frag) (mg : Str → Option Value) (base : Heap) (CF CB : Addr) : Prop where
  ex : ∃ (f : Addr) (fd : FuncData), FnOk P w K mg base (L2.CX P w) 5 f fd ["self", "symbols", "lengths"] (spFInit K CF CB) ∧ Mk K CF f ∧ Binds K fd ["self", "symbols", "lengths"] []
abbrev E00 : XK := fun _ _ _ => False
section
variable {X : Cx} {CF CB : Addr} {p pos : Pos} {e : Expr} {es : List Expr} {t : TA}
theorem passN : Passes (L2.CX X.prog X.w) X E00 := passes_call takes0 fun _ _ _ _ h => h
theorem pe_mkF (M : MkF X.prog X.w X.K X.mg X.base CF CB) (hr : Room 6 X.A) (hg : Gl X "Font") (hm : X.mg "Font" = some (.ref CF)) (ha : PA X (e :: es) t)
    (he : starEach (e :: es) X.env = (false, eval e X.env) :: starEach es X.env := by rfl) (hpl : (backTo pos (starEach es X.env)).any (·.1) = false := by rfl) :
    PE X (.Call (.Name "Font" p) (e :: es) [] pos) (tMake CF (spFInit X.K CF CB) [] E00 t) := by
  obtain ⟨f, fd, F, mk, hb⟩ := M.ex
  exact pe_make mk F hr hg hm hb .nil passN ha (by decide) he hpl
end
structure Drawn (ss : List Sym) (ls : List Int) : Prop where
  nm : ss.map (·.nm) = nmsR
  ok : ∀ s ∈ ss, s.ok
  lens : LensOk ls
/-! the drawn symbols and lengths are a font's -/
theorem good_entry {n c : Str} {a b d : Int} (hn : isName (.str n) = true) (hc : isKind (.str c) = true) (ha : 0 ≤ a ∧ a ≤ 1000) (hb : 0 ≤ b ∧ b ≤ 1000) (hd : 0 ≤ d ∧ d ≤ 1000) : isEntry (Sym.d ⟨n, c, a, b, d⟩) = true := by
  simp [Sym.d, isEntry, isInt, hn, hc, ha.1, ha.2, hb.1, hb.2, hd.1, hd.2]
theorem nms_name : ∀ n ∈ nmsR, isName (.str n) = true ∧ isKind (.str (kindOf n)) = true ∧ n.length ≤ 1000 ∧ PyData.canLay0 (.str n) = true ∧ PyData.canLay0 (.str (kindOf n)) = true := by decide +kernel
theorem lay_syms : ∀ {ss : List Sym}, (∀ s ∈ ss, PyData.canLay0 (.str s.nm) = true ∧ PyData.canLay0 (.str s.cl) = true) → PyData.canLayAll0 (ss.map Sym.d) = true
  | [], _ => rfl
  | s :: ss, h => by
    obtain ⟨h1, h2⟩ := h s List.mem_cons_self
    have ih := lay_syms (ss := ss) fun u hu => h u (List.mem_cons_of_mem _ hu)
    show (PyData.canLay0 s.d && PyData.canLayAll0 (ss.map Sym.d)) = true
    rw [ih, Bool.and_true]
    show (PyData.canLay0 (.str s.nm) && (PyData.canLay0 (.str s.cl) && (true && (true && (true && true))))) = true
    rw [h1, h2]
    rfl
theorem dep_syms : ∀ (ss : List Sym), PyData.depthAll (ss.map Sym.d) ≤ 1
  | [] => Nat.zero_le _
  | s :: ss => by
    show max (PyData.depth s.d) (PyData.depthAll (ss.map Sym.d)) ≤ 1
    exact Nat.max_le.mpr ⟨Nat.le_refl 1, dep_syms ss⟩
theorem dep_ints : ∀ (ls : List Int), PyData.depthAll (ls.map PyData.int) ≤ 0
  | [] => Nat.zero_le _
  | s :: ss => by
    show max 0 (PyData.depthAll (ss.map PyData.int)) ≤ 0
    exact Nat.max_le.mpr ⟨Nat.le_refl 0, dep_ints ss⟩
theorem lay_ints : ∀ (ls : List Int), PyData.canLayAll0 (ls.map PyData.int) = true
  | [] => rfl
  | s :: ss => by
    show (true && PyData.canLayAll0 (ss.map PyData.int)) = true
    rw [lay_ints ss]
    rfl
theorem sh_syms {ss : List Sym} (h : ∀ s ∈ ss, PyData.canLay0 (.str s.nm) = true ∧ PyData.canLay0 (.str s.cl) = true) : SeqAt.shaped (symsD ss) = true := by
  have h1 : PyData.canLay0 (symsD ss) = true := lay_syms h
  have h2 : PyData.depth (symsD ss) ≤ 64 := Nat.le_trans (Nat.succ_le_succ (dep_syms ss)) (by decide)
  unfold SeqAt.shaped
  rw [h1, decide_eq_true h2]
  rfl
theorem sh_lens (ls : List Int) : SeqAt.shaped (lensD ls) = true := by
  have h1 : PyData.canLay0 (lensD ls) = true := lay_ints ls
  have h2 : PyData.depth (lensD ls) ≤ 64 := Nat.le_trans (Nat.succ_le_succ (dep_ints ls)) (by decide)
  unfold SeqAt.shaped
  rw [h1, decide_eq_true h2]
  rfl
theorem good_syms {ss : List Sym} (h1 : 1 ≤ ss.length) (h2 : ss.length ≤ 60) (h3 : (ss.map (·.nm)).Nodup) (h4 : ∀ s ∈ ss, isEntry s.d = true) : areSymbols (symsD ss) = true := by
  have e1 : (ss.map Sym.d).map nameD = ss.map (·.nm) := by
    rw [List.map_map]
    rfl
  show (decide (1 ≤ (ss.map Sym.d).length) && decide ((ss.map Sym.d).length ≤ 60) && (ss.map Sym.d).all isEntry && decide (((ss.map Sym.d).map nameD).Nodup)) = true
  rw [List.length_map, e1, decide_eq_true h1, decide_eq_true h2, decide_eq_true h3]
  have e2 : (ss.map Sym.d).all isEntry = true := by
    rw [List.all_eq_true]
    intro d hd
    obtain ⟨s, hs, rfl⟩ := List.mem_map.mp hd
    exact h4 s hs
  rw [e2]
  rfl
section
variable {ss : List Sym} {ls : List Int}
theorem Drawn.mem (D : Drawn ss ls) {s : Sym} (h : s ∈ ss) : s.nm ∈ nmsR := by
  rw [← D.nm]
  exact List.mem_map_of_mem h
theorem Drawn.entry (D : Drawn ss ls) {s : Sym} (h : s ∈ ss) : isEntry s.d = true := by
  obtain ⟨n, c, a, b, d⟩ := s
  obtain ⟨e, a0, a1, b0, b1, d0, d1⟩ := D.ok _ h
  obtain ⟨q1, q2, _⟩ := nms_name _ (D.mem h)
  dsimp only at e q1 q2 a0 a1 b0 b1 d0 d1
  subst e
  exact good_entry q1 q2 ⟨a0, by omega⟩ ⟨b0, by omega⟩ ⟨d0, by omega⟩
theorem Drawn.lay (D : Drawn ss ls) : ∀ s ∈ ss, PyData.canLay0 (.str s.nm) = true ∧ PyData.canLay0 (.str s.cl) = true := fun s h => by
  obtain ⟨_, _, _, q3, q4⟩ := nms_name _ (D.mem h)
  rw [(D.ok s h).1]
  exact ⟨q3, q4⟩
theorem Drawn.len (D : Drawn ss ls) : ss.length = 13 := by
  have := congrArg List.length D.nm
  rw [List.length_map] at this
  exact this
theorem Drawn.good (D : Drawn ss ls) : areSymbols (symsD ss) = true := good_syms (by rw [D.len]; decide) (by rw [D.len]; decide) (by rw [D.nm]; decide +kernel) fun s h => D.entry h
theorem Drawn.good12 (D : Drawn ss ls) : areSymbols (symsD (ss.take 12)) = true := by
  refine good_syms (by rw [List.length_take, D.len]; decide) (by rw [List.length_take, D.len]; decide) ?_ fun s h => D.entry (List.mem_of_mem_take h)
  rw [List.map_take, D.nm]
  decide +kernel
theorem Drawn.pre (D : Drawn ss ls) : ∀ s ∈ ss, s.nm.length ≤ 1000 := fun s h => (nms_name _ (D.mem h)).2.2.1
theorem pre_syms {ss : List Sym} (h : ∀ s ∈ ss, s.nm.length ≤ 1000) : PreS (symsD ss) := fun d hd => by
  obtain ⟨s, hs, rfl⟩ := List.mem_map.mp hd
  refine ⟨fun x e => ?_, rfl⟩
  cases e
  exact h s hs
theorem Drawn.goodL (D : Drawn ss ls) : areLengths (lensD ls) = true := by
  obtain ⟨a, b, c, d, e, f, g, h, rfl, ha, hb, hc, hd, he, hf, hg, h1, h2⟩ := D.lens
  simp [lensD, areLengths, cLIM, isInt]
  omega
end
section
variable {P : Program} {w : World} {K : PySem.W.Frag} {mg : Str → Option Value} {base : Heap} {CF CB CU : Addr} {f : Addr} {cdv : Value} {A : Around} {outer : List Env} {s : Shared} {H0 : Hp} {E : XK}
theorem map_inj {α β : Type} {g : α → β} (hg : ∀ a b, g a = g b → a = b) : ∀ {l m : List α}, l.map g = m.map g → l = m
  | [], [], _ => rfl
  | [], _ :: _, h => by cases h
  | _ :: _, [], h => by cases h
  | a :: l, b :: m, h => by
    rw [List.map_cons, List.map_cons, List.cons.injEq] at h
    rw [hg a b h.1, map_inj hg h.2]
theorem symsD_inj {ss ss' : List Sym} (h : symsD ss = symsD ss') : ss = ss' := by
  have e : ss.map Sym.d = ss'.map Sym.d := by injection h
  exact map_inj (fun a b hab => by
    obtain ⟨n, c, x, y, z⟩ := a
    obtain ⟨n', c', x', y', z'⟩ := b
    simp only [Sym.d, PyData.tuple.injEq, List.cons.injEq, PyData.str.injEq, PyData.int.injEq, and_true] at hab
    obtain ⟨rfl, rfl, rfl, rfl, rfl⟩ := hab
    rfl) e
theorem lensD_inj {ls ls' : List Int} (h : lensD ls = lensD ls') : ls = ls' := by
  have e : ls.map PyData.int = ls'.map PyData.int := by injection h
  exact map_inj (fun a b hab => by injection hab) e
theorem tp_of_ints {H : Hp} {b : Addr} {ls : List Int} (h : SqT K H b (ls.map V.int)) : Tp K H (.ref b) (lensD ls) := by
  refine .tup h (by rw [List.length_map, List.length_map]) fun i x d hx hd => ?_
  rw [List.getElem?_map] at hx hd
  cases e : ls[i]? with
  | none =>
    rw [e] at hx
    cases hx
  | some z =>
    rw [e] at hx hd
    cases hx
    cases hd
    exact .int z
theorem mk_font {H : Hp} {va vl : V} {ss : List Sym} {ls : List Int} {Q : VK} (hS : Dp K H va (symsD ss)) (hL : Dp K H vl (lensD ls)) (pre : PreS (symsD ss)) (g1 : areSymbols (symsD ss) = true) (g2 : areLengths (lensD ls) = true)
    (x dx : Addr) (nx : H x = none) (ndx : H dx = none) (ne : dx ≠ x) (k : ∀ H', Same H H' → FontAt K CF H' x va vl ss ls → Q .non H') :
    spFInit K CF CB (.ref x :: ([va, vl] ++ [])) (upd (upd H dx (.own x)) x (.ins CF dx [])) Q E00 := by
  have sN : Same H (upd (upd H dx (.own x)) x (.ins CF dx [])) := fun b o e => by
    rw [upd_ne (ne_of_none e nx), upd_ne (ne_of_none e ndx)]
    exact e
  refine ⟨x, dx, va, vl, _, _, rfl, upd_same, Dp_same sN hS, Dp_same sN hL, pre, fun _ H' ss' ls' e1 e2 kp FA => ?_, fun hb => ?_⟩
  · obtain rfl := symsD_inj e1
    obtain rfl := lensD_inj e2
    exact k H' (fun b o e => kp b o (sN b o e) (ne_of_none e nx)) FA
  · rw [g1, g2] at hb
    cases hb
theorem dp_two {H : Hp} {t : Addr} {x y : V} {d e : PyData} (h : H t = some (.tup [x, y])) (hx : Dp K H x d) (hy : Dp K H y e) : Dp K H (.ref t) (.tuple [d, e]) := .tup (SqT.of h) (.cons hx (.cons hy .nil))
theorem dep_two {ss : List Sym} {ls : List Int} : PyData.depth (.tuple [symsD ss, lensD ls]) ≤ 5 := by
  have h1 : PyData.depth (symsD ss) ≤ 2 := Nat.succ_le_succ (dep_syms ss)
  have h2 : PyData.depth (lensD ls) ≤ 1 := Nat.succ_le_succ (dep_ints ls)
  show max (PyData.depth (symsD ss)) (max (PyData.depth (lensD ls)) 0) + 1 ≤ 5
  omega
theorem tp_sym_of {H : Hp} {t : Addr} {y : Sym} (h : SqT K H t y.vs) : Tp K H (.ref t) y.d := by
  refine .tup h rfl fun i x d hx hd => ?_
  match i, hx, hd with
  | 0, hx, hd => cases hx; cases hd; exact .str _
  | 1, hx, hd => cases hx; cases hd; exact .str _
  | 2, hx, hd => cases hx; cases hd; exact .int _
  | 3, hx, hd => cases hx; cases hd; exact .int _
  | 4, hx, hd => cases hx; cases hd; exact .int _
  | _ + 5, hx, hd => cases hx
theorem tp_syms_of {H : Hp} {o : Addr} {ts : List Addr} {ss : List Sym} (h : SqT K H o (ts.map V.ref)) (hl : ts.length = ss.length) (he : ∀ (i : Nat) (t : Addr) (y : Sym), ts[i]? = some t → ss[i]? = some y → SqT K H t y.vs) : Tp K H (.ref o) (symsD ss) := by
  refine .tup h (by rw [List.length_map, List.length_map, hl]) fun i x d hx hd => ?_
  rw [List.getElem?_map] at hx hd
  cases e1 : ts[i]? with
  | none =>
    rw [e1] at hx
    cases hx
  | some t =>
    cases e2 : ss[i]? with
    | none =>
      rw [e2] at hd
      cases hd
    | some y =>
      rw [e1] at hx
      rw [e2] at hd
      cases hx
      cases hd
      exact tp_sym_of (he i t y e1 e2)
theorem FontAt.ins {H : Hp} {C p : Addr} {va vl : V} {ss : List Sym} {ls : List Int} (F : FontAt K C H p va vl ss ls) : ∃ dx e, H p = some (.ins C dx (ff va vl e)) := by
  obtain ⟨_, _, _, dx, e, _, h, _⟩ := F
  exact ⟨dx, e, h⟩
theorem look_at : ∀ {ss : List Sym} {i : Nat} {y : Sym}, (ss.map (·.nm)).Nodup → ss[i]? = some y → look ss y.nm = some y
  | [], i, y, _, h => by simp at h
  | z :: ss, 0, y, _, h => by
    cases h
    unfold look
    rw [List.find?_cons]
    simp
  | z :: ss, i + 1, y, nd, h => by
    have h' : ss[i]? = some y := by simpa using h
    rw [List.map_cons, List.nodup_cons] at nd
    have hz : ¬ (z.nm == y.nm) = true := fun e => nd.1 (by rw [eq_of_beq e]; exact List.mem_map_of_mem (List.mem_of_getElem? h'))
    have ih := look_at nd.2 h'
    unfold look at ih ⊢
    rw [List.find?_cons, Bool.eq_false_iff.mpr hz]
    exact ih
theorem Drawn.look {ss : List Sym} {ls : List Int} (D : Drawn ss ls) {i : Nat} {y : Sym} (h : ss[i]? = some y) : Mg.look ss y.nm = some y := look_at (by rw [D.nm]; decide +kernel) h
end
section
variable {X : Cx} {CF CB : Addr} {p pos : Pos} {e : Expr} {es : List Expr} {t : TA} {K : PySem.W.Frag}
theorem pe_mkFK (hK : X.K = K) (M : MkF X.prog X.w X.K X.mg X.base CF CB) (hr : Room 6 X.A) (hg : Gl X "Font") (hm : X.mg "Font" = some (.ref CF)) (ha : PA X (e :: es) t)
    (he : starEach (e :: es) X.env = (false, eval e X.env) :: starEach es X.env := by rfl) (hpl : (backTo pos (starEach es X.env)).any (·.1) = false := by rfl) :
    PE X (.Call (.Name "Font" p) (e :: es) [] pos) (tMake CF (spFInit K CF CB) [] E00 t) := by
  subst hK
  exact pe_mkF M hr hg hm ha he hpl
end
def kinds7 : List Str := ["ord", "op", "bin", "rel", "open", "close", "punct"]
structure Turn (y z : Sym) : Prop where
  nm : z.nm = y.nm
  cl : z.cl ∈ kinds7
  wd : z.wd = y.wd
  ht : z.ht = y.ht
  dp : z.dp = y.dp
theorem kinds_ok : ∀ c ∈ kinds7, isKind (.str c) = true ∧ PyData.canLay0 (.str c) = true := by decide +kernel
theorem at_kinds {n : Int} (h0 : 0 ≤ n) (h1 : n < 7) : ∃ c, c ∈ kinds7 ∧ atI (kinds7.map V.str) n = some (.str c) := by
  obtain rfl | rfl | rfl | rfl | rfl | rfl | rfl : n = 0 ∨ n = 1 ∨ n = 2 ∨ n = 3 ∨ n = 4 ∨ n = 5 ∨ n = 6 := by omega
  all_goals exact ⟨_, by decide +kernel, rfl⟩
theorem Turn.entry {ss : List Sym} {ls : List Int} (D : Drawn ss ls) {y z : Sym} (h : y ∈ ss) (T : Turn y z) : isEntry z.d = true := by
  obtain ⟨n, c, a, b, d⟩ := z
  obtain ⟨t1, t2, t3, t4, t5⟩ := T
  obtain ⟨_, a0, a1, b0, b1, d0, d1⟩ := D.ok _ h
  obtain ⟨q1, _, _⟩ := nms_name _ (D.mem h)
  dsimp only at t1 t2 t3 t4 t5
  subst t1
  subst t3
  subst t4
  subst t5
  exact good_entry q1 (kinds_ok c t2).1 ⟨a0, by omega⟩ ⟨b0, by omega⟩ ⟨d0, by omega⟩
end Mg

set_option Elab.async false
set_option linter.all false
set_option maxRecDepth 100000
set_option maxHeartbeats 4000000
namespace Mg
open PySem L2
abbrev sLScaled : Stmt := top 67
section
variable {P : Program} {w : World} {K : PySem.W.Frag} {mg : Str → Option Value} {base : Heap} {CF : Addr}
def spLScaled : Sp := fun vs H Q _ => ∃ n s : Int, vs = [.int n, .int s] ∧ 0 ≤ s ∧ s ≤ 3 ∧ ∀ H', Same H H' → Q (.int (scN n s)) H'
theorem at4 {a b c d : Int} {s n : Int} (h0 : 0 ≤ s) (h3 : s ≤ 3) (e0 : s = 0 → a = n) (e1 : s = 1 → b = n) (e2 : s = 2 → c = n) (e3 : s = 3 → d = n) : atI ([V.int a, V.int b, V.int c, V.int d] : List V) s = some (V.int n) := by
  rcases (show s = 0 ∨ s = 1 ∨ s = 2 ∨ s = 3 by omega) with q | q | q | q
  · rw [← e0 q, q]
    rfl
  · rw [← e1 q, q]
    rfl
  · rw [← e2 q, q]
    rfl
  · rw [← e3 q, q]
    rfl
theorem scLScaled : FnScope ["number", "style"] ["number", "style"] (defScope sLScaled) := ⟨rfl, rfl, rfl, by decide +kernel, rfl, by decide +kernel, by decide +kernel⟩
theorem ok_lscaled {f : Addr} {fd : FuncData} (F : Fun K "_law_scaled" "_law_scaled" sLScaled f fd) : FnOk P w K mg base CX0 1 f fd ["number", "style"] spLScaled := by
  have sc := scLScaled
  refine F.ok scLScaled (fun vs H Q E h => ?_) (fun cdv A outer s H vs Q E hr h => ?_)
  · obtain ⟨n, st, rfl, _⟩ := h
    rfl
  · obtain ⟨n, st, rfl, h0, h3, k⟩ := h
    refine ⟨_, (pss_one (ps_ret (pe_ix ix_list (pe_lst (pa_cons (pv 0) (pa_cons (pv 0) (pa_cons (pe_op op_fdiv (pe_op op_mul pe_int (pv 0)) pe_int) (pa_cons (pe_op op_fdiv (pv 0) pe_int) pa_nil))))) (pv 1) (fun _ _ => rfl)))), ?_⟩
    refine ⟨_, rfl, _, rfl, _, rfl, _, _, rfl, rfl, .inl ⟨by decide, by decide⟩, _, _, rfl, rfl, ⟨by decide, by decide⟩, _, rfl, _, _, rfl, rfl, ⟨by decide, by decide⟩, (by show 4 ≤ sizeLine; decide), fun l hl => ?_⟩
    refine ⟨_, rfl, l, _, _, _, rfl, rfl, SqL.of upd_same, at4 h0 h3 (n := scN n st) ?_ ?_ ?_ ?_, k _ (same_new hl)⟩ <;> intro e <;> unfold scN <;> rw [e] <;> rfl
end
end Mg

set_option Elab.async false
set_option linter.all false
set_option maxRecDepth 100000
set_option maxHeartbeats 400000
namespace Mg
open PySem L2
/-! formulas as they are meant; as data; what the program's walks find in them -/
mutual
inductive FRow where
  | nil | cons (i : FItem) (r : FRow)
inductive FItem where
  | mk (n : FNuc) (b a : FScr)
inductive FScr where
  | no | yes (r : FRow)
inductive FNuc where
  | sym (x : Str) | group (r : FRow) | frac (o u : FRow) | root (r : FRow) | fence (o c : Option Str) (r : FRow) | grid (g : FGrid)
inductive FGrid where
  | nil | cons (c : FCells) (g : FGrid)
inductive FCells where
  | nil | cons (r : FRow) (c : FCells)
end
def optD : Option Str → PyData
  | none => .none
  | some x => .str x
mutual
def FRow.ds : FRow → List PyData
  | .nil => []
  | .cons i r => i.d :: r.ds
def FItem.d : FItem → PyData
  | .mk n b a => .tuple [n.d, b.d, a.d]
def FScr.d : FScr → PyData
  | .no => .none
  | .yes r => .tuple r.ds
def FNuc.d : FNuc → PyData
  | .sym x => .tuple [.str "symbol", .str x]
  | .group r => .tuple [.str "group", .tuple r.ds]
  | .frac o u => .tuple [.str "frac", .tuple o.ds, .tuple u.ds]
  | .root r => .tuple [.str "root", .tuple r.ds]
  | .fence o c r => .tuple [.str "fence", optD o, optD c, .tuple r.ds]
  | .grid g => .tuple [.str "grid", .tuple g.ds]
def FGrid.ds : FGrid → List PyData
  | .nil => []
  | .cons c g => .tuple c.ds :: g.ds
def FCells.ds : FCells → List PyData
  | .nil => []
  | .cons r c => .tuple r.ds :: c.ds
end
def FRow.d (r : FRow) : PyData := .tuple r.ds
def FCells.d (c : FCells) : PyData := .tuple c.ds
/-! as lists -/
def FRow.items : FRow → List FItem
  | .nil => []
  | .cons i r => i :: r.items
def FRow.of : List FItem → FRow
  | [] => .nil
  | i :: r => .cons i (FRow.of r)
def FGrid.lines : FGrid → List FCells
  | .nil => []
  | .cons c g => c :: g.lines
def FGrid.of : List FCells → FGrid
  | [] => .nil
  | c :: g => .cons c (FGrid.of g)
def FCells.rows : FCells → List FRow
  | .nil => []
  | .cons r c => r :: c.rows
def FCells.of : List FRow → FCells
  | [] => .nil
  | r :: c => .cons r (FCells.of c)
theorem FRow.ds_eq : ∀ r : FRow, r.ds = r.items.map FItem.d
  | .nil => rfl
  | .cons i r => by rw [FRow.ds, FRow.items, List.map_cons, FRow.ds_eq r]
theorem FGrid.ds_eq : ∀ g : FGrid, g.ds = g.lines.map FCells.d
  | .nil => rfl
  | .cons c g => by rw [FGrid.ds, FGrid.lines, List.map_cons, FGrid.ds_eq g, FCells.d]
theorem FCells.ds_eq : ∀ c : FCells, c.ds = c.rows.map FRow.d
  | .nil => rfl
  | .cons r c => by rw [FCells.ds, FCells.rows, List.map_cons, FCells.ds_eq c, FRow.d]
theorem FRow.items_of : ∀ l : List FItem, (FRow.of l).items = l
  | [] => rfl
  | i :: l => by rw [FRow.of, FRow.items, FRow.items_of l]
theorem FGrid.lines_of : ∀ l : List FCells, (FGrid.of l).lines = l
  | [] => rfl
  | i :: l => by rw [FGrid.of, FGrid.lines, FGrid.lines_of l]
theorem FCells.rows_of : ∀ l : List FRow, (FCells.of l).rows = l
  | [] => rfl
  | i :: l => by rw [FCells.of, FCells.rows, FCells.rows_of l]
theorem FRow.of_items : ∀ r : FRow, FRow.of r.items = r
  | .nil => rfl
  | .cons i r => by rw [FRow.items, FRow.of, FRow.of_items r]
/-! the rows directly in -/
def FScr.rows : FScr → List FRow
  | .no => []
  | .yes r => [r]
def FGrid.all : FGrid → List FRow
  | .nil => []
  | .cons c g => c.rows ++ g.all
def FNuc.rows : FNuc → List FRow
  | .sym _ => []
  | .group r => [r]
  | .frac o u => [o, u]
  | .root r => [r]
  | .fence _ _ r => [r]
  | .grid g => g.all
def FItem.nuc : FItem → FNuc
  | .mk n _ _ => n
def FItem.bel : FItem → FScr
  | .mk _ b _ => b
def FItem.abv : FItem → FScr
  | .mk _ _ a => a
def FItem.rows : FItem → List FRow
  | .mk n b a => n.rows ++ (b.rows ++ a.rows)
theorem FGrid.all_eq : ∀ g : FGrid, g.all = g.lines.flatMap FCells.rows
  | .nil => rfl
  | .cons c g => by rw [FGrid.all, FGrid.lines, List.flatMap_cons, FGrid.all_eq g]
/-! all rows within, in preorder -/
mutual
def FRow.inn : FRow → List FRow
  | .nil => []
  | .cons i r => i.inn ++ r.inn
def FItem.inn : FItem → List FRow
  | .mk n b a => n.inn ++ (b.inn ++ a.inn)
def FScr.inn : FScr → List FRow
  | .no => []
  | .yes r => r :: r.inn
def FNuc.inn : FNuc → List FRow
  | .sym _ => []
  | .group r => r :: r.inn
  | .frac o u => (o :: o.inn) ++ (u :: u.inn)
  | .root r => r :: r.inn
  | .fence _ _ r => r :: r.inn
  | .grid g => g.inn
def FGrid.inn : FGrid → List FRow
  | .nil => []
  | .cons c g => c.inn ++ g.inn
def FCells.inn : FCells → List FRow
  | .nil => []
  | .cons r c => (r :: r.inn) ++ c.inn
end
def FRow.pre (r : FRow) : List FRow := r :: r.inn
theorem FRow.inn_eq : ∀ r : FRow, r.inn = r.items.flatMap FItem.inn
  | .nil => rfl
  | .cons i r => by rw [FRow.inn, FRow.items, List.flatMap_cons, FRow.inn_eq r]
theorem FCells.inn_eq : ∀ c : FCells, c.inn = c.rows.flatMap FRow.pre
  | .nil => rfl
  | .cons r c => by rw [FCells.inn, FCells.rows, List.flatMap_cons, FCells.inn_eq c, FRow.pre]
theorem FGrid.inn_eq : ∀ g : FGrid, g.inn = g.all.flatMap FRow.pre
  | .nil => rfl
  | .cons c g => by rw [FGrid.inn, FGrid.all, List.flatMap_append, FGrid.inn_eq g, FCells.inn_eq]
theorem FScr.inn_eq (s : FScr) : s.inn = s.rows.flatMap FRow.pre := by
  cases s <;> simp [FScr.inn, FScr.rows, FRow.pre]
theorem FNuc.inn_eq (n : FNuc) : n.inn = n.rows.flatMap FRow.pre := by
  cases n <;> simp [FNuc.inn, FNuc.rows, FRow.pre, FGrid.inn_eq]
theorem FItem.inn_eq (i : FItem) : i.inn = i.rows.flatMap FRow.pre := by
  cases i with
  | mk n b a => rw [FItem.inn, FItem.rows, FNuc.inn_eq, FScr.inn_eq, FScr.inn_eq, List.flatMap_append, List.flatMap_append]
/-! how deep -/
mutual
def FRow.dep : FRow → Nat
  | .nil => 0
  | .cons i r => max i.dep r.dep
def FItem.dep : FItem → Nat
  | .mk n b a => max n.dep (max b.dep a.dep)
def FScr.dep : FScr → Nat
  | .no => 0
  | .yes r => r.dep + 1
def FNuc.dep : FNuc → Nat
  | .sym _ => 0
  | .group r => r.dep + 1
  | .frac o u => max (o.dep + 1) (u.dep + 1)
  | .root r => r.dep + 1
  | .fence _ _ r => r.dep + 1
  | .grid g => g.dep
def FGrid.dep : FGrid → Nat
  | .nil => 0
  | .cons c g => max c.dep g.dep
def FCells.dep : FCells → Nat
  | .nil => 0
  | .cons r c => max (r.dep + 1) c.dep
end
theorem FRow.dep_le {n : Nat} : ∀ {r : FRow}, r.dep ≤ n ↔ ∀ i ∈ r.items, i.dep ≤ n
  | .nil => by simp [FRow.dep, FRow.items]
  | .cons i r => by
    rw [FRow.dep, FRow.items, List.forall_mem_cons, ← FRow.dep_le (r := r)]
    omega
theorem FCells.dep_le {n : Nat} : ∀ {c : FCells}, c.dep ≤ n ↔ ∀ r ∈ c.rows, r.dep + 1 ≤ n
  | .nil => by simp [FCells.dep, FCells.rows]
  | .cons r c => by
    rw [FCells.dep, FCells.rows, List.forall_mem_cons, ← FCells.dep_le (c := c)]
    omega
theorem FGrid.dep_le {n : Nat} : ∀ {g : FGrid}, g.dep ≤ n ↔ ∀ r ∈ g.all, r.dep + 1 ≤ n
  | .nil => by simp [FGrid.dep, FGrid.all]
  | .cons c g => by
    rw [FGrid.dep, FGrid.all, List.forall_mem_append, ← FGrid.dep_le (g := g), ← FCells.dep_le]
    omega
theorem FScr.dep_le {n : Nat} {s : FScr} : s.dep ≤ n ↔ ∀ r ∈ s.rows, r.dep + 1 ≤ n := by
  cases s <;> simp [FScr.dep, FScr.rows]
theorem FNuc.dep_le {n : Nat} {s : FNuc} : s.dep ≤ n ↔ ∀ r ∈ s.rows, r.dep + 1 ≤ n := by
  cases s with
  | grid g => exact FGrid.dep_le
  | frac o u => simp [FNuc.dep, FNuc.rows]; omega
  | _ => simp [FNuc.dep, FNuc.rows]
theorem FItem.dep_le {n : Nat} {i : FItem} : i.dep ≤ n ↔ ∀ r ∈ i.rows, r.dep + 1 ≤ n := by
  cases i with
  | mk m b a =>
    rw [FItem.dep, FItem.rows, List.forall_mem_append, List.forall_mem_append, ← FNuc.dep_le, ← FScr.dep_le, ← FScr.dep_le]
    omega
/-! the words of the normal text -/
def delimW : Option Str → Str
  | none => "."
  | some x => x
mutual
def FRow.words : FRow → List Str
  | .nil => []
  | .cons i r => i.words ++ r.words
def FItem.words : FItem → List Str
  | .mk n b a => n.words ++ (b.words "_" ++ a.words "^")
def FScr.words (s : Str) : FScr → List Str
  | .no => []
  | .yes r => s :: "{" :: (r.words ++ [("}" : Str)])
def FNuc.words : FNuc → List Str
  | .sym x => [x]
  | .group r => "{" :: (r.words ++ [("}" : Str)])
  | .frac o u => "@frac" :: "{" :: (o.words ++ (("}" : Str) :: "{" :: (u.words ++ [("}" : Str)])))
  | .root r => "@root" :: "{" :: (r.words ++ [("}" : Str)])
  | .fence o c r => "@left" :: delimW o :: (r.words ++ [("@right" : Str), delimW c])
  | .grid g => "@grid" :: (g.words "{" ++ [("}" : Str)])
def FGrid.words (s : Str) : FGrid → List Str
  | .nil => []
  | .cons c g => c.words s ++ g.words "~"
def FCells.words (s : Str) : FCells → List Str
  | .nil => []
  | .cons r c => s :: (r.words ++ c.words "&")
end
theorem FRow.words_eq : ∀ r : FRow, r.words = r.items.flatMap FItem.words
  | .nil => rfl
  | .cons i r => by rw [FRow.words, FRow.items, List.flatMap_cons, FRow.words_eq r]
def braceW (r : FRow) : List Str := "{" :: (r.words ++ [("}" : Str)])
/-! sizes: the number of words -/
theorem words_item : ∀ {r : FRow} {i : FItem}, i ∈ r.items → i.words.length ≤ r.words.length
  | .nil, _, h => nomatch h
  | .cons q r, i, h => by
    rw [FRow.words, List.length_append]
    rcases List.mem_cons.mp h with rfl | h
    · omega
    · have := words_item h
      omega
theorem words_cells : ∀ {c : FCells} {r : FRow} {s : Str}, r ∈ c.rows → r.words.length < (c.words s).length
  | .nil, _, _, h => nomatch h
  | .cons q c, r, s, h => by
    rw [FCells.words, List.length_cons, List.length_append]
    rcases List.mem_cons.mp h with rfl | h
    · omega
    · have := words_cells (s := "&") h
      omega
theorem words_grid : ∀ {g : FGrid} {r : FRow} {s : Str}, r ∈ g.all → r.words.length < (g.words s).length
  | .nil, _, _, h => nomatch h
  | .cons q c, r, s, h => by
    rw [FGrid.words, List.length_append]
    rcases List.mem_append.mp h with h | h
    · have := words_cells (s := s) h
      omega
    · have := words_grid (s := "~") h
      omega
theorem words_nuc {n : FNuc} {r : FRow} (h : r ∈ n.rows) : r.words.length < n.words.length := by
  cases n with
  | sym x => cases h
  | group q => cases List.mem_singleton.mp h; simp [FNuc.words]; omega
  | root q => cases List.mem_singleton.mp h; simp [FNuc.words]; omega
  | fence o c q => cases List.mem_singleton.mp h; simp [FNuc.words]; omega
  | frac o u =>
    rcases List.mem_cons.mp h with rfl | h
    · simp [FNuc.words]; omega
    · cases List.mem_singleton.mp h; simp [FNuc.words]; omega
  | grid g =>
    have := words_grid (s := "{") h
    simp [FNuc.words]; omega
theorem words_scr {n : FScr} {r : FRow} {s : Str} (h : r ∈ n.rows) : r.words.length < (n.words s).length := by
  cases n with
  | no => cases h
  | yes q => cases List.mem_singleton.mp h; simp [FScr.words]; omega
theorem words_rows {i : FItem} {r : FRow} (h : r ∈ i.rows) : r.words.length < i.words.length := by
  cases i with
  | mk n b a =>
    rw [FItem.words, List.length_append, List.length_append]
    rcases List.mem_append.mp h with h | h
    · have := words_nuc h
      omega
    rcases List.mem_append.mp h with h | h
    · have := words_scr (s := "_") h
      omega
    · have := words_scr (s := "^") h
      omega
end Mg

set_option Elab.async false
set_option linter.all false
set_option maxRecDepth 100000
set_option maxHeartbeats 1000000
namespace Mg
open PySem PySem.Spec PyProof.Rows L2
/-! values that are data made of tuples -/
inductive TpL (K : PySem.W.Frag) (H : Hp) : List V → List PyData → Prop
  | nil : TpL K H [] []
  | cons {v : V} {d : PyData} {vs : List V} {ds : List PyData} : Tp K H v d → TpL K H vs ds → TpL K H (v :: vs) (d :: ds)
section
variable {K : PySem.W.Frag} {H H' : Hp}
theorem TpL.stay (s : TupK H H') : ∀ {vs : List V} {ds : List PyData}, TpL K H vs ds → TpL K H' vs ds
  | _, _, .nil => .nil
  | _, _, .cons a b => .cons (a.stay s) (TpL.stay s b)
theorem TpL.len : ∀ {vs : List V} {ds : List PyData}, TpL K H vs ds → vs.length = ds.length
  | _, _, .nil => rfl
  | _, _, .cons _ b => by rw [List.length_cons, List.length_cons, TpL.len b]
theorem TpL.get : ∀ {vs : List V} {ds : List PyData} {i : Nat} {d : PyData}, TpL K H vs ds → ds[i]? = some d → ∃ v, vs[i]? = some v ∧ Tp K H v d
  | _, _, _, _, .nil, e => by simp at e
  | _, _, 0, _, .cons a _, e => by
    cases Option.some.inj e
    exact ⟨_, rfl, a⟩
  | _, _, i + 1, _, .cons _ b, e => by
    obtain ⟨v, h1, h2⟩ := TpL.get (i := i) b e
    exact ⟨v, h1, h2⟩
theorem TpL.get' : ∀ {vs : List V} {ds : List PyData} {i : Nat} {v : V}, TpL K H vs ds → vs[i]? = some v → ∃ d, ds[i]? = some d ∧ Tp K H v d
  | _, _, _, _, .nil, e => by simp at e
  | _, _, 0, _, .cons a _, e => by
    cases Option.some.inj e
    exact ⟨_, rfl, a⟩
  | _, _, i + 1, _, .cons _ b, e => by
    obtain ⟨v, h1, h2⟩ := TpL.get' (i := i) b e
    exact ⟨v, h1, h2⟩
theorem TpL.app : ∀ {vs us : List V} {ds es : List PyData}, TpL K H vs ds → TpL K H us es → TpL K H (vs ++ us) (ds ++ es)
  | _, _, _, _, .nil, g => g
  | _, _, _, _, .cons a b, g => .cons a (TpL.app b g)
theorem TpL.one {v : V} {d : PyData} (h : Tp K H v d) : TpL K H [v] [d] := .cons h .nil
theorem TpL.of : ∀ {ds : List PyData} {xs : List V}, xs.length = ds.length → (∀ (i : Nat) (x : V) (d : PyData), xs[i]? = some x → ds[i]? = some d → Tp K H x d) → TpL K H xs ds
  | [], [], _, _ => .nil
  | [], _ :: _, e, _ => by simp at e
  | _ :: _, [], e, _ => by simp at e
  | d :: ds, x :: xs, e, h => .cons (h 0 x d rfl rfl) (TpL.of (by simpa using e) fun i y z h1 h2 => h (i + 1) y z h1 h2)
theorem TpL.at {vs : List V} {ds : List PyData} {i : Nat} {x : V} {d : PyData} (h : TpL K H vs ds) (h1 : vs[i]? = some x) (h2 : ds[i]? = some d) : Tp K H x d := by
  obtain ⟨v, a, b⟩ := h.get h2
  rw [h1] at a
  cases a
  exact b
theorem TpL.drop : ∀ {vs : List V} {ds : List PyData} (n : Nat), TpL K H vs ds → TpL K H (vs.drop n) (ds.drop n)
  | _, _, 0, h => h
  | _, _, n + 1, .nil => .nil
  | _, _, n + 1, .cons _ b => TpL.drop n b
theorem TpL.take : ∀ {vs : List V} {ds : List PyData} (n : Nat), TpL K H vs ds → TpL K H (vs.take n) (ds.take n)
  | _, _, 0, h => .nil
  | _, _, n + 1, .nil => .nil
  | _, _, n + 1, .cons a b => .cons a (TpL.take n b)
theorem Tp.mk {a : Addr} {xs : List V} {ds : List PyData} (s : SqT K H a xs) (h : TpL K H xs ds) : Tp K H (.ref a) (.tuple ds) := .tup s h.len fun i x d h1 h2 => h.at h1 h2
theorem Tp.inv {v : V} {ds : List PyData} (h : Tp K H v (.tuple ds)) : ∃ a xs, v = .ref a ∧ SqT K H a xs ∧ TpL K H xs ds := by
  cases h with
  | tup s l g => exact ⟨_, _, rfl, s, TpL.of l g⟩
theorem tp_int {v : V} {i : Int} (h : Tp K H v (.int i)) : v = .int i := by cases h; rfl
theorem tp_str {v : V} {i : Str} (h : Tp K H v (.str i)) : v = .str i := by cases h; rfl
theorem tp_bool {v : V} {i : Bool} (h : Tp K H v (.bool i)) : v = .bl i := by cases h; rfl
theorem tp_non {v : V} (h : Tp K H v .none) : v = .non := by cases h; rfl
theorem TpL.dp : ∀ {vs : List V} {ds : List PyData}, TpL K H vs ds → DpAll K H vs ds
  | _, _, .nil => .nil
  | _, _, .cons a b => .cons a.dp (TpL.dp b)
theorem TpL.strs : ∀ {vs : List V} {ws : List Str}, TpL K H vs (ws.map PyData.str) → vs = ws.map V.str
  | _, [], h => by cases h; rfl
  | _, w :: ws, h => by
    cases h with
    | cons a b => rw [List.map_cons, tp_str a, TpL.strs b]
theorem TpL.ints : ∀ {vs : List V} {ws : List Int}, TpL K H vs (ws.map PyData.int) → vs = ws.map V.int
  | _, [], h => by cases h; rfl
  | _, w :: ws, h => by
    cases h with
    | cons a b => rw [List.map_cons, tp_int a, TpL.ints b]
theorem TpL.of_strs : ∀ (ws : List Str), TpL K H (ws.map V.str) (ws.map PyData.str)
  | [] => .nil
  | w :: ws => .cons (.str w) (TpL.of_strs ws)
theorem TpL.of_ints : ∀ (ws : List Int), TpL K H (ws.map V.int) (ws.map PyData.int)
  | [] => .nil
  | w :: ws => .cons (.int w) (TpL.of_ints ws)
end
theorem sz5 {n : Nat} (h : n ≤ 1000000) : n ≤ sizeLine := by
  rw [sizeLine_eq]
  omega
theorem sz6 {n : Nat} (h : n < 1000000) : n < sizeLine := by
  rw [sizeLine_eq]
  omega
/-! what an expression makes -/
def EvD (K : PySem.W.Frag) (te : TE) (σ : L2.St) (H : Hp) (d : PyData) : Prop := ∀ H1, Same H H1 → ∀ Q : VK, (∀ v H2, Same H1 H2 → Tp K H2 v d → Q v H2) → te σ H1 Q
/-- a new list -/
def EvDL (K : PySem.W.Frag) (te : TE) (σ : L2.St) (H : Hp) (ds : List PyData) : Prop := ∀ H1, Same H H1 → ∀ Q : VK, (∀ p xs H2, H1 p = none → Same H1 H2 → H2 p = some (.lst xs) → TpL K H2 xs ds → Q (.ref p) H2) → te σ H1 Q
def EvDT (K : PySem.W.Frag) (tt : TT) (σ : L2.St) (H : Hp) (b : Bool) : Prop := ∀ H1, Same H H1 → ∀ Q : Bool → Hp → Prop, (∀ H2, Same H1 H2 → Q b H2) → tt σ H1 Q
def EvDA (K : PySem.W.Frag) (ta : TA) (σ : L2.St) (H : Hp) (ds : List PyData) : Prop := ∀ H1, Same H H1 → ∀ Q : List V → Hp → Prop, (∀ vs H2, Same H1 H2 → TpL K H2 vs ds → Q vs H2) → ta σ H1 Q
/-- a value as it is -/
def EvV (te : TE) (σ : L2.St) (H : Hp) (v : V) : Prop := ∀ H1, Same H H1 → ∀ Q : VK, (∀ H2, Same H1 H2 → Q v H2) → te σ H1 Q
/-- promises of data -/
def spR (K : PySem.W.Frag) (R : List PyData → PyData → Prop) : Sp := fun vs H Q _ => ∃ ds d, TpL K H vs ds ∧ R ds d ∧ ∀ v H', Same H H' → Tp K H' v d → Q v H'
def spRL (K : PySem.W.Frag) (R : List PyData → List PyData → Prop) : Sp := fun vs H Q _ => ∃ ds es, TpL K H vs ds ∧ R ds es ∧ ∀ p xs H', H p = none → Same H H' → H' p = some (.lst xs) → TpL K H' xs es → Q (.ref p) H'
section
variable {K : PySem.W.Frag} {σ : L2.St} {H H' : Hp} {ta tb te tx tl : TE} {tas : TA} {t u : TT} {d d1 d2 : PyData} {ds es : List PyData} {b : Bool} {v : V}
theorem fresh_of {H H' : Hp} {p : Addr} (e : Same H H') (h : H' p = none) : H p = none := e.free h
theorem EvD.mono (h : EvD K te σ H d) (s : Same H H') : EvD K te σ H' d := fun H1 s1 Q q => h H1 (s.trans s1) Q q
theorem EvDL.mono (h : EvDL K te σ H ds) (s : Same H H') : EvDL K te σ H' ds := fun H1 s1 Q q => h H1 (s.trans s1) Q q
theorem EvDT.mono (h : EvDT K t σ H b) (s : Same H H') : EvDT K t σ H' b := fun H1 s1 Q q => h H1 (s.trans s1) Q q
theorem EvDA.mono (h : EvDA K tas σ H ds) (s : Same H H') : EvDA K tas σ H' ds := fun H1 s1 Q q => h H1 (s.trans s1) Q q
theorem e_var {i : Nat} (h : σ[i]? = some (some v)) (t : Tp K H v d) : EvD K (tVar i) σ H d := fun H1 s Q q => ⟨v, h, q v H1 (Same.refl _) (t.stay (.of s))⟩
theorem e_c (t : Tp K H v d) : EvD K (tC v) σ H d := fun H1 s Q q => q v H1 (Same.refl _) (t.stay (.of s))
theorem e_int {i : Int} : EvD K (tC (.int i)) σ H (.int i) := e_c (.int i)
theorem e_str {i : Str} : EvD K (tC (.str i)) σ H (.str i) := e_c (.str i)
theorem e_bl {i : Bool} : EvD K (tC (.bl i)) σ H (.bool i) := e_c (.bl i)
theorem e_non : EvD K (tC .non) σ H .none := e_c .non
theorem e_ofV (h : EvV te σ H v) (t : Tp K H v d) : EvD K te σ H d := fun H1 s Q q => h H1 s Q fun H2 s2 => q v H2 s2 (t.stay (.of (s.trans s2)))
theorem v_var {i : Nat} (h : σ[i]? = some (some v)) : EvV (tVar i) σ H v := fun H1 s Q q => ⟨v, h, q H1 (Same.refl _)⟩
theorem v_c : EvV (tC v) σ H v := fun H1 s Q q => q H1 (Same.refl _)
/-- a two-place operation upon data -/
def RD (K : PySem.W.Frag) (r : R2) (d1 d2 : PyData) (d : PyData) : Prop := ∀ v1 v2 H Q, Tp K H v1 d1 → Tp K H v2 d2 → (∀ v H', Same H H' → Tp K H' v d → Q v H') → r v1 v2 H Q
theorem e_op {r : R2} (ha : EvD K ta σ H d1) (hb : EvD K tb σ H d2) (hr : RD K r d1 d2 d) : EvD K (tOp r ta tb) σ H d := fun H1 s Q q =>
  ha H1 s _ fun v1 H2 s2 t1 => hb H2 (s.trans s2) _ fun v2 H3 s3 t2 => hr v1 v2 H3 Q (t1.stay (.of s3)) t2 fun v H4 s4 t4 => q v H4 ((s2.trans s3).trans s4) t4
theorem r_I0i {f : Int → Int → Int} {i j : Int} : RD K (rI0 fun i j => .int (f i j)) (.int i) (.int j) (.int (f i j)) := fun v1 v2 H Q t1 t2 q => by
  rw [tp_int t1, tp_int t2]
  exact ⟨i, j, rfl, rfl, q _ _ (Same.refl _) (.int _)⟩
theorem r_I0b {f : Int → Int → Bool} {i j : Int} : RD K (rI0 fun i j => .bl (f i j)) (.int i) (.int j) (.bool (f i j)) := fun v1 v2 H Q t1 t2 q => by
  rw [tp_int t1, tp_int t2]
  exact ⟨i, j, rfl, rfl, q _ _ (Same.refl _) (.bl _)⟩
theorem r_Ii {C : Int → Int → Prop} {f : Int → Int → Int} {i j : Int} (c : C i j) : RD K (rI C fun i j => .int (f i j)) (.int i) (.int j) (.int (f i j)) := fun v1 v2 H Q t1 t2 q => by
  rw [tp_int t1, tp_int t2]
  exact ⟨i, j, rfl, rfl, c, q _ _ (Same.refl _) (.int _)⟩
theorem r_eqS {x y : Str} : RD K rEq (.str x) (.str y) (.bool (decide (x = y))) := fun v1 v2 H Q t1 t2 q => by
  rw [tp_str t1, tp_str t2]
  refine ⟨rfl, ?_⟩
  rw [show decide (V.str x = V.str y) = decide (x = y) by simp]
  exact q _ _ (Same.refl _) (.bl _)
theorem r_neS {x y : Str} : RD K rNe (.str x) (.str y) (.bool (!decide (x = y))) := fun v1 v2 H Q t1 t2 q => by
  rw [tp_str t1, tp_str t2]
  refine ⟨rfl, ?_⟩
  rw [show decide (V.str x = V.str y) = decide (x = y) by simp]
  exact q _ _ (Same.refl _) (.bl _)
theorem r_eqI {x y : Int} : RD K rEq (.int x) (.int y) (.bool (decide (x = y))) := fun v1 v2 H Q t1 t2 q => by
  rw [tp_int t1, tp_int t2]
  refine ⟨rfl, ?_⟩
  rw [show decide (V.int x = V.int y) = decide (x = y) by simp]
  exact q _ _ (Same.refl _) (.bl _)
theorem r_neI {x y : Int} : RD K rNe (.int x) (.int y) (.bool (!decide (x = y))) := fun v1 v2 H Q t1 t2 q => by
  rw [tp_int t1, tp_int t2]
  refine ⟨rfl, ?_⟩
  rw [show decide (V.int x = V.int y) = decide (x = y) by simp]
  exact q _ _ (Same.refl _) (.bl _)
def noneD : PyData → Bool
  | .none => true
  | _ => false
theorem none_dec {v : V} {d : PyData} (t : Tp K H v d) : decide (v = .non) = noneD d := by
  cases t <;> simp [noneD]
theorem r_isN : RD K (fun x y H Q => y = .non ∧ Q (.bl (decide (x = .non))) H) d .none (.bool (noneD d)) := fun v1 v2 H Q t1 t2 q => by
  refine ⟨tp_non t2, ?_⟩
  rw [none_dec t1]
  exact q _ _ (Same.refl _) (.bl _)
theorem r_notN : RD K (fun x y H Q => y = .non ∧ Q (.bl (!decide (x = .non))) H) d .none (.bool (!noneD d)) := fun v1 v2 H Q t1 t2 q => by
  refine ⟨tp_non t2, ?_⟩
  rw [none_dec t1]
  exact q _ _ (Same.refl _) (.bl _)
theorem atI_get {α β : Type} {xs : List α} {ys : List β} {i : Int} {y : β} (hl : xs.length = ys.length) (h : atI ys i = some y) : ∃ n : Nat, ∃ x, atI xs i = some x ∧ xs[n]? = some x ∧ ys[n]? = some y := by
  unfold atI at h ⊢
  rw [hl]
  cases e : ixN ys.length i with
  | none =>
    rw [e] at h
    cases h
  | some n =>
    rw [e] at h
    have h : ys[n]? = some y := h
    have hn := (List.getElem?_eq_some_iff.mp h).1
    exact ⟨n, xs[n]'(by omega), List.getElem?_eq_getElem (by omega), List.getElem?_eq_getElem (by omega), h⟩
theorem r_ixT {i : Int} (h : atI ds i = some d) : RD K (rIxT K) (.tuple ds) (.int i) d := fun v1 v2 H Q t1 t2 q => by
  obtain ⟨a, xs, rfl, s, l⟩ := t1.inv
  rw [tp_int t2]
  obtain ⟨n, x, h1, h2, h3⟩ := atI_get l.len h
  exact ⟨a, xs, i, x, rfl, rfl, s, h1, q _ _ (Same.refl _) (l.at h2 h3)⟩
theorem r_ixQ {i : Int} (h : atI ds i = some d) : RD K (rIx K) (.tuple ds) (.int i) d := fun v1 v2 H Q t1 t2 q => .inr (.inl (r_ixT h v1 v2 H Q t1 t2 q))
theorem a_nil : EvDA K tNil σ H [] := fun H1 s Q q => q _ H1 (Same.refl _) .nil
theorem a_cons (h : EvD K te σ H d) (hs : EvDA K tas σ H ds) : EvDA K (tCons te tas) σ H (d :: ds) := fun H1 s Q q =>
  h H1 s _ fun v H2 s2 hd => hs H2 (s.trans s2) _ fun vs H3 s3 hds => q _ H3 (s2.trans s3) (.cons (hd.stay (.of s3)) hds)
theorem e_tup (h : EvDA K tas σ H ds) (hl : ds.length ≤ 1000) : EvD K (tTup tas) σ H (.tuple ds) := fun H1 s Q q => h H1 s _ fun vs H2 s2 hds =>
  ⟨by rw [hds.len]; exact sz5 (by omega), fun p hp => q _ _ (s2.trans (same_new hp)) (.mk (SqT.of upd_same) (hds.stay (.of (same_new hp))))⟩
theorem l_lst (h : EvDA K tas σ H ds) (hl : ds.length ≤ 1000) : EvDL K (tLst tas) σ H ds := fun H1 s Q q => h H1 s _ fun vs H2 s2 hds =>
  ⟨by rw [hds.len]; exact sz5 (by omega), fun p hp => q _ _ _ (s2.free hp) (s2.trans (same_new hp)) upd_same (hds.stay (.of (same_new hp)))⟩
theorem l_cat (ha : EvDL K ta σ H ds) (hb : EvDL K tb σ H es) (hl : ds.length + es.length ≤ 1000000) : EvDL K (tOp rCat ta tb) σ H (ds ++ es) := fun H1 s Q q =>
  ha H1 s _ fun l xs H2 _ s2 e1 t1 => hb H2 (s.trans s2) _ fun m ys H3 _ s3 e2 t2 =>
    ⟨l, m, xs, ys, rfl, rfl, s3 _ _ e1, e2, by rw [t1.len, t2.len]; exact sz5 hl, fun p hp => q p _ _ ((s2.trans s3).free hp) ((s2.trans s3).trans (same_new hp)) upd_same (((t1.stay (.of s3)).app t2).stay (.of (same_new hp)))⟩
theorem e_if (h : EvDT K t σ H b) (h1 : b = true → EvD K ta σ H d) (h2 : b = false → EvD K tb σ H d) : EvD K (tIf t ta tb) σ H d := fun H1 s Q q => h H1 s _ fun H2 s2 => by
  cases b with
  | true => exact iteT (h1 rfl H2 (s.trans s2) Q fun v H3 s3 => q v H3 (s2.trans s3))
  | false => exact iteF (h2 rfl H2 (s.trans s2) Q fun v H3 s3 => q v H3 (s2.trans s3))
theorem t_test (h : EvD K te σ H (.bool b)) : EvDT K (tTest te) σ H b := fun H1 s Q q => h H1 s _ fun v H2 s2 hv => ⟨b, tp_bool hv, q H2 s2⟩
theorem t_B (h : EvD K te σ H (.bool b)) : EvDT K (tB te) σ H b := fun H1 s Q q => h H1 s _ fun v H2 s2 hv => ⟨b, tp_bool hv, q H2 s2⟩
theorem t_not (h : EvDT K t σ H b) : EvDT K (tNot t) σ H (!b) := fun H1 s Q q => h H1 s _ fun H2 s2 => q H2 s2
theorem t_and {c : Bool} (h : EvDT K t σ H b) (h2 : b = true → EvDT K u σ H c) : EvDT K (tAnd t u) σ H (b && c) := fun H1 s Q q => h H1 s _ fun H2 s2 => by
  cases b with
  | true => exact iteT (h2 rfl H2 (s.trans s2) Q fun H3 s3 => q H3 (s2.trans s3))
  | false => exact iteF (q H2 s2)
theorem t_or {c : Bool} (h : EvDT K t σ H b) (h2 : b = false → EvDT K u σ H c) : EvDT K (tOr t u) σ H (b || c) := fun H1 s Q q => h H1 s _ fun H2 s2 => by
  cases b with
  | true => exact iteT (q H2 s2)
  | false => exact iteF (h2 rfl H2 (s.trans s2) Q fun H3 s3 => q H3 (s2.trans s3))
theorem t_is {c : Bool} (h : EvDT K t σ H b) (e : b = c) : EvDT K t σ H c := e ▸ h
theorem e_is (h : EvD K te σ H d1) (e : d1 = d2) : EvD K te σ H d2 := e ▸ h
theorem l_is (h : EvDL K te σ H ds) (e : ds = es) : EvDL K te σ H es := e ▸ h
theorem e_and {c : Bool} (h : EvD K ta σ H (.bool b)) (h2 : b = true → EvD K tb σ H (.bool c)) : EvD K (tAndV ta tb) σ H (.bool (b && c)) := fun H1 s Q q => h H1 s _ fun v H2 s2 hv => ⟨b, tp_bool hv, by
  cases b with
  | true => exact iteT (h2 rfl H2 (s.trans s2) Q fun v H3 s3 => q v H3 (s2.trans s3))
  | false => exact iteF (q _ H2 s2 (.bl _))⟩
theorem e_or {c : Bool} (h : EvD K ta σ H (.bool b)) (h2 : b = false → EvD K tb σ H (.bool c)) : EvD K (tOrV ta tb) σ H (.bool (b || c)) := fun H1 s Q q => h H1 s _ fun v H2 s2 hv => ⟨b, tp_bool hv, by
  cases b with
  | true => exact iteT (q _ H2 s2 (.bl _))
  | false => exact iteF (h2 rfl H2 (s.trans s2) Q fun v H3 s3 => q v H3 (s2.trans s3))⟩
theorem e_not (h : EvD K ta σ H (.bool b)) : EvD K (tNotV ta) σ H (.bool (!b)) := fun H1 s Q q => h H1 s _ fun v H2 s2 hv => ⟨b, tp_bool hv, q _ H2 s2 (.bl _)⟩
theorem e_call {R : List PyData → PyData → Prop} {E : XK} (h : EvDA K tas σ H ds) (r : R ds d) : EvD K (tCall (spR K R) [] E tas) σ H d := fun H1 s Q q => h H1 s _ fun vs H2 s2 hv =>
  ⟨ds, d, by rw [List.append_nil]; exact hv, r, fun v H3 s3 t3 => q v H3 (s2.trans s3) t3⟩
theorem l_call {R : List PyData → List PyData → Prop} {E : XK} (h : EvDA K tas σ H ds) (r : R ds es) : EvDL K (tCall (spRL K R) [] E tas) σ H es := fun H1 s Q q => h H1 s _ fun vs H2 s2 hv =>
  ⟨ds, es, by rw [List.append_nil]; exact hv, r, fun p xs H3 hp s3 e t3 => q p xs H3 (s2.free hp) (s2.trans s3) e t3⟩
/-- len of a new list, of a tuple -/
theorem e_lenL {r : List V → Hp → VK → Prop} (hr : ∀ p xs H Q, (SqL K H p xs ∨ SqT K H p xs) → Q (V.int xs.length) H → r [.ref p] H Q) (h : EvDL K te σ H ds) : EvD K (tCB r (tCons te tNil)) σ H (.int ds.length) := fun H1 s Q q => h H1 s _ fun p xs H2 _ s2 e t2 =>
  hr p xs H2 Q (.inl (SqL.of e)) (by rw [t2.len]; exact q _ H2 s2 (.int _))
theorem e_lenT {r : List V → Hp → VK → Prop} (hr : ∀ p xs H Q, (SqL K H p xs ∨ SqT K H p xs) → Q (V.int xs.length) H → r [.ref p] H Q) (h : EvD K te σ H (.tuple ds)) : EvD K (tCB r (tCons te tNil)) σ H (.int ds.length) := fun H1 s Q q => h H1 s _ fun v H2 s2 t2 => by
  obtain ⟨p, xs, rfl, sq, l⟩ := t2.inv
  exact hr p xs H2 Q (.inr sq) (by rw [l.len]; exact q _ H2 s2 (.int _))
/-- tuple(new list) -/
theorem e_tupOf {r : List V → Hp → VK → Prop} (hr : ∀ p xs H Q, SqL K H p xs → (∀ l, H l = none → Q (V.ref l) (upd H l (.tup xs))) → r [.ref p] H Q) (h : EvDL K te σ H ds) : EvD K (tCB r (tCons te tNil)) σ H (.tuple ds) := fun H1 s Q q => h H1 s _ fun p xs H2 _ s2 e t2 =>
  hr p xs H2 Q (SqL.of e) fun l hl => q _ _ (s2.trans (same_new hl)) (.mk (SqT.of upd_same) (t2.stay (.of (same_new hl))))
end
/-! a list that grows; what was known stays -/
structure Acc (K : PySem.W.Frag) (H0 : Hp) (p : Addr) (as : List PyData) (H : Hp) : Prop where
  new : H0 p = none
  same : Same H0 H
  lst : ∃ xs, H p = some (.lst xs) ∧ TpL K H xs as
section
variable {K : PySem.W.Frag} {σ : L2.St} {H0 H H' : Hp} {p q : Addr} {as ds : List PyData} {d : PyData} {ta tb te tl : TE} {tu tw tz : TS} {g : TG} {D : Ends} {t : TT} {b : Bool}
theorem Acc.ext (a : Acc K H0 p as H) (s : Same H H') : Acc K H0 p as H' := by
  obtain ⟨h1, h2, xs, e, tp⟩ := a
  exact ⟨h1, h2.trans s, xs, s _ _ e, tp.stay (.of s)⟩
theorem Acc.start {xs : List V} (h : H0 p = none) (s : Same H0 H) (e : H p = some (.lst xs)) (l : TpL K H xs as) : Acc K H0 p as H := ⟨h, s, xs, e, l⟩
theorem Acc.grow {xs ys : List V} (a : Acc K H0 p as H) (e : H p = some (.lst xs)) (l : TpL K H ys ds) : Acc K H0 p (as ++ ds) (upd H p (.lst (xs ++ ys))) := by
  obtain ⟨h1, h2, xs', e', tp⟩ := a
  rw [e] at e'
  cases e'
  exact ⟨h1, same_upd_new h2 h1, _, upd_same, (tp.app l).stay (.keep keep_upd e)⟩
theorem Acc.of_ne (a : Acc K H0 p as H) (kb : KeepB q H H') (tk : TupK H H') (s : Same H0 H') (n : p ≠ q) : Acc K H0 p as H' := by
  obtain ⟨h1, h2, xs, e, tp⟩ := a
  exact ⟨h1, s, xs, kb _ _ e n, tp.stay tk⟩
theorem Acc.tup (a : Acc K H0 p as H) : TupK H0 H := .of a.same
/-! statements -/
theorem q_set {i : Nat} (h : EvD K te σ H d) (k : ∀ v H1, Same H H1 → Tp K H1 v d → tz D (σ.set i (some v)) H1) : tSeq (tAsg te (gName i)) tz D σ H := h H (Same.refl _) _ fun v H1 s tp => k v H1 s tp
theorem q_setL {i : Nat} (h : EvDL K te σ H ds) (k : ∀ p xs H1, H p = none → Same H H1 → H1 p = some (.lst xs) → TpL K H1 xs ds → tz D (σ.set i (some (.ref p))) H1) : tSeq (tAsg te (gName i)) tz D σ H := h H (Same.refl _) _ fun p xs H1 n s e tp => k p xs H1 n s e tp
theorem q_ret (h : EvD K te σ H d) (k : ∀ v H1, Same H H1 → Tp K H1 v d → D.rt v H1) : tRet te D σ H := h H (Same.refl _) _ fun v H1 s tp => k v H1 s tp
theorem q_retL (h : EvDL K te σ H ds) (k : ∀ p xs H1, H p = none → Same H H1 → H1 p = some (.lst xs) → TpL K H1 xs ds → D.rt (.ref p) H1) : tRet te D σ H := h H (Same.refl _) _ fun p xs H1 n s e tp => k p xs H1 n s e tp
theorem q_if (h : EvDT K t σ H b) (h1 : b = true → ∀ H1, Same H H1 → tu { D with nx := tz D } σ H1) (h2 : b = false → ∀ H1, Same H H1 → tw { D with nx := tz D } σ H1) : tSeq (tIfS t tu tw) tz D σ H := h H (Same.refl _) _ fun H1 s => by
  cases b with
  | true => exact iteT (h1 rfl H1 s)
  | false => exact iteF (h2 rfl H1 s)
theorem s_if (h : EvDT K t σ H b) (h1 : b = true → ∀ H1, Same H H1 → tu D σ H1) (h2 : b = false → ∀ H1, Same H H1 → tw D σ H1) : tIfS t tu tw D σ H := h H (Same.refl _) _ fun H1 s => by
  cases b with
  | true => exact iteT (h1 rfl H1 s)
  | false => exact iteF (h2 rfl H1 s)
theorem q_when (h : EvDT K t σ H b) (h1 : b = true → ∀ H1, Same H H1 → tu { D with nx := tz D } σ H1) (h2 : b = false → ∀ H1, Same H H1 → tz D σ H1) : tSeq (tIfS t tu tNext) tz D σ H := q_if h h1 h2
theorem s_when (h : EvDT K t σ H b) (h1 : b = true → ∀ H1, Same H H1 → tu D σ H1) (h2 : b = false → ∀ H1, Same H H1 → D.nx σ H1) : tIfS t tu tNext D σ H := s_if h h1 h2
theorem s_app {i : Nat} {l : Nat} (hp : σ[i]? = some (some (.ref p))) (a : Acc K H0 p as H) (h : EvD K te σ H d) (hz : as.length < 1000000) (k : ∀ H1, TupK H H1 → KeepB p H H1 → Acc K H0 p (as ++ [d]) H1 → D.nx σ H1) :
    tDrop (tBM K "list" rAppend (tVar i) (tCons te tNil)) D σ H := by
  obtain ⟨xs, e, tp⟩ := a.lst
  refine ⟨_, hp, .inl ⟨rfl, _, SqL.of e⟩, h H (Same.refl _) _ fun v H1 s tv => ?_⟩
  have e1 := s _ _ e
  exact ⟨p, xs, v, rfl, rfl, e1, by rw [tp.len]; exact sz6 hz, k _ ((TupK.of s).trans (.keep keep_upd e1)) ((KeepB.of s).trans keep_upd) ((a.ext s).grow e1 (.one tv))⟩
theorem q_app {i : Nat} (hp : σ[i]? = some (some (.ref p))) (a : Acc K H0 p as H) (h : EvD K te σ H d) (hz : as.length < 1000000) (k : ∀ H1, TupK H H1 → KeepB p H H1 → Acc K H0 p (as ++ [d]) H1 → tz D σ H1) :
    tSeq (tDrop (tBM K "list" rAppend (tVar i) (tCons te tNil))) tz D σ H := s_app (D := { D with nx := tz D }) (l := 0) hp a h hz k
theorem s_ext {i : Nat} (hp : σ[i]? = some (some (.ref p))) (a : Acc K H0 p as H) (h : EvDL K te σ H ds) (hz : as.length + ds.length ≤ 1000000) (k : ∀ H1, TupK H H1 → KeepB p H H1 → Acc K H0 p (as ++ ds) H1 → D.nx σ H1) :
    tDrop (tBM K "list" rExtend (tVar i) (tCons te tNil)) D σ H := by
  obtain ⟨xs, e, tp⟩ := a.lst
  refine ⟨_, hp, .inl ⟨rfl, _, SqL.of e⟩, h H (Same.refl _) _ fun m ys H1 _ s em tv => ?_⟩
  have e1 := s _ _ e
  exact ⟨p, m, xs, ys, rfl, rfl, e1, em, by rw [tp.len, tv.len]; exact sz5 hz, k _ ((TupK.of s).trans (.keep keep_upd e1)) ((KeepB.of s).trans keep_upd) ((a.ext s).grow e1 tv)⟩
theorem q_ext {i : Nat} (hp : σ[i]? = some (some (.ref p))) (a : Acc K H0 p as H) (h : EvDL K te σ H ds) (hz : as.length + ds.length ≤ 1000000) (k : ∀ H1, TupK H H1 → KeepB p H H1 → Acc K H0 p (as ++ ds) H1 → tz D σ H1) :
    tSeq (tDrop (tBM K "list" rExtend (tVar i) (tCons te tNil))) tz D σ H := s_ext (D := { D with nx := tz D }) hp a h hz k
/-- a for by a word: n turns -/
theorem for_word {J : It} {n : Nat} {g : TG} {tb : TS} {D : Ends} {σ : L2.St} {H : Hp} (Pv : Nat → L2.St → Hp → Prop) (h0 : Pv 0 σ H) (hgo : ∀ i σ H, i < n → Pv i σ H → J.go i H) (hst : ∀ σ H, Pv n σ H → J.stop n H)
    (hs : ∀ i x σ H H', i < n → Pv i σ H → J.yld i H x H' → g x σ H' fun σ2 H2 => tb { D with nx := Pv (i + 1), ct := Pv (i + 1), bk := D.nx } σ2 H2) (hd : ∀ σ H, Pv n σ H → D.nx σ H) :
    ∃ W : Nat → Nat → L2.St → Hp → Prop, (∃ m, W 0 m σ H) ∧ ∀ i m σ H, W i m σ H →
      (J.stop i H ∧ D.nx σ H) ∨ (J.go i H ∧ ∃ N : L2.St → Hp → Prop, (∀ σ' H', N σ' H' → ∃ m', m' < m ∧ W (i + 1) m' σ' H') ∧ ∀ x H', J.yld i H x H' → g x σ H' fun σ2 H2 => tb { D with nx := N, ct := N, bk := D.nx } σ2 H2) := by
  refine ⟨fun i m σ H => m = n - i ∧ i ≤ n ∧ Pv i σ H, ⟨n, by simp, Nat.zero_le _, h0⟩, ?_⟩
  rintro i m σ H ⟨rfl, hi, p⟩
  by_cases hlt : i < n
  · refine .inr ⟨hgo i σ H hlt p, Pv (i + 1), fun σ' H' p' => ⟨n - (i + 1), by omega, rfl, hlt, p'⟩, fun x H' y => hs i x σ H H' hlt p y⟩
  · have e : i = n := by omega
    subst e
    exact .inl ⟨hst σ H p, hd σ H p⟩
/-- for over a tuple, over a new list, over a list enumerated; p: the list that grows meanwhile -/
theorem s_forT {xs0 : List V} (h : EvD K tl σ H (.tuple ds)) (hp : H p = some (.lst xs0)) (Pv : Nat → L2.St → Hp → Prop) (h0 : ∀ H1, Same H H1 → Pv 0 σ H1)
    (hs : ∀ H1, Same H H1 → ∀ i d x σ' H', ds[i]? = some d → Pv i σ' H' → KeepB p H1 H' → Tp K H' x d → g x σ' H' fun σ2 H2 => tu { D with nx := fun σ3 H3 => Pv (i + 1) σ3 H3 ∧ KeepB p H1 H3, ct := fun σ3 H3 => Pv (i + 1) σ3 H3 ∧ KeepB p H1 H3, bk := D.nx } σ2 H2)
    (hd : ∀ σ' H', Pv ds.length σ' H' → KeepB p H H' → D.nx σ' H') : tFor (iTup K tl) g tu D σ H := h H (Same.refl _) _ fun v H1 s tv => by
  obtain ⟨a, xs, rfl, sq, l⟩ := tv.inv
  have tk : ∀ {H'}, KeepB p H1 H' → TupK H1 H' := fun kb => .keep kb (s _ _ hp)
  refine ⟨a, rfl, ⟨xs, sq⟩, for_word (n := ds.length) (fun i σ' H' => Pv i σ' H' ∧ KeepB p H1 H') ⟨h0 H1 s, KeepB.refl _ _⟩ (fun i σ' H' hi q => ?_) (fun σ' H' q => ⟨xs, (tk q.2).seq sq, Nat.le_of_eq l.len⟩) (fun i x σ' H' H'' hi q y => ?_) (fun σ' H' q => hd σ' H' q.1 ((KeepB.of s).trans q.2))⟩
  · have hi2 : i < xs.length := by rw [l.len]; exact hi
    exact ⟨xs, xs[i], (tk q.2).seq sq, List.getElem?_eq_getElem hi2⟩
  · obtain ⟨rfl, y⟩ := y
    have hx := y xs ((tk q.2).seq sq)
    obtain ⟨d, e1, e2⟩ := l.get' hx
    exact hs H1 s i d x σ' H'' e1 q.1 q.2 (e2.stay (tk q.2))
theorem s_forL {xs0 : List V} (h : EvDL K tl σ H ds) (hp : H p = some (.lst xs0)) (Pv : Nat → L2.St → Hp → Prop) (h0 : ∀ H1, Same H H1 → Pv 0 σ H1)
    (hs : ∀ H1, Same H H1 → ∀ i d x σ' H', ds[i]? = some d → Pv i σ' H' → KeepB p H1 H' → Tp K H' x d → g x σ' H' fun σ2 H2 => tu { D with nx := fun σ3 H3 => Pv (i + 1) σ3 H3 ∧ KeepB p H1 H3, ct := fun σ3 H3 => Pv (i + 1) σ3 H3 ∧ KeepB p H1 H3, bk := D.nx } σ2 H2)
    (hd : ∀ σ' H', Pv ds.length σ' H' → KeepB p H H' → D.nx σ' H') : tFor (iList K tl) g tu D σ H := h H (Same.refl _) _ fun a xs H1 ha s ea l => by
  have tk : ∀ {H'}, KeepB p H1 H' → TupK H1 H' := fun kb => .keep kb (s _ _ hp)
  have ne : a ≠ p := fun e => by
    rw [e, hp] at ha
    cases ha
  have sq : ∀ {H'}, KeepB p H1 H' → SqL K H' a xs := fun kb => SqL.of (kb _ _ ea ne)
  refine ⟨a, rfl, ⟨xs, SqL.of ea⟩, for_word (n := ds.length) (fun i σ' H' => Pv i σ' H' ∧ KeepB p H1 H') ⟨h0 H1 s, KeepB.refl _ _⟩ (fun i σ' H' hi q => ?_) (fun σ' H' q => ⟨xs, sq q.2, Nat.le_of_eq l.len⟩) (fun i x σ' H' H'' hi q y => ?_) (fun σ' H' q => hd σ' H' q.1 ((KeepB.of s).trans q.2))⟩
  · have hi2 : i < xs.length := by rw [l.len]; exact hi
    exact ⟨xs, xs[i], sq q.2, List.getElem?_eq_getElem hi2⟩
  · obtain ⟨rfl, y⟩ := y
    have hx := y xs (sq q.2)
    obtain ⟨d, e1, e2⟩ := l.get' hx
    exact hs H1 s i d x σ' H'' e1 q.1 q.2 (e2.stay (tk q.2))
theorem s_enum {xs0 xs : List V} {j : Nat} {a : Addr} (hj : σ[j]? = some (some (.ref a))) (ha : H a = some (.lst xs)) (l : TpL K H xs ds) (ne : a ≠ p) (hp : H p = some (.lst xs0)) (Pv : Nat → L2.St → Hp → Prop) (h0 : Pv 0 σ H)
    (hs : ∀ i d x T σ' H', ds[i]? = some d → Pv i σ' H' → KeepB p H H' → Tp K H' x d → H' T = none → g (.ref T) σ' (upd H' T (.tup [.int (i : Nat), x])) fun σ2 H2 => tu { D with nx := fun σ3 H3 => Pv (i + 1) σ3 H3 ∧ KeepB p H H3, ct := fun σ3 H3 => Pv (i + 1) σ3 H3 ∧ KeepB p H H3, bk := D.nx } σ2 H2)
    (hd : ∀ σ' H', Pv ds.length σ' H' → KeepB p H H' → D.nx σ' H') : tFor (iEnum K (tCons (tVar j) tNil)) g tu D σ H := by
  have tk : ∀ {H'}, KeepB p H H' → TupK H H' := fun kb => .keep kb hp
  have sq : ∀ {H'}, KeepB p H H' → SqL K H' a xs := fun kb => SqL.of (kb _ _ ha ne)
  refine ⟨_, hj, a, xs, rfl, SqL.of ha, for_word (n := ds.length) (fun i σ' H' => Pv i σ' H' ∧ KeepB p H H') ⟨h0, KeepB.refl _ _⟩ (fun i σ' H' hi q => ?_) (fun σ' H' q => ⟨xs, sq q.2, Nat.le_of_eq l.len⟩) (fun i x σ' H' H'' hi q y => ?_) (fun σ' H' q => hd σ' H' q.1 q.2)⟩
  · have hi2 : i < xs.length := by rw [l.len]; exact hi
    exact ⟨xs, xs[i], sq q.2, List.getElem?_eq_getElem hi2⟩
  · obtain ⟨T, z, rfl, hT, rfl, y⟩ := y
    have hx := y xs (sq q.2)
    obtain ⟨d, e1, e2⟩ := l.get' hx
    exact hs i d z T σ' H' e1 q.1 q.2 (e2.stay (tk q.2)) hT
/-- targets -/
theorem g_tup2 {i j : Nat} {v : V} {a b : PyData} {Q : L2.St → Hp → Prop} (h : Tp K H v (.tuple [a, b])) (k : ∀ x y, Tp K H x a → Tp K H y b → Q ((σ.set i (some x)).set j (some y)) H) : gTup K 2 (gCons (gName i) (gCons (gName j) gNil)) v σ H Q := by
  obtain ⟨p, xs, rfl, sq, l⟩ := h.inv
  cases l with
  | cons h1 l => cases l with
  | cons h2 l => cases l with
  | nil => exact ⟨p, _, rfl, sq, rfl, _, _, rfl, _, _, rfl, rfl, k _ _ h1 h2⟩
theorem g_tup3 {i j m : Nat} {v : V} {a b c : PyData} {Q : L2.St → Hp → Prop} (h : Tp K H v (.tuple [a, b, c])) (k : ∀ x y z, Tp K H x a → Tp K H y b → Tp K H z c → Q (((σ.set i (some x)).set j (some y)).set m (some z)) H) : gTup K 3 (gCons (gName i) (gCons (gName j) (gCons (gName m) gNil))) v σ H Q := by
  obtain ⟨p, xs, rfl, sq, l⟩ := h.inv
  cases l with
  | cons h1 l => cases l with
  | cons h2 l => cases l with
  | cons h3 l => cases l with
  | nil => exact ⟨p, _, rfl, sq, rfl, _, _, rfl, _, _, rfl, _, _, rfl, rfl, k _ _ _ h1 h2 h3⟩
theorem q_asg {g : TG} (h : EvD K te σ H d) (k : ∀ v H1, Same H H1 → Tp K H1 v d → g v σ H1 (tz D)) : tSeq (tAsg te g) tz D σ H := h H (Same.refl _) _ fun v H1 s tp => k v H1 s tp
end
/-! comprehensions -/
section
variable {K : PySem.W.Frag} {σ : L2.St} {H : Hp} {te tl tl1 : TE} {ds es : List PyData} {vs vs1 : List Nat} {g g1 : TG}
theorem lc_data {J : It} {tt : TT} {H1 : Hp} {D : Addr} {Qd : Hp → Prop} (es : List PyData) (hD : H1 D = none) (hz : es.length ≤ 1000000)
    (hgo : ∀ i H, i < es.length → Same H1 H → J.go i H) (hst : ∀ H, Same H1 H → J.stop es.length H)
    (hs : ∀ i x H H' (R : VK) (Z : Hp → Prop), i < es.length → Same H1 H → J.yld i H x H' → (∀ y e H3, es[i]? = some e → Same H H3 → Tp K H3 y e → R y H3) →
      g x (wipe σ vs) H' fun σ2 H2 => wipe σ2 vs = wipe σ vs ∧ tt σ2 H2 fun b H3 => if b = true then te σ2 H3 R else Z H3)
    (hd : ∀ H acc, Same H1 H → H D = some (.lst acc) → TpL K H acc es → Qd H) :
    ∃ W : Nat → Nat → Hp → Prop, (∃ m, W 0 m (upd H1 D (.lst []))) ∧ ∀ i m H, W i m H → (J.stop i H ∧ Qd H) ∨ (J.go i H ∧ ∃ Nx : Hp → Prop, (∀ H', Nx H' → ∃ m', m' < m ∧ W (i + 1) m' H') ∧ ∀ x H', J.yld i H x H' →
      g x (wipe σ vs) H' fun σ2 H2 => wipe σ2 vs = wipe σ vs ∧ tt σ2 H2 fun b H3 => if b = true then te σ2 H3 fun y H4 => ∃ acc, H4 D = some (.lst acc) ∧ acc.length < sizeLine ∧ Nx (upd H4 D (.lst (acc ++ [y]))) else Nx H3) := by
  refine lc_word (n := es.length) (fun i acc H => TpL K H acc (es.take i) ∧ Same H1 H) ⟨by rw [List.take_zero]; exact .nil, same_new hD⟩ (fun i acc H hi p => hgo i H hi p.2) (fun acc H p => hst H p.2) ?_ (fun acc H p e => hd H acc p.2 e (by have q := p.1; rw [List.take_length] at q; exact q))
  rintro i acc x H H' R Z hi ⟨tp, s⟩ e y k
  refine hs i x H H' R Z hi s y fun v d H3 hv s3 tv => k v H3 (s3 _ _ e) (by rw [tp.len, List.length_take]; exact sz6 (by omega)) ⟨?_, same_upd_new (s.trans s3) hD⟩
  have e1 : es.take (i + 1) = es.take i ++ [d] := by
    rw [List.take_add_one, hv]
    rfl
  rw [e1]
  exact ((tp.stay (.of s3)).app (.one tv)).stay (.keep keep_upd (s3 _ _ e))
theorem l_lcT {j : Nat} (h : EvD K tl σ H (.tuple ds)) (hl : es.length = ds.length) (hz : ds.length ≤ 1000000) (hw : ∀ x, wipe ((wipe σ vs).set j (some x)) vs = wipe σ vs)
    (he : ∀ (i : Nat) d e x H1, ds[i]? = some d → es[i]? = some e → Same H H1 → Tp K H1 x d → EvD K te ((wipe σ vs).set j (some x)) H1 e) : EvDL K (tLc (iTup K tl) (gName j) tYes te vs) σ H es := fun H0 s Q q => h H0 s _ fun v H1 s1 tv => by
  obtain ⟨a, xs, rfl, sq, l⟩ := tv.inv
  refine ⟨a, rfl, ⟨xs, sq⟩, fun D hD => lc_data (K := K) es hD (by omega) (fun i H' hi s2 => ?_) (fun H' s2 => ⟨xs, same_sqt s2 sq, by rw [l.len, hl]; exact Nat.le_refl _⟩) ?_ fun H' acc s2 e ta => q D acc H' (s1.free hD) (s1.trans s2) e ta⟩
  · have hi2 : i < xs.length := by rw [l.len]; omega
    exact ⟨xs, xs[i], same_sqt s2 sq, List.getElem?_eq_getElem hi2⟩
  · rintro i x H' H'' R Z hi s2 ⟨rfl, y⟩ k
    have hx := y xs (same_sqt s2 sq)
    obtain ⟨d, e1, e2⟩ := l.get' hx
    have e3 : es[i]? = some es[i] := List.getElem?_eq_getElem hi
    exact ⟨hw x, iteT (B := Z H'') (he i d _ x H'' e1 e3 ((s.trans s1).trans s2) (e2.stay (.of s2)) H'' (Same.refl _) R fun v H3 s3 tv => k v _ H3 e3 s3 tv)⟩
theorem l_lcL {j : Nat} (h : EvDL K tl σ H ds) (hl : es.length = ds.length) (hz : ds.length ≤ 1000000) (hw : ∀ x, wipe ((wipe σ vs).set j (some x)) vs = wipe σ vs)
    (he : ∀ (i : Nat) d e x H1, ds[i]? = some d → es[i]? = some e → Same H H1 → Tp K H1 x d → EvD K te ((wipe σ vs).set j (some x)) H1 e) : EvDL K (tLc (iList K tl) (gName j) tYes te vs) σ H es := fun H0 s Q q => h H0 s _ fun a xs H1 ha s1 ea l => by
  refine ⟨a, rfl, ⟨xs, SqL.of ea⟩, fun D hD => lc_data (K := K) es hD (by omega) (fun i H' hi s2 => ?_) (fun H' s2 => ⟨xs, SqL.of (s2 _ _ ea), by rw [l.len, hl]; exact Nat.le_refl _⟩) ?_ fun H' acc s2 e ta => q D acc H' (s1.free hD) (s1.trans s2) e ta⟩
  · have hi2 : i < xs.length := by rw [l.len]; omega
    exact ⟨xs, xs[i], SqL.of (s2 _ _ ea), List.getElem?_eq_getElem hi2⟩
  · rintro i x H' H'' R Z hi s2 ⟨rfl, y⟩ k
    have hx := y xs (SqL.of (s2 _ _ ea))
    obtain ⟨d, e1, e2⟩ := l.get' hx
    have e3 : es[i]? = some es[i] := List.getElem?_eq_getElem hi
    exact ⟨hw x, iteT (B := Z H'') (he i d _ x H'' e1 e3 ((s.trans s1).trans s2) (e2.stay (.of s2)) H'' (Same.refl _) R fun v H3 s3 tv => k v _ H3 e3 s3 tv)⟩
/-- what an inner walk gives: a tuple or a new list of data -/
inductive Wk (K : PySem.W.Frag) : TI → L2.St → Hp → List PyData → Prop
  | tup {tl : TE} {σ : L2.St} {H : Hp} {ds : List PyData} : EvD K tl σ H (.tuple ds) → Wk K (iTup K tl) σ H ds
  | lst {tl : TE} {σ : L2.St} {H : Hp} {ds : List PyData} : EvDL K tl σ H ds → Wk K (iList K tl) σ H ds
theorem yes_then {A B : Hp → Prop} {σ : L2.St} {H : Hp} (h : A H) : tYes σ H (fun b H3 => if b = true then A H3 else B H3) := iteT (B := B H) h
/-- tuples stay, and what is new in H1 -/
def Stays (H H1 H' : Hp) : Prop := TupK H1 H' ∧ ∀ b o, H b = none → H1 b = some o → H' b = some o
theorem Stays.of {H H1 H' : Hp} (s : Same H1 H') : Stays H H1 H' := ⟨.of s, fun b o _ e => s b o e⟩
theorem Wk.go {wi : TI} (h : Wk K wi σ H ds) : ∀ (R : It → Hp → Prop), (∀ J H1, Same H H1 → (∀ i H', i < ds.length → Stays H H1 H' → J.go i H') → (∀ H', Stays H H1 H' → J.stop ds.length H') →
    (∀ i x H' H'', Stays H H1 H' → J.yld i H' x H'' → H'' = H' ∧ ∀ (hi : i < ds.length), ∃ d, ds[i]? = some d ∧ Tp K H' x d) → R J H1) → wi σ H R := by
  intro R k
  cases h with
  | tup h =>
    refine h _ (Same.refl _) _ fun v H1 s1 tv => ?_
    obtain ⟨a, xs, rfl, sq, l⟩ := tv.inv
    refine ⟨a, rfl, ⟨xs, sq⟩, k _ _ s1 (fun i H' hi s2 => ?_) (fun H' s2 => ⟨xs, s2.1.seq sq, Nat.le_of_eq l.len⟩) fun i x H' H'' s2 y => ⟨y.1, fun hi => ?_⟩⟩
    · have hi2 : i < xs.length := by rw [l.len]; omega
      exact ⟨xs, xs[i], s2.1.seq sq, List.getElem?_eq_getElem hi2⟩
    · obtain ⟨d, e1, e2⟩ := l.get' (y.2 xs (s2.1.seq sq))
      exact ⟨d, e1, e2.stay s2.1⟩
  | lst h =>
    refine h _ (Same.refl _) _ fun a xs H1 ha s1 ea l => ?_
    refine ⟨a, rfl, ⟨xs, SqL.of ea⟩, k _ _ s1 (fun i H' hi s2 => ?_) (fun H' s2 => ⟨xs, SqL.of (s2.2 _ _ ha ea), Nat.le_of_eq l.len⟩) fun i x H' H'' s2 y => ⟨y.1, fun hi => ?_⟩⟩
    · have hi2 : i < xs.length := by rw [l.len]; omega
      exact ⟨xs, xs[i], SqL.of (s2.2 _ _ ha ea), List.getElem?_eq_getElem hi2⟩
    · obtain ⟨d, e1, e2⟩ := l.get' (y.2 xs (SqL.of (s2.2 _ _ ha ea)))
      exact ⟨d, e1, e2.stay s2.1⟩
/-- [e for a in xs for b in f(a)]: fs gives the inner data, hs what e makes of each -/
theorem l_lc2 {wi wi1 : TI} {j j1 : Nat} (fs : List (List PyData)) (gs : List (List PyData)) (h : ∀ H1, Same H H1 → Wk K wi σ H1 ds) (hf : fs.length = ds.length) (hg : gs.length = ds.length) (hz : gs.flatten.length ≤ 1000000)
    (hw : ∀ x, wipe ((wipe σ vs).set j (some x)) vs = wipe σ vs) (hw1 : ∀ x y, wipe ((wipe ((wipe σ vs).set j (some x)) vs1).set j1 (some y)) vs1 = wipe ((wipe σ vs).set j (some x)) vs1)
    (hi : ∀ (i : Nat) d f x H1, ds[i]? = some d → fs[i]? = some f → Same H H1 → Tp K H1 x d → Wk K wi1 ((wipe σ vs).set j (some x)) H1 f)
    (hl : ∀ (i : Nat) f g, fs[i]? = some f → gs[i]? = some g → g.length = f.length)
    (he : ∀ (i m : Nat) d f g a e x y H1, ds[i]? = some d → fs[i]? = some f → gs[i]? = some g → f[m]? = some a → g[m]? = some e → Same H H1 → Tp K H1 x d → Tp K H1 y a → EvD K te ((wipe ((wipe σ vs).set j (some x)) vs1).set j1 (some y)) H1 e) :
    EvDL K (tLc2 wi (gName j) tYes wi1 (gName j1) tYes te vs vs1) σ H gs.flatten := fun H0 s Q q => by
  refine (h H0 s).go _ fun J H1 s1 hgo hst hy Dl hD => ?_
  refine ⟨fun i m H' => m = ds.length - i ∧ i ≤ ds.length ∧ Same H1 H' ∧ ∃ acc, H' Dl = some (.lst acc) ∧ TpL K H' acc (gs.take i).flatten, ⟨ds.length, by simp, Nat.zero_le _, same_new hD, [], upd_same, by simp; exact .nil⟩, ?_⟩
  rintro i m H' ⟨rfl, hle, s2, acc, ea, ta⟩
  by_cases hlt : i < ds.length
  · refine .inr ⟨hgo i H' hlt (.of s2), fun H3 => i + 1 ≤ ds.length ∧ Same H1 H3 ∧ ∃ acc, H3 Dl = some (.lst acc) ∧ TpL K H3 acc (gs.take (i + 1)).flatten, fun H3 p => ⟨ds.length - (i + 1), by omega, rfl, p⟩, fun x H'' y => ?_⟩
    obtain ⟨rfl, hd⟩ := hy i x H' H'' (.of s2) y
    obtain ⟨d, hd1, hd2⟩ := hd hlt
    have ef : fs[i]? = some (fs[i]'(by omega)) := List.getElem?_eq_getElem (by omega)
    have eg : gs[i]? = some (gs[i]'(by omega)) := List.getElem?_eq_getElem (by omega)
    have el := hl i _ _ ef eg
    obtain ⟨f, hfe⟩ : ∃ f, fs[i]'(by omega) = f := ⟨_, rfl⟩
    obtain ⟨gg, hge⟩ : ∃ f, gs[i]'(by omega) = f := ⟨_, rfl⟩
    rw [hfe] at ef el
    rw [hge] at eg el
    have ss : Same H H'' := (s.trans s1).trans s2
    have etk : (gs.take (i + 1)).flatten = (gs.take i).flatten ++ gg := by
      rw [List.take_add_one, eg]
      simp
    have bnd : (gs.take i).flatten.length + gg.length ≤ 1000000 := by
      have e4 : gs.flatten = (gs.take (i + 1)).flatten ++ (gs.drop (i + 1)).flatten := by
        rw [← List.flatten_append, List.take_append_drop]
      rw [e4, etk, List.length_append, List.length_append] at hz
      omega
    refine ⟨hw x, yes_then ?_⟩
    refine (hi i d f x H'' hd1 ef ss hd2).go _ fun J1 H4 s4 hgo1 hst1 hy1 => ?_
    refine ⟨fun a k H5 => k = f.length - a ∧ a ≤ f.length ∧ Same H1 H5 ∧ TupK H4 H5 ∧ KeepB Dl H4 H5 ∧ ∃ acc, H5 Dl = some (.lst acc) ∧ TpL K H5 acc ((gs.take i).flatten ++ gg.take a), ⟨f.length, by simp, Nat.zero_le _, s2.trans s4, .of (Same.refl _), KeepB.refl _ _, acc, s4 _ _ ea, by simpa using ta.stay (.of s4)⟩, ?_⟩
    rintro a k H5 ⟨rfl, ale, s5, tk5, kb5, acc5, ea5, ta5⟩
    have st5 : Stays H'' H4 H5 := ⟨tk5, fun b o hb e => kb5 b o e fun z => by
      rw [z, ea] at hb
      cases hb⟩
    by_cases alt : a < f.length
    · refine .inr ⟨hgo1 a H5 alt st5, fun H6 => a + 1 ≤ f.length ∧ Same H1 H6 ∧ TupK H4 H6 ∧ KeepB Dl H4 H6 ∧ ∃ acc, H6 Dl = some (.lst acc) ∧ TpL K H6 acc ((gs.take i).flatten ++ gg.take (a + 1)), fun H6 p => ⟨f.length - (a + 1), by omega, rfl, p⟩, fun y H6 yy => ?_⟩
      obtain ⟨rfl, hd'⟩ := hy1 a y H5 H6 st5 yy
      obtain ⟨e0, he1, he2⟩ := hd' alt
      have eg2 : gg[a]? = some (gg[a]'(by omega)) := List.getElem?_eq_getElem (by omega)
      refine ⟨hw1 x y, yes_then ?_⟩
      have sx : Same H H6 := (s.trans s1).trans s5
      refine he i a d f gg e0 _ x y H6 hd1 ef eg he1 eg2 sx (hd2.stay ((TupK.of s4).trans tk5)) he2 H6 (Same.refl _) _ fun v H7 s7 tv => ?_
      have e7 := s7 _ _ ea5
      refine ⟨acc5, e7, by rw [ta5.len, List.length_append, List.length_take]; exact sz6 (by omega), alt, same_upd_new (s5.trans s7) hD, (tk5.trans (.of s7)).trans (.keep keep_upd e7), (kb5.trans (KeepB.of s7)).trans keep_upd, _, upd_same, ?_⟩
      have et : gg.take (a + 1) = gg.take a ++ [gg[a]'(by omega)] := by
        rw [List.take_add_one, eg2]
        rfl
      rw [et, ← List.append_assoc]
      exact ((ta5.stay (.of s7)).app (.one tv)).stay (.keep keep_upd e7)
    · have e : a = f.length := by omega
      subst e
      refine .inl ⟨hst1 H5 st5, hlt, s5, acc5, ea5, ?_⟩
      rw [etk]
      rw [← el, List.take_length] at ta5
      exact ta5
  · have e : i = ds.length := by omega
    subst e
    refine .inl ⟨hst H' (.of s2), q Dl acc H' (s1.free hD) (s1.trans s2) ea ?_⟩
    rw [← hg, List.take_length] at ta
    exact ta
end
end Mg

set_option Elab.async false
set_option linter.all false
set_option maxRecDepth 100000
set_option maxHeartbeats 1000000
namespace Mg
open PySem PySem.Spec PyProof.Rows L2
/-! max(xs, default=d) of a list of whole numbers -/
def maxI (d : Int) : List Int → Int
  | [] => d
  | y :: ys => ys.foldl max y
def rMaxD (K : PySem.W.Frag) : List V → List V → Hp → VK → Prop := fun vs zs H Q => ∃ (a : Addr) (ns : List Int) (d : Int), vs = [V.ref a] ∧ zs = [.int d] ∧ SqL K H a (ns.map V.int) ∧ Q (.int (maxI d ns)) H
theorem reads_ints {h : Heap} : ∀ {vs : List Value} {ns : List Int}, IntsAre vs ns → ReadsAll h vs (ns.map PyData.int) []
  | [], [], _ => .nil
  | [], _ :: _, h => by cases h
  | _ :: _, [], h => by cases h
  | v :: vs, n :: ns, h => by
    cases h with
    | cons t r => exact .cons (.int n _) (reads_ints (by assumption))
theorem depth_ints : ∀ ns : List Int, PyData.depthAll (ns.map PyData.int) = 0
  | [] => rfl
  | n :: ns => by
    show max 0 (PyData.depthAll (ns.map PyData.int)) = 0
    rw [depth_ints ns]
    rfl
theorem alike_ints (ns : List Int) : PySem.W.AlikeAll (ns.map PyData.int) := by
  refine ⟨fun x hx y hy => ?_, fun x hx => ?_⟩
  · obtain ⟨a, _, rfl⟩ := List.mem_map.mp hx
    obtain ⟨b, _, rfl⟩ := List.mem_map.mp hy
    rfl
  · obtain ⟨a, _, rfl⟩ := List.mem_map.mp hx
    intro e
    cases e
theorem cr_maxD {X : Cx} (hc : X.calm = true) (hu : X.A.units + 1 < cLine) : CallRK X (.builtin "max") [Str.ofString "default"] (rMaxD X.K) := by
  intro pins s σ H vs zs us ws Q I r rz h
  obtain ⟨a, ns, d, rfl, rfl, hs, q⟩ := h
  obtain ⟨its, rv, hl, hz⟩ := I.list hs
  obtain rfl := Vals.ref1 r
  obtain ⟨w1, rfl, t0, rfl⟩ : ∃ w1, ws = [w1] ∧ ∃ t, w1 = Value.int d t := by
    cases rz with
    | cons a b =>
      cases b
      exact ⟨_, rfl, a⟩
  have hi := rv.ints
  refine PySem.W.max_list_default (as := []) (xs := ns.map PyData.int) (I.ok.hd hc) hl.isList (by rw [List.toList_toArray]; exact reads_ints hi) (alike_ints ns) (by rw [depth_ints]; exact hu) (fun e h' tk hk => ?_) fun y ys i v h' tk bs e hv rd hk => ?_
  · have e : ns = [] := List.map_eq_nil_iff.mp e
    subst e
    exact ⟨.int _, H, I.kept hk, ⟨_, rfl⟩, q⟩
  · cases ns with
    | nil => cases e
    | cons n ns =>
      rw [List.map_cons] at e
      cases e
      rw [PySem.W.maxD_ints] at rd
      cases rd with
      | int _ t => exact ⟨.int _, H, I.kept hk, ⟨_, rfl⟩, q⟩
theorem maxI_le {d : Int} : ∀ {ns : List Int} {m : Int}, (∀ n ∈ ns, n ≤ m) → d ≤ m → maxI d ns ≤ m
  | [], m, _, h => h
  | y :: ys, m, h, _ => by
    have : ∀ (ys : List Int) (y : Int), y ≤ m → (∀ n ∈ ys, n ≤ m) → ys.foldl max y ≤ m := by
      intro ys
      induction ys with
      | nil => intro y a _; exact a
      | cons z zs ih =>
        intro y a b
        exact ih _ (by have := b z (List.mem_cons_self ..); omega) fun n hn => b n (List.mem_cons_of_mem _ hn)
    exact this ys y (h y (List.mem_cons_self ..)) fun n hn => h n (List.mem_cons_of_mem _ hn)
theorem maxI_cons (d : Int) (y : Int) (ys : List Int) (h : ∀ n ∈ y :: ys, d ≤ n) : maxI d (y :: ys) = max y (maxI d ys) := by
  have key : ∀ (ys : List Int) (a b : Int), ys.foldl max (max a b) = max a (ys.foldl max b) := by
    intro ys
    induction ys with
    | nil => intro a b; rfl
    | cons z zs ih =>
      intro a b
      rw [List.foldl_cons, List.foldl_cons, show max (max a b) z = max a (max b z) by omega]
      exact ih _ _
  cases ys with
  | nil =>
    have := h y (List.mem_cons_self ..)
    show y = max y d
    omega
  | cons z zs =>
    show (z :: zs).foldl max y = max y (zs.foldl max z)
    exact key zs y z
end Mg

set_option Elab.async false
set_option linter.all false
set_option maxRecDepth 100000
set_option maxHeartbeats 1000000
namespace Mg
open PySem PySem.Spec PyProof.Rows L2
/-! more of the calculus: short words for bodies -/
def rLenQ (K : PySem.W.Frag) : List V → Hp → VK → Prop := fun xs H Q => ∃ p ys, xs = [.ref p] ∧ (SqL K H p ys ∨ SqT K H p ys) ∧ (ys.length ≤ sizeLine → Q (.int ys.length) H)
theorem call_lenK {X : Cx} : CallR X (.builtin "len") (rLenQ X.K) := call_len_sq
theorem FnOk.vac {P : Program} {w : World} {K : PySem.W.Frag} {mg : Str → Option Value} {base : Heap} {CX : CXT} {k : Nat} {f : Addr} {fd : FuncData} {ps : List Str} {sp : Sp} (h : ∀ vs H Q E, ¬ sp vs H Q E) : FnOk P w K mg base CX k f fd ps sp :=
  ⟨fun _ _ _ _ z => (h _ _ _ _ z).elim, fun _ _ _ _ _ _ _ _ _ _ _ _ _ z => (h _ _ _ _ z).elim⟩
section
variable {K : PySem.W.Frag} {σ : L2.St} {H0 H H1 H' : Hp} {p : Addr} {as ds es : List PyData} {d : PyData} {ta tb te tl : TE} {tu tw tz : TS} {g : TG} {D : Ends} {t : TT} {b : Bool} {v : V} {Q : VK}
theorem g_name {i : Nat} {Q : L2.St → Hp → Prop} (h : Q (σ.set i (some v)) H) : gName i v σ H Q := h
theorem retL (kk : ∀ p xs H', H p = none → Same H H' → H' p = some (.lst xs) → TpL K H' xs es → Q (.ref p) H') (s : Same H H1) (h : EvDL K te σ H1 es) (e : D.rt = Q) : tRet te D σ H1 := by
  show te σ H1 D.rt
  rw [e]
  exact h H1 (Same.refl _) _ fun p xs H2 n s2 e l => kk p xs H2 (s.free n) (s.trans s2) e l
theorem retD (kk : ∀ v H', Same H H' → Tp K H' v d → Q v H') (s : Same H H1) (h : EvD K te σ H1 d) (e : D.rt = Q) : tRet te D σ H1 := by
  show te σ H1 D.rt
  rw [e]
  exact h H1 (Same.refl _) _ fun v H2 s2 t => kk v H2 (s.trans s2) t
theorem retAcc {i : Nat} (kk : ∀ p xs H', H p = none → Same H H' → H' p = some (.lst xs) → TpL K H' xs es → Q (.ref p) H') (A : Acc K H p es H1) (hi : σ[i]? = some (some (.ref p))) (e : D.rt = Q) : tRet (tVar i) D σ H1 := by
  show tVar i σ H1 D.rt
  rw [e]
  obtain ⟨a, b, xs, c, l⟩ := A
  exact ⟨_, hi, kk p xs H1 a b c l⟩
theorem q_noS {i : Nat} {x y : Str} (hv : σ[i]? = some (some (.str x))) (ne : x ≠ y) (k : tz D σ H) : tSeq (tIfS (tTest (tOp rEq (tVar i) (tC (.str y)))) tu tNext) tz D σ H := by
  refine ⟨_, hv, rfl, _, rfl, iteN ?_ k⟩
  rw [decide_eq_true_eq]
  intro z
  injection z with z
  exact ne z
theorem q_yesS {i : Nat} {x : Str} (hv : σ[i]? = some (some (.str x))) (k : tu { D with nx := tz D } σ H) : tSeq (tIfS (tTest (tOp rEq (tVar i) (tC (.str x)))) tu tw) tz D σ H := ⟨_, hv, rfl, _, rfl, iteP (decide_eq_true rfl) k⟩
theorem q_no (h : EvDT K t σ H b) (e : b = false) (k : ∀ H1, Same H H1 → tz D σ H1) : tSeq (tIfS t tu tNext) tz D σ H := q_when h (fun z => by rw [e] at z; cases z) fun _ H1 s => k H1 s
theorem q_yes (h : EvDT K t σ H b) (e : b = true) (k : ∀ H1, Same H H1 → tu { D with nx := tz D } σ H1) : tSeq (tIfS t tu tw) tz D σ H := q_if h (fun _ H1 s => k H1 s) fun z => by rw [e] at z; cases z
theorem q_forT {xs0 : List V} (h : EvD K tl σ H (.tuple ds)) (hp : H p = some (.lst xs0)) (Pv : Nat → L2.St → Hp → Prop) (h0 : ∀ H1, Same H H1 → Pv 0 σ H1)
    (hs : ∀ H1, Same H H1 → ∀ i d x σ' H', ds[i]? = some d → Pv i σ' H' → KeepB p H1 H' → Tp K H' x d → g x σ' H' fun σ2 H2 => tu { D with nx := fun σ3 H3 => Pv (i + 1) σ3 H3 ∧ KeepB p H1 H3, ct := fun σ3 H3 => Pv (i + 1) σ3 H3 ∧ KeepB p H1 H3, bk := tz D } σ2 H2)
    (hd : ∀ σ' H', Pv ds.length σ' H' → KeepB p H H' → tz D σ' H') : tSeq (tFor (iTup K tl) g tu) tz D σ H := s_forT (D := { D with nx := tz D }) h hp Pv h0 hs hd
theorem q_forL {xs0 : List V} (h : EvDL K tl σ H ds) (hp : H p = some (.lst xs0)) (Pv : Nat → L2.St → Hp → Prop) (h0 : ∀ H1, Same H H1 → Pv 0 σ H1)
    (hs : ∀ H1, Same H H1 → ∀ i d x σ' H', ds[i]? = some d → Pv i σ' H' → KeepB p H1 H' → Tp K H' x d → g x σ' H' fun σ2 H2 => tu { D with nx := fun σ3 H3 => Pv (i + 1) σ3 H3 ∧ KeepB p H1 H3, ct := fun σ3 H3 => Pv (i + 1) σ3 H3 ∧ KeepB p H1 H3, bk := tz D } σ2 H2)
    (hd : ∀ σ' H', Pv ds.length σ' H' → KeepB p H H' → tz D σ' H') : tSeq (tFor (iList K tl) g tu) tz D σ H := s_forL (D := { D with nx := tz D }) h hp Pv h0 hs hd
theorem q_enum {xs0 xs : List V} {j : Nat} {a : Addr} (hj : σ[j]? = some (some (.ref a))) (ha : H a = some (.lst xs)) (l : TpL K H xs ds) (ne : a ≠ p) (hp : H p = some (.lst xs0)) (Pv : Nat → L2.St → Hp → Prop) (h0 : Pv 0 σ H)
    (hs : ∀ i d x T σ' H', ds[i]? = some d → Pv i σ' H' → KeepB p H H' → Tp K H' x d → H' T = none → g (.ref T) σ' (upd H' T (.tup [.int (i : Nat), x])) fun σ2 H2 => tu { D with nx := fun σ3 H3 => Pv (i + 1) σ3 H3 ∧ KeepB p H H3, ct := fun σ3 H3 => Pv (i + 1) σ3 H3 ∧ KeepB p H H3, bk := tz D } σ2 H2)
    (hd : ∀ σ' H', Pv ds.length σ' H' → KeepB p H H' → tz D σ' H') : tSeq (tFor (iEnum K (tCons (tVar j) tNil)) g tu) tz D σ H := s_enum (D := { D with nx := tz D }) hj ha l ne hp Pv h0 hs hd
/-- if x is not None: xs.append(x) | xs.extend([..] + f(x)) -/
theorem none_scr (s : FScr) : noneD s.d = (match s with | .no => true | .yes _ => false) := by cases s <;> rfl
theorem e_maxD {ns : List Int} {z : Int} (h : EvDL K te σ H (ns.map PyData.int)) : EvD K (tCKw (rMaxD K) (tCons te tNil) (tCons (tC (.int z)) tNil)) σ H (.int (maxI z ns)) := fun H1 s Q q => h H1 s _ fun p xs H2 _ s2 e l => by
  have el := l.ints
  subst el
  exact ⟨p, ns, z, rfl, rfl, SqL.of e, q _ H2 s2 (.int _)⟩
theorem e_sum {ns : List Int} (h : EvDL K te σ H (ns.map PyData.int)) : EvD K (tCB (rSum K) (tCons te tNil)) σ H (.int ns.sum) := fun H1 s Q q => h H1 s _ fun p xs H2 _ s2 e l => by
  have el := l.ints
  subst el
  exact ⟨p, ns, rfl, SqL.of e, q _ H2 s2 (.int _)⟩
end
theorem get_map {α β : Type} {f : α → β} {l : List α} {i : Nat} {y : β} (h : (l.map f)[i]? = some y) : ∃ x, l[i]? = some x ∧ y = f x := by
  rw [List.getElem?_map] at h
  cases e : l[i]? with
  | none => rw [e] at h; cases h
  | some x => rw [e] at h; exact ⟨x, rfl, (Option.some.inj h).symm⟩
theorem map_get {α β : Type} {f : α → β} {l : List α} {i : Nat} {x : α} (h : l[i]? = some x) : (l.map f)[i]? = some (f x) := by
  rw [List.getElem?_map, h]
  rfl
theorem flat_snoc {α β : Type} {f : α → List β} {l : List α} {i : Nat} {x : α} (h : l[i]? = some x) : (l.take (i + 1)).flatMap f = (l.take i).flatMap f ++ f x := by
  rw [List.take_add_one, h, List.flatMap_append]
  simp
theorem map_snoc {α β : Type} {f : α → β} {l : List α} {i : Nat} {x : α} (h : l[i]? = some x) : (l.take (i + 1)).map f = (l.take i).map f ++ [f x] := by
  rw [List.take_add_one, h, List.map_append]
  rfl
theorem flat_le {α β : Type} {f : α → List β} : ∀ {l : List α} {i : Nat} {x : α}, l[i]? = some x → ((l.take i).flatMap f).length + (f x).length ≤ (l.flatMap f).length
  | [], _, _, h => by simp at h
  | y :: l, 0, x, h => by
    cases Option.some.inj h
    simp
  | y :: l, i + 1, x, h => by
    have := flat_le (f := f) (l := l) (i := i) (x := x) h
    rw [List.take_succ_cons, List.flatMap_cons, List.flatMap_cons, List.length_append, List.length_append]
    omega
/-! numbers of rows -/
mutual
theorem inn_row : ∀ r : FRow, r.inn.length ≤ r.words.length
  | .nil => Nat.le_refl _
  | .cons i r => by
    rw [FRow.inn, FRow.words, List.length_append, List.length_append]
    have := inn_item i
    have := inn_row r
    omega
theorem inn_item : ∀ i : FItem, i.inn.length ≤ i.words.length
  | .mk n b a => by
    rw [FItem.inn, FItem.words, List.length_append, List.length_append, List.length_append, List.length_append]
    have := inn_nuc n
    have := inn_scr "_" b
    have := inn_scr "^" a
    omega
theorem inn_scr (s : Str) : ∀ c : FScr, c.inn.length ≤ (c.words s).length
  | .no => Nat.le_refl _
  | .yes r => by
    have := inn_row r
    simp only [FScr.inn, FScr.words, List.length_cons, List.length_append]
    omega
theorem inn_nuc : ∀ n : FNuc, n.inn.length ≤ n.words.length
  | .sym x => by simp [FNuc.inn]
  | .group r => by
    have := inn_row r
    simp only [FNuc.inn, FNuc.words, List.length_cons, List.length_append]
    omega
  | .frac o u => by
    have := inn_row o
    have := inn_row u
    simp only [FNuc.inn, FNuc.words, List.length_cons, List.length_append]
    omega
  | .root r => by
    have := inn_row r
    simp only [FNuc.inn, FNuc.words, List.length_cons, List.length_append]
    omega
  | .fence o c r => by
    have := inn_row r
    simp only [FNuc.inn, FNuc.words, List.length_cons, List.length_append]
    omega
  | .grid g => by
    have := inn_grid "{" g
    simp only [FNuc.inn, FNuc.words, List.length_cons, List.length_append]
    omega
theorem inn_grid (s : Str) : ∀ g : FGrid, g.inn.length ≤ (g.words s).length
  | .nil => Nat.le_refl _
  | .cons c g => by
    have := inn_cells s c
    have := inn_grid "~" g
    rw [FGrid.inn, FGrid.words, List.length_append, List.length_append]
    omega
theorem inn_cells (s : Str) : ∀ c : FCells, c.inn.length ≤ (c.words s).length
  | .nil => Nat.le_refl _
  | .cons r c => by
    have := inn_row r
    have := inn_cells "&" c
    simp only [FCells.inn, FCells.words, List.length_cons, List.length_append]
    omega
end
theorem cells_len (s : Str) : ∀ c : FCells, c.rows.length ≤ (c.words s).length
  | .nil => Nat.le_refl _
  | .cons r c => by
    have := cells_len "&" c
    simp only [FCells.rows, FCells.words, List.length_cons, List.length_append]
    omega
theorem all_len (s : Str) : ∀ g : FGrid, g.all.length ≤ (g.words s).length
  | .nil => Nat.le_refl _
  | .cons c g => by
    have := cells_len s c
    have := all_len "~" g
    rw [FGrid.all, FGrid.words, List.length_append, List.length_append]
    omega
theorem nrows_len (n : FNuc) : n.rows.length ≤ n.words.length := by
  cases n with
  | grid g =>
    have := all_len "{" g
    simp only [FNuc.rows, FNuc.words, List.length_cons, List.length_append]
    omega
  | _ => simp [FNuc.rows, FNuc.words]
theorem rows_len (i : FItem) : i.rows.length ≤ i.words.length := by
  cases i with
  | mk n b a =>
    have := nrows_len n
    cases b <;> cases a <;> simp [FItem.rows, FScr.rows, FItem.words, FScr.words] <;> omega
/-! the greatest of natural numbers -/
def natMax (ns : List Nat) : Nat := ns.foldr max 0
theorem natMax_le {m : Nat} : ∀ {ns : List Nat}, natMax ns ≤ m ↔ ∀ n ∈ ns, n ≤ m
  | [] => by simp [natMax]
  | n :: ns => by
    have := natMax_le (m := m) (ns := ns)
    unfold natMax at this ⊢
    rw [List.foldr_cons, List.forall_mem_cons, ← this]
    omega
theorem maxI_nat : ∀ ns : List Nat, maxI 0 (ns.map fun n : Nat => (n : Int)) = ((natMax ns : Nat) : Int)
  | [] => rfl
  | n :: ns => by
    rw [List.map_cons, maxI_cons _ _ _ (fun m hm => ?_), maxI_nat ns]
    · show max (n : Int) _ = ((max n (natMax ns) : Nat) : Int)
      omega
    · rcases List.mem_cons.mp hm with rfl | hm
      · exact Int.natCast_nonneg _
      · obtain ⟨q, _, rfl⟩ := List.mem_map.mp hm
        exact Int.natCast_nonneg _
theorem dep_max (r : FRow) : r.dep = natMax (r.items.flatMap fun i => i.rows.map fun q => q.dep + 1) := by
  have key : ∀ m, r.dep ≤ m ↔ natMax (r.items.flatMap fun i => i.rows.map fun q => q.dep + 1) ≤ m := fun m => by
    rw [natMax_le, FRow.dep_le]
    constructor
    · intro h n hn
      obtain ⟨i, hi, hn⟩ := List.mem_flatMap.mp hn
      obtain ⟨q, hq, rfl⟩ := List.mem_map.mp hn
      exact FItem.dep_le.mp (h i hi) q hq
    · intro h i hi
      exact FItem.dep_le.mpr fun q hq => h _ (List.mem_flatMap.mpr ⟨i, hi, List.mem_map.mpr ⟨q, hq, rfl⟩⟩)
  exact Nat.le_antisymm ((key _).mpr (Nat.le_refl _)) ((key _).mp (Nat.le_refl _))
end Mg

set_option Elab.async false
set_option linter.all false
set_option maxRecDepth 100000
set_option maxHeartbeats 1000000
namespace Mg
open PySem PySem.Spec PyProof.Rows L2
/-! more of the calculus: calls by values, comprehensions that leave out -/
section
variable {K : PySem.W.Frag} {σ : L2.St} {H : Hp} {te tl ta tb : TE} {tas : TA} {ds es : List PyData} {d : PyData} {vs : List Nat} {v : V}
theorem e_callV {sp : Sp} {us : List V} {E : XK} (ha : ∀ H1, Same H H1 → ∀ Q : List V → Hp → Prop, (∀ H2, Same H1 H2 → Q us H2) → tas σ H1 Q) (hs : ∀ H1, Same H H1 → ∀ Q : VK, (∀ v H2, Same H1 H2 → Tp K H2 v d → Q v H2) → sp us H1 Q E) : EvD K (tCall sp [] E tas) σ H d := fun H1 s Q q =>
  ha H1 s _ fun H2 s2 => by
    rw [List.append_nil]
    exact hs H2 (s.trans s2) Q fun v H3 s3 t => q v H3 (s2.trans s3) t
theorem l_callV {sp : Sp} {us : List V} {E : XK} (ha : ∀ H1, Same H H1 → ∀ Q : List V → Hp → Prop, (∀ H2, Same H1 H2 → Q us H2) → tas σ H1 Q) (hs : ∀ H1, Same H H1 → ∀ Q : VK, (∀ p xs H2, H1 p = none → Same H1 H2 → H2 p = some (.lst xs) → TpL K H2 xs ds → Q (.ref p) H2) → sp us H1 Q E) : EvDL K (tCall sp [] E tas) σ H ds := fun H1 s Q q =>
  ha H1 s _ fun H2 s2 => by
    rw [List.append_nil]
    exact hs H2 (s.trans s2) Q fun p xs H3 n s3 e l => q p xs H3 (s2.free n) (s2.trans s3) e l
theorem l_lcTF {α : Type} {tt : TT} {j : Nat} (L : List α) (f : α → PyData) (p : α → Bool) (g : α → PyData) (h : EvD K tl σ H (.tuple (L.map f))) (hz : L.length ≤ 1000000) (hw : ∀ x, wipe ((wipe σ vs).set j (some x)) vs = wipe σ vs)
    (ht : ∀ a ∈ L, ∀ x H1, Same H H1 → Tp K H1 x (f a) → EvDT K tt ((wipe σ vs).set j (some x)) H1 (p a)) (he : ∀ a ∈ L, p a = true → ∀ x H1, Same H H1 → Tp K H1 x (f a) → EvD K te ((wipe σ vs).set j (some x)) H1 (g a)) : EvDL K (tLc (iTup K tl) (gName j) tt te vs) σ H ((L.filter p).map g) := fun H0 s Q q => h H0 s _ fun v H1 s1 tv => by
  obtain ⟨a, xs, rfl, sq, l⟩ := tv.inv
  have ll : xs.length = L.length := by rw [l.len, List.length_map]
  refine ⟨a, rfl, ⟨xs, sq⟩, fun D hD => ⟨fun i m H' => m = L.length - i ∧ i ≤ L.length ∧ Same H1 H' ∧ ∃ acc, H' D = some (.lst acc) ∧ TpL K H' acc (((L.take i).filter p).map g), ⟨L.length, by simp, Nat.zero_le _, same_new hD, [], upd_same, by simp; exact .nil⟩, ?_⟩⟩
  rintro i m H' ⟨rfl, hi, s2, acc, ea, ta⟩
  by_cases hlt : i < L.length
  · have hx : xs[i]? = some (xs[i]'(by omega)) := List.getElem?_eq_getElem (by omega)
    refine .inr ⟨⟨xs, _, same_sqt s2 sq, hx⟩, fun H3 => i + 1 ≤ L.length ∧ Same H1 H3 ∧ ∃ acc, H3 D = some (.lst acc) ∧ TpL K H3 acc (((L.take (i + 1)).filter p).map g), fun H3 h3 => ⟨L.length - (i + 1), by omega, rfl, h3⟩, fun x H'' y => ?_⟩
    obtain ⟨rfl, y⟩ := y
    have hx := y xs (same_sqt s2 sq)
    obtain ⟨d, e1, e2⟩ := l.get' hx
    obtain ⟨b, hb, rfl⟩ := get_map e1
    have bm := List.mem_of_getElem? hb
    have e2 := e2.stay (.of s2)
    have tk : L.take (i + 1) = L.take i ++ [b] := by
      rw [List.take_add_one, hb]
      rfl
    have sl : ((L.take i).filter p).length ≤ 1000000 := by
      have h1 := List.length_filter_le p (L.take i)
      rw [List.length_take] at h1
      omega
    refine ⟨hw x, ht b bm x H'' ((s.trans s1).trans s2) e2 H'' (Same.refl _) _ fun H3 s3 => ?_⟩
    cases hp : p b with
    | true =>
      refine iteT (B := _ ∧ _) ?_
      refine he b bm hp x H'' ((s.trans s1).trans s2) e2 H3 s3 _ fun v H4 s4 tv => ?_
      have ea4 := s4 _ _ (s3 _ _ ea)
      refine ⟨acc, ea4, by rw [ta.len, List.length_map]; have h1 := List.length_filter_le p (L.take i); rw [List.length_take] at h1; exact sz6 (by omega), hlt, same_upd_new ((s2.trans s3).trans s4) hD, _, upd_same, ?_⟩
      rw [tk, List.filter_append, List.map_append, List.filter_cons, if_pos hp]
      exact ((ta.stay (.of (s3.trans s4))).app (.one tv)).stay (.keep keep_upd ea4)
    | false =>
      refine iteF ?_
      refine ⟨hlt, s2.trans s3, acc, s3 _ _ ea, ?_⟩
      rw [tk, List.filter_append, List.map_append, List.filter_cons, if_neg (by rw [hp]; exact Bool.false_ne_true)]
      simpa using ta.stay (.of s3)
  · have e : i = L.length := by omega
    subst e
    refine .inl ⟨⟨xs, same_sqt s2 sq, by omega⟩, q D acc H' (s1.free hD) (s1.trans s2) ea ?_⟩
    rw [List.take_length] at ta
    exact ta
/-- an item of a new list -/
theorem e_ixNL {i : Int} (ha : EvDL K ta σ H ds) (hb : ∀ H1, Same H H1 → EvD K tb σ H1 (.int i)) (h : atI ds i = some d) : EvD K (tOp (rIxL K) ta tb) σ H d := fun H1 s Q q => ha H1 s _ fun p xs H2 _ s2 e l => hb H2 (s.trans s2) H2 (Same.refl _) _ fun v H3 s3 tv => by
  rw [tp_int tv]
  obtain ⟨n, x, h1, h2, h3⟩ := atI_get l.len h
  exact ⟨p, xs, i, x, rfl, rfl, SqL.of (s3 _ _ e), h1, q _ _ (s2.trans s3) ((l.at h2 h3).stay (.of s3))⟩
/-- x in (a, b, ..), x in [a, b, ..] of texts, made on the way -/
theorem in_strs {x : Str} {ws : List Str} : inV (.str x) (ws.map V.str) = ws.any fun r => r == x := by
  unfold inV
  rw [List.any_map]
  rfl
theorem flat_strs2 (ws : List Str) : (ws.map V.str).all flatV = true := by
  rw [List.all_map]
  exact List.all_eq_true.mpr fun _ _ => rfl
theorem e_inT {x : Str} {ws : List Str} (ha : EvD K ta σ H (.str x)) (hb : EvDA K tas σ H (ws.map PyData.str)) (hl : ws.length ≤ 1000) : EvD K (tOp (rIn K false) ta (tTup tas)) σ H (.bool (ws.any fun r => r == x)) := fun H1 s Q q => ha H1 s _ fun v H2 s2 tv => by
  rw [tp_str tv]
  refine hb H2 (s.trans s2) _ fun vs H3 s3 tvs => ?_
  obtain rfl := tvs.strs
  refine ⟨by rw [List.length_map]; exact sz5 (by omega), fun p hp => ⟨p, _, rfl, .inr (SqT.of upd_same), rfl, flat_strs2 _, ?_⟩⟩
  rw [in_strs]
  exact q _ _ ((s2.trans s3).trans (same_new hp)) (.bl _)
theorem e_inL {x : Str} {ws : List Str} (ha : EvD K ta σ H (.str x)) (hb : EvDA K tas σ H (ws.map PyData.str)) (hl : ws.length ≤ 1000) : EvD K (tOp (rIn K false) ta (tLst tas)) σ H (.bool (ws.any fun r => r == x)) := fun H1 s Q q => ha H1 s _ fun v H2 s2 tv => by
  rw [tp_str tv]
  refine hb H2 (s.trans s2) _ fun vs H3 s3 tvs => ?_
  obtain rfl := tvs.strs
  refine ⟨by rw [List.length_map]; exact sz5 (by omega), fun p hp => ⟨p, _, rfl, .inl (SqL.of upd_same), rfl, flat_strs2 _, ?_⟩⟩
  rw [in_strs]
  exact q _ _ ((s2.trans s3).trans (same_new hp)) (.bl _)
/-- x (not) in a written tuple of texts -/
theorem e_inK {neg : Bool} {x : Str} {ws : List Str} {a : Addr} (ha : EvD K ta σ H (.str x)) (hk : ∀ H, SqT K H a (ws.map V.str)) : EvD K (tOp (rIn K neg) ta (tC (.ref a))) σ H (.bool (if neg then !(ws.any fun r => r == x) else ws.any fun r => r == x)) := fun H1 s Q q => ha H1 s _ fun v H2 s2 tv => by
  rw [tp_str tv]
  refine ⟨a, _, rfl, .inr (hk _), rfl, flat_strs2 _, ?_⟩
  rw [in_strs]
  exact q _ _ s2 (.bl _)
theorem atI_last {α : Type} {l : List α} {x : α} : atI (l ++ [x]) (-1) = some x := by
  unfold atI ixN
  rw [if_neg (by decide), if_pos (by rw [List.length_append]; simp; omega)]
  show (l ++ [x])[(-1 + ((l ++ [x]).length : Int)).toNat]? = some x
  rw [List.length_append, List.length_singleton, show (-1 + ((l.length + 1 : Nat) : Int)).toNat = l.length by omega]
  simp
/-- two whole numbers, which is the greater one -/
theorem e_max2 {r : List V → Hp → VK → Prop} {i j : Int} (hr : ∀ H Q, Q (V.int (if j > i then j else i)) H → r [.int i, .int j] H Q) (ha : EvD K ta σ H (.int i)) (hb : EvD K tb σ H (.int j)) : EvD K (tCB r (tCons ta (tCons tb tNil))) σ H (.int (if j > i then j else i)) := fun H1 s Q q =>
  ha H1 s _ fun v H2 s2 tv => hb H2 (s.trans s2) _ fun u H3 s3 tu => by
    rw [tp_int tv, tp_int tu]
    exact hr _ _ (q _ _ (s2.trans s3) (.int _))
end
section
variable {K : PySem.W.Frag}
theorem r_ixS {σ : L2.St} {z : Str} {c : Nat} {l : List Nat} (h : z.cps.toList = c :: l) (hz : z.length ≤ 1000) : RD K rIxS (.str z) (.int 0) (.str ⟨#[c]⟩) := fun v1 v2 H Q t1 t2 q => by
  rw [tp_str t1, tp_int t2]
  exact ⟨z, 0, c, rfl, rfl, Nat.le_of_lt (small1000 hz), by rw [h]; exact atI_nat (show (c :: l)[0]? = some c from rfl), q _ _ (Same.refl _) (.str _)⟩
theorem r_inS {z : Str} {c : Nat} : RD K (fun x y H Q => ∃ (c : Nat) (z : Str), x = .str ⟨#[c]⟩ ∧ y = .str z ∧ Q (.bl (decide (c ∈ z.cps.toList))) H) (.str ⟨#[c]⟩) (.str z) (.bool (decide (c ∈ z.cps.toList))) := fun v1 v2 H Q t1 t2 q => by
  rw [tp_str t1, tp_str t2]
  exact ⟨c, z, rfl, rfl, q _ _ (Same.refl _) (.bl _)⟩
theorem e_ixL {σ : L2.St} {H : Hp} {j : Nat} {a : Addr} {xs : List V} {ds : List PyData} {tb : TE} {i : Int} {d : PyData} (hj : σ[j]? = some (some (.ref a))) (ha : H a = some (.lst xs)) (l : TpL K H xs ds) (hb : EvD K tb σ H (.int i)) (h : atI ds i = some d) : EvD K (tOp (rIxL K) (tVar j) tb) σ H d := fun H1 s Q q =>
  ⟨_, hj, hb H1 s _ fun v H2 s2 tv => by
    rw [tp_int tv]
    obtain ⟨n, x, h1, h2, h3⟩ := atI_get l.len h
    exact ⟨a, xs, i, x, rfl, rfl, SqL.of (s2 _ _ (s _ _ ha)), h1, q _ _ s2 ((l.at h2 h3).stay ((TupK.of s).trans (.of s2)))⟩⟩
theorem e_starts {σ : L2.St} {H : Hp} {ta tb : TE} {a b : Str} (ha : EvD K ta σ H (.str a)) (hb : EvD K tb σ H (.str b)) : EvD K (tM1 (fun x xs H Q => ∃ a b, x = .str a ∧ xs = [.str b] ∧ Q (.bl (Txt.startswith a b)) H) ta tb) σ H (.bool (Txt.startswith a b)) := fun H1 s Q q =>
  ha H1 s _ fun v H2 s2 tv => by
    rw [tp_str tv]
    refine ⟨⟨a, rfl⟩, hb H2 (s.trans s2) _ fun u H3 s3 tu => ?_⟩
    rw [tp_str tu]
    exact ⟨a, b, rfl, rfl, q _ _ (s2.trans s3) (.bl _)⟩
theorem getD_of {l : List Str} {i : Nat} {x d : Str} (h : l[i]? = some x) : l.getD i d = x := by
  rw [List.getD_eq_getElem?_getD, h]
  rfl
end
section
variable {K : PySem.W.Frag} {σ : L2.St} {H : Hp} {te : TE} {es : List PyData} {vs : List Nat}
theorem l_lcR {j : Nat} {n : Nat} (hl : es.length = n) (hn : n ≤ 100000) (hw : ∀ x, wipe ((wipe σ vs).set j (some x)) vs = wipe σ vs) (he : ∀ (i : Nat) e H1, es[i]? = some e → Same H H1 → EvD K te ((wipe σ vs).set j (some (.int (i : Int)))) H1 e) : EvDL K (tLc (iRng1 (tCons (tC (.int (n : Int))) tNil)) (gName j) tYes te vs) σ H es := fun H0 s Q q => by
  refine ⟨(n : Int), rfl, by omega, by omega, fun D hD => lc_data (K := K) es hD (by omega) (fun i H' hi s2 => by show i < ((n : Int)).toNat; omega) (fun H' s2 => by show ((n : Int)).toNat ≤ es.length; omega) ?_ fun H' acc s2 e ta => q D acc H' hD s2 e ta⟩
  rintro i x H' H'' R Z hi s2 ⟨rfl, rfl⟩ k
  have e3 : es[i]? = some es[i] := List.getElem?_eq_getElem hi
  refine ⟨hw _, iteT (B := Z H'') ?_⟩
  rw [Int.zero_add]
  exact he i _ H'' e3 (s.trans s2) H'' (Same.refl _) R fun v H3 s3 tv => k v _ H3 e3 s3 tv
end
theorem atI0 {α : Type} {x : α} {r : List α} : atI (x :: r) 0 = some x := atI_nat (show (x :: r)[0]? = some x from rfl)
end Mg

set_option Elab.async false
set_option linter.all false
set_option maxRecDepth 100000
set_option maxHeartbeats 1000000
namespace Mg
open PySem L2
/-! formulas whose symbols and delimiters are of a kind, whose grids are small and even -/
section
variable (P : Str → Prop) (D : Option Str → Prop)
mutual
def FRow.good : FRow → Prop
  | .nil => True
  | .cons i r => i.good ∧ r.good
def FItem.good : FItem → Prop
  | .mk n b a => n.good ∧ b.good ∧ a.good
def FScr.good : FScr → Prop
  | .no => True
  | .yes r => r.good
def FNuc.good : FNuc → Prop
  | .sym x => P x
  | .group r => r.good
  | .frac o u => o.good ∧ u.good
  | .root r => r.good
  | .fence o c r => D o ∧ D c ∧ r.good
  | .grid g => g.good ∧ (1 ≤ g.lines.length ∧ g.lines.length ≤ 6) ∧ ∃ m, 1 ≤ m ∧ m ≤ 6 ∧ ∀ c ∈ g.lines, c.rows.length = m
def FGrid.good : FGrid → Prop
  | .nil => True
  | .cons c g => c.good ∧ g.good
def FCells.good : FCells → Prop
  | .nil => True
  | .cons r c => r.good ∧ c.good
end
theorem FRow.good_iff : ∀ {r : FRow}, r.good P D ↔ ∀ i ∈ r.items, i.good P D
  | .nil => by simp [FRow.good, FRow.items]
  | .cons i r => by rw [FRow.good, FRow.items, List.forall_mem_cons, ← FRow.good_iff (r := r)]
theorem FCells.good_iff : ∀ {r : FCells}, r.good P D ↔ ∀ i ∈ r.rows, i.good P D
  | .nil => by simp [FCells.good, FCells.rows]
  | .cons i r => by rw [FCells.good, FCells.rows, List.forall_mem_cons, ← FCells.good_iff (r := r)]
theorem FGrid.good_iff : ∀ {r : FGrid}, r.good P D ↔ ∀ i ∈ r.lines, i.good P D
  | .nil => by simp [FGrid.good, FGrid.lines]
  | .cons i r => by rw [FGrid.good, FGrid.lines, List.forall_mem_cons, ← FGrid.good_iff (r := r)]
end
/-! the words are of a kind, too -/
section
variable {P : Str → Prop} {D : Option Str → Prop} {W : Str → Prop}
structure WKind (P : Str → Prop) (D : Option Str → Prop) (W : Str → Prop) : Prop where
  p : ∀ x, P x → W x
  d : ∀ o, D o → W (delimW o)
  m : ∀ x ∈ ([("{" : Str), "}", "_", "^", "&", "~", "@frac", "@root", "@left", "@right", "@grid"] : List Str), W x
mutual
theorem words_row (K : WKind P D W) : ∀ {r : FRow}, r.good P D → ∀ x ∈ r.words, W x
  | .nil, _, x, h => nomatch h
  | .cons i r, g, x, h => (List.mem_append.mp h).elim (words_it K g.1 x) (words_row K g.2 x)
theorem words_it (K : WKind P D W) : ∀ {r : FItem}, r.good P D → ∀ x ∈ r.words, W x
  | .mk n b a, g, x, h => (List.mem_append.mp h).elim (words_nu K g.1 x) fun h => (List.mem_append.mp h).elim (words_sc K (s := "_") (K.m _ (by decide)) g.2.1 x) (words_sc K (s := "^") (K.m _ (by decide)) g.2.2 x)
theorem words_sc (K : WKind P D W) {s : Str} (hs : W s) : ∀ {r : FScr}, r.good P D → ∀ x ∈ r.words s, W x
  | .no, _, x, h => nomatch h
  | .yes r, g, x, h => by
    simp only [FScr.words, List.mem_cons, List.mem_append, List.not_mem_nil, or_false] at h
    rcases h with rfl | rfl | h | rfl
    · exact hs
    · exact K.m _ (by decide)
    · exact words_row K g x h
    · exact K.m _ (by decide)
theorem words_nu (K : WKind P D W) : ∀ {r : FNuc}, r.good P D → ∀ x ∈ r.words, W x
  | .sym y, g, x, h => by
    cases List.mem_singleton.mp h
    exact K.p _ g
  | .group r, g, x, h => by
    simp only [FNuc.words, List.mem_cons, List.mem_append, List.not_mem_nil, or_false] at h
    rcases h with rfl | h | rfl
    · exact K.m _ (by decide)
    · exact words_row K g x h
    · exact K.m _ (by decide)
  | .root r, g, x, h => by
    simp only [FNuc.words, List.mem_cons, List.mem_append, List.not_mem_nil, or_false] at h
    rcases h with rfl | rfl | h | rfl
    · exact K.m _ (by decide)
    · exact K.m _ (by decide)
    · exact words_row K g x h
    · exact K.m _ (by decide)
  | .frac o u, g, x, h => by
    simp only [FNuc.words, List.mem_cons, List.mem_append, List.not_mem_nil, or_false] at h
    rcases h with rfl | rfl | h | rfl | rfl | h | rfl
    · exact K.m _ (by decide)
    · exact K.m _ (by decide)
    · exact words_row K g.1 x h
    · exact K.m _ (by decide)
    · exact K.m _ (by decide)
    · exact words_row K g.2 x h
    · exact K.m _ (by decide)
  | .fence o c r, g, x, h => by
    simp only [FNuc.words, List.mem_cons, List.mem_append, List.not_mem_nil, or_false] at h
    rcases h with rfl | rfl | h | rfl | rfl
    · exact K.m _ (by decide)
    · exact K.d _ g.1
    · exact words_row K g.2.2 x h
    · exact K.m _ (by decide)
    · exact K.d _ g.2.1
  | .grid q, g, x, h => by
    simp only [FNuc.words, List.mem_cons, List.mem_append, List.not_mem_nil, or_false] at h
    rcases h with rfl | h | rfl
    · exact K.m _ (by decide)
    · exact words_gr K (s := "{") (K.m _ (by decide)) g.1 x h
    · exact K.m _ (by decide)
theorem words_gr (K : WKind P D W) {s : Str} (hs : W s) : ∀ {r : FGrid}, r.good P D → ∀ x ∈ r.words s, W x
  | .nil, _, x, h => nomatch h
  | .cons i r, g, x, h => (List.mem_append.mp h).elim (words_ce K hs g.1 x) (words_gr K (s := "~") (K.m _ (by decide)) g.2 x)
theorem words_ce (K : WKind P D W) {s : Str} (hs : W s) : ∀ {r : FCells}, r.good P D → ∀ x ∈ r.words s, W x
  | .nil, _, x, h => nomatch h
  | .cons i r, g, x, h => by
    simp only [FCells.words, List.mem_cons, List.mem_append] at h
    rcases h with rfl | h | h
    · exact hs
    · exact words_row K g.1 x h
    · exact words_ce K (s := "&") (K.m _ (by decide)) g.2 x h
end
end
end Mg

set_option Elab.async false
set_option linter.all false
set_option maxRecDepth 100000
set_option maxHeartbeats 1000000
namespace Mg
open PySem L2
abbrev sNucRows : Stmt := top 48
abbrev sRowsIn : Stmt := top 47
abbrev sRowsOf : Stmt := top 46
abbrev sRowWords : Stmt := top 51
abbrev sNucWords : Stmt := top 52
abbrev sBraced : Stmt := top 53
abbrev sFenceW : Stmt := top 54
abbrev sGridW : Stmt := top 55
section
variable {P : Program} {w : World} {K : PySem.W.Frag} {mg : Str → Option Value} {base : Heap}
def spNucRows (K : PySem.W.Frag) : Sp := spRL K fun ds es => ∃ n : FNuc, ds = [n.d] ∧ es = n.rows.map FRow.d ∧ n.words.length ≤ 100000
theorem scNucRows : FnScope ["nucleus", "kind", "cells", "cell"] ["nucleus"] (defScope sNucRows) := ⟨rfl, rfl, rfl, by decide +kernel, rfl, by decide +kernel, by decide +kernel⟩
theorem ok_nucrows {f : Addr} {fd : FuncData} (F : Fun K "nucleus_rows" "nucleus_rows" sNucRows f fd) : FnOk P w K mg base CX0 1 f fd ["nucleus"] (spNucRows K) := by
  have sc := scNucRows
  refine F.ok scNucRows (fun vs H Q E h => ?_) (fun cdv A outer s H vs Q E hr h => ?_)
  · obtain ⟨ds, es, l, ⟨n, rfl, _⟩, _⟩ := h
    exact l.len
  · obtain ⟨ds, es, l, ⟨n, rfl, rfl, bnd⟩, k⟩ := h
    cases l with
    | cons t l => cases l with
    | nil =>
    refine ⟨_, (pss_cons (ps_set (i := 1) sc.nd rfl (Or.inl rfl) (pe_ix ix_tup (pv 0) pe_int (fun _ _ => rfl)))
  (pss_cons (ps_if (pt_cmpR op_eq (pv 1) pe_str (nomark _))
  (pss_one (ps_ret (pe_lst pa_nil)))
  pss_nil)
  (pss_cons (ps_if (pt_cmpR op_eq (pv 1) pe_str (nomark _))
  (pss_one (ps_ret (pe_lst (pa_cons (pe_ix ix_tup (pv 0) pe_int (fun _ _ => rfl)) (pa_cons (pe_ix ix_tup (pv 0) pe_int (fun _ _ => rfl)) pa_nil)))))
  pss_nil)
  (pss_cons (ps_if (pt_cmpR op_eq (pv 1) pe_str (nomark _))
  (pss_one (ps_ret (pe_lst (pa_cons (pe_ix ix_tup (pv 0) pe_int (fun _ _ => rfl)) pa_nil))))
  pss_nil)
  (pss_cons (ps_if (pt_cmpR op_eq (pv 1) pe_str (nomark _))
  (pss_one (ps_ret (pe_lc2 (own := [("cells", 2), ("cell", 3)]) (vs1 := [3]) (wi1 := iTup K (tVar 2)) rfl sc.nd (pi_tup (pe_ix ix_tup (pv 0) pe_int (fun _ _ => rfl))) (blkOk_by (own := [("cells", 2), ("cell", 3)]) (N := ["nucleus", "kind", "cells", "cell"]) (sc := defScope sNucRows) (by decide +kernel)) (by decide) (fun _ _ _ _ _ => (pg_name (i := 2) sc.nd rfl (Or.inl rfl))) (fun _ _ _ _ _ => pts_nil) (fun _ _ _ _ _ => (pi_tup (pv 2))) (fun _ _ _ _ _ => (pg_name (i := 3) sc.nd rfl (Or.inl rfl))) (fun _ _ _ _ _ => pts_nil) (fun _ _ _ _ _ => (pv 3)))))
  pss_nil)
  (pss_one (ps_ret (pe_lst (pa_cons (pe_ix ix_tup (pv 0) pe_int (fun _ _ => rfl)) pa_nil))))))))), ?_⟩
    cases n with
    | sym x =>
      have t : Tp K H _ (.tuple [.str "symbol", .str x]) := t
      refine q_set (e_op (e_var rfl t) e_int (r_ixT rfl)) fun kd H1 s1 tk => ?_
      obtain rfl := tp_str tk
      exact q_yesS rfl (retL k s1 (l_lst a_nil (Nat.le_of_ble_eq_true rfl)) rfl)
    | frac o u =>
      have t : Tp K H _ (.tuple [.str "frac", .tuple o.ds, .tuple u.ds]) := t
      refine q_set (e_op (e_var rfl t) e_int (r_ixT rfl)) fun kd H1 s1 tk => ?_
      obtain rfl := tp_str tk
      have t := t.stay (.of s1)
      refine q_noS rfl (by decide +kernel) (q_yesS rfl (retL k s1 (l_lst (a_cons (e_op (e_var rfl t) e_int (r_ixT rfl)) (a_cons (e_op (e_var rfl t) e_int (r_ixT rfl)) a_nil)) (Nat.le_of_ble_eq_true rfl)) rfl))
    | fence o c r =>
      have t : Tp K H _ (.tuple [.str "fence", optD o, optD c, .tuple r.ds]) := t
      refine q_set (e_op (e_var rfl t) e_int (r_ixT rfl)) fun kd H1 s1 tk => ?_
      obtain rfl := tp_str tk
      have t := t.stay (.of s1)
      refine q_noS rfl (by decide +kernel) (q_noS rfl (by decide +kernel) (q_yesS rfl (retL k s1 (l_lst (a_cons (e_op (e_var rfl t) e_int (r_ixT rfl)) a_nil) (Nat.le_of_ble_eq_true rfl)) rfl)))
    | group r =>
      have t : Tp K H _ (.tuple [.str "group", .tuple r.ds]) := t
      refine q_set (e_op (e_var rfl t) e_int (r_ixT rfl)) fun kd H1 s1 tk => ?_
      obtain rfl := tp_str tk
      have t := t.stay (.of s1)
      refine q_noS rfl (by decide +kernel) (q_noS rfl (by decide +kernel) (q_noS rfl (by decide +kernel) (q_noS rfl (by decide +kernel) (retL k s1 (l_lst (a_cons (e_op (e_var rfl t) e_int (r_ixT rfl)) a_nil) (Nat.le_of_ble_eq_true rfl)) rfl))))
    | root r =>
      have t : Tp K H _ (.tuple [.str "root", .tuple r.ds]) := t
      refine q_set (e_op (e_var rfl t) e_int (r_ixT rfl)) fun kd H1 s1 tk => ?_
      obtain rfl := tp_str tk
      have t := t.stay (.of s1)
      refine q_noS rfl (by decide +kernel) (q_noS rfl (by decide +kernel) (q_noS rfl (by decide +kernel) (q_noS rfl (by decide +kernel) (retL k s1 (l_lst (a_cons (e_op (e_var rfl t) e_int (r_ixT rfl)) a_nil) (Nat.le_of_ble_eq_true rfl)) rfl))))
    | grid g =>
      have t : Tp K H _ (.tuple [.str "grid", .tuple g.ds]) := t
      refine q_set (e_op (e_var rfl t) e_int (r_ixT rfl)) fun kd H1 s1 tk => ?_
      obtain rfl := tp_str tk
      have t := t.stay (.of s1)
      have ef : (g.lines.map fun c => c.rows.map FRow.d).flatten = (FNuc.grid g).rows.map FRow.d := by
        rw [FNuc.rows, FGrid.all_eq, List.map_flatMap, List.flatMap_def]
      have bl := nrows_len (.grid g)
      refine q_noS rfl (by decide +kernel) (q_noS rfl (by decide +kernel) (q_noS rfl (by decide +kernel) (q_yesS rfl (retL k s1 (l_is (l_lc2 (ds := g.ds) (g.lines.map fun c => c.rows.map FRow.d) (g.lines.map fun c => c.rows.map FRow.d)
        (fun H2 s2 => .tup ((e_op (e_var rfl t) e_int (r_ixT rfl)).mono s2)) (by rw [FGrid.ds_eq, List.length_map, List.length_map]) (by rw [FGrid.ds_eq, List.length_map, List.length_map]) (by rw [ef, List.length_map]; omega) (fun x => rfl) (fun x y => rfl) ?_ ?_ ?_) ef) rfl))))
      · intro i d f x H2 h1 h2 s2 tx
        rw [FGrid.ds_eq] at h1
        obtain ⟨c, hc, rfl⟩ := get_map h1
        obtain ⟨c', hc', rfl⟩ := get_map h2
        rw [hc] at hc'
        cases hc'
        refine .tup (e_var rfl ?_)
        rw [← FCells.ds_eq]
        exact tx
      · intro i f g h1 h2
        rw [h1] at h2
        cases h2
        rfl
      · intro i m d f g a e x y H2 h1 h2 h3 h4 h5 s2 tx ty
        rw [h2] at h3
        cases h3
        rw [h4] at h5
        cases h5
        exact e_var rfl ty
def spRowsIn (K : PySem.W.Frag) : Sp := spRL K fun ds es => ∃ i : FItem, ds = [i.d] ∧ es = i.rows.map FRow.d ∧ i.words.length ≤ 100000
theorem scRowsIn : FnScope ["item", "nucleus", "below", "above", "rows"] ["item"] (defScope sRowsIn) := ⟨rfl, rfl, rfl, by decide +kernel, rfl, by decide +kernel, by decide +kernel⟩
theorem ok_rowsin {f : Addr} {fd : FuncData} (F : Fun K "rows_in" "rows_in" sRowsIn f fd) (C_nucleus_rows : Cal P w K mg base CX0 1 "nucleus_rows" ["nucleus"] (spNucRows K)) : FnOk P w K mg base CX0 2 f fd ["item"] (spRowsIn K) := by
  have sc := scRowsIn
  refine F.ok scRowsIn (fun vs H Q E h => ?_) (fun cdv A outer s H vs Q E hr h => ?_)
  · obtain ⟨ds, es, l, ⟨n, rfl, _⟩, _⟩ := h
    exact l.len
  · obtain ⟨ds, es, l, ⟨i, rfl, rfl, bnd⟩, k⟩ := h
    cases l with
    | cons t l => cases l with
    | nil =>
    refine ⟨_, (pss_cons (ps_asg (pv 0) (pg_tup rfl (pgs_cons (pg_name (i := 1) sc.nd rfl (Or.inl rfl)) (pgs_cons (pg_name (i := 2) sc.nd rfl (Or.inl rfl)) (pgs_cons (pg_name (i := 3) sc.nd rfl (Or.inl rfl)) pgs_nil)))))
  (pss_cons (ps_set (i := 4) sc.nd rfl (Or.inl rfl) (pe_cal C_nucleus_rows (hr.mono (by omega)) rfl pass0 (pa_cons (pv 1) pa_nil)))
  (pss_cons (ps_if (pt_cmpR op_notN (pv 2) pe_non (nomark _))
  (pss_one (ps_expr (pe_bm PySem.F.plainAttrs_list PySem.F.slot_list_append PySem.F.type_list_append mt_append (pv 4) (pa_cons (pv 2) pa_nil))))
  pss_nil)
  (pss_cons (ps_if (pt_cmpR op_notN (pv 3) pe_non (nomark _))
  (pss_one (ps_expr (pe_bm PySem.F.plainAttrs_list PySem.F.slot_list_append PySem.F.type_list_append mt_append (pv 4) (pa_cons (pv 3) pa_nil))))
  pss_nil)
  (pss_one (ps_ret (pv 4))))))), ?_⟩
    rename_i v
    have bl := rows_len i
    cases i with
    | mk n b a =>
    have bn : n.words.length ≤ 100000 := by
      rw [FItem.words, List.length_append] at bnd
      omega
    have bl2 : n.rows.length + (b.rows.length + a.rows.length) ≤ 100000 := by
      rw [FItem.rows, List.length_append, List.length_append] at bl
      omega
    have t : Tp K H v (.tuple [n.d, b.d, a.d]) := t
    refine q_asg (e_var rfl t) fun v1 H1 s1 t1 => g_tup3 t1 fun x y z tx ty tz => ?_
    refine q_setL (l_call (a_cons (e_var rfl tx) a_nil) ⟨n, rfl, rfl, bn⟩) fun p xs H2 np s2 e l => ?_
    have A := Acc.start (s1.free np) (s1.trans s2) e l
    have ty := ty.stay (.of s2)
    have tz := tz.stay (.of s2)
    have fin : ∀ H3, TupK H2 H3 → Acc K H p (n.rows.map FRow.d ++ b.rows.map FRow.d) H3 → tSeq (tIfS (tTest (tOp (fun x y H Q => y = .non ∧ Q (.bl (!decide (x = .non))) H) (tVar 3) (tC .non))) (tDrop (tBM K "list" rAppend (tVar 4) (tCons (tVar 3) tNil))) tNext) (tRet (tVar 4)) { nx := fun _ H' => Q .non H', rt := Q } [some v, some x, some y, some z, some (.ref p)] H3 := by
      intro H3 tk A3
      have tz := tz.stay tk
      have fin2 : ∀ H4, Acc K H p ((n.rows.map FRow.d ++ b.rows.map FRow.d) ++ a.rows.map FRow.d) H4 → tRet (tVar 4) { nx := fun _ H' => Q .non H', rt := Q } [some v, some x, some y, some z, some (.ref p)] H4 := fun H4 A4 =>
        retAcc k (by rw [FItem.rows, List.map_append, List.map_append, ← List.append_assoc]; exact A4) rfl rfl
      cases a with
      | no => exact q_no (t_test (e_op (e_var rfl tz) e_non r_notN)) rfl fun H4 s4 => fin2 H4 (by rw [FScr.rows, List.map_nil, List.append_nil]; exact A3.ext s4)
      | yes r => exact q_yes (t_test (e_op (e_var rfl tz) e_non r_notN)) rfl fun H4 s4 => s_app (l := 0) rfl (A3.ext s4) (e_var rfl (tz.stay (.of s4))) (by rw [List.length_append, List.length_map, List.length_map]; omega) fun H5 _ _ A5 => fin2 H5 A5
    cases b with
    | no => exact q_no (t_test (e_op (e_var rfl ty) e_non r_notN)) rfl fun H4 s4 => fin H4 (.of s4) (by rw [FScr.rows, List.map_nil, List.append_nil]; exact A.ext s4)
    | yes r => exact q_yes (t_test (e_op (e_var rfl ty) e_non r_notN)) rfl fun H4 s4 => s_app (l := 0) rfl (A.ext s4) (e_var rfl (ty.stay (.of s4))) (by rw [List.length_map]; omega) fun H5 tk _ A5 => fin H5 ((TupK.of s4).trans tk) A5
/-! rows_of: n counts the levels -/
def spRowsOf (K : PySem.W.Frag) (n : Nat) : Sp := spRL K fun ds es => ∃ r : FRow, ds = [r.d] ∧ es = r.pre.map FRow.d ∧ r.dep < n ∧ r.words.length ≤ 100000
theorem scRowsOf : FnScope ["formula", "rows", "item", "row"] ["formula"] (defScope sRowsOf) := ⟨rfl, rfl, rfl, by decide +kernel, rfl, by decide +kernel, by decide +kernel⟩
theorem ok_rowsof1 {n : Nat} {f : Addr} {fd : FuncData} (F : Fun K "rows_of" "rows_of" sRowsOf f fd) (C_rows_in : Cal P w K mg base CX0 2 "rows_in" ["item"] (spRowsIn K)) (C_rows_of : Cal P w K mg base CX0 (n + 2) "rows_of" ["formula"] (spRowsOf K n)) : FnOk P w K mg base CX0 (n + 3) f fd ["formula"] (spRowsOf K (n + 1)) := by
  have sc := scRowsOf
  refine F.ok scRowsOf (fun vs H Q E h => ?_) (fun cdv A outer s H vs Q E hr h => ?_)
  · obtain ⟨ds, es, l, ⟨n, rfl, _⟩, _⟩ := h
    exact l.len
  · obtain ⟨ds, es, l, ⟨r, rfl, rfl, dep, bnd⟩, k⟩ := h
    cases l with
    | cons t l => cases l with
    | nil =>
    rename_i v
    refine ⟨_, (pss_cons (ps_set (i := 1) sc.nd rfl (Or.inl rfl) (pe_lst (pa_cons (pv 0) pa_nil)))
  (pss_cons (ps_for PassesOwn.never rfl (pi_tup (pv 0)) (pg_name (i := 2) sc.nd rfl (Or.inl rfl))
  (pss_one (ps_for PassesOwn.never rfl (pi_list (pe_cal C_rows_in (hr.mono (by omega)) rfl pass0 (pa_cons (pv 2) pa_nil))) (pg_name (i := 3) sc.nd rfl (Or.inl rfl))
  (pss_one (ps_expr (pe_bm PySem.F.plainAttrs_list PySem.F.slot_list_extend PySem.F.type_list_extend mt_extend (pv 1) (pa_cons (pe_cal C_rows_of (hr.mono (by omega)) rfl pass0 (pa_cons (pv 3) pa_nil)) pa_nil)))))))
  (pss_one (ps_ret (pv 1))))), ?_⟩
    have t : Tp K H v r.d := t
    have ib := inn_row r
    have er : r.d = .tuple (r.items.map FItem.d) := by rw [FRow.d, FRow.ds_eq]
    refine q_setL (l_lst (a_cons (e_var rfl t) a_nil) (Nat.le_of_ble_eq_true rfl)) fun p xs H2 np s2 e l => ?_
    have A0 := Acc.start np s2 e l
    have t := t.stay (.of s2)
    refine q_forT (ds := r.items.map FItem.d) (p := p) (e_var rfl (er ▸ t)) e (fun i σ' H' => ∃ x2 x3, σ' = [some v, some (.ref p), x2, x3] ∧ Acc K H p ((r :: (r.items.take i).flatMap FItem.inn).map FRow.d) H') (fun H3 s3 => ⟨_, _, rfl, by simpa using A0.ext s3⟩) ?_ ?_
    · rintro H3 s3 i d x σ' H' hi ⟨x2, x3, rfl, A⟩ kb tx
      obtain ⟨it, hit, rfl⟩ := get_map hi
      have hmem := List.mem_of_getElem? hit
      have w1 := words_item hmem
      have dI := FRow.dep_le.mp (Nat.le_of_lt_succ dep) it hmem
      have w2 := flat_le (f := FItem.inn) hit
      rw [← FRow.inn_eq] at w2
      have eI := FItem.inn_eq it
      obtain ⟨xs1, e1, l1⟩ := A.lst
      refine g_name ?_
      refine s_forL (p := p) (l_call (a_cons (e_var rfl tx) a_nil) ⟨it, rfl, rfl, by omega⟩) e1 (fun m σ' H' => ∃ x3, σ' = [some v, some (.ref p), some x, x3] ∧ Acc K H p ((r :: ((r.items.take i).flatMap FItem.inn ++ (it.rows.take m).flatMap FRow.pre)).map FRow.d) H') (fun H4 s4 => ⟨_, rfl, by simpa using A.ext s4⟩) ?_ ?_
      · rintro H4 s4 m d y σ' H5 hm ⟨x3, rfl, A5⟩ kb5 ty
        obtain ⟨q, hq, rfl⟩ := get_map hm
        have qm := List.mem_of_getElem? hq
        have w3 := words_rows qm
        have dq := FItem.dep_le.mp dI q qm
        have w4 := flat_le (f := FRow.pre) hq
        rw [← eI] at w4
        refine g_name ?_
        refine s_ext rfl A5 (l_call (a_cons (e_var rfl ty) a_nil) ⟨q, rfl, rfl, by omega, by omega⟩) (by simp only [List.length_map, List.length_cons, List.length_append]; omega) fun H6 tk kb6 A6 => ⟨⟨_, rfl, ?_⟩, kb5.trans kb6⟩
        rw [flat_snoc hq, ← List.append_assoc, ← List.cons_append, List.map_append]
        exact A6
      · rintro σ' H5 ⟨x3, rfl, A5⟩ kb5
        refine ⟨⟨_, _, rfl, ?_⟩, kb.trans kb5⟩
        rw [flat_snoc hit, eI]
        rw [List.length_map, List.take_length] at A5
        exact A5
    · rintro σ' H5 ⟨x2, x3, rfl, A5⟩ kb
      rw [List.length_map, List.take_length, ← FRow.inn_eq] at A5
      exact retAcc k A5 rfl rfl
theorem ok_rowsof {f : Addr} {fd : FuncData} (F : Fun K "rows_of" "rows_of" sRowsOf f fd) (C_rows_in : Cal P w K mg base CX0 2 "rows_in" ["item"] (spRowsIn K)) (hm : mg "rows_of" = some (.ref f)) (hk : PySem.W.keepIn K (.ref f) = true) (hb : Binds K fd ["formula"] []) :
    ∀ n, Cal P w K mg base CX0 (n + 2) "rows_of" ["formula"] (spRowsOf K n)
  | 0 => ⟨f, fd, FnOk.vac fun vs H Q E ⟨_, _, _, ⟨_, _, _, h, _⟩, _⟩ => Nat.not_lt_zero _ h, hm, hk, hb⟩
  | n + 1 => ⟨f, fd, ok_rowsof1 F C_rows_in (ok_rowsof F C_rows_in hm hk hb n), hm, hk, hb⟩
end
end Mg

set_option Elab.async false
set_option linter.all false
set_option maxRecDepth 100000
set_option maxHeartbeats 1000000
namespace Mg
open PySem L2
section
variable {P : Program} {w : World} {K : PySem.W.Frag} {mg : Str → Option Value} {base : Heap}
/-! the words of the normal text; n counts the levels -/
def spRowWords (K : PySem.W.Frag) (n : Nat) : Sp := spRL K fun ds es => ∃ r : FRow, ds = [r.d] ∧ es = r.words.map PyData.str ∧ r.dep < n ∧ r.words.length ≤ 100000
def spBraced (K : PySem.W.Frag) (n : Nat) : Sp := spRL K fun ds es => ∃ r : FRow, ds = [r.d] ∧ es = (braceW r).map PyData.str ∧ r.dep < n ∧ r.words.length ≤ 100000
def spFenceW (K : PySem.W.Frag) (n : Nat) : Sp := spRL K fun ds es => ∃ (o c : Option Str) (r : FRow), ds = [optD o, optD c, r.d] ∧ es = (FNuc.fence o c r).words.map PyData.str ∧ r.dep < n ∧ r.words.length ≤ 100000
def spGridW (K : PySem.W.Frag) (n : Nat) : Sp := spRL K fun ds es => ∃ g : FGrid, ds = [.tuple g.ds] ∧ es = (FNuc.grid g).words.map PyData.str ∧ g.dep ≤ n ∧ (g.words "{").length ≤ 100000
def spNucWords (K : PySem.W.Frag) (n : Nat) : Sp := spRL K fun ds es => ∃ m : FNuc, ds = [m.d] ∧ es = m.words.map PyData.str ∧ m.dep ≤ n ∧ m.words.length ≤ 100000
theorem l_strs {σ : L2.St} {H : Hp} (x : Str) : EvDL K (tLst (tCons (tC (.str x)) tNil)) σ H ([x].map PyData.str) := l_lst (a_cons e_str a_nil) (Nat.le_of_ble_eq_true rfl)
theorem scBraced : FnScope ["row"] ["row"] (defScope sBraced) := ⟨rfl, rfl, rfl, by decide +kernel, rfl, by decide +kernel, by decide +kernel⟩
theorem ok_braced {n : Nat} {f : Addr} {fd : FuncData} (F : Fun K "braced_words" "braced_words" sBraced f fd) (C_row_words : Cal P w K mg base CX0 (3 * n) "row_words" ["row"] (spRowWords K n)) : FnOk P w K mg base CX0 (3 * n + 1) f fd ["row"] (spBraced K n) := by
  have sc := scBraced
  refine F.ok scBraced (fun vs H Q E h => ?_) (fun cdv A outer s H vs Q E hr h => ?_)
  · obtain ⟨ds, es, l, ⟨n, rfl, _⟩, _⟩ := h
    exact l.len
  · obtain ⟨ds, es, l, ⟨r, rfl, rfl, dep, bnd⟩, k⟩ := h
    cases l with
    | cons t l => cases l with
    | nil =>
    refine ⟨_, (pss_one (ps_ret (pe_op op_cat (pe_op op_cat (pe_lst (pa_cons pe_str pa_nil)) (pe_cal C_row_words (hr.mono (by omega)) rfl pass0 (pa_cons (pv 0) pa_nil))) (pe_lst (pa_cons pe_str pa_nil))))), ?_⟩
    refine retL k (Same.refl _) (l_is (l_cat (l_cat (l_strs "{") (l_call (a_cons (e_var rfl t) a_nil) ⟨r, rfl, rfl, dep, bnd⟩) (by simp; omega)) (l_strs "}") (by simp; omega)) ?_) rfl
    simp [braceW]
theorem scFenceW : FnScope ["opening", "closing", "row", "first", "last"] ["opening", "closing", "row"] (defScope sFenceW) := ⟨rfl, rfl, rfl, by decide +kernel, rfl, by decide +kernel, by decide +kernel⟩
theorem none_opt (o : Option Str) : noneD (optD o) = o.isNone := by cases o <;> rfl
theorem ok_fencew {n : Nat} {f : Addr} {fd : FuncData} (F : Fun K "fence_words" "fence_words" sFenceW f fd) (C_row_words : Cal P w K mg base CX0 (3 * n) "row_words" ["row"] (spRowWords K n)) : FnOk P w K mg base CX0 (3 * n + 1) f fd ["opening", "closing", "row"] (spFenceW K n) := by
  have sc := scFenceW
  refine F.ok scFenceW (fun vs H Q E h => ?_) (fun cdv A outer s H vs Q E hr h => ?_)
  · obtain ⟨ds, es, l, ⟨_, _, _, rfl, _⟩, _⟩ := h
    exact l.len
  · obtain ⟨ds, es, l, ⟨o, c, r, rfl, rfl, dep, bnd⟩, k⟩ := h
    cases l with
    | cons to l => cases l with
    | cons tc l => cases l with
    | cons t l => cases l with
    | nil =>
    refine ⟨_, (pss_cons (ps_set (i := 3) sc.nd rfl (Or.inl rfl) (pe_ifExp (pt_cmpR op_isN (pv 0) pe_non (nomark _)) pe_str (pv 0)))
  (pss_cons (ps_set (i := 4) sc.nd rfl (Or.inl rfl) (pe_ifExp (pt_cmpR op_isN (pv 1) pe_non (nomark _)) pe_str (pv 1)))
  (pss_one (ps_ret (pe_op op_cat (pe_op op_cat (pe_lst (pa_cons pe_str (pa_cons (pv 3) pa_nil))) (pe_cal C_row_words (hr.mono (by omega)) rfl pass0 (pa_cons (pv 2) pa_nil))) (pe_lst (pa_cons pe_str (pa_cons (pv 4) pa_nil)))))))), ?_⟩
    have eo : ∀ (o : Option Str) {σ : L2.St} {i : Nat} {v : V} {H : Hp}, σ[i]? = some (some v) → Tp K H v (optD o) → EvD K (tIf (tTest (tOp (fun x y H Q => y = .non ∧ Q (.bl (decide (x = .non))) H) (tVar i) (tC .non))) (tC (.str ".")) (tVar i)) σ H (.str (delimW o)) := fun o σ i v H hv tv =>
      e_if (t_test (e_op (e_var hv tv) e_non r_isN)) (fun z => by
        rw [none_opt] at z
        cases o with
        | none => exact e_str
        | some x => cases z) (fun z => by
        rw [none_opt] at z
        cases o with
        | none => cases z
        | some x => exact e_var hv tv)
    refine q_set (eo o rfl to) fun v1 H1 s1 t1 => ?_
    refine q_set (eo c rfl (tc.stay (.of s1))) fun v2 H2 s2 t2 => ?_
    have s12 := s1.trans s2
    refine retL k s12 (l_is (es := (FNuc.fence o c r).words.map PyData.str) (l_cat (l_cat (l_lst (ds := [.str "@left", .str (delimW o)]) (a_cons e_str (a_cons (e_var rfl (t1.stay (.of s2))) a_nil)) (Nat.le_of_ble_eq_true rfl)) (l_call (a_cons (e_var rfl (t.stay (.of s12))) a_nil) ⟨r, rfl, rfl, dep, bnd⟩) (by simp; omega)) (l_lst (ds := [.str "@right", .str (delimW c)]) (a_cons e_str (a_cons (e_var rfl t2) a_nil)) (Nat.le_of_ble_eq_true rfl)) (by simp; omega)) ?_) rfl
    simp [FNuc.words]
theorem scGridW : FnScope ["rows", "words", "between", "cells", "cell"] ["rows"] (defScope sGridW) := ⟨rfl, rfl, rfl, by decide +kernel, rfl, by decide +kernel, by decide +kernel⟩
theorem cells_snoc {s : Str} : ∀ {c : FCells} {i : Nat} {q : FRow}, c.rows[i]? = some q → ((FCells.of (c.rows.take (i + 1))).words s) = (FCells.of (c.rows.take i)).words s ++ ((if i = 0 then s else "&") :: q.words)
  | .nil, _, _, h => by simp [FCells.rows] at h
  | .cons r c, 0, q, h => by
    cases Option.some.inj h
    simp [FCells.rows, FCells.of, FCells.words]
  | .cons r c, i + 1, q, h => by
    have h : c.rows[i]? = some q := h
    have e := cells_snoc (s := "&") h
    rw [FCells.rows, List.take_succ_cons, List.take_succ_cons, FCells.of, FCells.of, FCells.words, FCells.words, e, if_neg (Nat.succ_ne_zero i)]
    simp
theorem cells_take {s : Str} : ∀ {c : FCells} {i : Nat}, ((FCells.of (c.rows.take i)).words s).length ≤ (c.words s).length
  | .nil, _ => by simp [FCells.rows, FCells.of, FCells.words]
  | .cons r c, 0 => by simp [FCells.of, FCells.words]
  | .cons r c, i + 1 => by
    have := cells_take (s := "&") (c := c) (i := i)
    rw [FCells.rows, List.take_succ_cons, FCells.of, FCells.words, FCells.words]
    simp
    omega
theorem cells_of_rows : ∀ c : FCells, FCells.of c.rows = c
  | .nil => rfl
  | .cons r c => by rw [FCells.rows, FCells.of, cells_of_rows c]
theorem grid_of_lines : ∀ c : FGrid, FGrid.of c.lines = c
  | .nil => rfl
  | .cons r c => by rw [FGrid.lines, FGrid.of, grid_of_lines c]
theorem grid_snoc {s : Str} : ∀ {c : FGrid} {i : Nat} {q : FCells}, c.lines[i]? = some q → ((FGrid.of (c.lines.take (i + 1))).words s) = (FGrid.of (c.lines.take i)).words s ++ q.words (if i = 0 then s else "~")
  | .nil, _, _, h => by simp [FGrid.lines] at h
  | .cons r c, 0, q, h => by
    cases Option.some.inj h
    simp [FGrid.lines, FGrid.of, FGrid.words]
  | .cons r c, i + 1, q, h => by
    have h : c.lines[i]? = some q := h
    have e := grid_snoc (s := "~") h
    rw [FGrid.lines, List.take_succ_cons, List.take_succ_cons, FGrid.of, FGrid.of, FGrid.words, FGrid.words, e, if_neg (Nat.succ_ne_zero i)]
    simp
theorem grid_take {s : Str} : ∀ {c : FGrid} {i : Nat}, ((FGrid.of (c.lines.take i)).words s).length ≤ (c.words s).length
  | .nil, _ => by simp [FGrid.lines, FGrid.of, FGrid.words]
  | .cons r c, 0 => by simp [FGrid.of, FGrid.words]
  | .cons r c, i + 1 => by
    have := grid_take (s := "~") (c := c) (i := i)
    rw [FGrid.lines, List.take_succ_cons, FGrid.of, FGrid.words, FGrid.words]
    simp
    omega
theorem cells_words_len (s t : Str) : ∀ c : FCells, (c.words s).length = (c.words t).length
  | .nil => rfl
  | .cons r c => by rw [FCells.words, FCells.words, List.length_cons, List.length_cons]
theorem line_words : ∀ {g : FGrid} {q : FCells} {s : Str}, q ∈ g.lines → (q.words s).length ≤ (g.words s).length
  | .nil, _, _, h => nomatch h
  | .cons c g, q, s, h => by
    rw [FGrid.words, List.length_append]
    rcases List.mem_cons.mp h with rfl | h
    · omega
    · have := line_words (s := "~") h
      rw [cells_words_len s "~" q]
      omega
theorem lines_all {g : FGrid} {q : FCells} {r : FRow} (h1 : q ∈ g.lines) (h2 : r ∈ q.rows) : r ∈ g.all := by
  rw [FGrid.all_eq]
  exact List.mem_flatMap.mpr ⟨q, h1, h2⟩
theorem ok_gridw {n : Nat} {f : Addr} {fd : FuncData} (F : Fun K "grid_words" "grid_words" sGridW f fd) (C_row_words : Cal P w K mg base CX0 (3 * n) "row_words" ["row"] (spRowWords K n)) : FnOk P w K mg base CX0 (3 * n + 1) f fd ["rows"] (spGridW K n) := by
  have sc := scGridW
  refine F.ok scGridW (fun vs H Q E h => ?_) (fun cdv A outer s H vs Q E hr h => ?_)
  · obtain ⟨ds, es, l, ⟨_, rfl, _⟩, _⟩ := h
    exact l.len
  · obtain ⟨ds, es, l, ⟨g, rfl, rfl, dep, bnd⟩, k⟩ := h
    cases l with
    | cons t l => cases l with
    | nil =>
    rename_i v
    refine ⟨_, (pss_cons (ps_set (i := 1) sc.nd rfl (Or.inl rfl) (pe_lst (pa_cons pe_str pa_nil)))
  (pss_cons (ps_set (i := 2) sc.nd rfl (Or.inl rfl) pe_str)
  (pss_cons (ps_for PassesOwn.never rfl (pi_tup (pv 0)) (pg_name (i := 3) sc.nd rfl (Or.inl rfl))
  (pss_cons (ps_for PassesOwn.never rfl (pi_tup (pv 3)) (pg_name (i := 4) sc.nd rfl (Or.inl rfl))
  (pss_cons (ps_expr (pe_bm PySem.F.plainAttrs_list PySem.F.slot_list_append PySem.F.type_list_append mt_append (pv 1) (pa_cons (pv 2) pa_nil)))
  (pss_cons (ps_expr (pe_bm PySem.F.plainAttrs_list PySem.F.slot_list_extend PySem.F.type_list_extend mt_extend (pv 1) (pa_cons (pe_cal C_row_words (hr.mono (by omega)) rfl pass0 (pa_cons (pv 4) pa_nil)) pa_nil)))
  (pss_one (ps_set (i := 2) sc.nd rfl (Or.inl rfl) pe_str)))))
  (pss_one (ps_set (i := 2) sc.nd rfl (Or.inl rfl) pe_str))))
  (pss_cons (ps_expr (pe_bm PySem.F.plainAttrs_list PySem.F.slot_list_append PySem.F.type_list_append mt_append (pv 1) (pa_cons pe_str pa_nil)))
  (pss_one (ps_ret (pv 1))))))), ?_⟩
    refine q_setL (K := K) (l_strs "@grid") fun p xs H2 np s2 e l => ?_
    have A0 := Acc.start np s2 e l
    have t := t.stay (.of s2)
    refine q_set (K := K) e_str fun vb H3 s3 tb => ?_
    obtain rfl := tp_str tb
    have A1 := A0.ext s3
    have t := t.stay (.of s3)
    obtain ⟨xs1, e1, l1⟩ := A1.lst
    have dL := FGrid.dep_le.mp dep
    refine q_forT (ds := g.lines.map FCells.d) (p := p) (e_var rfl (FGrid.ds_eq g ▸ t)) e1 (fun i σ' H' => ∃ x3 x4, σ' = [some v, some (.ref p), some (.str (if i = 0 then "{" else "~")), x3, x4] ∧ Acc K H p ((("@grid" : Str) :: (FGrid.of (g.lines.take i)).words "{").map PyData.str) H') (fun H4 s4 => ⟨_, _, rfl, by simpa [FGrid.of, FGrid.words] using A1.ext s4⟩) ?_ ?_
    · rintro H4 s4 i d x σ' H' hi ⟨x3, x4, rfl, A⟩ kb tx
      obtain ⟨c, hc, rfl⟩ := get_map hi
      have cm := List.mem_of_getElem? hc
      have tx : Tp K H' x (.tuple (c.rows.map FRow.d)) := FCells.ds_eq c ▸ tx
      obtain ⟨xs2, e2, l2⟩ := A.lst
      have wl := line_words (s := "{") cm
      have gt := grid_take (s := "{") (c := g) (i := i + 1)
      rw [grid_snoc hc, List.length_append, cells_words_len _ "{"] at gt
      refine g_name ?_
      refine q_forT (p := p) (e_var rfl tx) e2 (fun j σ' H' => ∃ x4, σ' = [some v, some (.ref p), some (.str (if j = 0 then (if i = 0 then "{" else "~") else "&")), some x, x4] ∧
        Acc K H p ((("@grid" : Str) :: ((FGrid.of (g.lines.take i)).words "{" ++ (FCells.of (c.rows.take j)).words (if i = 0 then "{" else "~"))).map PyData.str) H') (fun H5 s5 => ⟨_, rfl, by simpa [FCells.of, FCells.words] using A.ext s5⟩) ?_ ?_
      · rintro H5 s5 j d y σ' H6 hj ⟨x4, rfl, A6⟩ kb6 ty
        obtain ⟨q, hq, rfl⟩ := get_map hj
        have qm := List.mem_of_getElem? hq
        have qa := lines_all cm qm
        have dq := dL q qa
        have wq := words_grid (s := "{") qa
        have ct := cells_take (s := "{") (c := c) (i := j + 1)
        rw [cells_snoc hq, List.length_append, List.length_cons] at ct
        have cl := cells_words_len (if i = 0 then "{" else "~") "{" (FCells.of (c.rows.take j))
        refine g_name ?_
        refine q_app rfl A6 (e_var (v := .str (if j = 0 then (if i = 0 then "{" else "~") else "&")) rfl (.str _)) (by simp only [List.length_map, List.length_cons, List.length_append]; omega) fun H7 tk7 kb7 A7 => ?_
        refine q_ext rfl A7 (l_call (a_cons (e_var rfl (ty.stay tk7)) a_nil) ⟨q, rfl, rfl, by omega, by omega⟩) (by simp only [List.length_map, List.length_cons, List.length_append, List.length_nil]; omega) fun H8 tk8 kb8 A8 => ?_
        refine ⟨⟨_, rfl, ?_⟩, (kb6.trans kb7).trans kb8⟩
        rw [cells_snoc hq]
        have A8 : Acc K H p _ H8 := A8
        simpa using A8
      · rintro σ' H6 ⟨x4, rfl, A6⟩ kb6
        refine ⟨⟨_, _, rfl, ?_⟩, kb.trans kb6⟩
        rw [List.length_map, List.take_length, cells_of_rows] at A6
        rw [grid_snoc hc]
        exact A6
    · rintro σ' H5 ⟨x3, x4, rfl, A5⟩ kb
      rw [List.length_map, List.take_length, grid_of_lines] at A5
      refine q_app rfl A5 e_str (by simp only [List.length_map, List.length_cons]; omega) fun H6 _ _ A6 => ?_
      refine retAcc k ?_ rfl rfl
      have A6 : Acc K H p _ H6 := A6
      simpa [FNuc.words] using A6
theorem scNucWords : FnScope ["nucleus", "kind"] ["nucleus"] (defScope sNucWords) := ⟨rfl, rfl, rfl, by decide +kernel, rfl, by decide +kernel, by decide +kernel⟩
theorem ok_nucwords {n : Nat} {f : Addr} {fd : FuncData} (F : Fun K "nucleus_words" "nucleus_words" sNucWords f fd) (C_braced_words : Cal P w K mg base CX0 (3 * n + 1) "braced_words" ["row"] (spBraced K n)) (C_fence_words : Cal P w K mg base CX0 (3 * n + 1) "fence_words" ["opening", "closing", "row"] (spFenceW K n)) (C_grid_words : Cal P w K mg base CX0 (3 * n + 1) "grid_words" ["rows"] (spGridW K n)) :
    FnOk P w K mg base CX0 (3 * n + 2) f fd ["nucleus"] (spNucWords K n) := by
  have sc := scNucWords
  refine F.ok scNucWords (fun vs H Q E h => ?_) (fun cdv A outer s H vs Q E hr h => ?_)
  · obtain ⟨ds, es, l, ⟨_, rfl, _⟩, _⟩ := h
    exact l.len
  · obtain ⟨ds, es, l, ⟨m, rfl, rfl, dep, bnd⟩, k⟩ := h
    cases l with
    | cons t l => cases l with
    | nil =>
    refine ⟨_, (pss_cons (ps_set (i := 1) sc.nd rfl (Or.inl rfl) (pe_ix ix_tup (pv 0) pe_int (fun _ _ => rfl)))
  (pss_cons (ps_if (pt_cmpR op_eq (pv 1) pe_str (nomark _))
  (pss_one (ps_ret (pe_lst (pa_cons (pe_ix ix_tup (pv 0) pe_int (fun _ _ => rfl)) pa_nil))))
  pss_nil)
  (pss_cons (ps_if (pt_cmpR op_eq (pv 1) pe_str (nomark _))
  (pss_one (ps_ret (pe_op op_cat (pe_op op_cat (pe_lst (pa_cons pe_str pa_nil)) (pe_cal C_braced_words (hr.mono (by omega)) rfl pass0 (pa_cons (pe_ix ix_tup (pv 0) pe_int (fun _ _ => rfl)) pa_nil))) (pe_cal C_braced_words (hr.mono (by omega)) rfl pass0 (pa_cons (pe_ix ix_tup (pv 0) pe_int (fun _ _ => rfl)) pa_nil)))))
  pss_nil)
  (pss_cons (ps_if (pt_cmpR op_eq (pv 1) pe_str (nomark _))
  (pss_one (ps_ret (pe_op op_cat (pe_lst (pa_cons pe_str pa_nil)) (pe_cal C_braced_words (hr.mono (by omega)) rfl pass0 (pa_cons (pe_ix ix_tup (pv 0) pe_int (fun _ _ => rfl)) pa_nil)))))
  pss_nil)
  (pss_cons (ps_if (pt_cmpR op_eq (pv 1) pe_str (nomark _))
  (pss_one (ps_ret (pe_cal C_fence_words (hr.mono (by omega)) rfl pass0 (pa_cons (pe_ix ix_tup (pv 0) pe_int (fun _ _ => rfl)) (pa_cons (pe_ix ix_tup (pv 0) pe_int (fun _ _ => rfl)) (pa_cons (pe_ix ix_tup (pv 0) pe_int (fun _ _ => rfl)) pa_nil))))))
  pss_nil)
  (pss_cons (ps_if (pt_cmpR op_eq (pv 1) pe_str (nomark _))
  (pss_one (ps_ret (pe_cal C_grid_words (hr.mono (by omega)) rfl pass0 (pa_cons (pe_ix ix_tup (pv 0) pe_int (fun _ _ => rfl)) pa_nil))))
  pss_nil)
  (pss_one (ps_ret (pe_cal C_braced_words (hr.mono (by omega)) rfl pass0 (pa_cons (pe_ix ix_tup (pv 0) pe_int (fun _ _ => rfl)) pa_nil)))))))))), ?_⟩
    have dp := FNuc.dep_le.mp dep
    have wb : ∀ q ∈ m.rows, q.words.length ≤ 100000 := fun q hq => by
      have := words_nuc hq
      omega
    cases m with
    | sym x =>
      have t : Tp K H _ (.tuple [.str "symbol", .str x]) := t
      refine q_set (e_op (e_var rfl t) e_int (r_ixT rfl)) fun kd H1 s1 tk => ?_
      obtain rfl := tp_str tk
      have t := t.stay (.of s1)
      exact q_yesS rfl (retL k s1 (l_lst (a_cons (e_op (e_var rfl t) e_int (r_ixT rfl)) a_nil) (Nat.le_of_ble_eq_true rfl)) rfl)
    | frac o u =>
      have t : Tp K H _ (.tuple [.str "frac", o.d, u.d]) := t
      refine q_set (e_op (e_var rfl t) e_int (r_ixT rfl)) fun kd H1 s1 tk => ?_
      obtain rfl := tp_str tk
      have t := t.stay (.of s1)
      have b1 := wb o (by simp [FNuc.rows])
      have b2 := wb u (by simp [FNuc.rows])
      have d1 := dp o (by simp [FNuc.rows])
      have d2 := dp u (by simp [FNuc.rows])
      refine q_noS rfl (by decide +kernel) (q_yesS rfl (retL k s1 (l_is (l_cat (l_cat (l_strs "@frac") (l_call (a_cons (e_op (e_var rfl t) e_int (r_ixT rfl)) a_nil) ⟨o, rfl, rfl, by omega, b1⟩) (by simp [braceW]; omega)) (l_call (a_cons (e_op (e_var rfl t) e_int (r_ixT rfl)) a_nil) ⟨u, rfl, rfl, by omega, b2⟩) (by simp [braceW]; omega)) ?_) rfl))
      simp [FNuc.words, braceW]
    | root r =>
      have t : Tp K H _ (.tuple [.str "root", r.d]) := t
      refine q_set (e_op (e_var rfl t) e_int (r_ixT rfl)) fun kd H1 s1 tk => ?_
      obtain rfl := tp_str tk
      have t := t.stay (.of s1)
      have b1 := wb r (by simp [FNuc.rows])
      have d1 := dp r (by simp [FNuc.rows])
      refine q_noS rfl (by decide +kernel) (q_noS rfl (by decide +kernel) (q_yesS rfl (retL k s1 (l_is (l_cat (l_strs "@root") (l_call (a_cons (e_op (e_var rfl t) e_int (r_ixT rfl)) a_nil) ⟨r, rfl, rfl, by omega, b1⟩) (by simp [braceW]; omega)) ?_) rfl)))
      simp [FNuc.words, braceW]
    | fence o c r =>
      have t : Tp K H _ (.tuple [.str "fence", optD o, optD c, r.d]) := t
      refine q_set (e_op (e_var rfl t) e_int (r_ixT rfl)) fun kd H1 s1 tk => ?_
      obtain rfl := tp_str tk
      have t := t.stay (.of s1)
      have b1 := wb r (by simp [FNuc.rows])
      have d1 := dp r (by simp [FNuc.rows])
      refine q_noS rfl (by decide +kernel) (q_noS rfl (by decide +kernel) (q_noS rfl (by decide +kernel) (q_yesS rfl (retL k s1 (l_call (a_cons (e_op (e_var rfl t) e_int (r_ixT rfl)) (a_cons (e_op (e_var rfl t) e_int (r_ixT rfl)) (a_cons (e_op (e_var rfl t) e_int (r_ixT rfl)) a_nil))) ⟨o, c, r, rfl, rfl, by omega, b1⟩) rfl))))
    | grid g =>
      have t : Tp K H _ (.tuple [.str "grid", .tuple g.ds]) := t
      refine q_set (e_op (e_var rfl t) e_int (r_ixT rfl)) fun kd H1 s1 tk => ?_
      obtain rfl := tp_str tk
      have t := t.stay (.of s1)
      have bg : (g.words "{").length ≤ 100000 := by
        have := bnd
        simp [FNuc.words] at this
        omega
      refine q_noS rfl (by decide +kernel) (q_noS rfl (by decide +kernel) (q_noS rfl (by decide +kernel) (q_noS rfl (by decide +kernel) (q_yesS rfl (retL k s1 (l_call (a_cons (e_op (e_var rfl t) e_int (r_ixT rfl)) a_nil) ⟨g, rfl, rfl, dep, bg⟩) rfl)))))
    | group r =>
      have t : Tp K H _ (.tuple [.str "group", r.d]) := t
      refine q_set (e_op (e_var rfl t) e_int (r_ixT rfl)) fun kd H1 s1 tk => ?_
      obtain rfl := tp_str tk
      have t := t.stay (.of s1)
      have b1 := wb r (by simp [FNuc.rows])
      have d1 := dp r (by simp [FNuc.rows])
      refine q_noS rfl (by decide +kernel) (q_noS rfl (by decide +kernel) (q_noS rfl (by decide +kernel) (q_noS rfl (by decide +kernel) (q_noS rfl (by decide +kernel) (retL k s1 (l_call (a_cons (e_op (e_var rfl t) e_int (r_ixT rfl)) a_nil) ⟨r, rfl, rfl, by omega, b1⟩) rfl)))))
theorem scRowWords : FnScope ["row", "words", "nucleus", "below", "above"] ["row"] (defScope sRowWords) := ⟨rfl, rfl, rfl, by decide +kernel, rfl, by decide +kernel, by decide +kernel⟩
theorem ok_rowwords1 {n : Nat} {f : Addr} {fd : FuncData} (F : Fun K "row_words" "row_words" sRowWords f fd) (C_nucleus_words : Cal P w K mg base CX0 (3 * n + 2) "nucleus_words" ["nucleus"] (spNucWords K n)) (C_braced_words : Cal P w K mg base CX0 (3 * n + 1) "braced_words" ["row"] (spBraced K n)) :
    FnOk P w K mg base CX0 (3 * n + 3) f fd ["row"] (spRowWords K (n + 1)) := by
  have sc := scRowWords
  refine F.ok scRowWords (fun vs H Q E h => ?_) (fun cdv A outer s H vs Q E hr h => ?_)
  · obtain ⟨ds, es, l, ⟨_, rfl, _⟩, _⟩ := h
    exact l.len
  · obtain ⟨ds, es, l, ⟨r, rfl, rfl, dep, bnd⟩, k⟩ := h
    cases l with
    | cons t l => cases l with
    | nil =>
    rename_i v
    refine ⟨_, (pss_cons (ps_set (i := 1) sc.nd rfl (Or.inl rfl) (pe_lst pa_nil))
  (pss_cons (ps_for PassesOwn.never rfl (pi_tup (pv 0)) (pg_tup rfl (pgs_cons (pg_name (i := 2) sc.nd rfl (Or.inl rfl)) (pgs_cons (pg_name (i := 3) sc.nd rfl (Or.inl rfl)) (pgs_cons (pg_name (i := 4) sc.nd rfl (Or.inl rfl)) pgs_nil))))
  (pss_cons (ps_expr (pe_bm PySem.F.plainAttrs_list PySem.F.slot_list_extend PySem.F.type_list_extend mt_extend (pv 1) (pa_cons (pe_cal C_nucleus_words (hr.mono (by omega)) rfl pass0 (pa_cons (pv 2) pa_nil)) pa_nil)))
  (pss_cons (ps_if (pt_cmpR op_notN (pv 3) pe_non (nomark _))
  (pss_one (ps_expr (pe_bm PySem.F.plainAttrs_list PySem.F.slot_list_extend PySem.F.type_list_extend mt_extend (pv 1) (pa_cons (pe_op op_cat (pe_lst (pa_cons pe_str pa_nil)) (pe_cal C_braced_words (hr.mono (by omega)) rfl pass0 (pa_cons (pv 3) pa_nil))) pa_nil))))
  pss_nil)
  (pss_one (ps_if (pt_cmpR op_notN (pv 4) pe_non (nomark _))
  (pss_one (ps_expr (pe_bm PySem.F.plainAttrs_list PySem.F.slot_list_extend PySem.F.type_list_extend mt_extend (pv 1) (pa_cons (pe_op op_cat (pe_lst (pa_cons pe_str pa_nil)) (pe_cal C_braced_words (hr.mono (by omega)) rfl pass0 (pa_cons (pv 4) pa_nil))) pa_nil))))
  pss_nil)))))
  (pss_one (ps_ret (pv 1))))), ?_⟩
    have er : r.d = .tuple (r.items.map FItem.d) := by rw [FRow.d, FRow.ds_eq]
    have t : Tp K H v r.d := t
    refine q_setL (K := K) (l_lst a_nil (Nat.le_of_ble_eq_true rfl)) fun p xs H2 np s2 e l => ?_
    have A0 := Acc.start np s2 e l
    have t := t.stay (.of s2)
    refine q_forT (ds := r.items.map FItem.d) (p := p) (e_var rfl (er ▸ t)) e (fun i σ' H' => ∃ x2 x3 x4, σ' = [some v, some (.ref p), x2, x3, x4] ∧ Acc K H p (((r.items.take i).flatMap FItem.words).map PyData.str) H') (fun H3 s3 => ⟨_, _, _, rfl, by simpa using A0.ext s3⟩) ?_ ?_
    · rintro H3 s3 i d x σ' H' hi ⟨x2, x3, x4, rfl, A⟩ kb tx
      obtain ⟨it, hit, rfl⟩ := get_map hi
      have hmem := List.mem_of_getElem? hit
      have w1 := words_item hmem
      have dI := FRow.dep_le.mp (Nat.le_of_lt_succ dep) it hmem
      have w2 := flat_le (f := FItem.words) hit
      rw [← FRow.words_eq] at w2
      cases it with
      | mk m b a =>
      have tx : Tp K H' x (.tuple [m.d, b.d, a.d]) := tx
      rw [FItem.words, List.length_append, List.length_append] at w2 w1
      have dm : m.dep ≤ n ∧ b.dep ≤ n ∧ a.dep ≤ n := by
        rw [FItem.dep] at dI
        omega
      refine g_tup3 tx fun y1 y2 y3 ty1 ty2 ty3 => ?_
      refine q_ext rfl A (l_call (a_cons (e_var rfl ty1) a_nil) ⟨m, rfl, rfl, dm.1, by omega⟩) (by simp only [List.length_map]; omega) fun H4 tk4 kb4 A4 => ?_
      have A4 : Acc K H p _ H4 := A4
      have ty2 := ty2.stay tk4
      have ty3 := ty3.stay tk4
      have fin : ∀ H5, TupK H4 H5 → KeepB p H4 H5 → Acc K H p ((((r.items.take i).flatMap FItem.words).map PyData.str ++ m.words.map PyData.str) ++ (b.words "_").map PyData.str) H5 →
          tIfS (tTest (tOp (fun x y H Q => y = .non ∧ Q (.bl (!decide (x = .non))) H) (tVar 4) (tC .non))) (tDrop (tBM K "list" rExtend (tVar 1) (tCons (tOp rCat (tLst (tCons (tC (.str "^")) tNil)) (tCall (spBraced K n) [] E0 (tCons (tVar 4) tNil))) tNil))) tNext
          { nx := fun σ3 H3_1 => (∃ x2 x3 x4, σ3 = [some v, some (.ref p), x2, x3, x4] ∧ Acc K H p (((r.items.take (i + 1)).flatMap FItem.words).map PyData.str) H3_1) ∧ KeepB p H3 H3_1, ct := fun σ3 H3_1 => (∃ x2 x3 x4, σ3 = [some v, some (.ref p), x2, x3, x4] ∧ Acc K H p (((r.items.take (i + 1)).flatMap FItem.words).map PyData.str) H3_1) ∧ KeepB p H3 H3_1, bk := tRet (tVar 1) { nx := fun _ H' => Q .non H', rt := Q }, rt := Q } [some v, some (.ref p), some y1, some y2, some y3] H5 := by
        intro H5 tk5 kb5 A5
        have ty3 := ty3.stay tk5
        have fin2 : ∀ H6, KeepB p H5 H6 → Acc K H p (((((r.items.take i).flatMap FItem.words).map PyData.str ++ m.words.map PyData.str) ++ (b.words "_").map PyData.str) ++ (a.words "^").map PyData.str) H6 →
            (∃ x2 x3 x4, [some v, some (.ref p), some y1, some y2, some y3] = [some v, some (.ref p), x2, x3, x4] ∧ Acc K H p (((r.items.take (i + 1)).flatMap FItem.words).map PyData.str) H6) ∧ KeepB p H3 H6 := fun H6 kb6 A6 => by
          refine ⟨⟨_, _, _, rfl, ?_⟩, ((kb.trans kb4).trans kb5).trans kb6⟩
          rw [flat_snoc hit, FItem.words]
          simpa using A6
        cases a with
        | no => exact s_when (t_test (e_op (e_var rfl ty3) e_non r_notN)) (fun z => by cases z) fun _ H6 s6 => fin2 H6 (.of s6) (by simpa [FScr.words] using A5.ext s6)
        | yes q =>
          have w3 := words_scr (n := .yes q) (r := q) (s := "^") (List.mem_singleton.mpr rfl)
          have dq := dm.2.2
          rw [FScr.dep] at dq
          refine s_when (t_test (e_op (e_var rfl ty3) e_non r_notN)) (fun _ H6 s6 => ?_) fun z => by cases z
          refine s_ext rfl (A5.ext s6) (l_cat (l_strs "^") (l_call (a_cons (e_var rfl (ty3.stay (.of s6))) a_nil) ⟨q, rfl, rfl, by omega, by omega⟩) (by simp [braceW]; omega)) (by simp [braceW] at w2 ⊢; simp [FScr.words] at w2; omega) fun H7 tk7 kb7 A7 => fin2 H7 ((KeepB.of s6).trans kb7) ?_
          simpa [FScr.words, braceW] using A7
      cases b with
      | no => exact q_no (t_test (e_op (e_var rfl ty2) e_non r_notN)) rfl fun H5 s5 => fin H5 (.of s5) (.of s5) (by simpa [FScr.words] using A4.ext s5)
      | yes q =>
        have w3 := words_scr (n := .yes q) (r := q) (s := "_") (List.mem_singleton.mpr rfl)
        have dq := dm.2.1
        rw [FScr.dep] at dq
        refine q_yes (t_test (e_op (e_var rfl ty2) e_non r_notN)) rfl fun H6 s6 => ?_
        refine s_ext rfl (A4.ext s6) (l_cat (l_strs "_") (l_call (a_cons (e_var rfl (ty2.stay (.of s6))) a_nil) ⟨q, rfl, rfl, by omega, by omega⟩) (by simp [braceW]; omega)) (by simp [braceW] at w2 ⊢; simp [FScr.words] at w2; omega) fun H7 tk7 kb7 A7 => fin H7 ((TupK.of s6).trans tk7) ((KeepB.of s6).trans kb7) ?_
        have A7 : Acc K H p _ H7 := A7
        simpa [FScr.words, braceW] using A7
    · rintro σ' H5 ⟨x2, x3, x4, rfl, A5⟩ kb
      rw [List.length_map, List.take_length, ← FRow.words_eq] at A5
      exact retAcc k A5 rfl rfl
/-- all of them, level by level -/
structure WordsOk (P : Program) (w : World) (K : PySem.W.Frag) (mg : Str → Option Value) (base : Heap) (n : Nat) : Prop where
  row : Cal P w K mg base CX0 (3 * n) "row_words" ["row"] (spRowWords K n)
  brace : Cal P w K mg base CX0 (3 * n + 1) "braced_words" ["row"] (spBraced K n)
  nuc : Cal P w K mg base CX0 (3 * n + 2) "nucleus_words" ["nucleus"] (spNucWords K n)
theorem words_ok {f1 f2 f3 f4 f5 : Addr} {d1 d2 d3 d4 d5 : FuncData} (F1 : Fun K "row_words" "row_words" sRowWords f1 d1) (F2 : Fun K "braced_words" "braced_words" sBraced f2 d2) (F3 : Fun K "nucleus_words" "nucleus_words" sNucWords f3 d3) (F4 : Fun K "fence_words" "fence_words" sFenceW f4 d4) (F5 : Fun K "grid_words" "grid_words" sGridW f5 d5)
    (c1 : mg "row_words" = some (.ref f1) ∧ PySem.W.keepIn K (.ref f1) = true ∧ Binds K d1 ["row"] []) (c2 : mg "braced_words" = some (.ref f2) ∧ PySem.W.keepIn K (.ref f2) = true ∧ Binds K d2 ["row"] []) (c3 : mg "nucleus_words" = some (.ref f3) ∧ PySem.W.keepIn K (.ref f3) = true ∧ Binds K d3 ["nucleus"] [])
    (c4 : mg "fence_words" = some (.ref f4) ∧ PySem.W.keepIn K (.ref f4) = true ∧ Binds K d4 ["opening", "closing", "row"] []) (c5 : mg "grid_words" = some (.ref f5) ∧ PySem.W.keepIn K (.ref f5) = true ∧ Binds K d5 ["rows"] []) : ∀ n, WordsOk P w K mg base n := by
  have step : ∀ n, Cal P w K mg base CX0 (3 * n) "row_words" ["row"] (spRowWords K n) → WordsOk P w K mg base n := fun n h => by
    have hb : Cal P w K mg base CX0 (3 * n + 1) "braced_words" ["row"] (spBraced K n) := ⟨f2, d2, ok_braced F2 h, c2.1, c2.2.1, c2.2.2⟩
    exact ⟨h, hb, f3, d3, ok_nucwords F3 hb ⟨f4, d4, ok_fencew F4 h, c4.1, c4.2.1, c4.2.2⟩ ⟨f5, d5, ok_gridw F5 h, c5.1, c5.2.1, c5.2.2⟩, c3.1, c3.2.1, c3.2.2⟩
  intro n
  induction n with
  | zero => exact step 0 ⟨f1, d1, FnOk.vac fun vs H Q E ⟨_, _, _, ⟨_, _, _, h, _⟩, _⟩ => Nat.not_lt_zero _ h, c1.1, c1.2.1, c1.2.2⟩
  | succ n ih => exact step (n + 1) ⟨f1, d1, ok_rowwords1 F1 ih.nuc ih.brace, c1.1, c1.2.1, c1.2.2⟩
end
end Mg

set_option Elab.async false
set_option linter.all false
set_option maxRecDepth 100000
set_option maxHeartbeats 1000000
namespace Mg
open PySem L2
abbrev sDepthOf : Stmt := top 49
abbrev sTextOf : Stmt := top 50
abbrev sCheckDepth : Stmt := top 41
abbrev sCheckFormula : Stmt := top 45
structure TxtSrc (mg : Str → Option Value) : Prop where
  b_len : mg "len" = none
  b_max : mg "max" = none
  b_sum : mg "sum" = none
  b_enumerate : mg "enumerate" = none
  c_LETTERS : ∃ t, mg "LETTERS" = some (.str cLETTERS t)
  c_DEEPEST : ∃ t, mg "DEEPEST" = some (.int 7 t)
  c_MOST_ITEMS : ∃ t, mg "MOST_ITEMS" = some (.int 80 t)
  c_LONGEST : ∃ t, mg "LONGEST" = some (.int 400 t)
section
variable {P : Program} {w : World} {K : PySem.W.Frag} {mg : Str → Option Value} {base : Heap}
/-! depth_of -/
def spDepthOf (K : PySem.W.Frag) (n : Nat) : Sp := spR K fun ds d => ∃ r : FRow, ds = [r.d] ∧ d = .int (r.dep : Int) ∧ r.dep < n ∧ r.words.length ≤ 100000
theorem scDepthOf : FnScope ["row", "item", "inner"] ["row"] (defScope sDepthOf) := ⟨rfl, rfl, rfl, by decide +kernel, rfl, by decide +kernel, by decide +kernel⟩
theorem allrows_len (r : FRow) : (r.items.flatMap FItem.rows).length ≤ r.words.length := by
  have : ∀ l : List FItem, (l.flatMap FItem.rows).length ≤ (l.flatMap FItem.words).length := by
    intro l
    induction l with
    | nil => exact Nat.le_refl _
    | cons i l ih =>
      have := rows_len i
      rw [List.flatMap_cons, List.flatMap_cons, List.length_append, List.length_append]
      omega
  rw [FRow.words_eq]
  exact this _
theorem ok_depthof1 {n : Nat} {f : Addr} {fd : FuncData} (F : Fun K "depth_of" "depth_of" sDepthOf f fd) (T : TxtSrc mg) (C_rows_in : Cal P w K mg base CX0 2 "rows_in" ["item"] (spRowsIn K)) (C_depth_of : Cal P w K mg base CX0 (n + 2) "depth_of" ["row"] (spDepthOf K n)) : FnOk P w K mg base CX0 (n + 3) f fd ["row"] (spDepthOf K (n + 1)) := by
  have sc := scDepthOf
  refine F.ok scDepthOf (fun vs H Q E h => ?_) (fun cdv A outer s H vs Q E hr h => ?_)
  · obtain ⟨ds, es, l, ⟨_, rfl, _⟩, _⟩ := h
    exact l.len
  · obtain ⟨ds, es, l, ⟨r, rfl, rfl, dep, bnd⟩, k⟩ := h
    cases l with
    | cons t l => cases l with
    | nil =>
    rename_i v
    have hu := hu_of hr
    refine ⟨_, (pss_one (ps_ret (pe_callBK (cr_maxD rfl hu) (by rfl) T.b_max (by decide +kernel) (pa_cons (pe_lc2 (own := [("item", 1), ("inner", 2)]) (vs1 := [2]) (wi1 := iList K (tCall (spRowsIn K) [] E0 (tCons (tVar 1) tNil))) rfl sc.nd (pi_tup (pv 0)) (blkOk_by (own := [("item", 1), ("inner", 2)]) (N := ["row", "item", "inner"]) (sc := defScope sDepthOf) (by decide +kernel)) (by decide) (fun _ _ _ _ _ => (pg_name (i := 1) sc.nd rfl (Or.inl rfl))) (fun _ _ _ _ _ => pts_nil) (fun _ _ _ _ _ => (pi_list (pe_cal C_rows_in (hr.mono (by omega)) rfl pass0 (pa_cons (pv 1) pa_nil)))) (fun _ _ _ _ _ => (pg_name (i := 2) sc.nd rfl (Or.inl rfl))) (fun _ _ _ _ _ => pts_nil) (fun _ _ _ _ _ => (pe_op op_add (pe_cal C_depth_of (hr.mono (by omega)) rfl pass0 (pa_cons (pv 2) pa_nil)) pe_int))) pa_nil) (pk_cons pe_int pk_nil)))), ?_⟩
    have t : Tp K H v r.d := t
    have er : r.d = .tuple (r.items.map FItem.d) := by rw [FRow.d, FRow.ds_eq]
    have al := allrows_len r
    have eg : (r.items.map fun i => i.rows.map fun q => PyData.int (((q.dep + 1 : Nat)) : Int)).flatten = ((r.items.flatMap fun i => i.rows.map fun q => q.dep + 1).map fun m : Nat => (m : Int)).map PyData.int := by
      rw [← List.flatMap_def, List.map_map, List.map_flatMap]
      simp [Function.comp_def]
    have en : (((natMax (r.items.flatMap fun i => i.rows.map fun q => q.dep + 1) : Nat)) : Int) = (r.dep : Int) := by rw [← dep_max]
    refine retD k (Same.refl _) (e_is (e_maxD (l_is (l_lc2 (ds := r.items.map FItem.d) (r.items.map fun i => i.rows.map FRow.d) (r.items.map fun i => i.rows.map fun q => PyData.int (((q.dep + 1 : Nat)) : Int)) (fun H1 s1 => .tup (e_var rfl ((er ▸ t).stay (.of s1)))) (by rw [List.length_map, List.length_map]) (by rw [List.length_map, List.length_map]) ?_ (fun x => rfl) (fun x y => rfl) ?_ ?_ ?_) eg)) (by rw [maxI_nat, en])) rfl
    · rw [eg, List.length_map, List.length_map, List.length_flatMap]
      rw [List.length_flatMap] at al
      simp only [List.length_map]
      omega
    · intro i d f x H1 h1 h2 s1 tx
      obtain ⟨it, hi, rfl⟩ := get_map h1
      obtain ⟨it', hi', rfl⟩ := get_map h2
      rw [hi] at hi'
      cases hi'
      have w1 := words_item (List.mem_of_getElem? hi)
      exact .lst (l_call (a_cons (e_var rfl tx) a_nil) ⟨it, rfl, rfl, by omega⟩)
    · intro i f g h1 h2
      obtain ⟨it, hi, rfl⟩ := get_map h1
      obtain ⟨it', hi', rfl⟩ := get_map h2
      rw [hi] at hi'
      cases hi'
      rw [List.length_map, List.length_map]
    · intro i m d f g a e x y H1 h1 h2 h3 h4 h5 s1 tx ty
      obtain ⟨it, hi, rfl⟩ := get_map h1
      obtain ⟨it', hi', rfl⟩ := get_map h2
      rw [hi] at hi'
      cases hi'
      obtain ⟨it', hi', rfl⟩ := get_map h3
      rw [hi] at hi'
      cases hi'
      obtain ⟨q, hq, rfl⟩ := get_map h4
      obtain ⟨q', hq', rfl⟩ := get_map h5
      rw [hq] at hq'
      cases hq'
      have im := List.mem_of_getElem? hi
      have qm := List.mem_of_getElem? hq
      have w1 := words_item im
      have w2 := words_rows qm
      have d1 := FItem.dep_le.mp (FRow.dep_le.mp (Nat.le_of_lt_succ dep) it im) q qm
      refine e_is (e_op (e_call (a_cons (e_var rfl ty) a_nil) ⟨q, rfl, rfl, by omega, by omega⟩) e_int r_I0i) ?_
      rfl
theorem ok_depthof {f : Addr} {fd : FuncData} (F : Fun K "depth_of" "depth_of" sDepthOf f fd) (T : TxtSrc mg) (C_rows_in : Cal P w K mg base CX0 2 "rows_in" ["item"] (spRowsIn K)) (hm : mg "depth_of" = some (.ref f)) (hk : PySem.W.keepIn K (.ref f) = true) (hb : Binds K fd ["row"] []) :
    ∀ n, Cal P w K mg base CX0 (n + 2) "depth_of" ["row"] (spDepthOf K n)
  | 0 => ⟨f, fd, FnOk.vac fun vs H Q E ⟨_, _, _, ⟨_, _, _, h, _⟩, _⟩ => Nat.not_lt_zero _ h, hm, hk, hb⟩
  | n + 1 => ⟨f, fd, ok_depthof1 F T C_rows_in (ok_depthof F T C_rows_in hm hk hb n), hm, hk, hb⟩
/-! text_of -/
def headLet (w : Str) : Bool := match w.cps.toList with
  | [] => false
  | c :: _ => decide (c ∈ cLETTERS.cps.toList)
def spaceAt (ws : List Str) (k : Nat) : Bool := decide (0 < k) && (headLet (ws.getD k "") && Txt.startswith (ws.getD (k - 1) "") "@")
def partAt (ws : List Str) (k : Nat) : List Str := (if spaceAt ws k = true then [(" " : Str)] else []) ++ [ws.getD k ""]
def partsW (ws : List Str) : List Str := (List.range ws.length).flatMap (partAt ws)
def glueW (ws : List Str) : Str := Txt.join "" (partsW ws)
def spTextOf (K : PySem.W.Frag) (n : Nat) : Sp := spR K fun ds d => ∃ r : FRow, ds = [r.d] ∧ d = .str (glueW r.words) ∧ r.dep < n ∧ r.words.length ≤ 100000 ∧ ∀ x ∈ r.words, 1 ≤ x.length ∧ x.length ≤ 9
theorem scTextOf : FnScope ["formula", "words", "parts", "k", "word"] ["formula"] (defScope sTextOf) := ⟨rfl, rfl, rfl, by decide +kernel, rfl, by decide +kernel, by decide +kernel⟩
theorem head_of {x : Str} (h : 1 ≤ x.length) : ∃ c l, x.cps.toList = c :: l := by
  rw [str_len] at h
  match e : x.cps.toList, h with
  | c :: l, _ => exact ⟨c, l, rfl⟩
theorem parts_len (ws : List Str) (n : Nat) : ((List.range n).flatMap (partAt ws)).length ≤ 2 * n := by
  induction n with
  | zero => exact Nat.le_refl _
  | succ n ih =>
    rw [List.range_succ, List.flatMap_append, List.length_append]
    have : ([n].flatMap (partAt ws)).length ≤ 2 := by
      simp [partAt]
      split <;> simp
    omega
theorem parts_sum (ws : List Str) (h : ∀ x ∈ ws, x.length ≤ 9) (n : Nat) (hn : n ≤ ws.length) : (((List.range n).flatMap (partAt ws)).map (·.length)).sum ≤ 10 * n := by
  induction n with
  | zero => exact Nat.le_refl _
  | succ n ih =>
    have i := ih (by omega)
    rw [List.range_succ, List.flatMap_append, List.map_append, List.sum_append]
    have e : ws[n]? = some (ws[n]'(by omega)) := List.getElem?_eq_getElem (by omega)
    have hx := h _ (List.mem_of_getElem? e)
    have : (([n].flatMap (partAt ws)).map (·.length)).sum ≤ 10 := by
      rw [List.flatMap_cons, List.flatMap_nil, List.append_nil, partAt, getD_of e]
      split
      · simp
        have : (" " : Str).length = 1 := by decide +kernel
        omega
      · simp
        omega
    omega
theorem ok_textof {n : Nat} {f : Addr} {fd : FuncData} (F : Fun K "text_of" "text_of" sTextOf f fd) (T : TxtSrc mg) (C_row_words : Cal P w K mg base CX0 (3 * n) "row_words" ["row"] (spRowWords K n)) : FnOk P w K mg base CX0 (3 * n + 1) f fd ["formula"] (spTextOf K n) := by
  have sc := scTextOf
  refine F.ok scTextOf (fun vs H Q E h => ?_) (fun cdv A outer s H vs Q E hr h => ?_)
  · obtain ⟨ds, es, l, ⟨_, rfl, _⟩, _⟩ := h
    exact l.len
  · obtain ⟨ds, es, l, ⟨r, rfl, rfl, dep, bnd, wk⟩, k⟩ := h
    cases l with
    | cons t l => cases l with
    | nil =>
    rename_i v
    refine ⟨_, (pss_cons (ps_set (i := 1) sc.nd rfl (Or.inl rfl) (pe_cal C_row_words (hr.mono (by omega)) rfl pass0 (pa_cons (pv 0) pa_nil)))
  (pss_cons (ps_set (i := 2) sc.nd rfl (Or.inl rfl) (pe_lst pa_nil))
  (pss_cons (ps_for PassesOwn.never rfl (pi_enum (by rfl) T.b_enumerate (pa_cons (pv 1) pa_nil)) (pg_tup rfl (pgs_cons (pg_name (i := 3) sc.nd rfl (Or.inl rfl)) (pgs_cons (pg_name (i := 4) sc.nd rfl (Or.inl rfl)) pgs_nil)))
  (pss_cons (ps_if (PW.pt (pw_and (pt_cmpR op_gt (pv 3) pe_int (nomark _)) (pw_and (pt_cmpR op_in_sign (pe_ix ix_str (pv 4) pe_int (fun _ _ => rfl)) (pe_gstr rfl T.c_LETTERS) (by rfl)) (pw_and1 (pt_val (pe_m1 PySem.F.slot_str_startswith PySem.F.type_str_startswith mt_startswith (pe_ix ix_list (pv 1) (pe_op op_sub (pv 3) pe_int) (fun _ _ => rfl)) pe_str))))))
  (pss_one (ps_expr (pe_bm PySem.F.plainAttrs_list PySem.F.slot_list_append PySem.F.type_list_append mt_append (pv 2) (pa_cons pe_str pa_nil))))
  pss_nil)
  (pss_one (ps_expr (pe_bm PySem.F.plainAttrs_list PySem.F.slot_list_append PySem.F.type_list_append mt_append (pv 2) (pa_cons (pv 4) pa_nil))))))
  (pss_one (ps_ret (pe_join pe_str (pv 2))))))), ?_⟩
    refine q_setL (l_call (a_cons (e_var rfl t) a_nil) ⟨r, rfl, rfl, dep, bnd⟩) fun p1 xs1 H1 n1 s1 e1 l1 => ?_
    refine q_setL (K := K) (l_lst a_nil (Nat.le_of_ble_eq_true rfl)) fun p2 xs2 H2 n2 s2 e2 l2 => ?_
    obtain ⟨ws, hws⟩ : ∃ ws, r.words = ws := ⟨_, rfl⟩
    rw [hws] at bnd wk l1 k
    have l1 : TpL K H1 xs1 (ws.map PyData.str) := l1
    have A0 : Acc K H p2 [] H2 := Acc.start (s1.free n2) (s1.trans s2) e2 l2
    have ne : p1 ≠ p2 := fun z => by
      rw [z, n2] at e1
      cases e1
    have e1' := s2 _ _ e1
    have l1' := l1.stay (.of s2)
    refine q_enum (p := p2) (ds := ws.map PyData.str) rfl e1' l1' ne e2 (fun i σ' H' => ∃ x3 x4, σ' = [some v, some (.ref p1), some (.ref p2), x3, x4] ∧ Acc K H p2 (((List.range i).flatMap (partAt ws)).map PyData.str) H') ⟨_, _, rfl, A0⟩ ?_ ?_
    · rintro i d x T' σ' H' hi ⟨x3, x4, rfl, A⟩ kb tx hT
      obtain ⟨y, hy, rfl⟩ := get_map hi
      obtain rfl := tp_str tx
      have il := (List.getElem?_eq_some_iff.mp hy).1
      have yk := wk y (List.mem_of_getElem? hy)
      obtain ⟨c, cl, hc⟩ := head_of yk.1
      have sT := same_new (o := .tup [.int (i : Nat), .str y]) hT
      have A := A.ext sT
      have kb := kb.trans (KeepB.of sT)
      have e1T : (upd H' T' (.tup [.int (i : Nat), .str y])) p1 = some (.lst xs1) := kb _ _ e1' ne
      have l1T := l1'.stay (.keep kb e2)
      refine g_tup2 (a := .int (i : Nat)) (b := .str y) (Tp.mk (SqT.of upd_same) (.cons (.int _) (.cons (.str _) .nil))) fun xa xb ta tb => ?_
      obtain rfl := tp_int ta
      obtain rfl := tp_str tb
      have hlet : headLet y = decide (c ∈ cLETTERS.cps.toList) := by
        unfold headLet
        rw [hc]
      have plen := parts_len ws i
      generalize upd H' T' (.tup [.int (i : Nat), .str y]) = HT at A kb e1T l1T ⊢
      have tst : EvDT K (tAnd (tTest (tOp (rI0 fun i j => .bl (decide (j < i))) (tVar 3) (tC (.int 0)))) (tAnd (tTest (tOp (fun x y H Q => ∃ (c : Nat) (z : Str), x = .str ⟨#[c]⟩ ∧ y = .str z ∧ Q (.bl (decide (c ∈ z.cps.toList))) H) (tOp rIxS (tVar 4) (tC (.int 0))) (tC (.str cLETTERS))))
          (tB (tM1 (fun x xs H Q => ∃ a b, x = .str a ∧ xs = [.str b] ∧ Q (.bl (Txt.startswith a b)) H) (tOp (rIxL K) (tVar 1) (tOp (rI0 fun i j => .int (i - j)) (tVar 3) (tC (.int 1)))) (tC (.str "@")))))) [some v, some (.ref p1), some (.ref p2), some (.int (i : Nat)), some (.str y)] HT (spaceAt ws i) := by
        unfold spaceAt
        rw [getD_of hy, hlet]
        refine t_is (t_and (c := decide (c ∈ cLETTERS.cps.toList) && Txt.startswith (ws.getD (i - 1) "") "@") (t_test (e_op (e_var rfl (.int _)) e_int r_I0b)) fun h0 => t_and (t_test (e_op (e_op (e_var rfl (.str _)) e_int (r_ixS (σ := []) hc (by omega))) e_str r_inS)) fun _ => ?_) ?_
        · have h0 : (0 : Int) < (i : Nat) := of_decide_eq_true h0
          have ep : ws[i - 1]? = some (ws[i - 1]'(by omega)) := List.getElem?_eq_getElem (by omega)
          rw [getD_of ep]
          refine t_B (e_starts (e_ixL rfl e1T l1T (e_op (e_var rfl (.int _)) e_int r_I0i) ?_) e_str)
          rw [show ((i : Nat) : Int) - 1 = ((i - 1 : Nat) : Int) by omega]
          exact atI_nat (map_get ep)
        · congr 1
          simp
      have fin : ∀ H3, KeepB p2 HT H3 → Acc K H p2 ((((List.range i).flatMap (partAt ws)) ++ (if spaceAt ws i = true then [(" " : Str)] else [])).map PyData.str) H3 → tDrop (tBM K "list" rAppend (tVar 2) (tCons (tVar 4) tNil))
          { nx := fun σ3 H3_1 => (∃ x3 x4, σ3 = [some v, some (.ref p1), some (.ref p2), x3, x4] ∧ Acc K H p2 (((List.range (i + 1)).flatMap (partAt ws)).map PyData.str) H3_1) ∧ KeepB p2 H2 H3_1, ct := fun σ3 H3_1 => (∃ x3 x4, σ3 = [some v, some (.ref p1), some (.ref p2), x3, x4] ∧ Acc K H p2 (((List.range (i + 1)).flatMap (partAt ws)).map PyData.str) H3_1) ∧ KeepB p2 H2 H3_1, bk := (tRet (tM1 (fun x xs H Q => ∃ a p, ∃ ys : List Str, x = .str a ∧ xs = [.ref p] ∧ (SqL K H p (ys.map V.str) ∨ SqT K H p (ys.map V.str)) ∧ (ys.map (·.length)).sum + ys.length * a.length ≤ 16777216 ∧ Q (.str (Txt.join a ys)) H) (tC (.str "")) (tVar 2))) { nx := fun _ H' => Q .non H', rt := Q }, rt := Q }
          [some v, some (.ref p1), some (.ref p2), some (.int (i : Nat)), some (.str y)] H3 := fun H3 kb3 A3 => by
        refine s_app (l := 0) rfl A3 (e_var rfl (.str _)) (by
          have e1 : (if spaceAt ws i = true then [(" " : Str)] else []).length ≤ 1 := by split <;> simp
          rw [List.length_map, List.length_append]
          omega) fun H4 tk4 kb4 A4 => ⟨⟨_, _, rfl, ?_⟩, (kb.trans kb3).trans kb4⟩
        have A4 : Acc K H p2 _ H4 := A4
        rw [List.range_succ, List.flatMap_append, List.flatMap_cons, List.flatMap_nil, List.append_nil, partAt, getD_of hy, ← List.append_assoc, List.map_append]
        exact A4
      cases hsp : spaceAt ws i with
      | true =>
        rw [hsp] at tst fin
        refine q_yes tst rfl fun H3 s3 => ?_
        refine s_app (l := 0) rfl (A.ext s3) e_str (by rw [List.length_map]; omega) fun H4 tk4 kb4 A4 => fin H4 ((KeepB.of s3).trans kb4) ?_
        rw [if_pos rfl, List.map_append]
        exact A4
      | false =>
        rw [hsp] at tst fin
        refine q_no tst rfl fun H3 s3 => fin H3 (.of s3) ?_
        rw [if_neg Bool.false_ne_true, List.append_nil]
        exact A.ext s3
    · rintro σ' H' ⟨x3, x4, rfl, A⟩ kb
      rw [List.length_map] at A
      obtain ⟨xs, e, l⟩ := A.lst
      have el := TpL.strs (ws := partsW ws) l
      subst el
      refine ⟨⟨_, rfl⟩, _, rfl, "", p2, partsW ws, rfl, rfl, .inl (SqL.of e), ?_, ?_⟩
      · have := parts_sum ws (fun x hx => (wk x hx).2) ws.length (Nat.le_refl _)
        have e0 : ("" : Str).length = 0 := rfl
        rw [e0]
        show ((partsW ws).map (·.length)).sum + _ ≤ _
        unfold partsW
        omega
      · exact k _ _ A.same (.str _)
/-! check_depth, check_formula -/
def spCheckDepth (CTD : Addr) : Sp := fun vs H Q E => ∃ d : Int, vs = [.int d] ∧ (d ≤ 7 → Q .non H) ∧ (7 < d → E (.ref CTD) none H)
theorem scCheckDepth : FnScope ["depth"] ["depth"] (defScope sCheckDepth) := ⟨rfl, rfl, rfl, by decide +kernel, rfl, by decide +kernel, by decide +kernel⟩
theorem ok_checkdepth {CTD : Addr} {f : Addr} {fd : FuncData} (F : Fun K "check_depth" "check_depth" sCheckDepth f fd) (T : TxtSrc mg) (B : ExB K mg "TooDeep" CTD) : FnOk P w K mg base (L2.CX P w) 1 f fd ["depth"] (spCheckDepth CTD) := by
  have sc := scCheckDepth
  refine F.okX scCheckDepth (fun vs H Q E h => ?_) (fun cdv A outer s H vs Q E hr h => ?_)
  · obtain ⟨d, rfl, _⟩ := h
    rfl
  · obtain ⟨d, rfl, k1, k2⟩ := h
    refine ⟨_, (pss_one (ps_if (pt_cmpR op_gt (pv 0) (pe_gint rfl T.c_DEEPEST) (nomark _))
  (pss_one (ps_raise rfl (takes_of rfl rfl rfl rfl) (pmk_own PySem.F.excBase_ValueError B.x B.g B.k (raises_own B.b B.t) rfl)))
  pss_nil)), ?_⟩
    refine ⟨_, rfl, _, _, rfl, rfl, _, rfl, ?_⟩
    by_cases c : 7 < d
    · exact iteP (decide_eq_true c) (k2 c)
    · exact iteN (by simpa using c) (k1 (by omega))
def FRow.count (r : FRow) : Int := (r.pre.map fun q => (q.items.length : Int)).sum
def spCheckFormula (K : PySem.W.Frag) (n : Nat) (CTD CTL : Addr) : Sp := fun vs H Q E => ∃ (v : V) (r : FRow), vs = [v] ∧ Tp K H v r.d ∧ r.dep < n ∧ r.words.length ≤ 100000 ∧ (∀ x ∈ r.words, 1 ≤ x.length ∧ x.length ≤ 9) ∧
  (r.dep ≤ 7 → r.count ≤ 80 → (glueW r.words).length ≤ 400 → ∀ H', Same H H' → Q .non H') ∧ (7 < r.dep → ∀ H', Same H H' → E (.ref CTD) none H') ∧ (r.dep ≤ 7 → 80 < r.count ∨ 400 < (glueW r.words).length → ∀ H', Same H H' → E (.ref CTL) none H')
theorem scCheckFormula : FnScope ["formula", "items", "row"] ["formula"] (defScope sCheckFormula) := ⟨rfl, rfl, rfl, by decide +kernel, rfl, by decide +kernel, by decide +kernel⟩
theorem glue_len (ws : List Str) (h : ∀ x ∈ ws, x.length ≤ 9) : (glueW ws).length ≤ 10 * ws.length := by
  have e : ∀ l : List Str, (Txt.join "" l).length = (l.map (·.length)).sum := by
    intro l
    rw [TL.join_eq, str_len]
    have : ∀ l : List Str, (Str.join "" l).cps.toList.length = (l.map (·.length)).sum := by
      intro l
      induction l with
      | nil => rfl
      | cons x l ih =>
        cases l with
        | nil => simp [Str.join, str_len]
        | cons y r =>
          show (x ++ ("" : Str) ++ Str.join "" (y :: r)).cps.toList.length = _
          rw [List.map_cons, List.sum_cons, ← ih, str_len x]
          show ((x.cps ++ (#[] : Array Nat)) ++ (Str.join "" (y :: r)).cps).toList.length = _
          simp
    exact this l
  rw [glueW, e]
  exact parts_sum ws h ws.length (Nat.le_refl _)
theorem ok_checkformula {n : Nat} {CTD CTL : Addr} {f : Addr} {fd : FuncData} (F : Fun K "check_formula" "check_formula" sCheckFormula f fd) (T : TxtSrc mg) (B : ExB K mg "TooLarge" CTL) (hn : 1 ≤ n) (C_check_depth : Cal P w K mg base (L2.CX P w) 1 "check_depth" ["depth"] (spCheckDepth CTD))
    (C_depth_of : Cal P w K mg base CX0 (n + 2) "depth_of" ["row"] (spDepthOf K n)) (C_rows_of : Cal P w K mg base CX0 (n + 2) "rows_of" ["formula"] (spRowsOf K n)) (C_text_of : Cal P w K mg base CX0 (3 * n + 1) "text_of" ["formula"] (spTextOf K n)) : FnOk P w K mg base (L2.CX P w) (3 * n + 2) f fd ["formula"] (spCheckFormula K n CTD CTL) := by
  have sc := scCheckFormula
  refine F.okX scCheckFormula (fun vs H Q E h => ?_) (fun cdv A outer s H vs Q E hr h => ?_)
  · obtain ⟨v, r, rfl, _⟩ := h
    rfl
  · obtain ⟨v, r, rfl, t, dep, bnd, wk, k1, k2, k3⟩ := h
    refine ⟨_, (pss_cons (ps_expr (pe_cal C_check_depth (hr.mono (by omega)) rfl passX (pa_cons (pe_cal C_depth_of (hr.mono (by omega)) rfl pass0 (pa_cons (pv 0) pa_nil)) pa_nil)))
  (pss_cons (ps_set (i := 1) sc.nd rfl (Or.inl rfl) (pe_callB (cr_sum rfl) (by rfl) T.b_sum (by decide +kernel) (pa_cons (pe_lc (own := [("row", 2)]) rfl sc.nd (pi_list (pe_cal C_rows_of (hr.mono (by omega)) rfl pass0 (pa_cons (pv 0) pa_nil))) (blkOk_by (own := [("row", 2)]) (N := ["formula", "items", "row"]) (sc := defScope sCheckFormula) (by decide +kernel)) (fun _ _ _ _ _ => (pg_name (i := 2) sc.nd rfl (Or.inl rfl))) (fun _ _ _ _ _ => pts_nil) (fun _ _ _ _ _ => (pe_callB (r := rLenQ K) call_lenK (by rfl) T.b_len PySem.boot_len (pa_cons (pv 2) pa_nil)))) pa_nil)))
  (pss_one (ps_if (PW.pt (pw_or (pt_cmpR op_gt (pv 1) (pe_gint rfl T.c_MOST_ITEMS) (nomark _)) (pw_or1 (pt_cmpR op_gt (pe_callB call_len_str (by rfl) T.b_len PySem.boot_len (pa_cons (pe_cal C_text_of (hr.mono (by omega)) rfl pass0 (pa_cons (pv 0) pa_nil)) pa_nil)) (pe_gint rfl T.c_LONGEST) (nomark _)))))
  (pss_one (ps_raise rfl (takes_of rfl rfl rfl rfl) (pmk_own PySem.F.excBase_ValueError B.x B.g B.k (raises_own B.b B.t) rfl)))
  pss_nil)))), ?_⟩
    refine e_call (a_cons (e_var rfl t) a_nil) ⟨r, rfl, rfl, dep, bnd⟩ H (Same.refl _) _ fun vd H1 s1 td => ?_
    obtain rfl := tp_int td
    refine ⟨_, rfl, fun d7 => ?_, fun d7 => k2 (by omega) H1 s1⟩
    have d7' : r.dep ≤ 7 := by omega
    have t1 := t.stay (.of s1)
    refine q_set (e_sum (ns := r.pre.map fun q => (q.items.length : Int)) (l_is (l_lcL (K := K) (es := (r.pre.map fun q => (q.items.length : Int)).map PyData.int) (l_call (a_cons (e_var rfl t1) a_nil) ⟨r, rfl, rfl, dep, bnd⟩) (by simp) ?_ (fun x => rfl) ?_) rfl)) fun v2 H2 s2 t2 => ?_
    · have := inn_row r
      simp [FRow.pre]
      omega
    · intro i d e x H2 h1 h2 s2 tx
      obtain ⟨q, hq, rfl⟩ := get_map h1
      rw [List.map_map] at h2
      obtain ⟨q', hq', rfl⟩ := get_map h2
      rw [hq] at hq'
      cases hq'
      have ex : q.d = .tuple (q.items.map FItem.d) := by rw [FRow.d, FRow.ds_eq]
      refine e_is (e_lenT (ds := q.items.map FItem.d) (fun p xs H Q h hq => ⟨p, xs, rfl, h, fun _ => hq⟩) (e_var rfl (ex ▸ tx))) ?_
      simp
    obtain rfl := tp_int t2
    have t2 := t1.stay (.of s2)
    have ec : (r.pre.map fun q => (q.items.length : Int)).sum = r.count := rfl
    rw [ec]
    refine s_if (K := K) (t_or (t_test (e_op (e_var rfl (.int _)) e_int r_I0b)) fun h80 => t_test (e_op (d1 := .int (glueW r.words).length) ?_ e_int r_I0b)) (fun hb H3 s3 => ?_) fun hb H3 s3 => ?_
    · intro H3 s3 Q3 q3
      refine e_call (a_cons (e_var rfl t2) a_nil) ⟨r, rfl, rfl, dep, bnd, wk⟩ H3 s3 _ fun v4 H4 s4 t4 => ?_
      obtain rfl := tp_str t4
      have := glue_len r.words fun x hx => (wk x hx).2
      exact ⟨_, rfl, sz5 (by omega), q3 _ H4 s4 (.int _)⟩
    · refine k3 d7' ?_ H3 ((s1.trans s2).trans s3)
      simp only [Bool.or_eq_true, decide_eq_true_eq] at hb
      omega
    · simp only [Bool.or_eq_false_iff, decide_eq_false_iff_not] at hb
      exact k1 d7' (by omega) (by omega) H3 ((s1.trans s2).trans s3)
end
end Mg

set_option Elab.async false
set_option linter.all false
set_option maxRecDepth 100000
set_option maxHeartbeats 1000000
namespace Mg
open PySem L2
abbrev sLengthOf : Stmt := top 25
abbrev sNucCls : Stmt := top 36
abbrev sHasOp : Stmt := top 37
abbrev sClassesOf : Stmt := top 35
abbrev sSpace : Stmt := top 38
def cNO : List Str := ["bin", "op", "rel", "open", "punct"]
def cNB : List Str := ["rel", "close", "punct"]
def cKINDS : List Str := ["ord", "op", "bin", "rel", "open", "close", "punct", "inner"]
def spTab : List (List Int) := [[0, 1, -2, -3, 0, 0, 0, -1], [1, 1, 0, -3, 0, 0, 0, -1], [-2, -2, 0, 0, -2, 0, 0, -2], [-3, -3, 0, 0, -3, 0, 0, -3], [0, 0, 0, 0, 0, 0, 0, 0], [0, 1, -2, -3, 0, 0, 0, -1], [-1, -1, 0, -1, -1, -1, -1, -1], [-1, 1, -2, -3, -1, 0, -1, -1]]
structure TxtCls (K : PySem.W.Frag) (w : World) (mg : Str → Option Value) (CF aN aB aK aS : Addr) : Prop extends TxtO K CF where
  b_len : mg "len" = none
  b_max : mg "max" = none
  b_abs : mg "abs" = none
  b_enumerate : mg "enumerate" = none
  c_RULE : ∃ t, mg "RULE" = some (.int 1 t)
  c_STEP : ∃ t, mg "STEP" = some (.int 7 t)
  c_THIN : ∃ t, mg "THIN" = some (.int 4 t)
  c_NO_OPERANDS : mg "NO_OPERANDS" = some (.ref aN)
  k_NO : ∀ H, SqT K H aN (cNO.map V.str)
  c_NO_OPERANDS_BEHIND : mg "NO_OPERANDS_BEHIND" = some (.ref aB)
  k_NB : ∀ H, SqT K H aB (cNB.map V.str)
  c_KINDS : mg "KINDS" = some (.ref aK)
  k_KINDS : ∀ H, SqT K H aK (cKINDS.map V.str)
  t_KINDS : ∃ o, K.lookup aK = some o ∧ o.cls = .type "tuple" ∧ o.dict = none
  c_SPACES : mg "SPACES" = some (.ref aS)
  k_SPACES : ∀ (i : Nat) (x : Str), cKINDS[i]? = some x → ∃ (a : Addr) (r : List Int), spTab[i]? = some r ∧ KDct K w aS x (.ref a) ∧ ∀ H, SqT K H a (r.map V.int)
section
variable {P : Program} {w : World} {K : PySem.W.Frag} {mg : Str → Option Value} {base : Heap} {CF CU aN aB aK aS : Addr}
/-! length_of -/
def lenOf (ls : List Int) (i : Nat) (st : Int) : Int := if i = 1 ∨ i = 7 then max 1 (scN (ls.getD i 0) st) else scN (ls.getD i 0) st
def spLengthOf (K : PySem.W.Frag) (CF : Addr) : Sp := fun vs H Q _ => ∃ (p : Addr) (va vl : V) (ss : List Sym) (ls : List Int) (i : Nat) (st : Int), vs = [.ref p, .int (i : Int), .int st] ∧ FontAt K CF H p va vl ss ls ∧ i < 8 ∧ ∀ H', Same H H' → Q (.int (lenOf ls i st)) H'
theorem font_lens {H : Hp} {p : Addr} {va vl : V} {ss : List Sym} {ls : List Int} (F : FontAt K CF H p va vl ss ls) : ls.length = 8 := by
  obtain ⟨g, _⟩ := F
  have h := g.2
  obtain ⟨l, e, el⟩ := lens_of h
  rw [lensD_inj e]
  exact el
theorem e_lens {σ : L2.St} {H : Hp} {j : Nat} {p : Addr} {va vl : V} {ss : List Sym} {ls : List Int} (T : TxtO K CF) (hj : σ[j]? = some (some (.ref p))) (F : FontAt K CF H p va vl ss ls) : EvD K (tFld K (tVar j) "lengths") σ H (lensD ls) := fun H1 s Q q => by
  have F1 := F.same s
  obtain ⟨dx, e, h1⟩ := F1.ins
  exact ⟨_, hj, p, CF, dx, _, _, rfl, h1, T.cl, T.nL, ff_len _ _ _, q _ H1 (Same.refl _) F1.lens⟩
theorem scLengthOf : FnScope ["font", "which", "style", "length"] ["font", "which", "style"] (defScope sLengthOf) := ⟨rfl, rfl, rfl, by decide +kernel, rfl, by decide +kernel, by decide +kernel⟩
theorem ok_lengthof {f : Addr} {fd : FuncData} (F : Fun K "length_of" "length_of" sLengthOf f fd) (T : TxtCls K w mg CF aN aB aK aS) (C_scaled : Cal P w K mg base CX0 1 "scaled" ["number", "style"] spScaled) : FnOk P w K mg base CX0 2 f fd ["font", "which", "style"] (spLengthOf K CF) := by
  have sc := scLengthOf
  refine F.ok scLengthOf (fun vs H Q E h => ?_) (fun cdv A outer s H vs Q E hr h => ?_)
  · obtain ⟨p, va, vl, ss, ls, i, st, rfl, _⟩ := h
    rfl
  · obtain ⟨p, va, vl, ss, ls, i, st, rfl, FA, hi, k⟩ := h
    refine ⟨_, (pss_cons (ps_set (i := 3) sc.nd rfl (Or.inl rfl) (pe_cal C_scaled (hr.mono (by omega)) rfl pass0 (pa_cons (pe_ix ix_tup (pe_fld (pv 0) rfl) (pv 1) (fun _ _ => rfl)) (pa_cons (pv 2) pa_nil))))
  (pss_one (ps_ret (pe_ifExp (pt_cmpR op_in_seq (pv 1) (pe_tup (pa_cons (pe_gint rfl T.c_RULE) (pa_cons (pe_gint rfl T.c_STEP) pa_nil))) (by rfl)) (pe_callB (call_max2 rfl) (by rfl) T.b_max (by decide +kernel) (pa_cons pe_int (pa_cons (pv 3) pa_nil))) (pv 3))))), ?_⟩
    have l8 := font_lens FA
    have hg : ls[i]? = some (ls.getD i 0) := by
      rw [List.getD_eq_getElem?_getD, List.getElem?_eq_getElem (by omega)]
      rfl
    refine e_op (K := K) (d2 := .int (i : Int)) (d := .int (ls.getD i 0)) (e_lens T.toTxtO rfl FA) (e_var rfl (.int _)) (r_ixT (atI_nat (map_get hg))) H (Same.refl _) _ fun v H1 s1 tv => ?_
    obtain rfl := tp_int tv
    refine ⟨_, rfl, _, _, rfl, ?_⟩
    obtain ⟨n, hn⟩ : ∃ n, scN (ls.getD i 0) st = n := ⟨_, rfl⟩
    rw [hn]
    unfold lenOf at k
    rw [hn] at k
    refine ⟨_, rfl, (by show 2 ≤ sizeLine; decide), fun q hq => ⟨q, [.int 1, .int 7], rfl, .inr (SqT.of upd_same), rfl, rfl, _, rfl, ?_⟩⟩
    have sq := s1.trans (same_new (o := .tup [.int 1, .int 7]) hq)
    by_cases c : i = 1 ∨ i = 7
    · rw [if_pos c] at k
      refine iteP ?_ ⟨_, rfl, 1, n, rfl, ?_⟩
      · rcases c with rfl | rfl <;> rfl
      · have e : (if n > 1 then n else 1) = max 1 n := by split <;> omega
        rw [e]
        exact k _ sq
    · rw [if_neg c] at k
      refine iteN ?_ ⟨_, rfl, k _ sq⟩
      simp [inV, eqV]
      omega
/-! nucleus_class -/
def nucCl (ss : List Sym) : FNuc → Str
  | .sym x => match look ss x with
    | some s => s.cl
    | none => ""
  | .group _ => "ord"
  | .root _ => "ord"
  | _ => "inner"
def nucKn (ss : List Sym) : FNuc → Prop
  | .sym x => x.length ≤ 1000 ∧ ∃ s, look ss x = some s
  | _ => True
def spNucCls (K : PySem.W.Frag) (CF : Addr) : Sp := fun vs H Q _ => ∃ (p : Addr) (va vl u : V) (ss : List Sym) (ls : List Int) (n : FNuc), vs = [.ref p, u] ∧ FontAt K CF H p va vl ss ls ∧ Tp K H u n.d ∧ nucKn ss n ∧ ∀ H', Same H H' → Q (.str (nucCl ss n)) H'
theorem scNucCls : FnScope ["font", "nucleus", "kind"] ["font", "nucleus"] (defScope sNucCls) := ⟨rfl, rfl, rfl, by decide +kernel, rfl, by decide +kernel, by decide +kernel⟩
theorem ok_nuccls {f : Addr} {fd : FuncData} (F : Fun K "nucleus_class" "nucleus_class" sNucCls f fd) (T : TxtCls K w mg CF aN aB aK aS) (C_class_of : CalM P w K mg base (L2.CX P w) 4 CF "class_of" ["self", "name"] (spClassOf K CF CU)) : FnOk P w K mg base CX0 5 f fd ["font", "nucleus"] (spNucCls K CF) := by
  have sc := scNucCls
  refine F.ok scNucCls (fun vs H Q E h => ?_) (fun cdv A outer s H vs Q E hr h => ?_)
  · obtain ⟨p, va, vl, u, ss, ls, n, rfl, _⟩ := h
    rfl
  · obtain ⟨p, va, vl, u, ss, ls, n, rfl, FA, t, kn, k⟩ := h
    refine ⟨_, (pss_cons (ps_set (i := 2) sc.nd rfl (Or.inl rfl) (pe_ix ix_tup (pv 1) pe_int (fun _ _ => rfl)))
  (pss_cons (ps_if (pt_cmpR op_eq (pv 2) pe_str (nomark _))
  (pss_one (ps_ret (pe_calm (pv 0) T.cl C_class_of (hr.mono (by omega)) passN (pa_cons (pe_ix ix_tup (pv 1) pe_int (fun _ _ => rfl)) pa_nil))))
  pss_nil)
  (pss_one (ps_ret (pe_ifExp (pt_cmpR op_in_seq (pv 2) (pe_tup (pa_cons pe_str (pa_cons pe_str pa_nil))) (by rfl)) pe_str pe_str))))), ?_⟩
    have fin : ∀ (x : Str) (H1 : Hp), Same H H1 → ∀ D : Ends, D.rt = Q → nucCl ss n = (if ([("group" : Str), "root"].any fun r => r == x) = true then ("ord" : Str) else "inner") → tRet (tIf (tTest (tOp (rIn K false) (tVar 2) (tTup (tCons (tC (.str "group")) (tCons (tC (.str "root")) tNil))))) (tC (.str "ord")) (tC (.str "inner"))) D [some (.ref p), some u, some (.str x)] H1 := fun x H1 s1 D eD en => by
      refine retD (K := K) (H := H) (d := .str (nucCl ss n)) (fun v H' s t => by rw [tp_str t]; exact k H' s) s1 ?_ eD
      rw [en]
      refine e_if (t_test (e_inT (ws := ["group", "root"]) (e_var rfl (.str _)) (a_cons e_str (a_cons e_str a_nil)) (by decide))) (fun h => ?_) fun h => ?_
      · rw [h]
        exact e_str
      · rw [h]
        exact e_str
    cases n with
    | sym x =>
      have t : Tp K H u (.tuple [.str "symbol", .str x]) := t
      refine q_set (e_op (e_var rfl t) e_int (r_ixT rfl)) fun kd H1 s1 tk => ?_
      obtain rfl := tp_str tk
      have t := t.stay (.of s1)
      have FA := FA.same s1
      obtain ⟨hx, sy, hs⟩ := kn
      refine q_yesS rfl ?_
      obtain ⟨dx, e, h1⟩ := FA.ins
      refine ⟨_, rfl, p, dx, _, rfl, h1, ff_no _ _ _ (by decide +kernel) (by decide +kernel) (by decide +kernel), ?_⟩
      refine a_cons (K := K) (e_op (e_var rfl t) e_int (r_ixT rfl)) a_nil H1 (Same.refl _) _ fun us H2 s2 tus => ?_
      cases tus with
      | cons tx tus => cases tus with
      | nil =>
      obtain rfl := tp_str tx
      refine ⟨p, x, va, vl, ss, ls, rfl, hx, FA.same s2, fun s' hl => ?_, fun hl => ?_⟩
      · rw [hs] at hl
        cases hl
        have q : Q (.str (match look ss x with | some s => s.cl | none => "")) H2 := k H2 (s1.trans s2)
        rw [hs] at q
        exact q
      · rw [hs] at hl
        cases hl
    | frac o u' =>
      have t : Tp K H u (.tuple [.str "frac", .tuple o.ds, .tuple u'.ds]) := t
      refine q_set (e_op (e_var rfl t) e_int (r_ixT rfl)) fun kd H1 s1 tk => ?_
      obtain rfl := tp_str tk
      exact q_noS rfl (by decide +kernel) (fin _ H1 s1 _ rfl (by rw [if_neg (by decide +kernel)]; rfl))
    | fence o c r =>
      have t : Tp K H u (.tuple [.str "fence", optD o, optD c, .tuple r.ds]) := t
      refine q_set (e_op (e_var rfl t) e_int (r_ixT rfl)) fun kd H1 s1 tk => ?_
      obtain rfl := tp_str tk
      exact q_noS rfl (by decide +kernel) (fin _ H1 s1 _ rfl (by rw [if_neg (by decide +kernel)]; rfl))
    | grid g =>
      have t : Tp K H u (.tuple [.str "grid", .tuple g.ds]) := t
      refine q_set (e_op (e_var rfl t) e_int (r_ixT rfl)) fun kd H1 s1 tk => ?_
      obtain rfl := tp_str tk
      exact q_noS rfl (by decide +kernel) (fin _ H1 s1 _ rfl (by rw [if_neg (by decide +kernel)]; rfl))
    | group r =>
      have t : Tp K H u (.tuple [.str "group", .tuple r.ds]) := t
      refine q_set (e_op (e_var rfl t) e_int (r_ixT rfl)) fun kd H1 s1 tk => ?_
      obtain rfl := tp_str tk
      exact q_noS rfl (by decide +kernel) (fin _ H1 s1 _ rfl (by rw [if_pos (by decide +kernel)]; rfl))
    | root r =>
      have t : Tp K H u (.tuple [.str "root", .tuple r.ds]) := t
      refine q_set (e_op (e_var rfl t) e_int (r_ixT rfl)) fun kd H1 s1 tk => ?_
      obtain rfl := tp_str tk
      exact q_noS rfl (by decide +kernel) (fin _ H1 s1 _ rfl (by rw [if_pos (by decide +kernel)]; rfl))
/-! has_operands -/
def hasOp (as bs : List Str) : Bool := match as.getLast? with
  | none => false
  | some a => match bs with
    | [] => false
    | b :: _ => (!(cNO.any fun r => r == a)) && !(cNB.any fun r => r == b)
def spHasOp (K : PySem.W.Frag) : Sp := fun vs H Q _ => ∃ (a b : Addr) (as bs : List Str), vs = [.ref a, .ref b] ∧ SqL K H a (as.map V.str) ∧ SqL K H b (bs.map V.str) ∧ Q (.bl (hasOp as bs)) H
theorem scHasOp : FnScope ["ahead", "behind"] ["ahead", "behind"] (defScope sHasOp) := ⟨rfl, rfl, rfl, by decide +kernel, rfl, by decide +kernel, by decide +kernel⟩
theorem ok_hasop {f : Addr} {fd : FuncData} (F : Fun K "has_operands" "has_operands" sHasOp f fd) (T : TxtCls K w mg CF aN aB aK aS) : FnOk P w K mg base CX0 1 f fd ["ahead", "behind"] (spHasOp K) := by
  have sc := scHasOp
  refine F.ok scHasOp (fun vs H Q E h => ?_) (fun cdv A outer s H vs Q E hr h => ?_)
  · obtain ⟨a, b, as, bs, rfl, _⟩ := h
    rfl
  · obtain ⟨a, b, as, bs, rfl, ha, hb, k⟩ := h
    refine ⟨_, (pss_cons (ps_if (PW.pt (pw_or (pt_cmpR op_eq (pe_callB call_len_sq (by rfl) T.b_len PySem.boot_len (pa_cons (pv 0) pa_nil)) pe_int (nomark _)) (pw_or1 (pt_cmpR op_eq (pe_callB call_len_sq (by rfl) T.b_len PySem.boot_len (pa_cons (pv 1) pa_nil)) pe_int (nomark _)))))
  (pss_one (ps_ret pe_bl))
  pss_nil)
  (pss_one (ps_ret (pe_and (pe_cmpR op_notIn_seq (pe_ix ix_list (pv 0) (pe_un un_neg pe_int) (fun _ _ => rfl)) (pe_gref rfl T.c_NO_OPERANDS) (by rfl)) (pe_one (pe_cmpR op_notIn_seq (pe_ix ix_list (pv 1) pe_int (fun _ _ => rfl)) (pe_gref rfl T.c_NO_OPERANDS_BEHIND) (by rfl))))))), ?_⟩
    refine ⟨_, rfl, a, _, rfl, .inl ha, fun _ => ⟨rfl, _, rfl, ?_⟩⟩
    rcases List.eq_nil_or_concat as with rfl | ⟨as', x, rfl⟩
    · exact iteP (by simp) (iteT k)
    refine iteN (by rw [decide_eq_true_eq]; intro z; injection z with z; simp at z; omega) ?_
    refine ⟨_, rfl, b, _, rfl, .inl hb, fun _ => ⟨rfl, _, rfl, ?_⟩⟩
    cases bs with
    | nil =>
      refine iteP (by simp) ?_
      have e : hasOp (as'.concat x) [] = false := by simp [hasOp]
      rw [e] at k
      exact k
    | cons y bs =>
      refine iteN (by rw [decide_eq_true_eq]; intro z; injection z with z; simp at z; omega) ?_
      have e : hasOp (as'.concat x) (y :: bs) = ((!(cNO.any fun r => r == x)) && !(cNB.any fun r => r == y)) := by simp [hasOp]
      rw [e] at k
      rw [List.concat_eq_append, List.map_append] at ha
      refine ⟨_, rfl, 1, rfl, a, _, -1, .str x, rfl, rfl, ha, atI_last, aN, _, rfl, .inr (T.k_NO _), rfl, flat_strs2 _, _, rfl, ?_⟩
      show (if (!(inV (V.str x) (cNO.map V.str))) = true then _ else _)
      rw [in_strs]
      cases h1 : (cNO.any fun r => r == x) with
      | true =>
        rw [h1] at k
        exact iteF k
      | false =>
        rw [h1] at k
        refine iteT ?_
        refine ⟨_, rfl, b, _, 0, .str y, rfl, rfl, hb, atI_nat (show ((y :: bs).map V.str)[0]? = some (.str y) from rfl), aB, _, rfl, .inr (T.k_NB _), rfl, flat_strs2 _, ?_⟩
        show Q (.bl (!(inV (V.str y) (cNB.map V.str)))) H
        rw [in_strs]
        exact k
/-! classes_of -/
def clsAt (own : List Str) : Nat → List Str
  | 0 => []
  | k + 1 => clsAt own k ++ [if (decide (own.getD k "" = "bin") && !hasOp (clsAt own k) (own.drop (k + 1))) = true then ("ord" : Str) else own.getD k ""]
theorem clsAt_len (own : List Str) : ∀ k, (clsAt own k).length = k
  | 0 => rfl
  | k + 1 => by rw [clsAt, List.length_append, clsAt_len own k]; rfl
def clsF (own : List Str) : List Str := clsAt own own.length
def rowOwn (ss : List Sym) (r : FRow) : List Str := r.items.map fun i => nucCl ss i.nuc
def rowCls (ss : List Sym) (r : FRow) : List Str := clsF (rowOwn ss r)
def spClassesOf (K : PySem.W.Frag) (CF : Addr) : Sp := fun vs H Q _ => ∃ (p : Addr) (va vl u : V) (ss : List Sym) (ls : List Int) (r : FRow), vs = [.ref p, u] ∧ FontAt K CF H p va vl ss ls ∧ Tp K H u r.d ∧ (∀ i ∈ r.items, nucKn ss i.nuc) ∧ r.items.length ≤ 100000 ∧
  ∀ q H', H q = none → Same H H' → H' q = some (.lst ((rowCls ss r).map V.str)) → Q (.ref q) H'
theorem scClassesOf : FnScope ["font", "row", "own", "found", "k", "kind", "alone", "item"] ["font", "row"] (defScope sClassesOf) := ⟨rfl, rfl, rfl, by decide +kernel, rfl, by decide +kernel, by decide +kernel⟩
theorem cut_drop {xs : List V} {k : Nat} : cutV xs (some ((k : Int) + 1)) none = xs.drop (k + 1) := by
  unfold cutV
  rw [show ((k : Int) + 1) = ((k + 1 : Nat) : Int) by omega, HT.sIx_nat]
  show (xs.drop (min (k + 1) xs.length)).take (xs.length - min (k + 1) xs.length) = _
  rcases Nat.le_total (k + 1) xs.length with c | c
  · rw [Nat.min_eq_left c, List.take_of_length_le (by rw [List.length_drop]; exact Nat.le_refl _)]
  · rw [Nat.min_eq_right c, List.drop_eq_nil_of_le (Nat.le_refl _), List.drop_eq_nil_of_le c]
    simp
theorem item_nuc {H : Hp} {x : V} {it : FItem} (t : Tp K H x it.d) : ∃ (a : Addr) (x0 x1 x2 : V), x = .ref a ∧ SqT K H a [x0, x1, x2] ∧ Tp K H x0 it.nuc.d ∧ Tp K H x1 it.bel.d ∧ Tp K H x2 it.abv.d := by
  cases it with
  | mk n b a =>
  have t : Tp K H x (.tuple [n.d, b.d, a.d]) := t
  obtain ⟨p, xs, rfl, sq, l⟩ := t.inv
  cases l with
  | cons t0 l => cases l with
  | cons t1 l => cases l with
  | cons t2 l => cases l with
  | nil => exact ⟨p, _, _, _, rfl, sq, t0, t1, t2⟩
theorem ok_classesof {f : Addr} {fd : FuncData} (F : Fun K "classes_of" "classes_of" sClassesOf f fd) (T : TxtCls K w mg CF aN aB aK aS) (C_nucleus_class : Cal P w K mg base CX0 5 "nucleus_class" ["font", "nucleus"] (spNucCls K CF)) (C_has_operands : Cal P w K mg base CX0 1 "has_operands" ["ahead", "behind"] (spHasOp K)) :
    FnOk P w K mg base CX0 6 f fd ["font", "row"] (spClassesOf K CF) := by
  have sc := scClassesOf
  refine F.ok scClassesOf (fun vs H Q E h => ?_) (fun cdv A outer s H vs Q E hr h => ?_)
  · obtain ⟨p, va, vl, u, ss, ls, r, rfl, _⟩ := h
    rfl
  · obtain ⟨p, va, vl, u, ss, ls, r, rfl, FA, t, kn, bnd, k⟩ := h
    refine ⟨_, (pss_cons (ps_setLc (i := 2) (own := [("item", 7)]) rfl sc.nd rfl rfl (sw_true rfl rfl rfl (by decide +kernel)) (pi_tup (pv 1)) (blkOk_by (own := [("item", 7)]) (N := ["font", "row", "own", "found", "k", "kind", "alone", "item"]) (sc := defScope sClassesOf) (by decide +kernel)) (fun _ _ _ _ _ => (pg_name (i := 7) sc.nd rfl (Or.inl rfl))) (fun _ _ _ _ _ => pts_nil) (fun _ _ _ _ _ => (pe_cal C_nucleus_class (hr.mono (by omega)) rfl pass0 (pa_cons (pv 0) (pa_cons (pe_ix (r := rIxT K) ix_tup (pv 7) pe_int (fun _ _ => rfl)) pa_nil)))))
  (pss_cons (ps_set (i := 3) sc.nd rfl (Or.inl rfl) (pe_lst pa_nil))
  (pss_cons (ps_for PassesOwn.never rfl (pi_enum (by rfl) T.b_enumerate (pa_cons (pv 2) pa_nil)) (pg_tup rfl (pgs_cons (pg_name (i := 4) sc.nd rfl (Or.inl rfl)) (pgs_cons (pg_name (i := 5) sc.nd rfl (Or.inl rfl)) pgs_nil)))
  (pss_cons (ps_set (i := 6) sc.nd rfl (Or.inl rfl) (pe_and (pe_cmpR op_eq (pv 5) pe_str (nomark _)) (pe_one (pe_not (pe_cal C_has_operands (hr.mono (by omega)) rfl pass0 (pa_cons (pv 3) (pa_cons (pe_slice sl_list (pv 2) (po_some (pe_op op_add (pv 4) pe_int)) po_none) pa_nil)))))))
  (pss_one (ps_expr (pe_bm PySem.F.plainAttrs_list PySem.F.slot_list_append PySem.F.type_list_append mt_append (pv 3) (pa_cons (pe_ifExp (pt_val (pv 6)) pe_str (pv 5)) pa_nil))))))
  (pss_one (ps_ret (pv 3)))))), ?_⟩
    have er : r.d = .tuple (r.items.map FItem.d) := by rw [FRow.d, FRow.ds_eq]
    refine q_setL (K := K) (ds := (rowOwn ss r).map PyData.str) (l_lcT (ds := r.items.map FItem.d) (e_var rfl (er ▸ t)) (by simp [rowOwn]) (by rw [List.length_map]; omega) (fun x => rfl) ?_) fun p1 xs1 H1 n1 s1 e1 l1 => ?_
    · intro i d e x H1 h1 h2 s1 tx
      obtain ⟨it, hi, rfl⟩ := get_map h1
      rw [rowOwn, List.map_map] at h2
      obtain ⟨it', hi', rfl⟩ := get_map h2
      rw [hi] at hi'
      cases hi'
      obtain ⟨a, x0, x1, x2, rfl, sq, t0, _⟩ := item_nuc tx
      refine e_callV (us := [.ref p, x0]) (fun H2 s2 Q2 q2 => ⟨_, rfl, _, rfl, a, _, 0, x0, rfl, rfl, same_sqt s2 sq, atI_nat (show ([x0, x1, x2] : List V)[0]? = some x0 from rfl), q2 H2 (Same.refl _)⟩) fun H2 s2 Q2 q2 => ?_
      exact ⟨p, va, vl, x0, ss, ls, it.nuc, rfl, FA.same (s1.trans s2), t0.stay (.of s2), kn it (List.mem_of_getElem? hi), fun H3 s3 => q2 _ H3 s3 (.str _)⟩
    obtain ⟨own, hown⟩ : ∃ own, rowOwn ss r = own := ⟨_, rfl⟩
    have ol : own.length ≤ 100000 := by rw [← hown, rowOwn, List.length_map]; exact bnd
    unfold rowCls at k
    rw [hown] at l1 k
    have l1 : TpL K H1 xs1 (own.map PyData.str) := l1
    refine q_setL (K := K) (l_lst a_nil (Nat.le_of_ble_eq_true rfl)) fun p2 xs2 H2 n2 s2 e2 l2 => ?_
    have A0 : Acc K H p2 [] H2 := Acc.start (s1.free n2) (s1.trans s2) e2 l2
    have ne : p1 ≠ p2 := fun z => by
      rw [z, n2] at e1
      cases e1
    have e1' := s2 _ _ e1
    have l1' := l1.stay (.of s2)
    have ex1 := l1.strs
    refine q_enum (p := p2) (ds := own.map PyData.str) rfl e1' l1' ne e2 (fun i σ' H' => ∃ x4 x5 x6, σ' = [some (.ref p), some u, some (.ref p1), some (.ref p2), x4, x5, x6, none] ∧ Acc K H p2 ((clsAt own i).map PyData.str) H') ⟨_, _, _, rfl, A0⟩ ?_ ?_
    · rintro i d x T' σ' H' hi ⟨x4, x5, x6, rfl, A⟩ kb tx hT
      obtain ⟨y, hy, rfl⟩ := get_map hi
      obtain rfl := tp_str tx
      have il := (List.getElem?_eq_some_iff.mp hy).1
      have sT := same_new (o := .tup [.int (i : Nat), .str y]) hT
      have A := A.ext sT
      have kb := kb.trans (KeepB.of sT)
      have e1T : (upd H' T' (.tup [.int (i : Nat), .str y])) p1 = some (.lst xs1) := kb _ _ e1' ne
      refine g_tup2 (a := .int (i : Nat)) (b := .str y) (Tp.mk (SqT.of upd_same) (.cons (.int _) (.cons (.str _) .nil))) fun xa xb ta tb => ?_
      obtain rfl := tp_int ta
      obtain rfl := tp_str tb
      generalize upd H' T' (.tup [.int (i : Nat), .str y]) = HT at A kb e1T ⊢
      have gy : own.getD i "" = y := by
        rw [List.getD_eq_getElem?_getD, hy]
        rfl
      have hop : ∀ (σ : L2.St), σ[3]? = some (some (.ref p2)) → σ[2]? = some (some (.ref p1)) → σ[4]? = some (some (.int (i : Int))) → EvD K (tCall (spHasOp K) [] E0 (tCons (tVar 3) (tCons (tSl (rSlL K) (tVar 2) (tPart (tOp (rI0 fun i j => .int (i + j)) (tVar 4) (tC (.int 1)))) tNoPart) tNil))) σ HT (.bool (hasOp (clsAt own i) (own.drop (i + 1)))) := fun σ h3 h2 h4 H3 s3 Q3 q3 => by
        obtain ⟨xs, ea, la⟩ := (A.ext s3).lst
        obtain rfl := la.strs
        refine ⟨_, h3, _, h2, _, h4, _, _, rfl, rfl, _, rfl, p1, xs1, rfl, SqL.of (s3 _ _ e1T), fun q hq => ?_⟩
        rw [cut_drop, ex1, ← List.map_drop]
        refine ⟨p2, q, _, _, rfl, SqL.of (same_new hq _ _ ea), SqL.of upd_same, q3 _ _ (same_new hq) (.bl _)⟩
      refine q_set (e_and (e_op (e_var rfl (.str y)) e_str r_eqS) fun _ => e_not (hop _ rfl rfl rfl)) fun v H3 s3 tv => ?_
      obtain rfl := tp_bool tv
      have A3 := A.ext s3
      refine s_app (l := 0) rfl A3 (d := .str (if (decide (y = "bin") && !hasOp (clsAt own i) (own.drop (i + 1))) = true then ("ord" : Str) else y)) (e_if (t_B (e_var rfl (.bl _))) (fun z => ?_) fun z => ?_) (by rw [List.length_map, clsAt_len]; omega) fun H4 tk4 kb4 A4 => ⟨⟨_, _, _, rfl, ?_⟩, (kb.trans (KeepB.of s3)).trans kb4⟩
      · rw [if_pos z]
        exact e_str
      · rw [if_neg (by rw [z]; exact Bool.false_ne_true)]
        exact e_var rfl (.str _)
      · have A4 : Acc K H p2 _ H4 := A4
        rw [clsAt, gy, List.map_append]
        exact A4
    · rintro σ' H' ⟨x4, x5, x6, rfl, A⟩ kb
      rw [List.length_map] at A
      obtain ⟨h1, h2, xs, e, l⟩ := A
      obtain rfl := l.strs
      exact ⟨_, rfl, k p2 H' h1 h2 e⟩
/-! space_between -/
def spMark (i j : Nat) : Int := (spTab.getD i []).getD j 0
def spaceOf (ls : List Int) (i j : Nat) (st : Int) : Int := if spMark i j = 0 ∨ (spMark i j < 0 ∧ 1 < st) then 0 else lenOf ls (3 + (spMark i j).natAbs) st
def spSpace (K : PySem.W.Frag) (CF : Addr) : Sp := fun vs H Q _ => ∃ (p : Addr) (va vl : V) (ss : List Sym) (ls : List Int) (i j : Nat) (x y : Str) (st : Int), vs = [.ref p, .str x, .str y, .int st] ∧ FontAt K CF H p va vl ss ls ∧ cKINDS[i]? = some x ∧ cKINDS[j]? = some y ∧ ∀ H', Same H H' → Q (.int (spaceOf ls i j st)) H'
theorem scSpace : FnScope ["font", "left", "right", "style", "space"] ["font", "left", "right", "style"] (defScope sSpace) := ⟨rfl, rfl, rfl, by decide +kernel, rfl, by decide +kernel, by decide +kernel⟩
theorem mark_ok : ∀ i, i < 8 → ∀ j, j < 8 → (∃ r, spTab[i]? = some r ∧ r[j]? = some (spMark i j)) ∧ (spMark i j).natAbs ≤ 3 := by decide +kernel
theorem kinds_first : ∀ j, j < 8 → ∀ m, m < j → cKINDS[m]? ≠ cKINDS[j]? := by decide +kernel
theorem ok_space {f : Addr} {fd : FuncData} (F : Fun K "space_between" "space_between" sSpace f fd) (T : TxtCls K w mg CF aN aB aK aS) (C_length_of : Cal P w K mg base CX0 2 "length_of" ["font", "which", "style"] (spLengthOf K CF)) : FnOk P w K mg base CX0 3 f fd ["font", "left", "right", "style"] (spSpace K CF) := by
  have sc := scSpace
  refine F.ok scSpace (fun vs H Q E h => ?_) (fun cdv A outer s H vs Q E hr h => ?_)
  · obtain ⟨p, va, vl, ss, ls, i, j, x, y, st, rfl, _⟩ := h
    rfl
  · obtain ⟨p, va, vl, ss, ls, i, j, x, y, st, rfl, FA, hi, hj, k⟩ := h
    refine ⟨_, (pss_cons (ps_set (i := 4) sc.nd rfl (Or.inl rfl) (pe_ix ix_tup (pe_ix ix_kdict (pe_gref rfl T.c_SPACES) (pv 1) (fun _ _ => rfl)) (pe_bm PySem.F.plainAttrs_tuple PySem.F.slot_tuple_index PySem.F.type_tuple_index mt_tup_index (pe_gref rfl T.c_KINDS) (pa_cons (pv 2) pa_nil)) (fun _ _ => rfl)))
  (pss_cons (ps_if (PW.pt (pw_or (pt_cmpR op_eq (pv 4) pe_int (nomark _)) (pw_or1 (PW.pt (pw_and (pt_cmpR op_lt (pv 4) pe_int (nomark _)) (pw_and1 (pt_cmpR op_gt (pv 3) pe_int (nomark _))))))))
  (pss_one (ps_ret pe_int))
  pss_nil)
  (pss_one (ps_ret (pe_cal C_length_of (hr.mono (by omega)) rfl pass0 (pa_cons (pv 0) (pa_cons (pe_op op_sub (pe_op op_add (pe_gint rfl T.c_THIN) (pe_callB call_abs (by rfl) T.b_abs (by decide +kernel) (pa_cons (pv 4) pa_nil))) pe_int) (pa_cons (pv 3) pa_nil)))))))), ?_⟩
    have i8 : i < 8 := (List.getElem?_eq_some_iff.mp hi).1
    have j8 : j < 8 := (List.getElem?_eq_some_iff.mp hj).1
    obtain ⟨a, r, hr1, hd, hsq⟩ := T.k_SPACES i x hi
    obtain ⟨⟨r', hr2, hrj⟩, ab⟩ := mark_ok i i8 j j8
    rw [hr1] at hr2
    cases hr2
    obtain ⟨z, hz⟩ : ∃ z, spMark i j = z := ⟨_, rfl⟩
    unfold spaceOf at k
    rw [hz] at hrj ab k
    refine ⟨_, rfl, aS, x, .ref a, rfl, rfl, hd, .inr (.inl ⟨rfl, T.t_KINDS⟩), _, rfl, aK, cKINDS, y, j, rfl, rfl, T.k_KINDS _, hj, fun m hm => hj ▸ kinds_first j j8 m hm, a, _, (j : Int), .int z, rfl, rfl, hsq _, atI_nat (map_get hrj), ?_⟩
    refine ⟨_, rfl, rfl, _, rfl, ?_⟩
    by_cases c0 : z = 0
    · subst c0
      rw [if_pos (.inl rfl)] at k
      exact iteP (decide_eq_true rfl) (iteT (k H (Same.refl _)))
    refine iteN (by rw [decide_eq_true_eq]; intro e; injection e with e; exact c0 e) ?_
    refine ⟨_, rfl, _, _, rfl, rfl, _, rfl, ?_⟩
    have fin : ¬ (z = 0 ∨ (z < 0 ∧ 1 < st)) → (tRet (tCall (spLengthOf K CF) [] E0 (tCons (tVar 0) (tCons (tOp (rI0 fun i j => .int (i - j)) (tOp (rI0 fun i j => .int (i + j)) (tC (.int 4)) (tCB (fun xs H Q => ∃ i, xs = [.int i] ∧ Q (.int (if i < 0 then -i else i)) H) (tCons (tVar 4) tNil))) (tC (.int 1))) (tCons (tVar 3) tNil))))) { nx := fun _ H' => Q .non H', rt := Q } [some (.ref p), some (.str x), some (.str y), some (.int st), some (.int z)] H := fun c => by
      rw [if_neg c] at k
      refine ⟨_, rfl, _, rfl, _, rfl, _, _, rfl, rfl, _, _, rfl, rfl, _, rfl, p, va, vl, ss, ls, 3 + z.natAbs, st, ?_, FA, by omega, k⟩
      have e : ((4 : Int) + (if z < 0 then -z else z) - 1) = ((3 + z.natAbs : Nat) : Int) := by split <;> omega
      show [V.ref p, V.int ((4 : Int) + (if z < 0 then -z else z) - 1), V.int st] = _
      rw [e]
    by_cases c1 : z < 0
    · refine iteP (decide_eq_true c1) ?_
      refine ⟨_, rfl, _, _, rfl, rfl, _, rfl, ?_⟩
      by_cases c2 : 1 < st
      · rw [if_pos (.inr ⟨c1, c2⟩)] at k
        exact iteP (decide_eq_true c2) (k H (Same.refl _))
      · exact iteN (by simpa using c2) (fin (by omega))
    · exact iteN (by simpa using c1) (iteF (fin (by omega)))
end
end Mg

set_option Elab.async false
set_option linter.all false
set_option maxRecDepth 100000
set_option maxHeartbeats 1000000
namespace Mg
open PySem L2
abbrev sLKind : Stmt := top 68
abbrev sLKinds : Stmt := top 69
abbrev sLGap : Stmt := top 70
section
variable {P : Program} {w : World} {K : PySem.W.Frag} {mg : Str → Option Value} {base : Heap}
/-! _law_kind -/
def fontD (ss : List Sym) (ls : List Int) : PyData := .tuple [symsD ss, lensD ls]
def spLKind (K : PySem.W.Frag) : Sp := spR K fun ds d => ∃ (ss : List Sym) (ls : List Int) (n : FNuc), ds = [fontD ss ls, n.d] ∧ d = .str (nucCl ss n) ∧ nucKn ss n ∧ ss.length ≤ 1000
theorem scLKind : FnScope ["font", "nucleus", "symbol"] ["font", "nucleus"] (defScope sLKind) := ⟨rfl, rfl, rfl, by decide +kernel, rfl, by decide +kernel, by decide +kernel⟩
theorem look_filter (ss : List Sym) (x : Str) (s : Sym) (h : look ss x = some s) : ∃ r, ss.filter (fun s => s.nm == x) = s :: r := by
  unfold look at h
  rw [← List.head?_filter] at h
  cases e : ss.filter (fun s => s.nm == x) with
  | nil => rw [e] at h; cases h
  | cons a r =>
    rw [e] at h
    cases h
    exact ⟨r, rfl⟩
theorem ok_lkind {f : Addr} {fd : FuncData} (F : Fun K "_law_kind" "_law_kind" sLKind f fd) (T : TxtB mg) : FnOk P w K mg base CX0 1 f fd ["font", "nucleus"] (spLKind K) := by
  have sc := scLKind
  refine F.ok scLKind (fun vs H Q E h => ?_) (fun cdv A outer s H vs Q E hr h => ?_)
  · obtain ⟨ds, d, l, ⟨_, _, _, rfl, _⟩, _⟩ := h
    exact l.len
  · obtain ⟨ds, d, l, ⟨ss, ls, n, rfl, rfl, kn, sl⟩, k⟩ := h
    cases l with
    | cons tf l => cases l with
    | cons t l => cases l with
    | nil =>
    rename_i vf vn
    refine ⟨_, (pss_cons (ps_if (pt_cmpR op_eq (pe_ix ix_tup (pv 1) pe_int (fun _ _ => rfl)) pe_str (nomark _))
  (pss_one (ps_ret (pe_ix ix_list (pe_lc (own := [("symbol", 2)]) rfl sc.nd (pi_tup (pe_ix ix_tup (pv 0) pe_int (fun _ _ => rfl))) (blkOk_by (own := [("symbol", 2)]) (N := ["font", "nucleus", "symbol"]) (sc := defScope sLKind) (by decide +kernel)) (fun _ _ _ _ _ => (pg_name (i := 2) sc.nd rfl (Or.inl rfl))) (fun _ _ _ _ _ => (pts_one (pt_cmpR op_eq (pe_ix (r := rIxT K) ix_tup (pv 2) pe_int (fun _ _ => rfl)) (pe_ix (r := rIxT K) ix_tup (pv 1) pe_int (fun _ _ => rfl)) (nomark _)))) (fun _ _ _ _ _ => (pe_ix (r := rIxT K) ix_tup (pv 2) pe_int (fun _ _ => rfl)))) pe_int (fun _ _ => rfl))))
  pss_nil)
  (pss_one (ps_ret (pe_ix ix_list (pe_lst (pa_cons pe_str (pa_cons pe_str pa_nil))) (pe_callTy call_int1 (by rfl) T.b_int (by decide +kernel) (pa_cons (pe_cmpR op_in_seq (pe_ix ix_tup (pv 1) pe_int (fun _ _ => rfl)) (pe_lst (pa_cons pe_str (pa_cons pe_str pa_nil))) (by rfl)) pa_nil)) (fun _ _ => rfl))))), ?_⟩
    have tf : Tp K H vf (.tuple [symsD ss, lensD ls]) := tf
    have other : ∀ (x : Str) (r : List PyData), Tp K H vn (.tuple (.str x :: r)) → x ≠ "symbol" → nucCl ss n = (if ([("group" : Str), "root"].any fun r => r == x) = true then ("ord" : Str) else "inner") → ∀ D : Ends, D.rt = Q → tSeq (tIfS (tTest (tOp rEq (tOp (rIxT K) (tVar 1) (tC (.int 0))) (tC (.str "symbol")))) (tRet (tOp (rIxL K) (tLc (iTup K (tOp (rIxT K) (tVar 0) (tC (.int 0)))) (gName 2) (tTest (tOp rEq (tOp (rIxT K) (tVar 2) (tC (.int 0))) (tOp (rIxT K) (tVar 1) (tC (.int 1))))) (tOp (rIxT K) (tVar 2) (tC (.int 1))) [2]) (tC (.int 0)))) tNext)
        (tRet (tOp (rIxL K) (tLst (tCons (tC (.str "inner")) (tCons (tC (.str "ord")) tNil))) (tCB (fun xs H Q => (∃ i, xs = [.int i] ∧ Q (.int i) H) ∨ ∃ k, xs = [.bl k] ∧ Q (.int (if k then 1 else 0)) H) (tCons (tOp (rIn K false) (tOp (rIxT K) (tVar 1) (tC (.int 0))) (tLst (tCons (tC (.str "group")) (tCons (tC (.str "root")) tNil)))) tNil)))) D [some vf, some vn, none] H := fun x r t nx en D eD => by
      refine q_no (t_test (e_op (e_op (e_var rfl t) e_int (r_ixT atI0)) e_str r_eqS)) (decide_eq_false nx) fun H1 s1 => ?_
      have t := t.stay (.of s1)
      refine retD (K := K) k s1 ?_ eD
      rw [en]
      refine e_ixNL (K := K) (i := if ([("group" : Str), "root"].any fun r => r == x) = true then 1 else 0) (ds := [.str "inner", .str "ord"]) (l_lst (a_cons e_str (a_cons e_str a_nil)) (by decide)) (fun H2 s2 => ?_) ?_
      · intro H3 s3 Q3 q3
        refine e_inL (ws := ["group", "root"]) (e_op (e_var rfl (t.stay (.of s2))) e_int (r_ixT atI0)) (a_cons e_str (a_cons e_str a_nil)) (by decide) H3 s3 _ fun v H4 s4 tv => ?_
        obtain rfl := tp_bool tv
        refine .inr ⟨_, rfl, q3 _ _ s4 ?_⟩
        exact .int _
      · split <;> rfl
    cases n with
    | sym x =>
      have t : Tp K H vn (.tuple [.str "symbol", .str x]) := t
      obtain ⟨hx, sy, hs⟩ := kn
      obtain ⟨r, hr2⟩ := look_filter ss x sy hs
      have en : nucCl ss (.sym x) = sy.cl := by
        show (match look ss x with | some s => s.cl | none => "") = _
        rw [hs]
      refine q_yes (t_test (e_op (e_op (e_var rfl t) e_int (r_ixT rfl)) e_str r_eqS)) (decide_eq_true rfl) fun H1 s1 => ?_
      have t := t.stay (.of s1)
      have tf := tf.stay (.of s1)
      refine retD (K := K) k s1 (e_ixNL (K := K) (i := 0) (ds := (ss.filter fun (y : Sym) => y.nm == x).map fun (y : Sym) => PyData.str y.cl) (l_lcTF ss Sym.d (fun y => y.nm == x) (fun y => .str y.cl) (e_op (e_var rfl tf) e_int (r_ixT (d := symsD ss) rfl)) (by omega) (fun x => rfl) (fun y hy u H2 s2 tu => ?_) fun y hy _ u H2 s2 tu => ?_) (fun H2 s2 => e_int) ?_) rfl
      · refine t_is (t_test (e_op (e_op (e_var rfl tu) e_int (r_ixT (d := .str y.nm) rfl)) (e_op (e_var rfl (t.stay (.of s2))) e_int (r_ixT (d := .str x) rfl)) r_eqS)) ?_
        by_cases c : y.nm = x
        · rw [decide_eq_true c, c]
          simp
        · rw [decide_eq_false c]
          exact (beq_eq_false_iff_ne.mpr c).symm
      · exact e_op (e_var rfl tu) e_int (r_ixT (d := .str y.cl) rfl)
      · rw [hr2, en]
        exact atI0
    | frac o u => exact other _ _ t (by decide +kernel) (by rw [if_neg (by decide +kernel)]; rfl) _ rfl
    | fence o c r => exact other _ _ t (by decide +kernel) (by rw [if_neg (by decide +kernel)]; rfl) _ rfl
    | grid g => exact other _ _ t (by decide +kernel) (by rw [if_neg (by decide +kernel)]; rfl) _ rfl
    | group r => exact other _ _ t (by decide +kernel) (by rw [if_pos (by decide +kernel)]; rfl) _ rfl
    | root r => exact other _ _ t (by decide +kernel) (by rw [if_pos (by decide +kernel)]; rfl) _ rfl
/-! _law_kinds -/
def spLKinds (K : PySem.W.Frag) : Sp := spRL K fun ds es => ∃ (ss : List Sym) (ls : List Int) (r : FRow), ds = [fontD ss ls, r.d] ∧ es = (rowCls ss r).map PyData.str ∧ (∀ i ∈ r.items, nucKn ss i.nuc) ∧ ss.length ≤ 1000 ∧ r.items.length ≤ 100000
theorem scLKinds : FnScope ["font", "row", "found", "k", "kind"] ["font", "row"] (defScope sLKinds) := ⟨rfl, rfl, rfl, by decide +kernel, rfl, by decide +kernel, by decide +kernel⟩
theorem hasOp_0 (bs : List Str) : hasOp [] bs = false := rfl
theorem hasOp_n (as : List Str) : hasOp as [] = false := by
  unfold hasOp
  split <;> rfl
theorem getLast_at {as : List Str} {k : Nat} (h : as.length = k + 1) : as.getLast? = some (as.getD k "") := by
  rw [List.getLast?_eq_getElem?, h, List.getD_eq_getElem?_getD, show k + 1 - 1 = k by omega, List.getElem?_eq_getElem (by omega)]
  rfl
theorem hasOp_k {own : List Str} {k : Nat} (h : k + 2 < own.length + 0) : hasOp (clsAt own (k + 1)) (own.drop (k + 2)) = ((!(cNO.any fun r => r == (clsAt own (k + 1)).getD k "")) && !(cNB.any fun r => r == own.getD (k + 2) "")) := by
  unfold hasOp
  rw [getLast_at (clsAt_len own (k + 1)), List.drop_eq_getElem_cons (by omega)]
  rw [List.getD_eq_getElem?_getD (l := own), List.getElem?_eq_getElem (by omega)]
  rfl
theorem ok_lkinds {f : Addr} {fd : FuncData} (F : Fun K "_law_kinds" "_law_kinds" sLKinds f fd) (T : TxtB mg) (C_law_kind : Cal P w K mg base CX0 1 "_law_kind" ["font", "nucleus"] (spLKind K)) : FnOk P w K mg base CX0 2 f fd ["font", "row"] (spLKinds K) := by
  have sc := scLKinds
  refine F.ok scLKinds (fun vs H Q E h => ?_) (fun cdv A outer s H vs Q E hr h => ?_)
  · obtain ⟨ds, es, l, ⟨_, _, _, rfl, _⟩, _⟩ := h
    exact l.len
  · obtain ⟨ds, es, l, ⟨ss, ls, r, rfl, rfl, kn, sl, rl⟩, k⟩ := h
    cases l with
    | cons tf l => cases l with
    | cons t l => cases l with
    | nil =>
    rename_i vf vr
    refine ⟨_, (pss_cons (ps_set (i := 2) sc.nd rfl (Or.inl rfl) (pe_lst pa_nil))
  (pss_cons (ps_for PassesOwn.never rfl (pi_range1 rfl T.range (pa_cons (pe_callB call_len_sq (by rfl) T.b_len PySem.boot_len (pa_cons (pv 1) pa_nil)) pa_nil)) (pg_name (i := 3) sc.nd rfl (Or.inl rfl))
  (pss_cons (ps_set (i := 4) sc.nd rfl (Or.inl rfl) (pe_cal C_law_kind (hr.mono (by omega)) rfl pass0 (pa_cons (pv 0) (pa_cons (pe_ix ix_tup (pe_ix ix_tup (pv 1) (pv 3) (fun _ _ => rfl)) pe_int (fun _ _ => rfl)) pa_nil))))
  (pss_cons (ps_if (pt_cmpR op_eq (pv 4) pe_str (nomark _))
  (pss_one (ps_if (PW.pt (pw_or (pt_cmpR op_eq (pv 3) pe_int (nomark _)) (pw_or (pt_cmpR op_eq (pv 3) (pe_op op_sub (pe_callB call_len_sq (by rfl) T.b_len PySem.boot_len (pa_cons (pv 1) pa_nil)) pe_int) (nomark _)) (pw_or1 (pt_cmpR op_in_seq (pe_ix ix_list (pv 2) (pe_op op_sub (pv 3) pe_int) (fun _ _ => rfl)) (pe_lst (pa_cons pe_str (pa_cons pe_str (pa_cons pe_str (pa_cons pe_str (pa_cons pe_str pa_nil)))))) (by rfl))))))
  (pss_one (ps_set (i := 4) sc.nd rfl (Or.inl rfl) pe_str))
  (pss_one (ps_if (pt_cmpR op_in_seq (pe_cal C_law_kind (hr.mono (by omega)) rfl pass0 (pa_cons (pv 0) (pa_cons (pe_ix ix_tup (pe_ix ix_tup (pv 1) (pe_op op_add (pv 3) pe_int) (fun _ _ => rfl)) pe_int (fun _ _ => rfl)) pa_nil))) (pe_lst (pa_cons pe_str (pa_cons pe_str (pa_cons pe_str pa_nil)))) (by rfl))
  (pss_one (ps_set (i := 4) sc.nd rfl (Or.inl rfl) pe_str))
  pss_nil))))
  pss_nil)
  (pss_one (ps_expr (pe_bm PySem.F.plainAttrs_list PySem.F.slot_list_append PySem.F.type_list_append mt_append (pv 2) (pa_cons (pv 4) pa_nil)))))))
  (pss_one (ps_ret (pv 2))))), ?_⟩
    have er : r.d = .tuple (r.items.map FItem.d) := by rw [FRow.d, FRow.ds_eq]
    have t : Tp K H vr (.tuple (r.items.map FItem.d)) := er ▸ t
    obtain ⟨own, hown⟩ : ∃ own, rowOwn ss r = own := ⟨_, rfl⟩
    have ol : own.length = r.items.length := by rw [← hown, rowOwn, List.length_map]
    unfold rowCls clsF at k
    rw [hown, ol] at k
    have own_at : ∀ {i : Nat} {it : FItem}, r.items[i]? = some it → own.getD i "" = nucCl ss it.nuc := fun h => by
      rw [← hown, rowOwn, List.getD_eq_getElem?_getD, List.getElem?_map, h]
      rfl
    obtain ⟨ar, xr, rfl, sqr, lr⟩ := t.inv
    refine q_setL (K := K) (l_lst a_nil (Nat.le_of_ble_eq_true rfl)) fun p xs H1 n1 s1 e1 l1 => ?_
    have A0 : Acc K H p [] H1 := Acc.start n1 s1 e1 l1
    have lnr : xr.length = r.items.length := by rw [lr.len, List.length_map]
    refine ⟨_, rfl, ar, xr, rfl, .inr (same_sqt s1 sqr), fun _ => ⟨_, rfl, by omega, by omega, for_range (n := xr.length) (fun i σ' H' => ∃ x3 x4, σ' = [some vf, some (.ref ar), some (.ref p), x3, x4] ∧ Acc K H p ((clsAt own i).map PyData.str) H') ⟨_, _, rfl, A0⟩ ?_ ?_⟩⟩
    · rintro i σ' H' hi ⟨x3, x4, rfl, A⟩
      have hi' : i < r.items.length := by omega
      have hit : r.items[i]? = some r.items[i] := List.getElem?_eq_getElem hi'
      have tk : TupK H H' := A.tup
      have tf' := tf.stay tk
      have t' : Tp K H' (.ref ar) (.tuple (r.items.map FItem.d)) := t.stay tk
      have kk := kn _ (List.mem_of_getElem? hit)
      rw [Int.zero_add]
      have kd : ∀ {σ : L2.St} {H2 : Hp} {te : TE} {j : Nat} {it : FItem}, r.items[j]? = some it → σ[0]? = some (some vf) → σ[1]? = some (some (.ref ar)) → Same H' H2 → EvD K te σ H2 (.int (j : Int)) → EvD K (tCall (spLKind K) [] E0 (tCons (tVar 0) (tCons (tOp (rIxT K) (tOp (rIxT K) (tVar 1) te) (tC (.int 0))) tNil))) σ H2 (.str (nucCl ss it.nuc)) := fun {σ H2 te j it} hj h0 h1 s2 ht => by
        refine e_call (a_cons (e_var h0 (tf'.stay (.of s2))) (a_cons (e_op (e_op (e_var h1 (t'.stay (.of s2))) ht (r_ixT (d := it.d) (atI_nat (map_get hj)))) e_int ?_) a_nil)) ⟨ss, ls, it.nuc, rfl, rfl, kn _ (List.mem_of_getElem? hj), sl⟩
        cases it with
        | mk n b a => exact r_ixT (ds := [n.d, b.d, a.d]) rfl
      refine q_set (kd hit rfl rfl (Same.refl _) (e_var rfl (.int _))) fun v H2 s2 tv => ?_
      obtain rfl := tp_str tv
      have A2 := A.ext s2
      have gi := own_at hit
      obtain ⟨y, hy⟩ : ∃ y, nucCl ss r.items[i].nuc = y := ⟨_, rfl⟩
      rw [hy] at gi ⊢
      -- the word behind the ifs
      have fin : ∀ (z : Str) (H3 : Hp), Same H' H3 → z = (if (decide (y = "bin") && !hasOp (clsAt own i) (own.drop (i + 1))) = true then ("ord" : Str) else y) → tDrop (tBM K "list" rAppend (tVar 2) (tCons (tVar 4) tNil))
          { nx := fun σ' H' => ∃ x3 x4, σ' = [some vf, some (.ref ar), some (.ref p), x3, x4] ∧ Acc K H p ((clsAt own (i + 1)).map PyData.str) H', ct := fun σ' H' => ∃ x3 x4, σ' = [some vf, some (.ref ar), some (.ref p), x3, x4] ∧ Acc K H p ((clsAt own (i + 1)).map PyData.str) H', bk := tRet (tVar 2) { nx := fun _ H' => Q .non H', rt := Q }, rt := Q } [some vf, some (.ref ar), some (.ref p), some (.int (i : Int)), some (.str z)] H3 := fun z H3 s3 ez => by
        refine s_app (l := 0) rfl (A.ext s3) (e_var rfl (.str z)) (by rw [List.length_map, clsAt_len]; omega) fun H4 tk4 kb4 A4 => ⟨_, _, rfl, ?_⟩
        have A4 : Acc K H p _ H4 := A4
        rw [clsAt, gi, ← ez, List.map_append]
        exact A4
      by_cases cb : y = "bin"
      · subst cb
        refine q_yesS rfl ?_
        have o1 : hasOp (clsAt own i) (own.drop (i + 1)) = false → ("ord" : Str) = (if (decide (("bin" : Str) = "bin") && !hasOp (clsAt own i) (own.drop (i + 1))) = true then ("ord" : Str) else "bin") := fun h => by rw [h]; rfl
        have o2 : hasOp (clsAt own i) (own.drop (i + 1)) = true → ("bin" : Str) = (if (decide (("bin" : Str) = "bin") && !hasOp (clsAt own i) (own.drop (i + 1))) = true then ("ord" : Str) else "bin") := fun h => by rw [h]; rfl
        -- k == 0
        refine ⟨_, rfl, rfl, _, rfl, ?_⟩
        by_cases c0 : i = 0
        · subst c0
          exact iteP (by simp) (iteT (fin _ H2 s2 (o1 rfl)))
        refine iteN (by rw [decide_eq_true_eq]; intro e; injection e with e; omega) ?_
        -- k == len(row) - 1
        refine ⟨_, rfl, _, rfl, ar, xr, rfl, .inr ((TupK.of s2).seq (A.tup.seq sqr)), fun _ => ⟨_, _, rfl, rfl, rfl, _, rfl, ?_⟩⟩
        by_cases c1 : i + 1 = r.items.length
        · refine iteP (by rw [decide_eq_true_eq, lnr]; congr 1; omega) (iteT (fin _ H2 s2 (o1 ?_)))
          rw [List.drop_eq_nil_of_le (by omega)]
          exact hasOp_n _
        refine iteN (by rw [decide_eq_true_eq]; intro e; injection e with e; omega) ?_
        -- found[k - 1] in [..]
        obtain ⟨m, rfl⟩ : ∃ m, i = m + 1 := ⟨i - 1, by omega⟩
        have hk := hasOp_k (own := own) (k := m) (by omega)
        obtain ⟨xp, ep, lp⟩ := A2.lst
        have hit2 : r.items[m + 2]? = some (r.items[m + 2]'(by omega)) := List.getElem?_eq_getElem (by omega)
        rw [own_at hit2] at hk
        obtain ⟨b1, hb1⟩ : ∃ b, (cNO.any fun r => r == (clsAt own (m + 1)).getD m "") = b := ⟨_, rfl⟩
        obtain ⟨b2, hb2⟩ : ∃ b, (cNB.any fun q => q == nucCl ss (r.items[m + 2]'(by omega)).nuc) = b := ⟨_, rfl⟩
        have t3 : EvDT K (tTest (tOp (rIn K false) (tOp (rIxL K) (tVar 2) (tOp (rI0 fun i j => .int (i - j)) (tVar 3) (tC (.int 1)))) (tLst (tCons (tC (.str "bin")) (tCons (tC (.str "op")) (tCons (tC (.str "rel")) (tCons (tC (.str "open")) (tCons (tC (.str "punct")) tNil)))))))) [some vf, some (.ref ar), some (.ref p), some (.int ((m + 1 : Nat) : Int)), some (.str "bin")] H2 b1 := by
          rw [← hb1]
          refine t_test (e_inL (ws := cNO) (e_ixL (ds := (clsAt own (m + 1)).map PyData.str) rfl ep lp (e_op (e_var rfl (.int _)) e_int r_I0i) ?_) (a_cons e_str (a_cons e_str (a_cons e_str (a_cons e_str (a_cons e_str a_nil))))) (by decide))
          rw [show ((m + 1 : Nat) : Int) - 1 = (m : Int) by omega]
          refine atI_nat (map_get ?_)
          rw [List.getD_eq_getElem?_getD, List.getElem?_eq_getElem (by rw [clsAt_len]; omega)]
          rfl
        refine t3 H2 (Same.refl _) _ fun H3 s3 => ?_
        have s23 := s2.trans s3
        cases b1 with
        | true => exact iteT (fin _ H3 s23 (o1 (by rw [hk, hb1]; rfl)))
        | false =>
          refine iteF ?_
          have t4 : EvDT K (tTest (tOp (rIn K false) (tCall (spLKind K) [] E0 (tCons (tVar 0) (tCons (tOp (rIxT K) (tOp (rIxT K) (tVar 1) (tOp (rI0 fun i j => .int (i + j)) (tVar 3) (tC (.int 1)))) (tC (.int 0))) tNil))) (tLst (tCons (tC (.str "rel")) (tCons (tC (.str "close")) (tCons (tC (.str "punct")) tNil)))))) [some vf, some (.ref ar), some (.ref p), some (.int ((m + 1 : Nat) : Int)), some (.str "bin")] H3 b2 := by
            rw [← hb2]
            refine t_test (e_inL (ws := cNB) (kd hit2 rfl rfl s23 (e_is (e_op (e_var rfl (.int _)) e_int r_I0i) ?_)) (a_cons e_str (a_cons e_str (a_cons e_str a_nil))) (by decide))
            congr 1
          refine t4 H3 (Same.refl _) _ fun H4 s4 => ?_
          cases b2 with
          | true => exact iteT (fin _ H4 (s23.trans s4) (o1 (by rw [hk, hb1, hb2]; rfl)))
          | false => exact iteF (fin _ H4 (s23.trans s4) (o2 (by rw [hk, hb1, hb2]; rfl)))
      · refine q_noS rfl cb ?_
        refine fin y H2 s2 ?_
        rw [decide_eq_false cb]
        rfl
    · rintro σ' H' ⟨x3, x4, rfl, A⟩
      rw [lnr] at A
      exact retAcc k A rfl rfl
end
end Mg

set_option Elab.async false
set_option linter.all false
set_option maxRecDepth 100000
set_option maxHeartbeats 1000000
namespace Mg
open PySem L2
section
variable {P : Program} {w : World} {K : PySem.W.Frag} {mg : Str → Option Value} {base : Heap}
/-! _law_gap -/
def gapTxt : List Str := ["0 1 m k 0 0 0 t", "1 1 0 k 0 0 0 t", "m m 0 0 m 0 0 m", "k k 0 0 k 0 0 k", "0 0 0 0 0 0 0 0", "0 1 m k 0 0 0 t", "t t 0 t t t t t", "t 1 m k t 0 t t"]
def gapTab : List (List Str) := [["0", "1", "m", "k", "0", "0", "0", "t"], ["1", "1", "0", "k", "0", "0", "0", "t"], ["m", "m", "0", "0", "m", "0", "0", "m"], ["k", "k", "0", "0", "k", "0", "0", "k"], ["0", "0", "0", "0", "0", "0", "0", "0"], ["0", "1", "m", "k", "0", "0", "0", "t"], ["t", "t", "0", "t", "t", "t", "t", "t"], ["t", "1", "m", "k", "t", "0", "t", "t"]]
theorem gap_split : ∀ i, i < 8 → ∃ x r, gapTxt[i]? = some x ∧ gapTab[i]? = some r ∧ Txt.split x " " = r ∧ x.length + 2 ≤ 1000 := by
  intro i hi
  match i, hi with
  | 0, _ => exact ⟨_, _, rfl, rfl, by decide +kernel, by decide +kernel⟩
  | 1, _ => exact ⟨_, _, rfl, rfl, by decide +kernel, by decide +kernel⟩
  | 2, _ => exact ⟨_, _, rfl, rfl, by decide +kernel, by decide +kernel⟩
  | 3, _ => exact ⟨_, _, rfl, rfl, by decide +kernel, by decide +kernel⟩
  | 4, _ => exact ⟨_, _, rfl, rfl, by decide +kernel, by decide +kernel⟩
  | 5, _ => exact ⟨_, _, rfl, rfl, by decide +kernel, by decide +kernel⟩
  | 6, _ => exact ⟨_, _, rfl, rfl, by decide +kernel, by decide +kernel⟩
  | 7, _ => exact ⟨_, _, rfl, rfl, by decide +kernel, by decide +kernel⟩
def gapMark (i j : Nat) : Str := (gapTab.getD i []).getD j ""
def kvGap : List (Key × V) := mergeK [] [(Sum.inr ("1" : Str), V.int 4), (Sum.inr ("t" : Str), V.int 4), (Sum.inr ("m" : Str), V.int 5), (Sum.inr ("k" : Str), V.int 6)]
theorem gap_row : ∀ i, i < 8 → ∀ j, j < 8 → ∃ r, gapTab[i]? = some r ∧ r[j]? = some (gapMark i j) := by decide +kernel
theorem gap_zero : ∀ i, i < 8 → ∀ j, j < 8 → (gapMark i j = "0" ↔ spMark i j = 0) := by decide +kernel
theorem gap_one : ∀ i, i < 8 → ∀ j, j < 8 → (decide (gapMark i j = "0") || (decide (gapMark i j = "1") == decide (0 < spMark i j))) = true := by decide +kernel
theorem gap_val : ∀ i, i < 8 → ∀ j, j < 8 → (decide (gapMark i j = "0") || decide (valV kvGap (Sum.inr (gapMark i j)) = some (.int ((3 + (spMark i j).natAbs : Nat) : Int)))) = true := by decide +kernel
def spLGap (K : PySem.W.Frag) : Sp := fun vs H Q _ => ∃ (vf : V) (ss : List Sym) (ls : List Int) (i j : Nat) (x y : Str) (st : Int), vs = [vf, .str x, .str y, .int st] ∧ Tp K H vf (fontD ss ls) ∧ ls.length = 8 ∧ cKINDS[i]? = some x ∧ cKINDS[j]? = some y ∧ 0 ≤ st ∧ st ≤ 3 ∧ ∀ H', Same H H' → Q (.int (spaceOf ls i j st)) H'
theorem scLGap : FnScope ["font", "left", "right", "style", "order", "rows", "mark"] ["font", "left", "right", "style"] (defScope sLGap) := ⟨rfl, rfl, rfl, by decide +kernel, rfl, by decide +kernel, by decide +kernel⟩
theorem eqV_str (a b : Str) : eqV (.str a) (.str b) = (a == b) := rfl
theorem index_kinds {j : Nat} {y : Str} (h : cKINDS[j]? = some y) : (cKINDS.map V.str)[j]? = some (.str y) ∧ eqV (.str y) (.str y) = true ∧ ∀ (m : Nat) (z : V), m < j → (cKINDS.map V.str)[m]? = some z → eqV z (.str y) = false := by
  have j8 : j < 8 := (List.getElem?_eq_some_iff.mp h).1
  refine ⟨map_get h, by rw [eqV_str]; simp, fun m z hm hz => ?_⟩
  obtain ⟨x, hx, rfl⟩ := get_map hz
  rw [eqV_str]
  refine beq_eq_false_iff_ne.mpr fun e => kinds_first j j8 m hm ?_
  rw [hx, h, e]
theorem ok_lgap {f : Addr} {fd : FuncData} (F : Fun K "_law_gap" "_law_gap" sLGap f fd) (C_law_scaled : Cal P w K mg base CX0 1 "_law_scaled" ["number", "style"] spLScaled) : FnOk P w K mg base CX0 2 f fd ["font", "left", "right", "style"] (spLGap K) := by
  have sc := scLGap
  refine F.ok scLGap (fun vs H Q E h => ?_) (fun cdv A outer s H vs Q E hr h => ?_)
  · obtain ⟨vf, ss, ls, i, j, x, y, st, rfl, _⟩ := h
    rfl
  · obtain ⟨vf, ss, ls, i, j, x, y, st, rfl, tf, l8, hi, hj, s0, s3, k⟩ := h
    have hu := hu_of hr
    refine ⟨_, (pss_cons (ps_set (i := 4) sc.nd rfl (Or.inl rfl) (pe_lst (pa_cons pe_str (pa_cons pe_str (pa_cons pe_str (pa_cons pe_str (pa_cons pe_str (pa_cons pe_str (pa_cons pe_str (pa_cons pe_str pa_nil))))))))))
  (pss_cons (ps_set (i := 5) sc.nd rfl (Or.inl rfl) (pe_lst (pa_cons pe_str (pa_cons pe_str (pa_cons pe_str (pa_cons pe_str (pa_cons pe_str (pa_cons pe_str pa_nil))))))))
  (pss_cons (ps_set (i := 5) sc.nd rfl (Or.inl rfl) (pe_op op_cat (pv 5) (pe_lst (pa_cons pe_str (pa_cons pe_str pa_nil)))))
  (pss_cons (ps_set (i := 6) sc.nd rfl (Or.inl rfl) (pe_ix ix_list (pe_split (pe_ix ix_list (pv 5) (pe_bm PySem.F.plainAttrs_list PySem.F.slot_list_index PySem.F.type_list_index mt_index (pv 4) (pa_cons (pv 1) pa_nil)) (fun _ _ => rfl)) pe_str) (pe_bm PySem.F.plainAttrs_list PySem.F.slot_list_index PySem.F.type_list_index mt_index (pv 4) (pa_cons (pv 2) pa_nil)) (fun _ _ => rfl)))
  (pss_cons (ps_if (PW.pt (pw_or (pt_cmpR op_eq (pv 6) pe_str (nomark _)) (pw_or1 (PW.pt (pw_and (pt_cmpR op_gt (pv 3) pe_int (nomark _)) (pw_and1 (pt_cmpR op_ne (pv 6) pe_str (nomark _))))))))
  (pss_one (ps_ret pe_int))
  pss_nil)
  (pss_one (ps_ret (pe_cal C_law_scaled (hr.mono (by omega)) rfl pass0 (pa_cons (pe_ix ix_tup (pe_ix ix_tup (pv 0) pe_int (fun _ _ => rfl)) (pe_dget hu (pe_disp (pps_cons pe_str pe_int (pps_cons pe_str pe_int (pps_cons pe_str pe_int (pps_cons pe_str pe_int pps_nil)))) (by rfl) (by rfl) (fun z => by cases z) (by decide)) (pv 6) (fun _ _ => rfl)) (fun _ _ => rfl)) (pa_cons (pv 3) pa_nil)))))))))), ?_⟩
    have i8 : i < 8 := (List.getElem?_eq_some_iff.mp hi).1
    have j8 : j < 8 := (List.getElem?_eq_some_iff.mp hj).1
    obtain ⟨x', r', hx1, hr1, hsp, hxl⟩ := gap_split i i8
    obtain ⟨r, hr2, hrj⟩ := gap_row i i8 j j8
    have g0 := gap_zero i i8 j j8
    have g1 := gap_one i i8 j j8
    have g2 := gap_val i i8 j j8
    have g3 := (mark_ok i i8 j j8).2
    rw [hr1] at hr2
    cases hr2
    refine q_setL (K := K) (ds := cKINDS.map PyData.str) (l_lst (a_cons e_str (a_cons e_str (a_cons e_str (a_cons e_str (a_cons e_str (a_cons e_str (a_cons e_str (a_cons e_str a_nil)))))))) (by decide)) fun po xo H1 n1 s1 e1 l1 => ?_
    obtain rfl := l1.strs
    refine q_setL (K := K) (ds := (gapTxt.take 6).map PyData.str) (l_lst (a_cons e_str (a_cons e_str (a_cons e_str (a_cons e_str (a_cons e_str (a_cons e_str a_nil)))))) (by decide)) fun p1 x1 H2 n2 s2 e2 l2 => ?_
    obtain rfl := l2.strs
    refine ⟨_, rfl, (by show 2 ≤ sizeLine; decide), fun p2 hp2 => ?_⟩
    have ne12 : p1 ≠ p2 := fun z => by
      rw [z, hp2] at e2
      cases e2
    refine ⟨p1, p2, _, _, rfl, rfl, (same_new hp2) _ _ e2, upd_same, by show 8 ≤ sizeLine; decide, fun p3 hp3 => ?_⟩
    have s3' : Same H (upd (upd H2 p2 (.lst [.str "t t 0 t t t t t", .str "t 1 m k t 0 t t"])) p3 (.lst (gapTxt.map V.str))) := ((s1.trans s2).trans (same_new hp2)).trans (same_new hp3)
    have eo3 : (upd (upd H2 p2 (.lst [.str "t t 0 t t t t t", .str "t 1 m k t 0 t t"])) p3 (.lst (gapTxt.map V.str))) po = some (.lst (cKINDS.map V.str)) := (same_new hp3) _ _ ((same_new hp2) _ _ (s2 _ _ e1))
    have er3 : (upd (upd H2 p2 (.lst [.str "t t 0 t t t t t", .str "t 1 m k t 0 t t"])) p3 (.lst (gapTxt.map V.str))) p3 = some (.lst (gapTxt.map V.str)) := upd_same
    show tSeq _ _ _ _ (upd (upd H2 p2 (.lst [.str "t t 0 t t t t t", .str "t 1 m k t 0 t t"])) p3 (.lst (gapTxt.map V.str)))
    generalize (upd (upd H2 p2 (.lst [.str "t t 0 t t t t t", .str "t 1 m k t 0 t t"])) p3 (.lst (gapTxt.map V.str))) = H3 at s3' eo3 er3 ⊢
    obtain ⟨ix1, ix2, ix3⟩ := index_kinds hi
    obtain ⟨iy1, iy2, iy3⟩ := index_kinds hj
    refine ⟨_, rfl, _, rfl, .inl ⟨rfl, _, SqL.of eo3⟩, _, rfl, po, _, .str x, i, _, rfl, rfl, SqL.of eo3, rfl, flat_strs2 _, ix1, ix2, ix3, p3, _, (i : Int), .str x', rfl, rfl, SqL.of er3, atI_nat (map_get hx1), ⟨_, rfl⟩, x', " ", rfl, rfl, by decide +kernel, sz5 (by omega), fun p4 hp4 => ?_⟩
    rw [hsp]
    have s4 : Same H3 (upd H3 p4 (.lst (r'.map V.str))) := same_new hp4
    have e4 : (upd H3 p4 (.lst (r'.map V.str))) p4 = some (.lst (r'.map V.str)) := upd_same
    have eo4 := s4 _ _ eo3
    generalize (upd H3 p4 (.lst (r'.map V.str))) = H4 at s4 e4 eo4 ⊢
    refine ⟨_, rfl, .inl ⟨rfl, _, SqL.of eo4⟩, _, rfl, po, _, .str y, j, _, rfl, rfl, SqL.of eo4, rfl, flat_strs2 _, iy1, iy2, iy3, p4, _, (j : Int), .str (gapMark i j), rfl, rfl, SqL.of e4, atI_nat (map_get hrj), ?_⟩
    have sH4 := s3'.trans s4
    unfold spaceOf at k
    obtain ⟨gm, hgm⟩ : ∃ m, gapMark i j = m := ⟨_, rfl⟩
    obtain ⟨z, hz⟩ : ∃ z, spMark i j = z := ⟨_, rfl⟩
    rw [hgm] at g0 g1 g2 ⊢
    rw [hz] at g0 g1 g2 g3 k
    refine ⟨_, rfl, rfl, _, rfl, ?_⟩
    by_cases c0 : gm = "0"
    · rw [if_pos (.inl (g0.mp c0))] at k
      exact iteP (by rw [decide_eq_true_eq, c0]) (iteT (k _ sH4))
    refine iteN (by rw [decide_eq_true_eq]; intro e; injection e with e; exact c0 e) ?_
    have z0 : z ≠ 0 := fun e => c0 (g0.mpr e)
    rw [decide_eq_false c0, Bool.false_or] at g1 g2
    have g1 := beq_iff_eq.mp g1
    have g2 := of_decide_eq_true g2
    have fin : ¬ (z < 0 ∧ 1 < st) → ∀ te, (∀ H5, Same H H5 → ∀ Q5 : VK, (∀ H6, Same H5 H6 → Q5 (.int (ls.getD (3 + z.natAbs) 0)) H6) → te [some vf, some (.str x), some (.str y), some (.int st), some (.ref po), some (.ref p3), some (.str gm)] H5 Q5) → tRet (tCall spLScaled [] E0 (tCons te (tCons (tVar 3) tNil))) { nx := fun _ H' => Q .non H', rt := Q } [some vf, some (.str x), some (.str y), some (.int st), some (.ref po), some (.ref p3), some (.str gm)] H4 := fun c te ht => by
      rw [if_neg (by omega)] at k
      show tCall spLScaled [] E0 _ _ H4 Q
      refine ht H4 sH4 _ fun H6 s6 => ⟨_, rfl, _, st, rfl, s0, s3, fun H7 s7 => ?_⟩
      have q := k H7 ((sH4.trans s6).trans s7)
      unfold lenOf at q
      rw [if_neg (by omega)] at q
      exact q
    have dic : ∀ H5, Same H H5 → ∀ Q5 : VK, (∀ H6, Same H5 H6 → Q5 (.int (ls.getD (3 + z.natAbs) 0)) H6) → ∃ (a : Addr) (xs : List V), vf = .ref a ∧ SqT K H5 a xs ∧ ∃ v1, xs[1]? = some v1 ∧ ∀ kp, H5 kp = none → ∃ al, v1 = .ref al ∧ SqT K (upd H5 kp (.dK kvGap)) al (ls.map V.int) ∧ atI (ls.map V.int) ((3 + z.natAbs : Nat) : Int) = some (.int (ls.getD (3 + z.natAbs) 0)) := fun H5 s5 Q5 q5 => by
      have tf5 : Tp K H5 vf (.tuple [symsD ss, lensD ls]) := tf.stay (.of s5)
      obtain ⟨a, xs, rfl, sq, l⟩ := tf5.inv
      cases l with
      | cons ta l => cases l with
      | cons tb l => cases l with
      | nil =>
      rename_i v0 v1
      obtain ⟨al, rfl, hal⟩ := tp_ints tb.dp
      refine ⟨a, _, rfl, sq, _, rfl, fun kp hkp => ⟨al, rfl, same_sqt (same_new hkp) hal, atI_nat (map_get ?_)⟩⟩
      rw [List.getD_eq_getElem?_getD, List.getElem?_eq_getElem (by omega)]
      rfl
    refine ⟨_, rfl, _, _, rfl, rfl, _, rfl, ?_⟩
    by_cases c1 : 1 < st
    · refine iteP (decide_eq_true c1) ?_
      refine ⟨_, rfl, rfl, _, rfl, ?_⟩
      by_cases cm : gm = "1"
      · rw [decide_eq_true cm] at g1
        have g1 := of_decide_eq_true g1.symm
        refine iteN (by simp [cm]) ?_
        unfold tNext
        dsimp only
        refine fin (by omega) _ fun H5 s5 Q5 q5 => ?_
        obtain ⟨a, xs, rfl, sq, v1, hv1, hal⟩ := dic H5 s5 Q5 q5
        refine ⟨_, rfl, a, xs, 1, v1, rfl, rfl, sq, atI_nat hv1, ?_⟩
        intro kp hkp
        refine ⟨upd_same, [(Sum.inr ("1" : Str), V.int 4), (Sum.inr ("t" : Str), V.int 4), (Sum.inr ("m" : Str), V.int 5), (Sum.inr ("k" : Str), V.int 6)], rfl, by decide, ?_⟩
        rw [upd_upd]
        obtain ⟨al, rfl, h1, h2⟩ := hal kp hkp
        refine ⟨_, rfl, kp, .int ((3 + z.natAbs : Nat) : Int), rfl, ?_, al, _, _, _, rfl, rfl, h1, h2, q5 _ (same_new hkp)⟩
        have dg := DGet.k (k := Sum.inr gm) (show (upd H5 kp (.dK kvGap)) kp = some (.dK kvGap) from upd_same)
        rw [g2] at dg
        exact dg
      · rw [decide_eq_false cm] at g1
        have g1 := of_decide_eq_false g1.symm
        rw [if_pos (.inr ⟨by omega, c1⟩)] at k
        exact iteP (by simp [cm]) (k _ sH4)
    · refine iteN (by simpa using c1) (iteF ?_)
      unfold tNext
      dsimp only
      refine fin (by omega) _ fun H5 s5 Q5 q5 => ?_
      obtain ⟨a, xs, rfl, sq, v1, hv1, hal⟩ := dic H5 s5 Q5 q5
      refine ⟨_, rfl, a, xs, 1, v1, rfl, rfl, sq, atI_nat hv1, ?_⟩
      intro kp hkp
      refine ⟨upd_same, [(Sum.inr ("1" : Str), V.int 4), (Sum.inr ("t" : Str), V.int 4), (Sum.inr ("m" : Str), V.int 5), (Sum.inr ("k" : Str), V.int 6)], rfl, by decide, ?_⟩
      rw [upd_upd]
      obtain ⟨al, rfl, h1, h2⟩ := hal kp hkp
      refine ⟨_, rfl, kp, .int ((3 + z.natAbs : Nat) : Int), rfl, ?_, al, _, _, _, rfl, rfl, h1, h2, q5 _ (same_new hkp)⟩
      have dg := DGet.k (k := Sum.inr gm) (show (upd H5 kp (.dK kvGap)) kp = some (.dK kvGap) from upd_same)
      rw [g2] at dg
      exact dg
end
end Mg

set_option Elab.async false
set_option linter.all false
set_option maxRecDepth 100000
set_option maxHeartbeats 1000000
namespace Mg
open PySem L2
abbrev sWithin : Stmt := top 72
abbrev sFixed : Stmt := top 71
section
variable {P : Program} {w : World} {K : PySem.W.Frag} {mg : Str → Option Value} {base : Heap}
theorem pe_calS {X : Cx} {CX : CXT} {k : Nat} {ps : List Str} {sp : Sp} {E : L2.St → XK} {x : Str} {p pos : Pos} {e : Expr} {es : List Expr} {t : TA} (c : Cal X.prog X.w X.K X.mg X.base CX k x ps sp) (hr : Room k X.A) (hg : Gl X x) (hx : ∀ σ, PassesAt CX X σ (E σ))
    (ha : PA X (e :: es) t) (hdb : (x == ("__debug__" : Str)) = false := by decide) (he : starEach (e :: es) X.env = (false, eval e X.env) :: starEach es X.env := by rfl) (hpl : (backTo pos (starEach es X.env)).any (·.1) = false := by rfl) :
    PE X (.Call (.Name x p) (e :: es) [] pos) (tCallS sp E t) := by
  obtain ⟨f, fd, F, hm, hk, hb⟩ := c.ex
  exact pe_callS F hr hg hm hk hb hx ha hdb he hpl
/-! _law_within -/
structure TxtWithin (K : PySem.W.Frag) (mg : Str → Option Value) (CTD CTL CS : Addr) : Prop where
  g_SetError : mg "SetError" = some (.ref CS)
  e_TD : PySem.W.exmOne K (.ref CTD) (.ref CS) = some true
  e_TL : PySem.W.exmOne K (.ref CTL) (.ref CS) = some true
def spWithin (K : PySem.W.Frag) (n : Nat) : Sp := fun vs H Q _ => ∃ (v : V) (r : FRow), vs = [v] ∧ Tp K H v r.d ∧ r.dep < n ∧ r.words.length ≤ 100000 ∧ (∀ x ∈ r.words, 1 ≤ x.length ∧ x.length ≤ 9) ∧ ∀ v' r' H', Same H H' → (r' = r ∨ r' = .nil) → Tp K H' v' r'.d → Q v' H'
theorem scWithin : FnScope ["row"] ["row"] (defScope sWithin) := ⟨rfl, rfl, rfl, by decide +kernel, rfl, by decide +kernel, by decide +kernel⟩
theorem ok_within {n : Nat} {CTD CTL CS : Addr} {f : Addr} {fd : FuncData} (F : Fun K "_law_within" "_law_within" sWithin f fd) (T : TxtWithin K mg CTD CTL CS) (C_check_formula : Cal P w K mg base (L2.CX P w) (3 * n + 2) "check_formula" ["formula"] (spCheckFormula K n CTD CTL)) : FnOk P w K mg base CX0 (3 * n + 3) f fd ["row"] (spWithin K n) := by
  have sc := scWithin
  refine F.ok scWithin (fun vs H Q E h => ?_) (fun cdv A outer s H vs Q E hr h => ?_)
  · obtain ⟨v, r, rfl, _⟩ := h
    rfl
  · obtain ⟨v, r, rfl, t, dep, bnd, wk, k⟩ := h
    refine ⟨_, (pss_cons (ps_try_only (tb := fun W => tDrop (tCallS (spCheckFormula K n CTD CTL) (WE W) (tCons (tVar 0) tNil))) (ts := fun a cls d => tRet (tTup tNil)) (Wout := fun _ _ _ _ => False) rfl rfl ⟨rfl, by decide, Or.inl T.g_SetError⟩ takes0
        (fun W pn xe tk _ => pss_one (ps_expr (pe_calS C_check_formula hr rfl (fun σ => passAt tk σ) (pa_cons (pv 0) pa_nil))))
        (fun a oe cls d pn hz hf => pss_one (ps_ret (pe_tup pa_nil))))
      (pss_one (ps_ret (pv 0)))), ?_⟩
    refine ⟨_, rfl, v, r, rfl, t, dep, bnd, wk, fun _ _ _ H' s1 => ?_, fun _ H' s1 => ?_, fun _ _ H' s1 => ?_⟩
    · exact ⟨_, rfl, k v r H' s1 (.inl rfl) (t.stay (.of s1))⟩
    · exact ⟨true, T.e_TD, fun _ a na => ⟨by show 0 ≤ sizeLine; decide, fun p hp => k _ .nil _ (s1.trans (same_new hp)) (.inr rfl) (.mk (SqT.of upd_same) .nil)⟩, fun z => Bool.noConfusion z⟩
    · exact ⟨true, T.e_TL, fun _ a na => ⟨by show 0 ≤ sizeLine; decide, fun p hp => k _ .nil _ (s1.trans (same_new hp)) (.inr rfl) (.mk (SqT.of upd_same) .nil)⟩, fun z => Bool.noConfusion z⟩
/-! a font made -/
theorem q_mkF {σ : L2.St} {H : Hp} {ta : TA} {i : Nat} {tz : TS} {D : Ends} {CF CB : Addr} {ss : List Sym} {ls : List Int} (ha : EvDA K ta σ H [symsD ss, lensD ls]) (pre : PreS (symsD ss)) (g1 : areSymbols (symsD ss) = true) (g2 : areLengths (lensD ls) = true)
    (k : ∀ x va vl H1, H x = none → Same H H1 → FontAt K CF H1 x va vl ss ls → tz D (σ.set i (some (.ref x))) H1) : tSeq (tAsg (tMake CF (spFInit K CF CB) [] E00 ta) (gName i)) tz D σ H := by
  refine ha H (Same.refl _) _ fun vs H1 s1 tvs => ?_
  cases tvs with
  | cons t1 tvs => cases tvs with
  | cons t2 tvs => cases tvs with
  | nil =>
  intro x dx nx ndx ne
  exact mk_font t1.dp t2.dp pre g1 g2 x dx nx ndx ne fun H2 s2 FA => ⟨rfl, k x _ _ H2 (s1.free nx) (s1.trans s2) FA⟩
/-! _law_fixed -/
structure TxtFix (P : Program) (w : World) (K : PySem.W.Frag) (mg : Str → Option Value) (base : Heap) (CF CB : Addr) : Prop extends TxtB mg where
  g_Font : mg "Font" = some (.ref CF)
  mkF : MkF P w K mg base CF CB
def fixSs : List Sym := [⟨"x", "ord", 1, 1, 1⟩, ⟨"+", "bin", 1, 1, 1⟩]
def fixLs : List Int := [1, 1, 1, 1, 2, 4, 6, 1]
def fixNames : List Str := ["+", "+", "x", "+", "x", "+"]
def symRow (ws : List Str) : FRow := FRow.of (ws.map fun x => .mk (.sym x) .no .no)
def spFixed : Sp := fun vs H Q _ => vs = [] ∧ ∀ H', Same H H' → Q (.bl true) H'
theorem scFixed : FnScope ["signs", "font", "row", "spaces", "name", "style"] [] (defScope sFixed) := ⟨rfl, rfl, rfl, by decide +kernel, rfl, by decide +kernel, by decide +kernel⟩
theorem fix_good : areSymbols (symsD fixSs) = true ∧ areLengths (lensD fixLs) = true := by decide +kernel
theorem fix_kn : ∀ x ∈ fixNames, x.length ≤ 1000 ∧ (look fixSs x).isSome = true := by decide +kernel
theorem sym_kn {ss : List Sym} {ws : List Str} (h : ∀ x ∈ ws, x.length ≤ 1000 ∧ ∃ s, look ss x = some s) : ∀ i ∈ (symRow ws).items, nucKn ss i.nuc := fun i hi => by
  rw [symRow, FRow.items_of] at hi
  obtain ⟨x, hx, rfl⟩ := List.mem_map.mp hi
  exact h x hx
def ords6 : List Str := ["ord", "bin", "ord", "bin", "ord", "ord"]
theorem fix_cls : rowCls fixSs (symRow fixNames) = ords6 := by decide +kernel
theorem e_symItem {σ : L2.St} {H : Hp} {j : Nat} {v : V} {x : Str} (hj : σ[j]? = some (some v)) (t : Tp K H v (.str x)) : EvD K (tTup (tCons (tTup (tCons (tC (.str "symbol")) (tCons (tVar j) tNil))) (tCons (tC .non) (tCons (tC .non) tNil)))) σ H (FItem.mk (.sym x) .no .no).d :=
  e_tup (a_cons (e_tup (a_cons e_str (a_cons (e_var hj t) a_nil)) (by show 2 ≤ 1000; decide)) (a_cons e_non (a_cons e_non a_nil))) (by show 3 ≤ 1000; decide)
theorem e_space {CF : Addr} {σ : L2.St} {H : Hp} {j j1 : Nat} {p : Addr} {va vl : V} {ss : List Sym} {ls : List Int} {a b : Nat} {x y : Str} {st : Int} {E : XK} (hj : σ[j]? = some (some (.ref p))) (F : FontAt K CF H p va vl ss ls) (ha : cKINDS[a]? = some x) (hb : cKINDS[b]? = some y) (h1 : σ[j1]? = some (some (.int st))) :
    EvD K (tCall (spSpace K CF) [] E (tCons (tVar j) (tCons (tC (.str x)) (tCons (tC (.str y)) (tCons (tVar j1) tNil))))) σ H (.int (spaceOf ls a b st)) :=
  e_callV (us := [.ref p, .str x, .str y, .int st]) (fun H1 s Q q => ⟨_, hj, _, h1, q H1 (Same.refl _)⟩) fun H1 s Q q => ⟨p, va, vl, ss, ls, a, b, x, y, st, rfl, F.same s, ha, hb, fun H2 s2 => q _ H2 s2 (.int _)⟩
def ints4 (a b c d : Int) : List PyData := [.int a, .int b, .int c, .int d]
theorem fix_sp : (List.range 4).map (fun i : Nat => PyData.int (spaceOf fixLs 3 7 (i : Int))) = ints4 6 6 0 0 ∧ (List.range 4).map (fun i : Nat => PyData.int (spaceOf fixLs 1 0 (i : Int))) = ints4 2 2 1 1 := ⟨rfl, rfl⟩
theorem shp4 {a b c d : Int} : SeqAt.shaped (.list (ints4 a b c d)) = true := by rfl
theorem eqv4 {a b c d : Int} : PyData.eqv (.list (ints4 a b c d)) (.list (ints4 a b c d)) = true := SeqAt.eqv_refl _ (by rfl)
theorem ok_fixed {CF CB aN aB aK aS : Addr} {f : Addr} {fd : FuncData} (F : Fun K "_law_fixed" "_law_fixed" sFixed f fd) (T : TxtFix P w K mg base CF CB) (C_classes_of : Cal P w K mg base CX0 6 "classes_of" ["font", "row"] (spClassesOf K CF)) (C_space_between : Cal P w K mg base CX0 3 "space_between" ["font", "left", "right", "style"] (spSpace K CF)) : FnOk P w K mg base CX0 7 f fd [] spFixed := by
  have sc := scFixed
  refine F.ok scFixed (fun vs H Q E h => ?_) (fun cdv A outer s H vs Q E hr h => ?_)
  · obtain ⟨rfl, _⟩ := h
    rfl
  · obtain ⟨rfl, k⟩ := h
    refine ⟨_, (pss_cons (ps_set (i := 0) sc.nd rfl (Or.inl rfl) (pe_tup (pa_cons (pe_tup (pa_cons pe_str (pa_cons pe_str (pa_cons pe_int (pa_cons pe_int (pa_cons pe_int pa_nil)))))) (pa_cons (pe_tup (pa_cons pe_str (pa_cons pe_str (pa_cons pe_int (pa_cons pe_int (pa_cons pe_int pa_nil)))))) pa_nil))))
  (pss_cons (ps_set (i := 1) sc.nd rfl (Or.inr rfl) (pe_mkF T.mkF (hr.mono (by omega)) rfl T.g_Font (pa_cons (pv 0) (pa_cons (pe_tup (pa_cons pe_int (pa_cons pe_int (pa_cons pe_int (pa_cons pe_int (pa_cons pe_int (pa_cons pe_int (pa_cons pe_int (pa_cons pe_int pa_nil))))))))) pa_nil))))
  (pss_cons (ps_set (i := 2) sc.nd rfl (Or.inl rfl) (pe_callTy call_tuple_of (by rfl) T.b_tuple (by decide +kernel) (pa_cons (pe_lc (own := [("name", 4)]) rfl sc.nd (pi_list (pe_lst (pa_cons pe_str (pa_cons pe_str (pa_cons pe_str (pa_cons pe_str (pa_cons pe_str (pa_cons pe_str pa_nil)))))))) (blkOk_by (own := [("name", 4)]) (N := ["signs", "font", "row", "spaces", "name", "style"]) (sc := defScope sFixed) (by decide +kernel)) (fun _ _ _ _ _ => (pg_name (i := 4) sc.nd rfl (Or.inl rfl))) (fun _ _ _ _ _ => pts_nil) (fun _ _ _ _ _ => (pe_tup (pa_cons (pe_tup (pa_cons pe_str (pa_cons (pv 4) pa_nil))) (pa_cons pe_non (pa_cons pe_non pa_nil)))))) pa_nil)))
  (pss_cons (ps_if (pt_cmpR (op_neD hr.units) (pe_cal C_classes_of (hr.mono (by omega)) rfl pass0 (pa_cons (pv 1) (pa_cons (pv 2) pa_nil))) (pe_lst (pa_cons pe_str (pa_cons pe_str (pa_cons pe_str (pa_cons pe_str (pa_cons pe_str (pa_cons pe_str pa_nil))))))) (nomark _))
  (pss_one (ps_ret pe_bl))
  pss_nil)
  (pss_cons (ps_setLc (i := 3) (own := [("style", 5)]) rfl sc.nd rfl rfl (sw_true rfl rfl rfl (by decide +kernel)) (pi_range1 rfl T.range (pa_cons pe_int pa_nil)) (blkOk_by (own := [("style", 5)]) (N := ["signs", "font", "row", "spaces", "name", "style"]) (sc := defScope sFixed) (by decide +kernel)) (fun _ _ _ _ _ => (pg_name (i := 5) sc.nd rfl (Or.inl rfl))) (fun _ _ _ _ _ => pts_nil) (fun _ _ _ _ _ => (pe_cal C_space_between (hr.mono (by omega)) rfl pass0 (pa_cons (pv 1) (pa_cons pe_str (pa_cons pe_str (pa_cons (pv 5) pa_nil)))))))
  (pss_one (ps_ret (pe_and (pe_cmpR (op_eqD hr.units) (pv 3) (pe_lst (pa_cons pe_int (pa_cons pe_int (pa_cons pe_int (pa_cons pe_int pa_nil))))) (nomark _)) (pe_one (pe_cmpR (op_eqD hr.units) (pe_lc (own := [("style", 5)]) rfl sc.nd (pi_range1 rfl T.range (pa_cons pe_int pa_nil)) (blkOk_by (own := [("style", 5)]) (N := ["signs", "font", "row", "spaces", "name", "style"]) (sc := defScope sFixed) (by decide +kernel)) (fun _ _ _ _ _ => (pg_name (i := 5) sc.nd rfl (Or.inl rfl))) (fun _ _ _ _ _ => pts_nil) (fun _ _ _ _ _ => (pe_cal C_space_between (hr.mono (by omega)) rfl pass0 (pa_cons (pv 1) (pa_cons pe_str (pa_cons pe_str (pa_cons (pv 5) pa_nil))))))) (pe_lst (pa_cons pe_int (pa_cons pe_int (pa_cons pe_int (pa_cons pe_int pa_nil))))) (nomark _))))))))))), ?_⟩
    refine q_set (K := K) (d := symsD fixSs) (e_tup (a_cons (e_tup (a_cons e_str (a_cons e_str (a_cons e_int (a_cons e_int (a_cons e_int a_nil))))) (by show 5 ≤ 1000; decide)) (a_cons (e_tup (a_cons e_str (a_cons e_str (a_cons e_int (a_cons e_int (a_cons e_int a_nil))))) (by show 5 ≤ 1000; decide)) a_nil)) (by show 2 ≤ 1000; decide)) fun v1 H1 s1 t1 => ?_
    refine q_mkF (K := K) (ss := fixSs) (ls := fixLs) (a_cons (e_var rfl t1) (a_cons (e_tup (a_cons e_int (a_cons e_int (a_cons e_int (a_cons e_int (a_cons e_int (a_cons e_int (a_cons e_int (a_cons e_int a_nil)))))))) (by show 8 ≤ 1000; decide)) a_nil)) (pre_syms (by decide +kernel)) fix_good.1 fix_good.2 fun p va vl H2 np s2 FA => ?_
    refine q_set (K := K) (d := (symRow fixNames).d) (e_tupOf (fun p xs H Q hs hq => ⟨p, xs, rfl, .inl ⟨hs, hq⟩⟩) (l_lcL (K := K) (ds := fixNames.map PyData.str) (es := fixNames.map fun x => (FItem.mk (.sym x) .no .no).d) (l_lst (a_cons e_str (a_cons e_str (a_cons e_str (a_cons e_str (a_cons e_str (a_cons e_str a_nil)))))) (by decide)) rfl (by decide) (fun x => rfl) fun i d e x H3 h1 h2 s3 tx => ?_)) fun v3 H3 s3 t3 => ?_
    · obtain ⟨y, hy, rfl⟩ := get_map h1
      obtain ⟨y', hy', rfl⟩ := get_map h2
      rw [hy] at hy'
      cases hy'
      exact e_symItem rfl tx
    have FA3 := FA.same s3
    refine ⟨_, rfl, _, rfl, p, va, vl, v3, fixSs, fixLs, symRow fixNames, rfl, FA3, t3, sym_kn (fun x hx => ⟨(fix_kn x hx).1, Option.isSome_iff_exists.mp (fix_kn x hx).2⟩), by decide +kernel, fun q H4 nq s4 e4 => ?_⟩
    rw [fix_cls] at e4
    refine ⟨by show 6 ≤ sizeLine; decide, fun q2 nq2 => ?_⟩
    have s5 : Same H4 (upd H4 q2 (.lst (ords6.map V.str))) := same_new nq2
    refine ⟨.list (ords6.map PyData.str), .list (ords6.map PyData.str), .lst (SqL.of (s5 _ _ e4)) (TpL.of_strs ords6).dp, .lst (SqL.of upd_same) (TpL.of_strs ords6).dp, by decide +kernel, by decide +kernel, _, rfl, iteN ?_ ?_⟩
    · rw [SeqAt.eqv_refl _ (by decide +kernel)]
      exact Bool.false_ne_true
    have FA5 := FA3.same (s4.trans s5)
    have s05 := (((s1.trans s2).trans s3).trans s4).trans s5
    refine q_setL (K := K) (ds := ints4 6 6 0 0) (l_lcR (n := 4) rfl (by decide) (fun x => rfl) fun i e H6 he s6 => ?_) fun p6 x6 H6 n6 s6 e6 l6 => ?_
    · rw [← fix_sp.1] at he
      obtain ⟨y, hy, rfl⟩ := get_map he
      rw [List.getElem?_range (by have := (List.getElem?_eq_some_iff.mp hy).1; simpa using this)] at hy
      cases hy
      exact e_space rfl (FA5.same s6) rfl rfl rfl
    have FA6 := FA5.same s6
    refine ⟨_, rfl, by show 4 ≤ sizeLine; decide, fun q7 nq7 => ?_⟩
    have s7 : Same H6 (upd H6 q7 (.lst [.int 6, .int 6, .int 0, .int 0])) := same_new nq7
    refine ⟨.list (ints4 6 6 0 0), .list (ints4 6 6 0 0), .lst (SqL.of (s7 _ _ e6)) (l6.stay (.of s7)).dp, .lst (SqL.of upd_same) (.cons (.int _) (.cons (.int _) (.cons (.int _) (.cons (.int _) .nil)))), shp4, shp4, _, rfl, iteP eqv4 ?_⟩
    have FA7 := FA6.same s7
    have s07 := (s05.trans s6).trans s7
    refine l_lcR (K := K) (es := ints4 2 2 1 1) (n := 4) rfl (by decide) (fun x => rfl) (fun i e H6 he s6 => ?_) _ (Same.refl _) _ fun p8 x8 H8 n8 s8 e8 l8 => ?_
    · rw [← fix_sp.2] at he
      obtain ⟨y, hy, rfl⟩ := get_map he
      rw [List.getElem?_range (by have := (List.getElem?_eq_some_iff.mp hy).1; simpa using this)] at hy
      cases hy
      exact e_space rfl (FA7.same s6) rfl rfl rfl
    refine ⟨by show 4 ≤ sizeLine; decide, fun q9 nq9 => ?_⟩
    have s9 : Same H8 (upd H8 q9 (.lst [.int 2, .int 2, .int 1, .int 1])) := same_new nq9
    refine ⟨.list (ints4 2 2 1 1), .list (ints4 2 2 1 1), .lst (SqL.of (s9 _ _ e8)) (l8.stay (.of s9)).dp, .lst (SqL.of upd_same) (.cons (.int _) (.cons (.int _) (.cons (.int _) (.cons (.int _) .nil)))), shp4, shp4, ?_⟩
    rw [eqv4]
    exact k _ ((s07.trans s8).trans s9)
end
end Mg

set_option Elab.async false
set_option linter.all false
set_option maxRecDepth 100000
set_option maxHeartbeats 1000000
namespace Mg
open PySem L2
abbrev sLRow : Stmt := top 63
abbrev sLNuc : Stmt := top 64
abbrev sLItem : Stmt := top 65
/-! draws: the stream goes on, all else stays -/
structure SK (st pd pl : Addr) (H H' : Hp) : Prop where
  s0 : Stream H st pd pl
  s1 : Stream H' st pd pl
  kb : KeepB pl H H'
section
variable {st pd pl : Addr} {H H1 H2 : Hp}
theorem SK.refl (S : Stream H st pd pl) : SK st pd pl H H := ⟨S, S, KeepB.refl _ _⟩
theorem SK.trans (a : SK st pd pl H H1) (b : SK st pd pl H1 H2) : SK st pd pl H H2 := ⟨a.s0, b.s1, a.kb.trans b.kb⟩
theorem SK.of (S : Stream H st pd pl) (s : Same H H1) : SK st pd pl H H1 := ⟨S, S.new s, .of s⟩
theorem SK.tup (a : SK st pd pl H H1) : TupK H H1 := by
  obtain ⟨k, hk⟩ := a.s0.pl
  exact .keep a.kb hk
theorem SK.free (a : SK st pd pl H H1) {p : Addr} (h : H1 p = none) : H p = none := by
  cases e : H p with
  | none => rfl
  | some o =>
    by_cases c : p = pl
    · subst c
      obtain ⟨k, hk⟩ := a.s1.pl
      rw [hk] at h
      cases h
    · rw [a.kb _ _ e c] at h
      cases h
theorem Stream.ne {p : Addr} (S : Stream H st pd pl) (h : H p = none) : p ≠ pl := fun e => by
  obtain ⟨k, hk⟩ := S.pl
  rw [← e, h] at hk
  cases hk
/-- an object of our own changes -/
theorem Stream.own {p : Addr} {o : HO} {H0 : Hp} (S0 : Stream H0 st pd pl) (hp : H0 p = none) (S : Stream H st pd pl) : Stream (upd H p o) st pd pl := by
  obtain ⟨n1, n2, ds, k, h1, h2, h3, r⟩ := S
  obtain ⟨_, _, ds0, k0, g1, g2, g3, _⟩ := S0
  have e : ∀ {a : Addr} {u : HO}, H0 a = some u → a ≠ p := fun h z => by
    rw [z, hp] at h
    cases h
  exact ⟨n1, n2, ds, k, by rw [upd_ne (e g1)]; exact h1, by rw [upd_ne (e g2)]; exact h2, by rw [upd_ne (e g3)]; exact h3, r⟩
theorem SK.own {p : Addr} {o : HO} (a : SK st pd pl H H1) (hp : H p = none) : SK st pd pl H (upd H1 p o) := ⟨a.s0, a.s0.own hp a.s1, keep_upd_new a.kb hp⟩
end
def EvN (K : PySem.W.Frag) (st pd pl : Addr) (te : TE) (σ : L2.St) (H : Hp) (P : PyData → Prop) : Prop := ∀ H1, SK st pd pl H H1 → ∀ Q : VK, (∀ v d H2, SK st pd pl H1 H2 → P d → Tp K H2 v d → Q v H2) → te σ H1 Q
def EvNA (K : PySem.W.Frag) (st pd pl : Addr) (ta : TA) (σ : L2.St) (H : Hp) (P : List PyData → Prop) : Prop := ∀ H1, SK st pd pl H H1 → ∀ Q : List V → Hp → Prop, (∀ vs ds H2, SK st pd pl H1 H2 → P ds → TpL K H2 vs ds → Q vs H2) → ta σ H1 Q
/-- a new list -/
def EvNL (K : PySem.W.Frag) (st pd pl : Addr) (te : TE) (σ : L2.St) (H : Hp) (P : List PyData → Prop) : Prop := ∀ H1, SK st pd pl H H1 → ∀ Q : VK, (∀ p xs ds H2, H1 p = none → SK st pd pl H1 H2 → P ds → H2 p = some (.lst xs) → TpL K H2 xs ds → Q (.ref p) H2) → te σ H1 Q
section
variable {K : PySem.W.Frag} {st pd pl : Addr} {σ : L2.St} {H H' : Hp} {te ta tb : TE} {tas : TA} {P P' : PyData → Prop} {R : List PyData → Prop} {v : V} {d : PyData} {ds : List PyData}
theorem EvN.mono (h : EvN K st pd pl te σ H P) (s : SK st pd pl H H') : EvN K st pd pl te σ H' P := fun H1 s1 Q q => h H1 (s.trans s1) Q q
theorem n_imp (h : EvN K st pd pl te σ H P) (i : ∀ d, P d → P' d) : EvN K st pd pl te σ H P' := fun H1 s Q q => h H1 s Q fun v d H2 s2 p t => q v d H2 s2 (i d p) t
theorem n_var {i : Nat} (h : σ[i]? = some (some v)) (t : Tp K H v d) (p : P d) : EvN K st pd pl (tVar i) σ H P := fun H1 s Q q => ⟨v, h, q v d H1 (.refl s.s1) p (t.stay s.tup)⟩
theorem n_c (t : ∀ H, Tp K H v d) (p : P d) : EvN K st pd pl (tC v) σ H P := fun H1 s Q q => q v d H1 (.refl s.s1) p (t _)
theorem na_nil : EvNA K st pd pl tNil σ H (fun ds => ds = []) := fun H1 s Q q => q _ _ H1 (.refl s.s1) rfl .nil
theorem na_cons (h : EvN K st pd pl te σ H P) (hs : EvNA K st pd pl tas σ H R) : EvNA K st pd pl (tCons te tas) σ H (fun ds => ∃ d r, ds = d :: r ∧ P d ∧ R r) := fun H1 s Q q =>
  h H1 s _ fun v d H2 s2 p t => hs H2 (s.trans s2) _ fun vs ds H3 s3 r ts => q _ _ H3 (s2.trans s3) ⟨d, ds, rfl, p, r⟩ (.cons (t.stay s3.tup) ts)
theorem n_tup (h : EvNA K st pd pl tas σ H R) (hl : ∀ ds, R ds → ds.length ≤ 1000) : EvN K st pd pl (tTup tas) σ H (fun d => ∃ ds, d = .tuple ds ∧ R ds) := fun H1 s Q q =>
  h H1 s _ fun vs ds H2 s2 r ts => ⟨by rw [ts.len]; exact sz5 (by have := hl ds r; omega), fun p hp => q _ _ _ (s2.trans (.of s2.s1 (same_new hp))) ⟨ds, rfl, r⟩ (.mk (SqT.of upd_same) (ts.stay (.of (same_new hp))))⟩
theorem n_call {sp : Sp} {E : XK} {vs : List V} (ha : ∀ (H : Hp) (Q : List V → Hp → Prop), Q vs H → tas σ H Q) (hs : ∀ H1, SK st pd pl H H1 → ∀ Q : VK, (∀ v d H2, SK st pd pl H1 H2 → P d → Tp K H2 v d → Q v H2) → sp vs H1 Q E) : EvN K st pd pl (tCall sp [] E tas) σ H P := fun H1 s Q q =>
  ha H1 _ (by rw [List.append_nil]; exact hs H1 s Q q)
theorem n_next {E : XK} {i : Nat} {m : Int} (hi : σ[i]? = some (some (.ref st))) (hm : 0 < m) : EvN K st pd pl (tCall spNext [] E (tCons (tVar i) (tCons (tC (.int m)) tNil))) σ H (fun d => ∃ v, d = .int v ∧ 0 ≤ v ∧ v < m) :=
  n_call (vs := [.ref st, .int m]) (fun H Q q => ⟨_, hi, q⟩) fun H1 s Q q => ⟨st, pd, pl, m, rfl, hm, s.s1, fun v H2 a b kb S => q _ _ H2 ⟨s.s1, S, kb⟩ ⟨v, rfl, a, b⟩ (.int _)⟩
theorem n_addI {f : Int → Int → Int} {A B : Int → Prop} (ha : EvN K st pd pl ta σ H fun d => ∃ v, d = .int v ∧ A v) (hb : EvN K st pd pl tb σ H fun d => ∃ v, d = .int v ∧ B v) : EvN K st pd pl (tOp (rI0 fun i j => .int (f i j)) ta tb) σ H (fun d => ∃ v, d = .int v ∧ ∃ i j, v = f i j ∧ A i ∧ B j) := fun H1 s Q q =>
  ha H1 s _ fun v1 d1 H2 s2 ⟨i, e1, a⟩ t1 => hb H2 (s.trans s2) _ fun v2 d2 H3 s3 ⟨j, e2, b⟩ t2 => by
    subst e1
    subst e2
    rw [tp_int t1, tp_int t2]
    exact ⟨i, j, rfl, rfl, q _ _ H3 (s2.trans s3) ⟨_, rfl, i, j, rfl, a, b⟩ (.int _)⟩
theorem n_intC {i : Int} {A : Int → Prop} (a : A i) : EvN K st pd pl (tC (.int i)) σ H (fun d => ∃ v, d = .int v ∧ A v) := n_c (fun _ => .int i) ⟨i, rfl, a⟩
/-- an item of a list made on the way, by a number drawn -/
theorem n_ixL {A : Int → Prop} (ha : EvNL K st pd pl ta σ H R) (hb : EvN K st pd pl tb σ H fun d => ∃ v, d = .int v ∧ A v) (hp : ∀ ds i, R ds → A i → ∃ d, atI ds i = some d ∧ P d) : EvN K st pd pl (tOp (rIxL K) ta tb) σ H P := fun H1 s Q q =>
  ha H1 s _ fun p xs ds H2 hp0 s2 r e l => hb H2 (s.trans s2) _ fun v2 d2 H3 s3 ⟨i, e2, b⟩ t2 => by
    subst e2
    rw [tp_int t2]
    obtain ⟨d, hd, pd'⟩ := hp ds i r b
    obtain ⟨n, x, h1, h2, h3⟩ := atI_get l.len hd
    exact ⟨p, xs, i, x, rfl, rfl, SqL.of (s3.kb _ _ e (s.s1.ne hp0)), h1, q _ _ H3 (s2.trans s3) pd' ((l.at h2 h3).stay s3.tup)⟩
theorem nl_lst (h : EvNA K st pd pl tas σ H R) (hl : ∀ ds, R ds → ds.length ≤ 1000) : EvNL K st pd pl (tLst tas) σ H R := fun H1 s Q q =>
  h H1 s _ fun vs ds H2 s2 r ts => ⟨by rw [ts.len]; exact sz5 (by have := hl ds r; omega), fun p hp => q p _ _ _ (s2.free hp) (s2.trans (.of s2.s1 (same_new hp))) r upd_same (ts.stay (.of (same_new hp)))⟩
theorem n_tupOf {r : List V → Hp → VK → Prop} (hr : ∀ p xs H Q, SqL K H p xs → (∀ l, H l = none → Q (V.ref l) (upd H l (.tup xs))) → r [.ref p] H Q) (h : EvNL K st pd pl te σ H R) : EvN K st pd pl (tCB r (tCons te tNil)) σ H (fun d => ∃ ds, d = .tuple ds ∧ R ds) := fun H1 s Q q => h H1 s _ fun p xs ds H2 hp s2 rr e l =>
  hr p xs H2 Q (SqL.of e) fun a ha => q _ _ _ (s2.trans (.of s2.s1 (same_new ha))) ⟨ds, rfl, rr⟩ (.mk (SqT.of upd_same) (l.stay (.of (same_new ha))))
/-- [e for k in range(n)], each item drawn -/
theorem nl_range {A : Int → Prop} {j : Nat} {vs : List Nat} (ha : EvN K st pd pl ta σ H fun d => ∃ v, d = .int v ∧ A v) (hA : ∀ i, A i → 0 ≤ i ∧ i ≤ 1000) (hw : ∀ x, wipe ((wipe σ vs).set j (some x)) vs = wipe σ vs) (he : ∀ (i : Int) H1, SK st pd pl H H1 → EvN K st pd pl te ((wipe σ vs).set j (some (.int i))) H1 P) :
    EvNL K st pd pl (tLc (iRng1 (tCons ta tNil)) (gName j) tYes te vs) σ H (fun ds => ∃ n : Int, A n ∧ ds.length = n.toNat ∧ ∀ d ∈ ds, P d) := fun H0 s Q q => ha H0 s _ fun v d H1 s1 ⟨n, e1, an⟩ t1 => by
  subst e1
  rw [tp_int t1]
  have b := hA n an
  refine ⟨n, rfl, by omega, by omega, fun D hD => ?_⟩
  have sD : SK st pd pl H1 (upd H1 D (.lst [])) := .of s1.s1 (same_new hD)
  refine lc_word (n := n.toNat) (fun i acc H' => ∃ ds, TpL K H' acc ds ∧ ds.length = i ∧ (∀ d ∈ ds, P d) ∧ SK st pd pl H1 H') ⟨[], .nil, rfl, (fun d h => nomatch h), sD⟩ (fun i acc H' hi _ => hi) (fun acc H' _ => Nat.le_refl _) ?_ ?_
  · rintro i acc x H' H'' RR Z hi ⟨ds, ts, el, hp, s2⟩ eD ⟨rfl, rfl⟩ kR
    refine ⟨hw _, ?_⟩
    refine iteT (B := Z H'') ?_
    refine he _ H'' ((s.trans s1).trans s2) H'' (.refl s2.s1) RR fun v d H3 s3 p t => ?_
    have eD3 := s3.kb _ _ eD (s1.s1.ne hD)
    refine kR v H3 eD3 (by rw [ts.len]; exact sz6 (by omega)) ⟨ds ++ [d], ((ts.stay s3.tup).app (.one t)).stay (.keep keep_upd eD3), by rw [List.length_append, el]; rfl, fun d' h => ?_, (s2.trans s3).own hD⟩
    rcases List.mem_append.mp h with h | h
    · exact hp d' h
    · cases List.mem_singleton.mp h
      exact p
  · rintro acc H' ⟨ds, ts, el, hp, s2⟩ eD
    exact q D acc ds H' (s1.free hD) (s1.trans s2) ⟨n, an, el, hp⟩ eD ts
end
section
variable {K : PySem.W.Frag} {st pd pl : Addr} {σ : L2.St} {H H0 : Hp} {te : TE} {P : PyData → Prop} {R : List PyData → Prop} {tz : TS} {D : Ends} {Q : VK}
theorem q_setN {i : Nat} (S : Stream H st pd pl) (h : EvN K st pd pl te σ H P) (k : ∀ v d H1, SK st pd pl H H1 → P d → Tp K H1 v d → tz D (σ.set i (some v)) H1) : tSeq (tAsg te (gName i)) tz D σ H := h H (.refl S) _ fun v d H1 s p t => k v d H1 s p t
theorem q_setNL {i : Nat} (S : Stream H st pd pl) (h : EvNL K st pd pl te σ H R) (k : ∀ p xs ds H1, H p = none → SK st pd pl H H1 → R ds → H1 p = some (.lst xs) → TpL K H1 xs ds → tz D (σ.set i (some (.ref p))) H1) : tSeq (tAsg te (gName i)) tz D σ H := h H (.refl S) _ fun p xs ds H1 n s r e l => k p xs ds H1 n s r e l
theorem retN (s : SK st pd pl H0 H) (h : EvN K st pd pl te σ H P) (k : ∀ v d H', SK st pd pl H0 H' → P d → Tp K H' v d → Q v H') (e : D.rt = Q) : tRet te D σ H := by
  show te σ H D.rt
  rw [e]
  exact h H (.refl s.s1) _ fun v d H1 s1 p t => k v d H1 (s.trans s1) p t
end
/-! what is drawn -/
def nmsP (x : Str) : Prop := x ∈ nms
def delP (o : Option Str) : Prop := o = none ∨ o = some "(" ∨ o = some ")" ∨ o = some "@alpha"
def bI : Nat → Nat
  | 0 => 1
  | n + 1 => 8 * bI n + 12
def bN : Nat → Nat
  | 0 => 1
  | n + 1 => 4 * bI n + 6
structure DrI (n : Nat) (i : FItem) : Prop where
  dep : i.dep ≤ n
  len : i.words.length ≤ bI n
  good : i.good nmsP delP
structure DrN (n : Nat) (i : FNuc) : Prop where
  dep : i.dep ≤ n
  len : i.words.length ≤ bN n
  good : i.good nmsP delP
structure DrR (n m : Nat) (r : FRow) : Prop where
  len : r.items.length ≤ m
  all : ∀ i ∈ r.items, DrI n i
theorem DrR.dep {n m : Nat} {r : FRow} (h : DrR n m r) : r.dep ≤ n := FRow.dep_le.mpr fun i hi => (h.all i hi).dep
theorem DrR.good {n m : Nat} {r : FRow} (h : DrR n m r) : r.good nmsP delP := (FRow.good_iff _ _).mpr fun i hi => (h.all i hi).good
theorem DrR.words {n m : Nat} {r : FRow} (h : DrR n m r) : r.words.length ≤ m * bI n := by
  have : ∀ l : List FItem, (∀ i ∈ l, DrI n i) → (l.flatMap FItem.words).length ≤ l.length * bI n := by
    intro l
    induction l with
    | nil => intro _; simp
    | cons i l ih =>
      intro a
      have b := ih fun j hj => a j (List.mem_cons_of_mem _ hj)
      have c := (a i (List.mem_cons_self ..)).len
      rw [List.flatMap_cons, List.length_append, List.length_cons, Nat.succ_mul]
      omega
  rw [FRow.words_eq]
  exact Nat.le_trans (this _ h.all) (Nat.mul_le_mul_right _ h.len)
theorem DrR.of {n m : Nat} {l : List FItem} (hl : l.length ≤ m) (h : ∀ i ∈ l, DrI n i) : DrR n m (FRow.of l) := ⟨by rw [FRow.items_of]; exact hl, by rw [FRow.items_of]; exact h⟩
def spLRow (K : PySem.W.Frag) (n : Nat) : Sp := fun vs H Q _ => ∃ (st pd pl : Addr) (dp most : Int), vs = [.ref st, .int dp, .int most] ∧ Stream H st pd pl ∧ 1 ≤ n ∧ dp + n = 4 ∧ 0 ≤ most ∧ most ≤ 10 ∧ ∀ v r H', SK st pd pl H H' → DrR (n - 1) most.toNat r → Tp K H' v r.d → Q v H'
def spLNuc (K : PySem.W.Frag) (n : Nat) : Sp := fun vs H Q _ => ∃ (st pd pl : Addr) (dp : Int), vs = [.ref st, .int dp] ∧ Stream H st pd pl ∧ dp + n = 3 ∧ ∀ v (m : FNuc) H', SK st pd pl H H' → DrN n m → Tp K H' v m.d → Q v H'
def spLItem (K : PySem.W.Frag) (n : Nat) : Sp := fun vs H Q _ => ∃ (st pd pl : Addr) (dp : Int), vs = [.ref st, .int dp] ∧ Stream H st pd pl ∧ dp + n = 3 ∧ ∀ v (m : FItem) H', SK st pd pl H H' → DrI n m → Tp K H' v m.d → Q v H'
section
variable {P : Program} {w : World} {K : PySem.W.Frag} {mg : Str → Option Value} {base : Heap}
theorem scLRow : FnScope ["stream", "depth", "most", "k"] ["stream", "depth", "most"] (defScope sLRow) := ⟨rfl, rfl, rfl, by decide +kernel, rfl, by decide +kernel, by decide +kernel⟩
theorem items_of_ds {Q : FItem → Prop} : ∀ {ds : List PyData}, (∀ d ∈ ds, ∃ i : FItem, d = i.d ∧ Q i) → ∃ l : List FItem, ds = l.map FItem.d ∧ l.length = ds.length ∧ ∀ i ∈ l, Q i
  | [], _ => ⟨[], rfl, rfl, fun i h => nomatch h⟩
  | d :: ds, h => by
    obtain ⟨i, rfl, q⟩ := h d (List.mem_cons_self ..)
    obtain ⟨l, e, el, hl⟩ := items_of_ds fun d' h' => h d' (List.mem_cons_of_mem _ h')
    exact ⟨i :: l, by rw [e]; rfl, by rw [List.length_cons, List.length_cons, el], fun j hj => (List.mem_cons.mp hj).elim (fun z => z ▸ q) (hl j)⟩
theorem ok_lrow1 {n : Nat} {f : Addr} {fd : FuncData} (F : Fun K "_law_row" "_law_row" sLRow f fd) (T : TxtB mg) (C_law_next : Cal P w K mg base CX0 1 "_law_next" ["stream", "many"] spNext) (C_law_item : Cal P w K mg base CX0 (3 * n + 3) "_law_item" ["stream", "depth"] (spLItem K n)) : FnOk P w K mg base CX0 (3 * n + 4) f fd ["stream", "depth", "most"] (spLRow K (n + 1)) := by
  have sc := scLRow
  refine F.ok scLRow (fun vs H Q E h => ?_) (fun cdv A outer s H vs Q E hr h => ?_)
  · obtain ⟨st, pd, pl, dp, most, rfl, _⟩ := h
    rfl
  · obtain ⟨st, pd, pl, dp, most, rfl, S, _, hd, m0, m1, k⟩ := h
    refine ⟨_, (pss_one (ps_ret (pe_callTy call_tuple_of (by rfl) T.b_tuple (by decide +kernel) (pa_cons (pe_lc (own := [("k", 3)]) rfl sc.nd (pi_range1 rfl T.range (pa_cons (pe_cal C_law_next (hr.mono (by omega)) rfl pass0 (pa_cons (pv 0) (pa_cons (pe_op op_add (pv 2) pe_int) pa_nil))) pa_nil)) (blkOk_by (own := [("k", 3)]) (N := ["stream", "depth", "most", "k"]) (sc := defScope sLRow) (by decide +kernel)) (fun _ _ _ _ _ => (pg_name (i := 3) sc.nd rfl (Or.inl rfl))) (fun _ _ _ _ _ => pts_nil) (fun _ _ _ _ _ => (pe_cal C_law_item (hr.mono (by omega)) rfl pass0 (pa_cons (pv 0) (pa_cons (pv 1) pa_nil))))) pa_nil)))), ?_⟩
    refine n_tupOf (K := K) (st := st) (pd := pd) (pl := pl) (H := H) (fun p xs H Q hs hq => ⟨p, xs, rfl, .inl ⟨hs, hq⟩⟩) (nl_range (A := fun i => 0 ≤ i ∧ i < most + 1) (P := fun d => ∃ i : FItem, d = i.d ∧ DrI n i) ?_ (fun i hi => by omega) (fun x => rfl) ?_) H (.refl S) _ ?_
    · exact n_call (vs := [.ref st, .int (most + 1)]) (fun H Q q => ⟨_, rfl, _, rfl, _, _, rfl, rfl, q⟩) fun H1 s Q q => ⟨st, pd, pl, most + 1, rfl, by omega, s.s1, fun v H2 a b kb S => q _ _ H2 ⟨s.s1, S, kb⟩ ⟨v, rfl, a, b⟩ (.int _)⟩
    · exact fun i H1 s => n_call (vs := [.ref st, .int dp]) (fun H Q q => ⟨_, rfl, _, rfl, q⟩) fun H2 s2 Q q => ⟨st, pd, pl, dp, rfl, s2.s1, by omega, fun v m H3 s3 dr t => q _ _ H3 s3 ⟨m, rfl, dr⟩ t⟩
    · rintro v d H2 s2 ⟨ds, rfl, i, ai, el, hp⟩ t
      obtain ⟨l, rfl, ll, hl⟩ := items_of_ds hp
      refine k v (FRow.of l) H2 s2 (.of (by omega) hl) ?_
      rw [FRow.d, FRow.ds_eq, FRow.items_of]
      exact t
theorem scLNuc : FnScope ["stream", "depth", "kind", "over", "ends", "width", "rows", "k", "j"] ["stream", "depth"] (defScope sLNuc) := ⟨rfl, rfl, rfl, by decide +kernel, rfl, by decide +kernel, by decide +kernel⟩
theorem r_row {σ : L2.St} {H : Hp} {st pd pl : Addr} {n : Nat} {E : XK} {tas : TA} {dp m : Int} (ha : ∀ (H : Hp) (Q : List V → Hp → Prop), Q [.ref st, .int dp, .int m] H → tas σ H Q) (hd : dp + n = 4) (h1 : 1 ≤ n) (m0 : 0 ≤ m) (m1 : m ≤ 10) : EvN K st pd pl (tCall (spLRow K n) [] E tas) σ H (fun d => ∃ r : FRow, d = r.d ∧ DrR (n - 1) m.toNat r) :=
  n_call ha fun H1 s Q q => ⟨st, pd, pl, dp, m, rfl, s.s1, h1, hd, m0, m1, fun v r H2 s2 dr t => q _ _ H2 s2 ⟨r, rfl, dr⟩ t⟩
theorem nu_of {n : Nat} {m : FNuc} (h1 : m.dep ≤ n + 1) (h2 : m.words.length ≤ 4 * bI n + 6) (h3 : m.good nmsP delP) : DrN (n + 1) m := ⟨h1, h2, h3⟩
def ends4 : List PyData := [.none, .str "(", .str ")", .str "@alpha"]
theorem ends_ok {d : PyData} (h : d ∈ ends4) : ∃ o, d = optD o ∧ delP o := by
  simp only [ends4, List.mem_cons, List.not_mem_nil, or_false] at h
  rcases h with rfl | rfl | rfl | rfl
  · exact ⟨none, rfl, .inl rfl⟩
  · exact ⟨some "(", rfl, .inr (.inl rfl)⟩
  · exact ⟨some ")", rfl, .inr (.inr (.inl rfl))⟩
  · exact ⟨some "@alpha", rfl, .inr (.inr (.inr rfl))⟩
theorem cells_of_ds {Q : FRow → Prop} : ∀ {ds : List PyData}, (∀ d ∈ ds, ∃ i : FRow, d = i.d ∧ Q i) → ∃ l : List FRow, ds = l.map FRow.d ∧ l.length = ds.length ∧ ∀ i ∈ l, Q i
  | [], _ => ⟨[], rfl, rfl, fun i h => nomatch h⟩
  | d :: ds, h => by
    obtain ⟨i, rfl, q⟩ := h d (List.mem_cons_self ..)
    obtain ⟨l, e, el, hl⟩ := cells_of_ds fun d' h' => h d' (List.mem_cons_of_mem _ h')
    exact ⟨i :: l, by rw [e]; rfl, by rw [List.length_cons, List.length_cons, el], fun j hj => (List.mem_cons.mp hj).elim (fun z => z ▸ q) (hl j)⟩
theorem lines_of_ds {Q : FCells → Prop} : ∀ {ds : List PyData}, (∀ d ∈ ds, ∃ i : FCells, d = i.d ∧ Q i) → ∃ l : List FCells, ds = l.map FCells.d ∧ l.length = ds.length ∧ ∀ i ∈ l, Q i
  | [], _ => ⟨[], rfl, rfl, fun i h => nomatch h⟩
  | d :: ds, h => by
    obtain ⟨i, rfl, q⟩ := h d (List.mem_cons_self ..)
    obtain ⟨l, e, el, hl⟩ := lines_of_ds fun d' h' => h d' (List.mem_cons_of_mem _ h')
    exact ⟨i :: l, by rw [e]; rfl, by rw [List.length_cons, List.length_cons, el], fun j hj => (List.mem_cons.mp hj).elim (fun z => z ▸ q) (hl j)⟩
theorem cells_words_le {b : Nat} {s : Str} : ∀ {c : FCells}, (∀ r ∈ c.rows, r.words.length ≤ b) → (c.words s).length ≤ c.rows.length * (b + 1)
  | .nil, _ => by simp [FCells.words]
  | .cons r c, h => by
    have h1 := h r (List.mem_cons_self ..)
    have h2 := cells_words_le (s := "&") (c := c) fun q hq => h q (List.mem_cons_of_mem _ hq)
    rw [FCells.words, FCells.rows, List.length_cons, List.length_append, List.length_cons, Nat.succ_mul]
    omega
theorem grid_words_le {b m : Nat} {s : Str} : ∀ {g : FGrid}, (∀ c ∈ g.lines, c.rows.length ≤ m) → (∀ c ∈ g.lines, ∀ r ∈ c.rows, r.words.length ≤ b) → (g.words s).length ≤ g.lines.length * (m * (b + 1))
  | .nil, _, _ => by simp [FGrid.words]
  | .cons c g, h, h' => by
    have h1 := cells_words_le (s := s) (h' c (List.mem_cons_self ..))
    have h2 := grid_words_le (s := "~") (g := g) (fun q hq => h q (List.mem_cons_of_mem _ hq)) fun q hq => h' q (List.mem_cons_of_mem _ hq)
    have h3 := Nat.mul_le_mul_right (b + 1) (h c (List.mem_cons_self ..))
    rw [FGrid.words, FGrid.lines, List.length_append, List.length_cons, Nat.succ_mul]
    omega
theorem ok_lnuc {n : Nat} (hn : n ≤ 3) {f : Addr} {fd : FuncData} (F : Fun K "_law_nucleus" "_law_nucleus" sLNuc f fd) (T : TxtB mg) (C_law_next : Cal P w K mg base CX0 1 "_law_next" ["stream", "many"] spNext) (C_law_names : Cal P w K mg base CX0 1 "_law_names" [] spNames)
    (C_law_row : Cal P w K mg base CX0 (3 * n + 1) "_law_row" ["stream", "depth", "most"] (spLRow K n)) : FnOk P w K mg base CX0 (3 * n + 2) f fd ["stream", "depth"] (spLNuc K n) := by
  have sc := scLNuc
  refine F.ok scLNuc (fun vs H Q E h => ?_) (fun cdv A outer s H vs Q E hr h => ?_)
  · obtain ⟨st, pd, pl, dp, rfl, _⟩ := h
    rfl
  · obtain ⟨st, pd, pl, dp, rfl, S, hd, k⟩ := h
    refine ⟨_, (pss_cons (ps_set (i := 2) sc.nd rfl (Or.inl rfl) (pe_cal C_law_next (hr.mono (by omega)) rfl pass0 (pa_cons (pv 0) (pa_cons pe_int pa_nil))))
  (pss_cons (ps_if (PW.pt (pw_or (pt_cmpR op_gt (pv 1) pe_int (nomark _)) (pw_or1 (pt_cmpR op_lt (pv 2) pe_int (nomark _)))))
  (pss_one (ps_ret (pe_tup (pa_cons pe_str (pa_cons (pe_ix ix_list (by exact (pe_cal0 C_law_names (hr.mono (by omega)) rfl pass0)) (pe_cal C_law_next (hr.mono (by omega)) rfl pass0 (pa_cons (pv 0) (pa_cons pe_int pa_nil))) (fun _ _ => rfl)) pa_nil)))))
  pss_nil)
  (pss_cons (ps_if (pt_cmpR op_eq (pv 2) pe_int (nomark _))
  (pss_one (ps_ret (pe_tup (pa_cons pe_str (pa_cons (pe_cal C_law_row (hr.mono (by omega)) rfl pass0 (pa_cons (pv 0) (pa_cons (pe_op op_add (pv 1) pe_int) (pa_cons pe_int pa_nil)))) pa_nil)))))
  pss_nil)
  (pss_cons (ps_if (pt_cmpR op_eq (pv 2) pe_int (nomark _))
  (pss_cons (ps_set (i := 3) sc.nd rfl (Or.inl rfl) (pe_cal C_law_row (hr.mono (by omega)) rfl pass0 (pa_cons (pv 0) (pa_cons (pe_op op_add (pv 1) pe_int) (pa_cons pe_int pa_nil)))))
  (pss_one (ps_ret (pe_tup (pa_cons pe_str (pa_cons (pv 3) (pa_cons (pe_cal C_law_row (hr.mono (by omega)) rfl pass0 (pa_cons (pv 0) (pa_cons (pe_op op_add (pv 1) pe_int) (pa_cons pe_int pa_nil)))) pa_nil)))))))
  pss_nil)
  (pss_cons (ps_if (pt_cmpR op_eq (pv 2) pe_int (nomark _))
  (pss_one (ps_ret (pe_tup (pa_cons pe_str (pa_cons (pe_cal C_law_row (hr.mono (by omega)) rfl pass0 (pa_cons (pv 0) (pa_cons (pe_op op_add (pv 1) pe_int) (pa_cons pe_int pa_nil)))) pa_nil)))))
  pss_nil)
  (pss_cons (ps_if (pt_cmpR op_eq (pv 2) pe_int (nomark _))
  (pss_cons (ps_setLc (i := 4) (own := [("k", 7)]) rfl sc.nd rfl rfl (sw_true rfl rfl rfl (by decide +kernel)) (pi_range1 rfl T.range (pa_cons pe_int pa_nil)) (blkOk_by (own := [("k", 7)]) (N := ["stream", "depth", "kind", "over", "ends", "width", "rows", "k", "j"]) (sc := defScope sLNuc) (by decide +kernel)) (fun _ _ _ _ _ => (pg_name (i := 7) sc.nd rfl (Or.inl rfl))) (fun _ _ _ _ _ => pts_nil) (fun _ _ _ _ _ => (pe_ix (r := rIxL K) ix_list (pe_lst (pa_cons pe_non (pa_cons pe_str (pa_cons pe_str (pa_cons pe_str pa_nil))))) (pe_cal C_law_next (hr.mono (by omega)) rfl pass0 (pa_cons (pv 0) (pa_cons pe_int pa_nil))) (fun _ _ => rfl))))
  (pss_one (ps_ret (pe_tup (pa_cons pe_str (pa_cons (pe_ix ix_list (pv 4) pe_int (fun _ _ => rfl)) (pa_cons (pe_ix ix_list (pv 4) pe_int (fun _ _ => rfl)) (pa_cons (pe_cal C_law_row (hr.mono (by omega)) rfl pass0 (pa_cons (pv 0) (pa_cons (pe_op op_add (pv 1) pe_int) (pa_cons pe_int pa_nil)))) pa_nil))))))))
  pss_nil)
  (pss_cons (ps_set (i := 5) sc.nd rfl (Or.inl rfl) (pe_op op_add pe_int (pe_cal C_law_next (hr.mono (by omega)) rfl pass0 (pa_cons (pv 0) (pa_cons pe_int pa_nil)))))
  (pss_cons (ps_set (i := 6) sc.nd rfl (Or.inl rfl) (pe_lst pa_nil))
  (pss_cons (ps_for PassesOwn.never rfl (pi_range1 rfl T.range (pa_cons (pe_op op_add pe_int (pe_cal C_law_next (hr.mono (by omega)) rfl pass0 (pa_cons (pv 0) (pa_cons pe_int pa_nil)))) pa_nil)) (pg_name (i := 7) sc.nd rfl (Or.inl rfl))
  (pss_one (ps_expr (pe_bm PySem.F.plainAttrs_list PySem.F.slot_list_append PySem.F.type_list_append mt_append (pv 6) (pa_cons (pe_callTy call_tuple_of (by rfl) T.b_tuple (by decide +kernel) (pa_cons (pe_lc (own := [("j", 8)]) rfl sc.nd (pi_range1 rfl T.range (pa_cons (pv 5) pa_nil)) (blkOk_by (own := [("j", 8)]) (N := ["stream", "depth", "kind", "over", "ends", "width", "rows", "k", "j"]) (sc := defScope sLNuc) (by decide +kernel)) (fun _ _ _ _ _ => (pg_name (i := 8) sc.nd rfl (Or.inl rfl))) (fun _ _ _ _ _ => pts_nil) (fun _ _ _ _ _ => (pe_cal C_law_row (hr.mono (by omega)) rfl pass0 (pa_cons (pv 0) (pa_cons (pe_op op_add (pv 1) pe_int) (pa_cons pe_int pa_nil)))))) pa_nil)) pa_nil)))))
  (pss_one (ps_ret (pe_tup (pa_cons pe_str (pa_cons (pe_callTy call_tuple_of (by rfl) T.b_tuple (by decide +kernel) (pa_cons (pv 6) pa_nil)) pa_nil)))))))))))))), ?_⟩
    have hst : ∀ {l : List (Option V)}, (some (V.ref st) :: l)[0]? = some (some (V.ref st)) := rfl
    refine n_next (K := K) (st := st) (pd := pd) (pl := pl) (H := H) rfl (by decide) H (.refl S) _ ?_
    rintro v d H1 s1 ⟨kd, rfl, k0, k12⟩ t1
    obtain rfl := tp_int t1
    -- the symbol
    have sym : ∀ D : Ends, D.rt = Q → ∀ σ : L2.St, σ[0]? = some (some (.ref st)) → ∀ te, te = tTup (tCons (tC (.str "symbol")) (tCons (tOp (rIxL K) (tCall spNames [] E0 tNil) (tCall spNext [] E0 (tCons (tVar 0) (tCons (tC (.int 12)) tNil)))) tNil)) → tRet te D σ H1 := by
      rintro D eD σ h0 te rfl
      show tTup _ σ H1 D.rt
      rw [eD]
      refine n_tup (K := K) (R := fun ds => ∃ x, ds = [.str "symbol", .str x] ∧ x ∈ nms) (fun H2 s2 Q2 q2 => na_cons (P := fun d => d = .str "symbol") (n_c (fun _ => .str _) rfl) (na_cons (P := fun d => ∃ x, d = .str x ∧ x ∈ nms) (n_ixL (R := fun ds => ds = nms.map PyData.str) ?_ (n_next h0 (by decide)) ?_) na_nil) H2 s2 Q2 ?_) ?_ H1 s1 _ ?_
      · intro H3 s3 Q3 q3
        refine ⟨rfl, fun l hl => q3 l _ _ _ hl (.of s3.s1 (same_new hl)) rfl upd_same (TpL.of_strs _)⟩
      · rintro ds i rfl ⟨i0, i1⟩
        obtain ⟨j, rfl⟩ := Int.eq_ofNat_of_zero_le i0
        have j12 : j < nms.length := by show j < 12; omega
        exact ⟨.str nms[j], atI_nat (map_get (List.getElem?_eq_getElem j12)), nms[j], rfl, List.getElem_mem j12⟩
      · rintro vs ds H3 s3 ⟨d, r, rfl, rfl, d2, r2, rfl, ⟨x, rfl, hx⟩, rfl⟩ ts
        exact q2 _ _ H3 s3 ⟨x, rfl, hx⟩ ts
      · rintro ds ⟨x, rfl, _⟩
        exact Nat.le_of_ble_eq_true rfl
      · rintro v d H2 s2 ⟨ds, rfl, x, rfl, hx⟩ t
        refine k v (.sym x) H2 (s1.trans s2) ⟨Nat.zero_le _, ?_, hx⟩ t
        show 1 ≤ bN n
        cases n with
        | zero => exact Nat.le_refl _
        | succ m => show 1 ≤ 4 * bI m + 6; omega
    by_cases c1 : 2 < dp
    · exact ⟨_, rfl, _, _, rfl, rfl, _, rfl, iteP (decide_eq_true c1) (sym _ rfl _ rfl _ rfl)⟩
    refine ⟨_, rfl, _, _, rfl, rfl, _, rfl, iteN (by simpa using c1) ?_⟩
    by_cases c2 : kd < 7
    · exact ⟨_, rfl, _, _, rfl, rfl, _, rfl, iteP (decide_eq_true c2) (sym _ rfl _ rfl _ rfl)⟩
    refine ⟨_, rfl, _, _, rfl, rfl, _, rfl, iteN (by simpa using c2) ?_⟩
    obtain ⟨m, rfl⟩ : ∃ m, n = m + 1 := ⟨n - 1, by omega⟩
    have hd4 : (dp + 1) + ((m + 1 : Nat) : Int) = 4 := by omega
    have row : ∀ {H2 : Hp} {σ : L2.St} {q : Int} {tas : TA}, (∀ (H : Hp) (Q : List V → Hp → Prop), Q [.ref st, .int (dp + 1), .int q] H → tas σ H Q) → 0 ≤ q → q ≤ 10 → EvN K st pd pl (tCall (spLRow K (m + 1)) [] E0 tas) σ H2 (fun d => ∃ r : FRow, d = r.d ∧ DrR m q.toNat r) := fun ha a b => r_row ha hd4 (by omega) a b
    by_cases c7 : kd = 7
    · subst c7
      refine ⟨_, rfl, rfl, _, rfl, iteP (decide_eq_true rfl) ?_⟩
      refine n_tup (K := K) (na_cons (P := fun d => d = .str "group") (n_c (fun _ => .str _) rfl) (na_cons (row (q := 2) (fun H Q q => ⟨_, rfl, _, rfl, _, _, rfl, rfl, q⟩) (by decide) (by decide)) na_nil)) ?_ H1 s1 _ ?_
      · rintro ds ⟨d, r, rfl, rfl, d2, r2, rfl, _, rfl⟩
        exact Nat.le_of_ble_eq_true rfl
      · rintro v d H2 s2 ⟨ds, rfl, d, r, rfl, rfl, d2, r2, rfl, ⟨q, rfl, dq⟩, rfl⟩ t
        have w1 : _ ≤ 2 * bI m := dq.words
        have d1 := dq.dep
        exact k v (.group q) H2 (s1.trans s2) (nu_of (by simp [FNuc.dep]; omega) (by simp [FNuc.words]; omega) dq.good) t
    refine ⟨_, rfl, rfl, _, rfl, iteN (by rw [decide_eq_true_eq]; intro z; injection z with z; exact c7 z) ?_⟩
    by_cases c8 : kd = 8
    · subst c8
      refine ⟨_, rfl, rfl, _, rfl, iteP (decide_eq_true rfl) ?_⟩
      refine row (q := 2) (fun H Q q => ⟨_, rfl, _, rfl, _, _, rfl, rfl, q⟩) (by decide) (by decide) H1 s1 _ ?_
      rintro vo do_ H2 s2 ⟨o, rfl, dro⟩ to
      refine n_tup (K := K) (na_cons (P := fun d => d = .str "frac") (n_c (fun _ => .str _) rfl) (na_cons (P := fun d => d = o.d) (n_var rfl to rfl) (na_cons (row (q := 2) (fun H Q q => ⟨_, rfl, _, rfl, _, _, rfl, rfl, q⟩) (by decide) (by decide)) na_nil))) ?_ H2 (.refl s2.s1) _ ?_
      · rintro ds ⟨d, r, rfl, rfl, d2, r2, rfl, rfl, d3, r3, rfl, _, rfl⟩
        exact Nat.le_of_ble_eq_true rfl
      · rintro v d H3 s3 ⟨ds, rfl, d, r, rfl, rfl, d2, r2, rfl, rfl, d3, r3, rfl, ⟨q, rfl, dq⟩, rfl⟩ t
        have w1 : _ ≤ 2 * bI m := dq.words
        have d1 := dq.dep
        have w2 : _ ≤ 2 * bI m := dro.words
        have d2 := dro.dep
        exact k v (.frac o q) H3 ((s1.trans s2).trans s3) (nu_of (by simp [FNuc.dep]; omega) (by simp [FNuc.words]; omega) ⟨dro.good, dq.good⟩) t
    refine ⟨_, rfl, rfl, _, rfl, iteN (by rw [decide_eq_true_eq]; intro z; injection z with z; exact c8 z) ?_⟩
    by_cases c9 : kd = 9
    · subst c9
      refine ⟨_, rfl, rfl, _, rfl, iteP (decide_eq_true rfl) ?_⟩
      refine n_tup (K := K) (na_cons (P := fun d => d = .str "root") (n_c (fun _ => .str _) rfl) (na_cons (row (q := 2) (fun H Q q => ⟨_, rfl, _, rfl, _, _, rfl, rfl, q⟩) (by decide) (by decide)) na_nil)) ?_ H1 s1 _ ?_
      · rintro ds ⟨d, r, rfl, rfl, d2, r2, rfl, _, rfl⟩
        exact Nat.le_of_ble_eq_true rfl
      · rintro v d H2 s2 ⟨ds, rfl, d, r, rfl, rfl, d2, r2, rfl, ⟨q, rfl, dq⟩, rfl⟩ t
        have w1 : _ ≤ 2 * bI m := dq.words
        have d1 := dq.dep
        exact k v (.root q) H2 (s1.trans s2) (nu_of (by simp [FNuc.dep]; omega) (by simp [FNuc.words]; omega) dq.good) t
    refine ⟨_, rfl, rfl, _, rfl, iteN (by rw [decide_eq_true_eq]; intro z; injection z with z; exact c9 z) ?_⟩
    by_cases c10 : kd = 10
    · subst c10
      refine ⟨_, rfl, rfl, _, rfl, iteP (decide_eq_true rfl) ?_⟩
      refine q_setNL s1.s1 (nl_range (K := K) (A := fun i => i = 2) (P := fun d => d ∈ ends4) (n_intC rfl) (fun i hi => by omega) (fun x => rfl) ?_) ?_
      · intro i H2 s2
        refine n_ixL (R := fun ds => ds = ends4) (nl_lst (fun H3 s3 Q3 q3 => na_cons (K := K) (P := fun d => d = .none) (n_c (fun _ => .non) rfl) (na_cons (P := fun d => d = .str "(") (n_c (fun _ => .str _) rfl) (na_cons (P := fun d => d = .str ")") (n_c (fun _ => .str _) rfl) (na_cons (P := fun d => d = .str "@alpha") (n_c (fun _ => .str _) rfl) na_nil))) H3 s3 Q3 ?_) ?_) (n_next rfl (by decide)) ?_
        · rintro vs ds H4 s4 ⟨d, r, rfl, rfl, d2, r2, rfl, rfl, d3, r3, rfl, rfl, d4, r4, rfl, rfl, rfl⟩ ts
          exact q3 _ _ H4 s4 rfl ts
        · rintro ds rfl
          exact Nat.le_of_ble_eq_true rfl
        · rintro ds i rfl ⟨i0, i1⟩
          obtain ⟨j, rfl⟩ := Int.eq_ofNat_of_zero_le i0
          have j4 : j < ends4.length := by show j < 4; omega
          exact ⟨ends4[j], atI_nat (List.getElem?_eq_getElem j4), List.getElem_mem j4⟩
      · rintro p xs ds H2 hp s2 ⟨i, rfl, el, hds⟩ e l
        obtain ⟨da, db, rfl⟩ : ∃ a b, ds = [a, b] := by
          match ds, el with
          | [a, b], _ => exact ⟨a, b, rfl⟩
        cases l with
        | cons ta l => cases l with
        | cons tb l => cases l with
        | nil =>
        rename_i va vb
        obtain ⟨oa, rfl, pa⟩ := ends_ok (hds da (by simp))
        obtain ⟨ob, rfl, pb⟩ := ends_ok (hds db (by simp))
        have eL : ∀ {H3 : Hp}, SK st pd pl H2 H3 → SqL K H3 p [va, vb] := fun s3 => SqL.of (s3.kb _ _ e (s1.s1.ne hp))
        refine n_tup (K := K) (na_cons (P := fun d => d = .str "fence") (n_c (fun _ => .str _) rfl) (na_cons (P := fun d => d = optD oa) (fun H3 s3 Q3 q3 => ⟨_, rfl, p, _, 0, va, rfl, rfl, eL s3, atI_nat (show [va, vb][0]? = some va from rfl), q3 va _ H3 (.refl s3.s1) rfl (ta.stay s3.tup)⟩) (na_cons (P := fun d => d = optD ob) (fun H3 s3 Q3 q3 => ⟨_, rfl, p, _, 1, vb, rfl, rfl, eL s3, atI_nat (show [va, vb][1]? = some vb from rfl), q3 vb _ H3 (.refl s3.s1) rfl (tb.stay s3.tup)⟩) (na_cons (row (q := 3) (fun H Q q => ⟨_, rfl, _, rfl, _, _, rfl, rfl, q⟩) (by decide) (by decide)) na_nil)))) ?_ H2 (.refl s2.s1) _ ?_
        · rintro ds ⟨d, r, rfl, rfl, d2, r2, rfl, rfl, d3, r3, rfl, rfl, d4, r4, rfl, _, rfl⟩
          exact Nat.le_of_ble_eq_true rfl
        · rintro v d H3 s3 ⟨ds, rfl, d, r, rfl, rfl, d2, r2, rfl, rfl, d3, r3, rfl, rfl, d4, r4, rfl, ⟨q, rfl, dq⟩, rfl⟩ t
          have w1 : _ ≤ 3 * bI m := dq.words
          have d1 := dq.dep
          exact k v (.fence oa ob q) H3 ((s1.trans s2).trans s3) (nu_of (by simp [FNuc.dep]; omega) (by simp [FNuc.words]; omega) ⟨pa, pb, dq.good⟩) t
    refine ⟨_, rfl, rfl, _, rfl, iteN (by rw [decide_eq_true_eq]; intro z; injection z with z; exact c10 z) ?_⟩
    -- a grid
    refine n_addI (K := K) (st := st) (pd := pd) (pl := pl) (H := H) (A := fun i => i = 1) (n_intC rfl) (n_next rfl (by decide)) H1 s1 _ ?_
    rintro vw dw H2 s2 ⟨wd, rfl, i1, j1, ew, rfl, j0, j2⟩ tw
    obtain rfl := tp_int tw
    refine ⟨Nat.zero_le _, fun p hp => ?_⟩
    have sp : SK st pd pl H2 (upd H2 p (.lst [])) := .of s2.s1 (same_new hp)
    have hpH := (s1.trans s2).free hp
    refine n_addI (K := K) (st := st) (pd := pd) (pl := pl) (H := upd H2 p (.lst [])) (A := fun i => i = 1) (n_intC rfl) (n_next rfl (by decide)) (upd H2 p (.lst [])) (.refl sp.s1) _ ?_
    rintro vh dh H3 s3 ⟨ht, rfl, i2, j3, eh, rfl, j4, j5⟩ th
    obtain rfl := tp_int th
    have ep3 := s3.kb _ _ upd_same (s2.s1.ne hp)
    refine ⟨ht, rfl, by omega, by omega, for_range (n := ht.toNat) (fun i σ' H' => ∃ (x7 : Option V) (xs : List V) (ls : List FCells), σ' = [some (.ref st), some (.int dp), some (.int kd), none, none, some (.int wd), some (.ref p), x7, none] ∧ SK st pd pl H H' ∧ H' p = some (.lst xs) ∧ TpL K H' xs (ls.map FCells.d) ∧ ls.length = i ∧ ∀ c ∈ ls, c.rows.length = wd.toNat ∧ ∀ r ∈ c.rows, DrR m 1 r) ⟨_, [], [], rfl, ((s1.trans s2).trans sp).trans s3, ep3, .nil, rfl, fun c h => nomatch h⟩ ?_ ?_⟩
    · rintro i σ' H' hi ⟨x7, xs, ls, rfl, s', ep, ts, el, hls⟩
      refine ⟨_, rfl, .inl ⟨rfl, _, SqL.of ep⟩, ?_⟩
      refine n_tupOf (K := K) (st := st) (pd := pd) (pl := pl) (H := H) (fun p xs H Q hs hq => ⟨p, xs, rfl, .inl ⟨hs, hq⟩⟩) (nl_range (A := fun i => i = wd) (P := fun d => ∃ r : FRow, d = r.d ∧ DrR m 1 r) (n_var rfl (.int _) ⟨wd, rfl, rfl⟩) (fun i hi => by omega) (fun x => rfl) (fun i H4 s4 => row (q := 1) (fun H Q q => ⟨_, rfl, _, rfl, _, _, rfl, rfl, q⟩) (by decide) (by decide))) H' s' _ ?_
      rintro v d H4 s4 ⟨ds, rfl, i', rfl, ell, hds⟩ t
      obtain ⟨rs, rfl, erl, hrs⟩ := cells_of_ds hds
      have ep4 := s4.kb _ _ ep (s'.s0.ne hpH)
      refine ⟨p, xs, v, rfl, rfl, ep4, by rw [ts.len, List.length_map]; exact sz6 (by omega), ?_⟩
      refine ⟨_, xs ++ [v], ls ++ [FCells.of rs], rfl, (s'.trans s4).own hpH, upd_same, ?_, by rw [List.length_append, el]; rfl, fun c hc => ?_⟩
      · rw [List.map_append]
        refine ((ts.stay s4.tup).app (.one ?_)).stay (.keep keep_upd ep4)
        rw [FCells.d, FCells.ds_eq, FCells.rows_of]
        exact t
      · rcases List.mem_append.mp hc with hc | hc
        · exact hls c hc
        · cases List.mem_singleton.mp hc
          rw [FCells.rows_of]
          exact ⟨by omega, hrs⟩
    · rintro σ' H' ⟨x7, xs, ls, rfl, s', ep, ts, el, hls⟩
      dsimp only
      refine n_tup (K := K) (st := st) (pd := pd) (pl := pl) (H := H') (na_cons (P := fun d => d = .str "grid") (n_c (fun _ => .str _) rfl) (na_cons (P := fun d => d = .tuple (ls.map FCells.d)) (fun H4 s4 Q4 q4 => ?_) na_nil)) ?_ H' (.refl s'.s1) _ ?_
      · have ep4 := s4.kb _ _ ep (s'.s0.ne hpH)
        refine ⟨_, rfl, p, xs, rfl, .inl ⟨SqL.of ep4, fun a ha => q4 _ _ _ (.of s4.s1 (same_new ha)) rfl (.mk (SqT.of upd_same) ((ts.stay s4.tup).stay (.of (same_new ha))))⟩⟩
      · rintro ds ⟨d, r, rfl, rfl, d2, r2, rfl, rfl, rfl⟩
        exact Nat.le_of_ble_eq_true rfl
      · rintro v d H4 s4 ⟨ds, rfl, d, r, rfl, rfl, d2, r2, rfl, rfl, rfl⟩ t
        have eg : (FNuc.grid (FGrid.of ls)).d = .tuple [.str "grid", .tuple (ls.map FCells.d)] := by rw [FNuc.d, FGrid.ds_eq, FGrid.lines_of]
        have hc : ∀ c ∈ (FGrid.of ls).lines, c.rows.length = wd.toNat ∧ ∀ r ∈ c.rows, DrR m 1 r := by
          rw [FGrid.lines_of]
          exact hls
        have wg := grid_words_le (s := "{") (g := FGrid.of ls) (m := 2) (b := bI m) (fun c h => by rw [(hc c h).1]; omega) fun c h r hr => by have := ((hc c h).2 r hr).words; omega
        rw [FGrid.lines_of] at wg
        have wl : ls.length * (2 * (bI m + 1)) ≤ 2 * (2 * (bI m + 1)) := Nat.mul_le_mul_right _ (by omega)
        refine k v (.grid (FGrid.of ls)) H4 (s'.trans s4) (nu_of ?_ ?_ ?_) (eg ▸ t)
        · rw [FNuc.dep]
          refine FGrid.dep_le.mpr fun r hr => ?_
          rw [FGrid.all_eq] at hr
          obtain ⟨c, h1, h2⟩ := List.mem_flatMap.mp hr
          have := ((hc c h1).2 r h2).dep
          omega
        · simp [FNuc.words]
          omega
        · refine ⟨(FGrid.good_iff _ _).mpr fun c h => (FCells.good_iff _ _).mpr fun r hr => ((hc c h).2 r hr).good, ?_, wd.toNat, by omega, by omega, fun c h => (hc c h).1⟩
          rw [FGrid.lines_of]
          omega
theorem scLItem : FnScope ["stream", "depth", "nucleus", "scripts", "k"] ["stream", "depth"] (defScope sLItem) := ⟨rfl, rfl, rfl, by decide +kernel, rfl, by decide +kernel, by decide +kernel⟩
def ScrOk (n : Nat) : FScr → Prop
  | .no => True
  | .yes r => ∃ m, n = m + 1 ∧ DrR m 2 r
theorem tpl_set {H : Hp} {v : V} {d : PyData} (t : Tp K H v d) : ∀ {vs : List V} {ds : List PyData} (i : Nat), TpL K H vs ds → TpL K H (vs.set i v) (ds.set i d)
  | _, _, _, .nil => .nil
  | _, _, 0, .cons _ b => .cons t b
  | _, _, i + 1, .cons a b => .cons a (tpl_set t i b)
theorem ixN_nat2 {n j : Nat} (hj : j < n) : ixN n (j : Int) = some j := by
  unfold ixN
  rw [if_pos (by omega), if_pos (by omega)]
  simp
theorem ok_litem {n : Nat} (hn : n ≤ 3) {f : Addr} {fd : FuncData} (F : Fun K "_law_item" "_law_item" sLItem f fd) (T : TxtB mg) (C_law_next : Cal P w K mg base CX0 1 "_law_next" ["stream", "many"] spNext) (C_law_nucleus : Cal P w K mg base CX0 (3 * n + 2) "_law_nucleus" ["stream", "depth"] (spLNuc K n))
    (C_law_row : Cal P w K mg base CX0 (3 * n + 1) "_law_row" ["stream", "depth", "most"] (spLRow K n)) : FnOk P w K mg base CX0 (3 * n + 3) f fd ["stream", "depth"] (spLItem K n) := by
  have sc := scLItem
  refine F.ok scLItem (fun vs H Q E h => ?_) (fun cdv A outer s H vs Q E hr h => ?_)
  · obtain ⟨st, pd, pl, dp, rfl, _⟩ := h
    rfl
  · obtain ⟨st, pd, pl, dp, rfl, S, hd, k⟩ := h
    refine ⟨_, (pss_cons (ps_set (i := 2) sc.nd rfl (Or.inl rfl) (pe_cal C_law_nucleus (hr.mono (by omega)) rfl pass0 (pa_cons (pv 0) (pa_cons (pv 1) pa_nil))))
  (pss_cons (ps_set (i := 3) sc.nd rfl (Or.inl rfl) (pe_lst (pa_cons pe_non (pa_cons pe_non pa_nil))))
  (pss_cons (ps_for PassesOwn.never rfl (pi_range1 rfl T.range (pa_cons pe_int pa_nil)) (pg_name (i := 4) sc.nd rfl (Or.inl rfl))
  (pss_one (ps_if (PW.pt (pw_and (pt_cmpR op_lt (pv 1) pe_int (nomark _)) (pw_and1 (pt_cmpR op_eq (pe_cal C_law_next (hr.mono (by omega)) rfl pass0 (pa_cons (pv 0) (pa_cons pe_int pa_nil))) pe_int (nomark _)))))
  (pss_one (ps_asg (pe_cal C_law_row (hr.mono (by omega)) rfl pass0 (pa_cons (pv 0) (pa_cons (pe_op op_add (pv 1) pe_int) (pa_cons pe_int pa_nil)))) (pg_sub (pv 3) (pv 4) set_list)))
  pss_nil)))
  (pss_one (ps_ret (pe_tup (pa_cons (pv 2) (pa_cons (pe_ix ix_list (pv 3) pe_int (fun _ _ => rfl)) (pa_cons (pe_ix ix_list (pv 3) pe_int (fun _ _ => rfl)) pa_nil))))))))), ?_⟩
    refine ⟨_, rfl, _, rfl, st, pd, pl, dp, rfl, S, hd, fun vn nu H1 s1 dn tn => ?_⟩
    refine ⟨(by show 2 ≤ sizeLine; decide), fun p hp => ?_⟩
    have hpH := s1.free hp
    have sp : SK st pd pl H (upd H1 p (.lst [.non, .non])) := s1.trans (.of s1.s1 (same_new hp))
    refine ⟨2, rfl, by decide, by decide, for_range (n := 2) (fun i σ' H' => ∃ (x4 : Option V) (xs : List V) (ss : List FScr), σ' = [some (.ref st), some (.int dp), some vn, some (.ref p), x4] ∧ SK st pd pl H H' ∧ Tp K H' vn nu.d ∧ H' p = some (.lst xs) ∧ TpL K H' xs (ss.map FScr.d) ∧ ss.length = 2 ∧ ∀ c ∈ ss, ScrOk n c) ⟨_, _, [.no, .no], rfl, sp, tn.stay (.of (same_new hp)), upd_same, .cons .non (.cons .non .nil), rfl, fun c hc => ?_⟩ ?_ ?_⟩
    · simp only [List.mem_cons, List.not_mem_nil, or_false] at hc
      rcases hc with rfl | rfl <;> trivial
    · rintro i σ' H' hi ⟨x4, xs, ss, rfl, s', tn', ep, ts, el, hss⟩
      refine ⟨_, rfl, _, _, rfl, rfl, _, rfl, ?_⟩
      by_cases c : dp < 3
      · refine iteP (decide_eq_true c) ?_
        obtain ⟨m, rfl⟩ : ∃ m, n = m + 1 := ⟨n - 1, by omega⟩
        refine n_next (K := K) (st := st) (pd := pd) (pl := pl) (H := H) rfl (by decide) H' s' _ ?_
        rintro v d H2 s2 ⟨z, rfl, z0, z5⟩ tz
        obtain rfl := tp_int tz
        refine ⟨rfl, _, rfl, ?_⟩
        by_cases cz : z = 0
        · subst cz
          refine iteP (decide_eq_true rfl) ?_
          refine r_row (K := K) (st := st) (pd := pd) (pl := pl) (n := m + 1) (dp := dp + 1) (m := 2) (fun H Q q => ⟨_, rfl, _, rfl, _, _, rfl, rfl, q⟩) (by omega) (by omega) (by decide) (by decide) H2 (.refl s2.s1) _ ?_
          rintro v d H3 s3 ⟨r, rfl, dr⟩ t
          have ep3 := s3.kb _ _ (s2.kb _ _ ep (s'.s0.ne hpH)) (s'.s0.ne hpH)
          have s23 := s2.trans s3
          have xl : xs.length = 2 := by rw [ts.len, List.length_map, el]
          refine ⟨_, rfl, _, rfl, p, xs, (i : Int), i, rfl, by simp, ep3, ixN_nat2 (by omega), ?_⟩
          refine ⟨_, xs.set i v, ss.set i (.yes r), rfl, (s'.trans s23).own hpH, (tn'.stay s23.tup).stay (.keep keep_upd ep3), upd_same, ?_, by rw [List.length_set, el], fun c hc => ?_⟩
          · rw [List.map_set]
            exact (tpl_set t i (ts.stay s23.tup)).stay (.keep keep_upd ep3)
          · rcases List.mem_or_eq_of_mem_set hc with hc | rfl
            · exact hss c hc
            · exact ⟨m, rfl, dr⟩
        · refine iteN (by rw [decide_eq_true_eq]; intro z; injection z with z; exact cz z) ?_
          exact ⟨_, xs, ss, rfl, s'.trans s2, tn'.stay s2.tup, s2.kb _ _ ep (s'.s0.ne hpH), ts.stay s2.tup, el, hss⟩
      · refine iteN (by simpa using c) ?_
        exact ⟨_, xs, ss, rfl, s', tn', ep, ts, el, hss⟩
    · rintro σ' H' ⟨x4, xs, ss, rfl, s', tn', ep, ts, el, hss⟩
      obtain ⟨sa, sb, rfl⟩ : ∃ a b, ss = [a, b] := by
        match ss, el with
        | [a, b], _ => exact ⟨a, b, rfl⟩
      cases ts with
      | cons ta ts => cases ts with
      | cons tb ts => cases ts with
      | nil =>
      rename_i va vb
      refine ⟨_, rfl, _, rfl, p, _, 0, va, rfl, rfl, SqL.of ep, atI_nat (show [va, vb][0]? = some va from rfl), _, rfl, p, _, 1, vb, rfl, rfl, SqL.of ep, atI_nat (show [va, vb][1]? = some vb from rfl), (by show 3 ≤ sizeLine; decide), fun q hq => ?_⟩
      have st2 : TupK H' (upd H' q (.tup [vn, va, vb])) := .of (same_new hq)
      have ha := hss sa (by simp)
      have hb := hss sb (by simp)
      have scr : ∀ (c : FScr) (s : Str), ScrOk n c → c.dep ≤ n ∧ c.good nmsP delP ∧ ∀ m, n = m + 1 → (c.words s).length ≤ 2 * bI m + 3 := fun c s hc => by
        cases c with
        | no => exact ⟨Nat.zero_le _, trivial, fun m _ => by simp [FScr.words]⟩
        | yes r =>
          obtain ⟨m, rfl, dr⟩ := hc
          have w1 : _ ≤ 2 * bI m := dr.words
          have d1 := dr.dep
          exact ⟨by rw [FScr.dep]; omega, dr.good, fun m' e => by
            have : m' = m := by omega
            subst this
            simp [FScr.words]
            omega⟩
      obtain ⟨a1, a2, a3⟩ := scr sa "_" ha
      obtain ⟨b1, b2, b3⟩ := scr sb "^" hb
      refine k (.ref q) (.mk nu sa sb) _ (s'.trans (.of s'.s1 (same_new hq))) ⟨?_, ?_, dn.good, a2, b2⟩ (.mk (SqT.of upd_same) (.cons (tn'.stay st2) (.cons (ta.stay st2) (.cons (tb.stay st2) .nil))))
      · have := dn.dep
        rw [FItem.dep]
        omega
      · have := dn.len
        rw [FItem.words, List.length_append, List.length_append]
        cases n with
        | zero =>
          have ea : sa = .no := by
            cases sa with
            | no => rfl
            | yes r =>
              obtain ⟨m, e, _⟩ := ha
              omega
          have eb : sb = .no := by
            cases sb with
            | no => rfl
            | yes r =>
              obtain ⟨m, e, _⟩ := hb
              omega
          subst ea
          subst eb
          exact this
        | succ m =>
          have a4 := a3 m rfl
          have b4 := b3 m rfl
          have e1 : bN (m + 1) = 4 * bI m + 6 := rfl
          show _ ≤ 8 * bI m + 12
          omega
/-- all of them, depth by depth -/
structure DrawOk (P : Program) (w : World) (K : PySem.W.Frag) (mg : Str → Option Value) (base : Heap) (n : Nat) : Prop where
  row : Cal P w K mg base CX0 (3 * n + 1) "_law_row" ["stream", "depth", "most"] (spLRow K n)
  nuc : Cal P w K mg base CX0 (3 * n + 2) "_law_nucleus" ["stream", "depth"] (spLNuc K n)
  item : Cal P w K mg base CX0 (3 * n + 3) "_law_item" ["stream", "depth"] (spLItem K n)
theorem draw_ok {f1 f2 f3 : Addr} {d1 d2 d3 : FuncData} (F1 : Fun K "_law_row" "_law_row" sLRow f1 d1) (F2 : Fun K "_law_nucleus" "_law_nucleus" sLNuc f2 d2) (F3 : Fun K "_law_item" "_law_item" sLItem f3 d3) (T : TxtB mg) (C_law_next : Cal P w K mg base CX0 1 "_law_next" ["stream", "many"] spNext) (C_law_names : Cal P w K mg base CX0 1 "_law_names" [] spNames)
    (c1 : mg "_law_row" = some (.ref f1) ∧ PySem.W.keepIn K (.ref f1) = true ∧ Binds K d1 ["stream", "depth", "most"] []) (c2 : mg "_law_nucleus" = some (.ref f2) ∧ PySem.W.keepIn K (.ref f2) = true ∧ Binds K d2 ["stream", "depth"] []) (c3 : mg "_law_item" = some (.ref f3) ∧ PySem.W.keepIn K (.ref f3) = true ∧ Binds K d3 ["stream", "depth"] []) :
    ∀ n, n ≤ 3 → DrawOk P w K mg base n := by
  have step : ∀ n, n ≤ 3 → Cal P w K mg base CX0 (3 * n + 1) "_law_row" ["stream", "depth", "most"] (spLRow K n) → DrawOk P w K mg base n := fun n hn h => by
    have hb : Cal P w K mg base CX0 (3 * n + 2) "_law_nucleus" ["stream", "depth"] (spLNuc K n) := ⟨f2, d2, ok_lnuc hn F2 T C_law_next C_law_names h, c2.1, c2.2.1, c2.2.2⟩
    exact ⟨h, hb, f3, d3, ok_litem hn F3 T C_law_next hb h, c3.1, c3.2.1, c3.2.2⟩
  intro n
  induction n with
  | zero => exact fun _ => step 0 (by decide) ⟨f1, d1, FnOk.vac fun vs H Q E ⟨_, _, _, _, _, _, _, h, _⟩ => absurd h (by decide), c1.1, c1.2.1, c1.2.2⟩
  | succ n ih => exact fun hn => step (n + 1) hn ⟨f1, d1, ok_lrow1 F1 T C_law_next (ih (by omega)).item, c1.1, c1.2.1, c1.2.2⟩
end
end Mg

set_option Elab.async false
set_option linter.all false
set_option maxRecDepth 100000
set_option maxHeartbeats 4000000
namespace Mg
open PySem L2
abbrev sLaw : Stmt := top 73
theorem scLaw : FnScope ["script", "stream", "data", "font", "row", "kinds", "turned", "signs", "left", "right", "style", "k", "one"] ["script"] (defScope sLaw) := ⟨rfl, rfl, rfl, by decide +kernel, rfl, by decide +kernel, by decide +kernel⟩
/-! draws over a tuple; tuples cut and joined -/
section
variable {K : PySem.W.Frag} {st pd pl : Addr} {σ : L2.St} {H : Hp} {te tl ta tb : TE} {vs : List Nat}
theorem nl_lcT {α : Type} {j : Nat} (L : List α) (f : α → PyData) (R : α → PyData → Prop) (h : ∀ H1, SK st pd pl H H1 → EvD K tl σ H1 (.tuple (L.map f))) (hz : L.length ≤ 1000) (hw : ∀ x, wipe ((wipe σ vs).set j (some x)) vs = wipe σ vs)
    (he : ∀ a ∈ L, ∀ x H1, SK st pd pl H H1 → Tp K H1 x (f a) → EvN K st pd pl te ((wipe σ vs).set j (some x)) H1 (R a)) :
    EvNL K st pd pl (tLc (iTup K tl) (gName j) tYes te vs) σ H (fun ds => ds.length = L.length ∧ ∀ (i : Nat) (a : α) (d : PyData), L[i]? = some a → ds[i]? = some d → R a d) := fun H0 s Q q => h H0 s H0 (Same.refl _) _ fun v H1 s1 tv => by
  obtain ⟨a, xs, rfl, sq, l⟩ := tv.inv
  have ll : xs.length = L.length := by rw [l.len, List.length_map]
  have k1 : SK st pd pl H0 H1 := .of s.s1 s1
  refine ⟨a, rfl, ⟨xs, sq⟩, fun D hD => ?_⟩
  have sD : SK st pd pl H1 (upd H1 D (.lst [])) := .of k1.s1 (same_new hD)
  refine lc_word (n := L.length) (fun i acc H' => ∃ ds, TpL K H' acc ds ∧ ds.length = i ∧ (∀ (m : Nat) (a : α) (d : PyData), L[m]? = some a → ds[m]? = some d → R a d) ∧ SK st pd pl H1 H') ⟨[], .nil, rfl, (fun m a d _ h => by simp at h), sD⟩ (fun i acc H' hi p => ?_) (fun acc H' p => ?_) ?_ ?_
  · obtain ⟨_, _, _, _, s2⟩ := p
    exact ⟨xs, xs[i]'(by omega), s2.tup.seq sq, List.getElem?_eq_getElem (by omega)⟩
  · obtain ⟨_, _, _, _, s2⟩ := p
    exact ⟨xs, s2.tup.seq sq, by omega⟩
  · rintro i acc x H' H'' RR Z hi ⟨ds, ts, el, hp, s2⟩ eD ⟨rfl, y⟩ kR
    have hx := y xs (s2.tup.seq sq)
    obtain ⟨d0, e1, e2⟩ := l.get' hx
    obtain ⟨b, hb, rfl⟩ := get_map e1
    refine ⟨hw _, ?_⟩
    refine iteT (B := Z H'') ?_
    refine he b (List.mem_of_getElem? hb) x H'' ((s.trans k1).trans s2) (e2.stay s2.tup) H'' (.refl s2.s1) RR fun v d H3 s3 p t => ?_
    have eD3 := s3.kb _ _ eD (k1.s1.ne hD)
    refine kR v H3 eD3 (by rw [ts.len]; exact sz6 (by omega)) ⟨ds ++ [d], ((ts.stay s3.tup).app (.one t)).stay (.keep keep_upd eD3), by rw [List.length_append, el]; rfl, fun m a' d' h1 h2 => ?_, (s2.trans s3).own hD⟩
    by_cases c : m < ds.length
    · rw [List.getElem?_append_left c] at h2
      exact hp m a' d' h1 h2
    · have em : m = ds.length := by
        have := (List.getElem?_eq_some_iff.mp h2).1
        rw [List.length_append, List.length_singleton] at this
        omega
      subst em
      rw [List.getElem?_append_right (Nat.le_refl _), Nat.sub_self] at h2
      cases h2
      rw [el, hb] at h1
      cases h1
      exact p
  · rintro acc H' ⟨ds, ts, el, hp, s2⟩ eD
    exact q D acc ds H' (k1.free hD) (k1.trans s2) ⟨el, hp⟩ eD ts
theorem n_sl {tl th : TO} {lo hi : Option Int} {ds : List PyData} (h : EvN K st pd pl te σ H (fun d => d = .tuple ds)) (hl : ∀ (H : Hp) (Q : Option Int → Hp → Prop), Q lo H → tl σ H Q) (hh : ∀ (H : Hp) (Q : Option Int → Hp → Prop), Q hi H → th σ H Q) (n : ¬ (HT.sIx ds.length 0 lo = 0 ∧ HT.sIx ds.length ds.length hi = ds.length)) :
    EvN K st pd pl (tSl (rSlT K) te tl th) σ H (fun d => d = .tuple ((ds.drop (HT.sIx ds.length 0 lo)).take (HT.sIx ds.length ds.length hi - HT.sIx ds.length 0 lo))) := fun H1 s Q q => h H1 s _ fun v d H2 s2 e t => hl _ _ (hh _ _ (by
  subst e
  obtain ⟨a, xs, rfl, sq, l⟩ := t.inv
  refine ⟨a, xs, rfl, sq, by rw [l.len]; exact n, fun p hp => q _ _ _ (s2.trans (.of s2.s1 (same_new hp))) rfl (.mk (SqT.of upd_same) ?_)⟩
  have : cutV xs lo hi = (xs.drop (HT.sIx ds.length 0 lo)).take (HT.sIx ds.length ds.length hi - HT.sIx ds.length 0 lo) := by
    unfold cutV
    rw [l.len]
  rw [this]
  exact ((l.drop _).take _).stay (.of (same_new hp))))
theorem n_cat {A B : List PyData → Prop} (ha : EvN K st pd pl ta σ H fun d => ∃ ds, d = .tuple ds ∧ A ds) (hb : EvN K st pd pl tb σ H fun d => ∃ ds, d = .tuple ds ∧ B ds) (n : ∀ ds es, A ds → B es → ds ≠ [] ∧ es ≠ [] ∧ ds.length + es.length ≤ 1000) :
    EvN K st pd pl (tOp (rCatT K) ta tb) σ H (fun d => ∃ ds, d = .tuple ds ∧ ∃ xs ys, ds = xs ++ ys ∧ A xs ∧ B ys) := fun H1 s Q q => ha H1 s _ fun v1 d1 H2 s2 ⟨xs, e1, a⟩ t1 => hb H2 (s.trans s2) _ fun v2 d2 H3 s3 ⟨ys, e2, b⟩ t2 => by
  subst e1
  subst e2
  obtain ⟨n1, n2, n3⟩ := n _ _ a b
  obtain ⟨p1, us, rfl, sq1, l1⟩ := (t1.stay s3.tup).inv
  obtain ⟨p2, ws, rfl, sq2, l2⟩ := t2.inv
  refine ⟨p1, p2, us, ws, rfl, rfl, sq1, sq2, fun z => ?_, by rw [l1.len, l2.len]; exact sz5 (by omega), fun z => ?_, fun _ p hp => q _ _ _ ((s2.trans s3).trans (.of s3.s1 (same_new hp))) ⟨_, rfl, _, _, rfl, a, b⟩ (.mk (SqT.of upd_same) ((l1.app l2).stay (.of (same_new hp))))⟩
  · subst z
    cases l1
    exact n1 rfl
  · subst z
    cases l2
    exact absurd rfl n2
end
section
variable {K : PySem.W.Frag} {st pd pl : Addr} {σ : L2.St} {H : Hp} {te tl ta tb : TE} {vs : List Nat}
/-- an item of a list that a name holds, by a number drawn -/
theorem n_ixV {A : Int → Prop} {P : PyData → Prop} {i : Nat} {kl : Addr} {xs : List V} {ds : List PyData} (hj : σ[i]? = some (some (.ref kl))) (e : H kl = some (.lst xs)) (ne : kl ≠ pl) (l : TpL K H xs ds) (hb : EvN K st pd pl tb σ H fun d => ∃ v, d = .int v ∧ A v) (hp : ∀ i, A i → ∃ d, atI ds i = some d ∧ P d) : EvN K st pd pl (tOp (rIxL K) (tVar i) tb) σ H P := fun H1 s Q q =>
  ⟨_, hj, hb H1 s _ fun v2 d2 H3 s3 ⟨i, e2, b⟩ t2 => by
    subst e2
    rw [tp_int t2]
    obtain ⟨d, hd, pd'⟩ := hp i b
    obtain ⟨n, x, h1, h2, h3⟩ := atI_get l.len hd
    have ss := s.trans s3
    exact ⟨kl, xs, i, x, rfl, rfl, SqL.of (ss.kb _ _ e ne), h1, q _ _ H3 s3 pd' ((l.at h2 h3).stay ss.tup)⟩⟩
/-- _law_same of two new lists, of two data -/
theorem dep_strs : ∀ ws : List Str, PyData.depthAll (ws.map PyData.str) = 0
  | [] => rfl
  | w :: ws => by
    show max 0 (PyData.depthAll (ws.map PyData.str)) = 0
    rw [dep_strs ws]
    rfl
theorem t_sameL {n : Nat} {E : XK} {ws : List Str} (ha : EvDL K ta σ H (ws.map PyData.str)) (hb : EvDL K tb σ H (ws.map PyData.str)) : EvDT K (tB (tCall (spSameR K (n + 1 + 1)) [] E (tCons ta (tCons tb tNil)))) σ H true := fun H1 s Q q =>
  ha H1 s _ fun p xs H2 _ s2 e2 l2 => hb H2 (s.trans s2) _ fun p' ys H3 _ s3 e3 l3 => ⟨_, _, .list (ws.map PyData.str), rfl, .lst (SqL.of (s3 _ _ e2)) (l2.stay (.of s3)).dp, .lst (SqL.of e3) l3.dp, by
    show PyData.depthAll (ws.map PyData.str) + 1 ≤ _
    rw [dep_strs]
    omega, ⟨true, rfl, q H3 (s2.trans s3)⟩⟩
theorem t_sameI {n : Nat} {E : XK} {i : Int} (ha : EvD K ta σ H (.int i)) (hb : EvD K tb σ H (.int i)) : EvDT K (tB (tCall (spSameR K (n + 1)) [] E (tCons ta (tCons tb tNil)))) σ H true := fun H1 s Q q =>
  ha H1 s _ fun v H2 s2 t2 => hb H2 (s.trans s2) _ fun u H3 s3 t3 => ⟨_, _, .int i, rfl, (t2.stay (.of s3)).dp, t3.dp, Nat.zero_le _, ⟨true, rfl, q H3 (s2.trans s3)⟩⟩
/-- classes_of a font that a name holds, of a new font -/
theorem l_cls {CF : Addr} {E : XK} {j j2 : Nat} {p : Addr} {va vl u : V} {ss : List Sym} {ls : List Int} {r : FRow} (hj : σ[j]? = some (some (.ref p))) (h2 : σ[j2]? = some (some u)) (F : FontAt K CF H p va vl ss ls) (t : Tp K H u r.d) (kn : ∀ i ∈ r.items, nucKn ss i.nuc) (rl : r.items.length ≤ 100000) :
    EvDL K (tCall (spClassesOf K CF) [] E (tCons (tVar j) (tCons (tVar j2) tNil))) σ H ((rowCls ss r).map PyData.str) :=
  l_callV (us := [.ref p, u]) (fun H1 s Q q => ⟨_, hj, _, h2, q H1 (Same.refl _)⟩) fun H1 s Q q => ⟨p, va, vl, u, ss, ls, r, rfl, F.same s, t.stay (.of s), kn, rl, fun q' H2 n s2 e => q q' _ H2 n s2 e (TpL.of_strs _)⟩
theorem l_clsMk {CF CB : Addr} {E : XK} {tas : TA} {j2 : Nat} {u : V} {ss : List Sym} {ls : List Int} {r : FRow} (ha : EvDA K tas σ H [symsD ss, lensD ls]) (pre : PreS (symsD ss)) (g1 : areSymbols (symsD ss) = true) (g2 : areLengths (lensD ls) = true) (h2 : σ[j2]? = some (some u)) (t : Tp K H u r.d) (kn : ∀ i ∈ r.items, nucKn ss i.nuc) (rl : r.items.length ≤ 100000) :
    EvDL K (tCall (spClassesOf K CF) [] E (tCons (tMake CF (spFInit K CF CB) [] E00 tas) (tCons (tVar j2) tNil))) σ H ((rowCls ss r).map PyData.str) := fun H1 s Q q => by
  refine ha H1 s _ fun vs H2 s2 tvs => ?_
  cases tvs with
  | cons t1 tvs => cases tvs with
  | cons t2 tvs => cases tvs with
  | nil =>
  intro x dx nx ndx ne
  refine mk_font t1.dp t2.dp pre g1 g2 x dx nx ndx ne fun H3 s3 FA => ⟨rfl, _, h2, x, _, _, u, ss, ls, r, rfl, FA, t.stay (.of ((s.trans s2).trans s3)), kn, rl, fun q' H4 n s4 e => q q' _ H4 ((s2.trans s3).free n) ((s2.trans s3).trans s4) e (TpL.of_strs _)⟩
end
theorem syms_of_turn {ss : List Sym} : ∀ {dus : List PyData}, dus.length = ss.length → (∀ (i : Nat) (a : Sym) (d : PyData), ss[i]? = some a → dus[i]? = some d → ∃ z : Sym, d = z.d ∧ Turn a z) → ∃ us : List Sym, dus = us.map Sym.d ∧ us.length = ss.length ∧ ∀ (i : Nat) (y z : Sym), ss[i]? = some y → us[i]? = some z → Turn y z := by
  induction ss with
  | nil =>
    intro dus h _
    have e : dus = [] := List.eq_nil_of_length_eq_zero h
    subst e
    exact ⟨[], rfl, rfl, fun i y z h => by simp at h⟩
  | cons a ss ih =>
    intro dus h hT
    cases dus with
    | nil => cases h
    | cons d ds =>
      obtain ⟨z, rfl, tz⟩ := hT 0 a d rfl rfl
      obtain ⟨us, rfl, ul, hu⟩ := ih (by simpa using h) fun i b e h1 h2 => hT (i + 1) b e h1 h2
      refine ⟨z :: us, rfl, by rw [List.length_cons, List.length_cons, ul], fun i y w h1 h2 => ?_⟩
      cases i with
      | zero =>
        cases h1
        cases h2
        exact tz
      | succ i => exact hu i y w h1 h2
def signs8 : List Str := ["+", "x", "=", "(", ")", ",", "@sum", "-"]
theorem signs_nms : ∀ x ∈ signs8, x ∈ nms := by decide +kernel
theorem nl_strs8 {K : PySem.W.Frag} {st pd pl : Addr} {σ : L2.St} {H : Hp} {te : TE} (h : te = tLst (tCons (tC (.str "+")) (tCons (tC (.str "x")) (tCons (tC (.str "=")) (tCons (tC (.str "(")) (tCons (tC (.str ")")) (tCons (tC (.str ",")) (tCons (tC (.str "@sum")) (tCons (tC (.str "-")) tNil))))))))) : EvNL K st pd pl te σ H (fun ds => ds = signs8.map PyData.str) := by
  subst h
  intro H1 s Q q
  refine l_lst (K := K) (ds := signs8.map PyData.str) (a_cons e_str (a_cons e_str (a_cons e_str (a_cons e_str (a_cons e_str (a_cons e_str (a_cons e_str (a_cons e_str a_nil)))))))) (by decide) H1 (Same.refl _) _ fun p xs H2 n s2 e l => q p xs _ H2 n (.of s.s1 s2) rfl e l
theorem q_noS' {K : PySem.W.Frag} {σ : L2.St} {H : Hp} {t : TT} {b : Bool} {tu : TS} {D : Ends} (h : EvDT K t σ H b) (e : b = false) (k : ∀ H1, Same H H1 → D.nx σ H1) : tIfS t tu tNext D σ H := s_when h (fun z => by rw [e] at z; cases z) fun _ H1 s => k H1 s
structure Law11 (P : Program) (w : World) (K : PySem.W.Frag) (mg : Str → Option Value) (base : Heap) (CF CB : Addr) : Prop extends TxtB mg where
  g_Font : mg "Font" = some (.ref CF)
  mkF : MkF P w K mg base CF CB
  fixed : Cal P w K mg base CX0 7 "_law_fixed" [] spFixed
  stream : Cal P w K mg base CX0 2 "_law_stream" ["script", "first", "count"] (spStream K)
  font : Cal P w K mg base CX0 2 "_law_font" ["stream"] (spLFont K)
  next : Cal P w K mg base CX0 1 "_law_next" ["stream", "many"] spNext
  item : Cal P w K mg base CX0 9 "_law_item" ["stream", "depth"] (spLItem K 2)
  within : Cal P w K mg base CX0 12 "_law_within" ["row"] (spWithin K 3)
  same : Cal P w K mg base CX0 4 "_law_same" ["actual", "expected"] (spSameR K 4)
  classes : Cal P w K mg base CX0 6 "classes_of" ["font", "row"] (spClassesOf K CF)
  kinds : Cal P w K mg base CX0 2 "_law_kinds" ["font", "row"] (spLKinds K)
  space : Cal P w K mg base CX0 3 "space_between" ["font", "left", "right", "style"] (spSpace K CF)
  gap : Cal P w K mg base CX0 2 "_law_gap" ["font", "left", "right", "style"] (spLGap K)
structure St11 (K : PySem.W.Frag) (CF : Addr) (H : Hp) (st pd pl f p : Addr) (va vl : V) (ss : List Sym) (ls : List Int) : Prop where
  S : Stream H st pd pl
  F : FontAt K CF H p va vl ss ls
  D : Tp K H (.ref f) (fontD ss ls)
section
variable {P : Program} {w : World} {K : PySem.W.Frag} {mg : Str → Option Value} {base : Heap} {CF CB : Addr}
theorem St11.same {H H' : Hp} {st pd pl f p : Addr} {va vl : V} {ss : List Sym} {ls : List Int} (a : St11 K CF H st pd pl f p va vl ss ls) (s : Same H H') : St11 K CF H' st pd pl f p va vl ss ls := ⟨a.S.new s, a.F.same s, a.D.stay (.of s)⟩
theorem St11.sk {H H' : Hp} {st pd pl f p : Addr} {va vl : V} {ss : List Sym} {ls : List Int} (a : St11 K CF H st pd pl f p va vl ss ls) (s : SK st pd pl H H') : St11 K CF H' st pd pl f p va vl ss ls := by
  obtain ⟨k, hk⟩ := a.S.pl
  exact ⟨s.s1, a.F.keep s.kb hk, a.D.stay s.tup⟩
theorem kn_row {ss : List Sym} {r : FRow} {D : Option Str → Prop} (h : ∀ x ∈ nms, x.length ≤ 1000 ∧ ∃ s, look ss x = some s) (g : r.good nmsP D) : ∀ i ∈ r.items, nucKn ss i.nuc := fun i hi => by
  have gi := (FRow.good_iff _ _).mp g i hi
  cases i with
  | mk n b a =>
    cases n with
    | sym x => exact h x gi.1
    | _ => trivial
theorem nms_len : ∀ x ∈ nms, x.length ≤ 1000 := by decide +kernel
theorem look_nm {ss : List Sym} (h : ss.map (·.nm) = nmsR) {x : Str} (hx : x ∈ nms) : ∃ s, look ss x = some s := by
  have hm : x ∈ ss.map (·.nm) := by rw [h]; exact List.mem_append_left _ hx
  obtain ⟨y, hy, rfl⟩ := List.mem_map.mp hm
  obtain ⟨i, hi, e⟩ := List.getElem_of_mem hy
  exact ⟨y, look_at (by rw [h]; decide +kernel) (by rw [List.getElem?_eq_getElem hi, e])⟩
theorem wk9 : WKind nmsP delP (fun x => 1 ≤ x.length ∧ x.length ≤ 9) := by
  refine ⟨?_, ?_, ?_⟩
  · show ∀ x ∈ nms, _
    decide +kernel
  · rintro o (rfl | rfl | rfl | rfl) <;> exact ⟨by decide +kernel, by decide +kernel⟩
  · decide +kernel
def spLaw (K : PySem.W.Frag) : Sp := fun vs H Q _ => ∃ (a : Addr) (ns : List Int), vs = [.ref a] ∧ SqL K H a (ns.map V.int) ∧ ∀ H', Q (.bl true) H'
theorem ok_law {f : Addr} {fd : FuncData} (F : Fun K "law" "law" sLaw f fd) (T : Law11 P w K mg base CF CB) : FnOk P w K mg base CX0 13 f fd ["script"] (spLaw K) := by
  have sc := scLaw
  refine F.ok scLaw (fun vs H Q E h => ?_) (fun cdv A outer s H vs Q E hr h => ?_)
  · obtain ⟨a, ns, rfl, _⟩ := h
    rfl
  · obtain ⟨a, ns, rfl, hS, k⟩ := h
    have C_law_fixed := T.fixed
    have C_law_stream := T.stream
    have C_law_font := T.font
    have C_law_next := T.next
    have C_law_item := T.item
    have C_law_within := T.within
    have C_law_same := T.same
    have C_classes_of := T.classes
    have C_law_kinds := T.kinds
    have C_space_between := T.space
    have C_law_gap := T.gap
    refine ⟨_, (pss_cons (ps_if (pt_not (pt_val (by exact (pe_cal0 C_law_fixed (hr.mono (by omega)) rfl pass0))))
  (pss_one (ps_ret pe_bl))
  pss_nil)
  (pss_cons (ps_set (i := 1) sc.nd rfl (Or.inr rfl) (pe_cal C_law_stream (hr.mono (by omega)) rfl pass0 (pa_cons (pv 0) (pa_cons pe_int (pa_cons pe_int pa_nil)))))
  (pss_cons (ps_set (i := 2) sc.nd rfl (Or.inl rfl) (pe_cal C_law_font (hr.mono (by omega)) rfl pass0 (pa_cons (pv 1) pa_nil)))
  (pss_cons (ps_set (i := 3) sc.nd rfl (Or.inl rfl) (pe_mkF T.mkF (hr.mono (by omega)) rfl T.g_Font (pa_cons (pe_ix ix_tup (pv 2) pe_int (fun _ _ => rfl)) (pa_cons (pe_ix ix_tup (pv 2) pe_int (fun _ _ => rfl)) pa_nil))))
  (pss_cons (ps_set (i := 4) sc.nd rfl (Or.inl rfl) (pe_callTy call_tuple_of (by rfl) T.b_tuple (by decide +kernel) (pa_cons (pe_lc (own := [("k", 11)]) rfl sc.nd (pi_range1 rfl T.range (pa_cons (pe_cal C_law_next (hr.mono (by omega)) rfl pass0 (pa_cons (pv 1) (pa_cons pe_int pa_nil))) pa_nil)) (blkOk_by (own := [("k", 11)]) (N := ["script", "stream", "data", "font", "row", "kinds", "turned", "signs", "left", "right", "style", "k", "one"]) (sc := defScope sLaw) (by decide +kernel)) (fun _ _ _ _ _ => (pg_name (i := 11) sc.nd rfl (Or.inl rfl))) (fun _ _ _ _ _ => pts_nil) (fun _ _ _ _ _ => (pe_cal C_law_item (hr.mono (by omega)) rfl pass0 (pa_cons (pv 1) (pa_cons pe_int pa_nil))))) pa_nil)))
  (pss_cons (ps_set (i := 4) sc.nd rfl (Or.inl rfl) (pe_cal C_law_within (hr.mono (by omega)) rfl pass0 (pa_cons (pv 4) pa_nil)))
  (pss_cons (ps_set (i := 5) sc.nd rfl (Or.inr rfl) (pe_lst (pa_cons pe_str (pa_cons pe_str (pa_cons pe_str (pa_cons pe_str (pa_cons pe_str (pa_cons pe_str (pa_cons pe_str pa_nil)))))))))
  (pss_cons (ps_set (i := 6) sc.nd rfl (Or.inl rfl) (pe_callTy call_tuple_of (by rfl) T.b_tuple (by decide +kernel) (pa_cons (pe_lc (own := [("one", 12)]) rfl sc.nd (pi_tup (pe_ix ix_tup (pv 2) pe_int (fun _ _ => rfl))) (blkOk_by (own := [("one", 12)]) (N := ["script", "stream", "data", "font", "row", "kinds", "turned", "signs", "left", "right", "style", "k", "one"]) (sc := defScope sLaw) (by decide +kernel)) (fun _ _ _ _ _ => (pg_name (i := 12) sc.nd rfl (Or.inl rfl))) (fun _ _ _ _ _ => pts_nil) (fun _ _ _ _ _ => (pe_op (r := rCatT K) op_catT (pe_op (r := rCatT K) op_catT (pe_slice (r := rSlT K) sl_tup (pv 12) po_none (po_some pe_int)) (pe_tup (pa_cons (pe_ix (r := rIxL K) ix_list (pv 5) (pe_cal C_law_next (hr.mono (by omega)) rfl pass0 (pa_cons (pv 1) (pa_cons pe_int pa_nil))) (fun _ _ => rfl)) pa_nil))) (pe_slice (r := rSlT K) sl_tup (pv 12) (po_some pe_int) po_none)))) pa_nil)))
  (pss_cons (ps_if (pt_not (pt_val (pe_cal C_law_same (hr.mono (by omega)) rfl pass0 (pa_cons (pe_cal C_classes_of (hr.mono (by omega)) rfl pass0 (pa_cons (pe_mkF T.mkF (hr.mono (by omega)) rfl T.g_Font (pa_cons (pv 6) (pa_cons (pe_ix ix_tup (pv 2) pe_int (fun _ _ => rfl)) pa_nil))) (pa_cons (pv 4) pa_nil))) (pa_cons (pe_cal C_law_kinds (hr.mono (by omega)) rfl pass0 (pa_cons (pe_tup (pa_cons (pv 6) (pa_cons (pe_ix ix_tup (pv 2) pe_int (fun _ _ => rfl)) pa_nil))) (pa_cons (pv 4) pa_nil))) pa_nil)))))
  (pss_one (ps_ret pe_bl))
  pss_nil)
  (pss_cons (ps_if (pt_not (pt_val (pe_cal C_law_same (hr.mono (by omega)) rfl pass0 (pa_cons (pe_cal C_classes_of (hr.mono (by omega)) rfl pass0 (pa_cons (pv 3) (pa_cons (pv 4) pa_nil))) (pa_cons (pe_cal C_law_kinds (hr.mono (by omega)) rfl pass0 (pa_cons (pv 2) (pa_cons (pv 4) pa_nil))) pa_nil)))))
  (pss_one (ps_ret pe_bl))
  pss_nil)
  (pss_cons (ps_set (i := 7) sc.nd rfl (Or.inl rfl) (pe_callTy call_tuple_of (by rfl) T.b_tuple (by decide +kernel) (pa_cons (pe_lc (own := [("k", 11)]) rfl sc.nd (pi_range1 rfl T.range (pa_cons pe_int pa_nil)) (blkOk_by (own := [("k", 11)]) (N := ["script", "stream", "data", "font", "row", "kinds", "turned", "signs", "left", "right", "style", "k", "one"]) (sc := defScope sLaw) (by decide +kernel)) (fun _ _ _ _ _ => (pg_name (i := 11) sc.nd rfl (Or.inl rfl))) (fun _ _ _ _ _ => pts_nil) (fun _ _ _ _ _ => (pe_tup (pa_cons (pe_tup (pa_cons pe_str (pa_cons (pe_ix (r := rIxL K) ix_list (pe_lst (pa_cons pe_str (pa_cons pe_str (pa_cons pe_str (pa_cons pe_str (pa_cons pe_str (pa_cons pe_str (pa_cons pe_str (pa_cons pe_str pa_nil))))))))) (pe_cal C_law_next (hr.mono (by omega)) rfl pass0 (pa_cons (pv 1) (pa_cons pe_int pa_nil))) (fun _ _ => rfl)) pa_nil))) (pa_cons pe_non (pa_cons pe_non pa_nil)))))) pa_nil)))
  (pss_cons (ps_if (pt_not (pt_val (pe_cal C_law_same (hr.mono (by omega)) rfl pass0 (pa_cons (pe_cal C_classes_of (hr.mono (by omega)) rfl pass0 (pa_cons (pv 3) (pa_cons (pv 7) pa_nil))) (pa_cons (pe_cal C_law_kinds (hr.mono (by omega)) rfl pass0 (pa_cons (pv 2) (pa_cons (pv 7) pa_nil))) pa_nil)))))
  (pss_one (ps_ret pe_bl))
  pss_nil)
  (pss_cons (ps_set (i := 5) sc.nd rfl (Or.inr rfl) (pe_lst (pa_cons pe_str (pa_cons pe_str (pa_cons pe_str (pa_cons pe_str (pa_cons pe_str (pa_cons pe_str (pa_cons pe_str (pa_cons pe_str pa_nil))))))))))
  (pss_cons (ps_for PassesOwn.never rfl (pi_list (pv 5)) (pg_name (i := 8) sc.nd rfl (Or.inl rfl))
  (pss_one (ps_for PassesOwn.never rfl (pi_list (pv 5)) (pg_name (i := 9) sc.nd rfl (Or.inl rfl))
  (pss_one (ps_for PassesOwn.never rfl (pi_range1 rfl T.range (pa_cons pe_int pa_nil)) (pg_name (i := 10) sc.nd rfl (Or.inl rfl))
  (pss_one (ps_if (pt_not (pt_val (pe_cal C_law_same (hr.mono (by omega)) rfl pass0 (pa_cons (pe_cal C_space_between (hr.mono (by omega)) rfl pass0 (pa_cons (pv 3) (pa_cons (pv 8) (pa_cons (pv 9) (pa_cons (pv 10) pa_nil))))) (pa_cons (pe_cal C_law_gap (hr.mono (by omega)) rfl pass0 (pa_cons (pv 2) (pa_cons (pv 8) (pa_cons (pv 9) (pa_cons (pv 10) pa_nil))))) pa_nil)))))
  (pss_one (ps_ret pe_bl))
  pss_nil)))))))
  (pss_one (ps_ret pe_bl)))))))))))))))), ?_⟩
    -- if not _law_fixed()
    refine ⟨rfl, fun H1 s1 => ⟨_, rfl, iteF ?_⟩⟩
    -- stream
    refine ⟨_, rfl, a, ns, 16, rfl, s1.seq hS, by decide, by decide, fun st pd pl H2 n1 n2 n3 s2 S2 => ?_⟩
    -- data
    refine ⟨_, rfl, st, pd, pl, rfl, S2, fun f aa ab ss ls H3 kb3 S3 ef tb ta hnm hok hls => ?_⟩
    have Dr : Drawn ss ls := ⟨hnm, hok, hls⟩
    have tD : Tp K H3 (.ref f) (fontD ss ls) := .mk (SqT.of ef) (.cons ta (.cons (tp_of_ints tb) .nil))
    have tD' : Tp K H3 (.ref f) (.tuple [symsD ss, lensD ls]) := tD
    -- font
    refine q_mkF (K := K) (ss := ss) (ls := ls) (a_cons (e_op (e_var rfl tD') e_int (r_ixT rfl)) (a_cons (e_op (e_var rfl tD') e_int (r_ixT rfl)) a_nil)) (pre_syms Dr.pre) Dr.good Dr.goodL fun p va vl H4 np s4 FA => ?_
    have W4 : St11 K CF H4 st pd pl f p va vl ss ls := ⟨S3.new s4, FA, tD.stay (.of s4)⟩
    -- row
    refine q_setN (K := K) W4.S (n_tupOf (fun p xs H Q hs hq => ⟨p, xs, rfl, .inl ⟨hs, hq⟩⟩) (nl_range (A := fun i => 0 ≤ i ∧ i < 9) (P := fun d => ∃ i : FItem, d = i.d ∧ DrI 2 i) (n_next rfl (by decide)) (fun i hi => by omega) (fun x => rfl) (fun i H5 s5 => n_call (vs := [.ref st, .int 1]) (fun H Q q => ⟨_, rfl, q⟩) fun H6 s6 Q q => ⟨st, pd, pl, 1, rfl, s6.s1, by omega, fun v m H7 s7 dr t => q _ _ H7 s7 ⟨m, rfl, dr⟩ t⟩))) ?_
    rintro vr dr H5 s5 ⟨ds, rfl, i0, ai, el, hp⟩ tr
    obtain ⟨li, rfl, ll, hli⟩ := items_of_ds hp
    have DR : DrR 2 8 (FRow.of li) := .of (by omega) hli
    have tr : Tp K H5 vr (FRow.of li).d := by
      rw [FRow.d, FRow.ds_eq, FRow.items_of]
      exact tr
    have W5 := W4.sk s5
    -- row = _law_within(row)
    have wl : _ ≤ 8 * bI 2 := DR.words
    have dl := DR.dep
    have b2 : bI 2 = 172 := rfl
    refine ⟨_, rfl, vr, FRow.of li, rfl, tr, by omega, by omega, words_row wk9 DR.good, fun vr r H6 s6 hr6 tr => ?_⟩
    have W6 := W5.same s6
    have gr : r.good nmsP delP := by
      rcases hr6 with rfl | rfl
      · exact DR.good
      · trivial
    have rl : r.items.length ≤ 100000 := by
      rcases hr6 with rfl | rfl
      · have := DR.len
        omega
      · exact Nat.zero_le _
    -- kinds
    refine q_setL (K := K) (ds := kinds7.map PyData.str) (l_lst (a_cons e_str (a_cons e_str (a_cons e_str (a_cons e_str (a_cons e_str (a_cons e_str (a_cons e_str a_nil))))))) (by decide)) fun kl xk H7 nk s7 ek lk => ?_
    have W7 := W6.same s7
    have tr := tr.stay (.of s7)
    have klpl := W6.S.ne nk
    have tDs : ∀ {H' : Hp}, St11 K CF H' st pd pl f p va vl ss ls → Tp K H' (.ref f) (.tuple [symsD ss, lensD ls]) := fun W => W.D
    -- turned
    refine q_setN (K := K) W7.S (n_tupOf (fun p xs H Q hs hq => ⟨p, xs, rfl, .inl ⟨hs, hq⟩⟩) (nl_lcT ss Sym.d (fun y d => ∃ z : Sym, d = z.d ∧ Turn y z) (fun H8 s8 => e_op (e_var rfl (tDs (W7.sk s8))) e_int (r_ixT rfl)) (by rw [Dr.len]; decide) (fun x => rfl) fun y hy x H8 s8 tx => ?_)) ?_
    · refine n_imp (n_cat (A := fun ds => ∃ c, ds = [.str y.nm, .str c] ∧ c ∈ kinds7) (B := fun ds => ds = [.int y.wd, .int y.ht, .int y.dp]) (n_imp (n_cat (A := fun ds => ds = [.str y.nm]) (B := fun ds => ∃ c, ds = [.str c] ∧ c ∈ kinds7) (n_imp (n_sl (lo := none) (hi := some 1) (ds := [.str y.nm, .str y.cl, .int y.wd, .int y.ht, .int y.dp]) (n_var rfl tx rfl) (fun _ _ q => q) (fun _ _ q => ⟨1, rfl, q⟩) (by show ¬ (0 = 0 ∧ 1 = 5); decide)) (fun d e => ⟨_, e, rfl⟩)) (n_imp (n_tup (na_cons (P := fun d => ∃ c, d = .str c ∧ c ∈ kinds7) (n_ixV rfl (s8.kb _ _ ek klpl) klpl (lk.stay s8.tup) (n_next rfl (by decide)) (fun i hi => ?_)) na_nil) ?_) ?_) ?_) ?_) (n_imp (n_sl (lo := some 2) (hi := none) (ds := [.str y.nm, .str y.cl, .int y.wd, .int y.ht, .int y.dp]) (n_var rfl tx rfl) (fun _ _ q => ⟨2, rfl, q⟩) (fun _ _ q => q) (by show ¬ (2 = 0 ∧ 5 = 5); decide)) (fun d e => ⟨_, e, rfl⟩)) ?_) ?_
      · obtain ⟨i0, i1⟩ := hi
        obtain ⟨m, rfl⟩ := Int.eq_ofNat_of_zero_le i0
        have m7 : m < kinds7.length := by show m < 7; omega
        exact ⟨.str kinds7[m], atI_nat (map_get (List.getElem?_eq_getElem m7)), _, rfl, List.getElem_mem m7⟩
      · rintro ds ⟨d, r, rfl, _, rfl⟩
        exact Nat.le_of_ble_eq_true rfl
      · rintro d ⟨ds, rfl, d1, r1, rfl, ⟨c, rfl, hc⟩, rfl⟩
        exact ⟨_, rfl, c, rfl, hc⟩
      · rintro ds es rfl ⟨c, rfl, _⟩
        exact ⟨by simp, by simp, by simp⟩
      · rintro d ⟨ds, rfl, xs, ys, rfl, rfl, c, rfl, hc⟩
        exact ⟨_, rfl, c, rfl, hc⟩
      · rintro ds es ⟨c, rfl, _⟩ rfl
        exact ⟨by simp, by simp, by simp⟩
      · rintro d ⟨ds, rfl, xs, ys, rfl, ⟨c, rfl, hc⟩, rfl⟩
        exact ⟨⟨y.nm, c, y.wd, y.ht, y.dp⟩, rfl, rfl, hc, rfl, rfl, rfl⟩
    rintro vt dt H8 s8 ⟨dus, rfl, eul, hus⟩ tt
    have W8 := W7.sk s8
    have tr := tr.stay s8.tup
    obtain ⟨us, rfl, ul, hTurn⟩ : ∃ us : List Sym, dus = us.map Sym.d ∧ us.length = ss.length ∧ ∀ (i : Nat) (y z : Sym), ss[i]? = some y → us[i]? = some z → Turn y z := syms_of_turn eul hus
    have tt : Tp K H8 vt (symsD us) := tt
    have unm : us.map (·.nm) = nmsR := by
      rw [← hnm]
      refine List.ext_getElem? fun i => ?_
      rw [List.getElem?_map, List.getElem?_map]
      by_cases c : i < ss.length
      · have e1 : ss[i]? = some ss[i] := List.getElem?_eq_getElem c
        have e2 : us[i]? = some (us[i]'(by omega)) := List.getElem?_eq_getElem (by omega)
        rw [e1, e2]
        exact congrArg some (hTurn i _ _ e1 e2).nm
      · rw [List.getElem?_eq_none (by omega), List.getElem?_eq_none (by omega)]
    have umem : ∀ z ∈ us, ∃ y ∈ ss, Turn y z := fun z hz => by
      obtain ⟨i, hi, rfl⟩ := List.getElem_of_mem hz
      have e1 : ss[i]? = some (ss[i]'(by omega)) := List.getElem?_eq_getElem (by omega)
      exact ⟨_, List.mem_of_getElem? e1, hTurn i _ _ e1 (List.getElem?_eq_getElem hi)⟩
    have ugood : areSymbols (symsD us) = true := good_syms (by rw [ul, Dr.len]; decide) (by rw [ul, Dr.len]; decide) (by rw [unm]; decide +kernel) fun z hz => by
      obtain ⟨y, hy, T⟩ := umem z hz
      exact T.entry Dr hy
    have upre : PreS (symsD us) := pre_syms fun z hz => by
      obtain ⟨y, hy, T⟩ := umem z hz
      rw [T.nm]
      exact Dr.pre y hy
    have knS : ∀ x ∈ nms, x.length ≤ 1000 ∧ ∃ s, look ss x = some s := fun x hx => ⟨nms_len x hx, look_nm hnm hx⟩
    have knU : ∀ x ∈ nms, x.length ≤ 1000 ∧ ∃ s, look us x = some s := fun x hx => ⟨nms_len x hx, look_nm unm hx⟩
    have s13 : ss.length ≤ 1000 := by rw [Dr.len]; decide
    have u13 : us.length ≤ 1000 := by rw [ul, Dr.len]; decide
    -- the turned font's classes
    refine q_no (K := K) (t_not (t_sameL (l_clsMk (ss := us) (ls := ls) (a_cons (e_var rfl tt) (a_cons (e_op (e_var rfl (tDs W8)) e_int (r_ixT rfl)) a_nil)) upre ugood Dr.goodL rfl tr (kn_row knU gr) rl) (l_call (a_cons (e_tup (a_cons (e_var rfl tt) (a_cons (e_op (e_var rfl (tDs W8)) e_int (r_ixT (d := lensD ls) rfl)) a_nil)) (by show 2 ≤ 1000; decide)) (a_cons (e_var rfl tr) a_nil)) ⟨us, ls, r, rfl, rfl, kn_row knU gr, u13, rl⟩))) rfl fun H9 s9 => ?_
    have W9 := W8.same s9
    have tr := tr.stay (.of s9)
    -- the font's classes
    refine q_no (K := K) (t_not (t_sameL (l_cls rfl rfl W9.F tr (kn_row knS gr) rl) (l_call (a_cons (e_var rfl W9.D) (a_cons (e_var rfl tr) a_nil)) ⟨ss, ls, r, rfl, rfl, kn_row knS gr, s13, rl⟩))) rfl fun H10 s10 => ?_
    have W10 := W9.same s10
    -- signs
    refine q_setN (K := K) W10.S (n_tupOf (fun p xs H Q hs hq => ⟨p, xs, rfl, .inl ⟨hs, hq⟩⟩) (nl_range (A := fun i => i = 10) (P := fun d => ∃ i : FItem, d = i.d ∧ ∃ x, i = .mk (.sym x) .no .no ∧ x ∈ nms) (n_intC rfl) (fun i hi => by omega) (fun x => rfl) (fun i H11 s11 => ?_))) ?_
    · refine n_imp (n_tup (na_cons (n_tup (na_cons (P := fun d => d = .str "symbol") (n_c (fun _ => .str _) rfl) (na_cons (P := fun d => ∃ x, d = .str x ∧ x ∈ nms) (n_ixL (R := fun ds => ds = signs8.map PyData.str) (nl_strs8 ?_) (n_next rfl (by decide)) ?_) na_nil)) ?_) (na_cons (P := fun d => d = .none) (n_c (fun _ => .non) rfl) (na_cons (P := fun d => d = .none) (n_c (fun _ => .non) rfl) na_nil))) ?_) ?_
      · exact rfl
      · rintro ds i rfl ⟨i0, i1⟩
        obtain ⟨m, rfl⟩ := Int.eq_ofNat_of_zero_le i0
        have m8 : m < signs8.length := by show m < 8; omega
        exact ⟨.str signs8[m], atI_nat (map_get (List.getElem?_eq_getElem m8)), _, rfl, signs_nms _ (List.getElem_mem m8)⟩
      · rintro ds ⟨d, r, rfl, _, d2, r2, rfl, _, rfl⟩
        exact Nat.le_of_ble_eq_true rfl
      · rintro ds ⟨d, r, rfl, _, d2, r2, rfl, _, d3, r3, rfl, _, rfl⟩
        exact Nat.le_of_ble_eq_true rfl
      · rintro d ⟨ds, rfl, d1, r1, rfl, ⟨ds1, rfl, d4, r4, rfl, rfl, d5, r5, rfl, ⟨x, rfl, hx⟩, rfl⟩, d2, r2, rfl, rfl, d3, r3, rfl, rfl, rfl⟩
        exact ⟨.mk (.sym x) .no .no, rfl, x, rfl, hx⟩
    rintro vg dg H11 s11 ⟨dgs, rfl, i0, rfl, el2, hp2⟩ tg
    obtain ⟨lg, rfl, lgl, hlg⟩ := items_of_ds hp2
    have W11 := W10.sk s11
    have tg : Tp K H11 vg (FRow.of lg).d := by
      rw [FRow.d, FRow.ds_eq, FRow.items_of]
      exact tg
    have gg : (FRow.of lg).good nmsP delP := (FRow.good_iff _ _).mpr fun i hi => by
      rw [FRow.items_of] at hi
      obtain ⟨x, rfl, hx⟩ := hlg i hi
      exact ⟨hx, trivial, trivial⟩
    have gl : (FRow.of lg).items.length ≤ 100000 := by
      rw [FRow.items_of]
      omega
    refine q_no (K := K) (t_not (t_sameL (l_cls rfl rfl W11.F tg (kn_row knS gg) gl) (l_call (a_cons (e_var rfl W11.D) (a_cons (e_var rfl tg) a_nil)) ⟨ss, ls, FRow.of lg, rfl, rfl, kn_row knS gg, s13, gl⟩))) rfl fun H12 s12 => ?_
    have W12 := W11.same s12
    -- the spaces
    refine q_setL (K := K) (ds := cKINDS.map PyData.str) (l_lst (a_cons e_str (a_cons e_str (a_cons e_str (a_cons e_str (a_cons e_str (a_cons e_str (a_cons e_str (a_cons e_str a_nil)))))))) (by decide)) fun k8 x8 H13 n13 s13' e13 l13 => ?_
    obtain rfl := l13.strs
    have W13 := W12.same s13'
    refine ⟨_, rfl, k8, rfl, ⟨_, SqL.of e13⟩, for_list (K := K) (a := k8) (xs := cKINDS.map V.str) (fun i σ' H' => ∃ y8 y9 y10, σ' = [some (.ref a), some (.ref st), some (.ref f), some (.ref p), some vr, some (.ref k8), some vt, some vg, y8, y9, y10, none, none] ∧ Same H13 H') ⟨_, _, _, rfl, Same.refl _⟩ (fun i σ' H' _ ⟨_, _, _, _, s⟩ => SqL.of (s _ _ e13)) ?_ ?_⟩
    · rintro i x σ' H14 hi ⟨y8, y9, y10, rfl, s14⟩
      obtain ⟨x, hx, rfl⟩ := get_map hi
      refine ⟨_, rfl, k8, rfl, ⟨_, SqL.of (s14 _ _ e13)⟩, for_list (K := K) (a := k8) (xs := cKINDS.map V.str) (fun j σ' H' => ∃ y9 y10, σ' = [some (.ref a), some (.ref st), some (.ref f), some (.ref p), some vr, some (.ref k8), some vt, some vg, some (.str x), y9, y10, none, none] ∧ Same H13 H') ⟨_, _, rfl, s14⟩ (fun i σ' H' _ ⟨_, _, _, s⟩ => SqL.of (s _ _ e13)) ?_ ?_⟩
      · rintro j y σ' H15 hj ⟨y9, y10, rfl, s15⟩
        obtain ⟨y, hy, rfl⟩ := get_map hj
        refine ⟨4, rfl, by decide, by decide, for_range (n := 4) (fun m σ' H' => ∃ y10, σ' = [some (.ref a), some (.ref st), some (.ref f), some (.ref p), some vr, some (.ref k8), some vt, some vg, some (.str x), some (.str y), y10, none, none] ∧ Same H13 H') ⟨_, rfl, s15⟩ ?_ ?_⟩
        · rintro m σ' H16 hm ⟨y10, rfl, s16⟩
          have W16 := W13.same s16
          refine q_noS' (K := K) (t_not (t_sameI (i := spaceOf ls i j (0 + (m : Int))) (e_callV (us := [.ref p, .str x, .str y, .int (0 + (m : Int))]) (fun H1 s Q q => ⟨_, rfl, _, rfl, _, rfl, _, rfl, q H1 (Same.refl _)⟩) fun H1 s Q q => ⟨p, va, vl, ss, ls, i, j, x, y, _, rfl, W16.F.same s, hx, hy, fun H2 s2 => q _ H2 s2 (.int _)⟩) (e_callV (us := [.ref f, .str x, .str y, .int (0 + (m : Int))]) (fun H1 s Q q => ⟨_, rfl, _, rfl, _, rfl, _, rfl, q H1 (Same.refl _)⟩) fun H1 s Q q => ⟨.ref f, ss, ls, i, j, x, y, _, rfl, (W16.same s).D, font_lens W16.F, hx, hy, by omega, by omega, fun H2 s2 => q _ H2 s2 (.int _)⟩))) rfl fun H17 s17 => ⟨_, rfl, s16.trans s17⟩
        · rintro σ' H16 ⟨y10, rfl, s16⟩
          exact ⟨_, _, rfl, s16⟩
      · rintro σ' H15 ⟨y9, y10, rfl, s15⟩
        exact ⟨_, _, _, rfl, s15⟩
    · rintro σ' H14 ⟨y8, y9, y10, rfl, s14⟩
      exact k H14
end
end Mg

set_option Elab.async false
set_option linter.all false
set_option maxRecDepth 100000
set_option maxHeartbeats 4000000
namespace Mg
open PySem L2
theorem sqt_of {K : PySem.W.Frag} {a : Addr} {od : Option Addr} {its : Array Value} {n : Nat} {sl : Array (Option Value)} {xs : List V} (h : K.lookup a = some ⟨.type "tuple", od, .seq its n, sl⟩) (hz : its.size ≤ sizeLine) (hv : Vals xs its.toList) : ∀ H, SqT K H a xs := fun H => .inr ⟨_, its, n, h, rfl, rfl, hz, hv⟩
theorem kit_own {K : PySem.W.Frag} {t : Value} {C : Addr} (h1 : PySem.W.hasDictIn K C = true) (h2 : PySem.W.typeIn K (.ref C) = some (.type "type")) (h3 : PySem.W.subIn K t (.ref C) = some true) : PySem.W.kitCls K t (.ref C) = some true := by
  obtain ⟨cd, hc, _⟩ := PySem.W.any_some h1
  unfold PySem.W.kitCls
  have e : ((PySem.W.clsIn K C).isSome && PySem.W.typeIn K (.ref C) == some (.type "type")) = true := by
    rw [hc, h2]
    rfl
  dsimp only
  rw [if_pos e]
  exact h3
theorem kit_VE {K : PySem.W.Frag} {t : Value} (h : PySem.W.subIn K t (.type "ValueError") = some true) : PySem.W.kitCls K t (.type "ValueError") = some true := by
  unfold PySem.W.kitCls
  dsimp only
  rw [if_pos (by decide +kernel)]
  exact h
theorem kit_me {K : PySem.W.Frag} {C : Addr} : PySem.W.kitOne K (.ref C) (.ref C) = some true := by
  unfold PySem.W.kitOne
  rw [if_pos (by simp)]
theorem ne_ref {a b : Addr} (h : a ≠ b) : (Value.ref a == Value.ref b) = false := by
  simp [h]
theorem all_mk {P : Program} {w : World} {K : PySem.W.Frag} {h : Heap} {mg : Str → Option Value} {fa : Addr} {CF CB CU CS CTD CTL f0 f1 f2 f3 f4 f5 f6 f7 f8 f9 f10 f11 f12 f13 f14 f15 f16 f17 f18 f19 f20 f21 f22 f23 f24 f25 f26 f27 f28 f29 f30 f31 f32 f33 f34 f35 f36 f37 f38 f39 m0 m1 m2 fL fU cdaU ccU uN aR aC aM0 aM1 aM2 aM3 aM4 aM5 aM6 aM7 aLL aK aN aB aS aS0 aS1 aS2 aS3 aS4 aS5 aS6 aS7 : Addr} {tfU t_LETTERS t_SIGNS t_MOST_LETTERS t_ROOT_SIGN t_MOST_MEASURE t_MOST_SYMBOLS t_aR0 t_aR1 t_aR2 t_aR3 t_aR4 t_aC0 t_aC1 t_aC2 t_aC3 t_aC4 t_aC5 t_aC6 tp0 tq0 tp1 tq1 tp2 tq2 tp3 tq3 tp4 tq4 tp5 tq5 tp6 tq6 tp7 tq7 t_STEP t_RULE t_THIN t_DEEPEST t_MOST_ITEMS t_LONGEST t_aK0 t_aK1 t_aK2 t_aK3 t_aK4 t_aK5 t_aK6 t_aK7 t_aN0 t_aN1 t_aN2 t_aN3 t_aN4 t_aB0 t_aB1 t_aB2 t_aS00 t_aS01 t_aS02 t_aS03 t_aS04 t_aS05 t_aS06 t_aS07 t_aS10 t_aS11 t_aS12 t_aS13 t_aS14 t_aS15 t_aS16 t_aS17 t_aS20 t_aS21 t_aS22 t_aS23 t_aS24 t_aS25 t_aS26 t_aS27 t_aS30 t_aS31 t_aS32 t_aS33 t_aS34 t_aS35 t_aS36 t_aS37 t_aS40 t_aS41 t_aS42 t_aS43 t_aS44 t_aS45 t_aS46 t_aS47 t_aS50 t_aS51 t_aS52 t_aS53 t_aS54 t_aS55 t_aS56 t_aS57 t_aS60 t_aS61 t_aS62 t_aS63 t_aS64 t_aS65 t_aS66 t_aS67 t_aS70 t_aS71 t_aS72 t_aS73 t_aS74 t_aS75 t_aS76 t_aS77 : Tok}
    {ocL kVL dcL pmL cdL ctL : Value} {odL anL : Option Addr} {slL : Array (Option Value)}
    {unm uq : Str} {ubs : List Value} {usn : List Str} {usub : List Value} {uab : Bool} {ucol : Option Bool} {udd : Option Addr} {um0 um1 um2 um3 um5 : Option Value} {ocU dcU pmU ctU clU cclU : Value} {odU anU cldU cddU : Option Addr} {slU cslU ccsU : Array (Option Value)} {vsU : Array Value} {fileU : Str}
    {es_aS : Array DictEntry} {nn_aS : Nat}
    {od_k_RESERVED od_k_CLASSES od_k_LENGTH_LIMITS od_kM0 od_kM1 od_kM2 od_kM3 od_kM4 od_kM5 od_kM6 od_kM7 od_k_NO_OPERANDS od_k_NO_OPERANDS_BEHIND od_g_SPACES0 od_g_SPACES1 od_g_SPACES2 od_g_SPACES3 od_g_SPACES4 od_g_SPACES5 od_g_SPACES6 od_g_SPACES7 : Option Addr} {n_k_RESERVED n_k_CLASSES n_k_LENGTH_LIMITS n_kM0 n_kM1 n_kM2 n_kM3 n_kM4 n_kM5 n_kM6 n_kM7 n_k_KINDS n_k_NO_OPERANDS n_k_NO_OPERANDS_BEHIND n_g_SPACES0 n_g_SPACES1 n_g_SPACES2 n_g_SPACES3 n_g_SPACES4 n_g_SPACES5 n_g_SPACES6 n_g_SPACES7 : Nat} {sl_k_RESERVED sl_k_CLASSES sl_k_LENGTH_LIMITS sl_kM0 sl_kM1 sl_kM2 sl_kM3 sl_kM4 sl_kM5 sl_kM6 sl_kM7 sl_k_KINDS sl_k_NO_OPERANDS sl_k_NO_OPERANDS_BEHIND sl_g_SPACES0 sl_g_SPACES1 sl_g_SPACES2 sl_g_SPACES3 sl_g_SPACES4 sl_g_SPACES5 sl_g_SPACES6 sl_g_SPACES7 : Array (Option Value)}
    (X : K.In h) (G : h.Ns mainGlobals mg) (hfa : mg "law" = some (.ref fa))
    (gF : PySem.W.nsIn K mainGlobals "Font" = some (some (.ref CF)))
    (gB : PySem.W.nsIn K mainGlobals "BadFont" = some (some (.ref CB)))
    (gU : PySem.W.nsIn K mainGlobals "UnknownSymbol" = some (some (.ref CU)))
    (gS : PySem.W.nsIn K mainGlobals "SetError" = some (some (.ref CS)))
    (gTD : PySem.W.nsIn K mainGlobals "TooDeep" = some (some (.ref CTD)))
    (gTL : PySem.W.nsIn K mainGlobals "TooLarge" = some (some (.ref CTL)))
    (z_len : PySem.W.nsIn K mainGlobals "len" = some none)
    (z_int : PySem.W.nsIn K mainGlobals "int" = some none)
    (z_abs : PySem.W.nsIn K mainGlobals "abs" = some none)
    (z_range : PySem.W.nsIn K mainGlobals "range" = some none)
    (z_isinstance : PySem.W.nsIn K mainGlobals "isinstance" = some none)
    (z_tuple : PySem.W.nsIn K mainGlobals "tuple" = some none)
    (z_list : PySem.W.nsIn K mainGlobals "list" = some none)
    (z_bool : PySem.W.nsIn K mainGlobals "bool" = some none)
    (z_str : PySem.W.nsIn K mainGlobals "str" = some none)
    (z_all : PySem.W.nsIn K mainGlobals "all" = some none)
    (z_zip : PySem.W.nsIn K mainGlobals "zip" = some none)
    (z_max : PySem.W.nsIn K mainGlobals "max" = some none)
    (z_sum : PySem.W.nsIn K mainGlobals "sum" = some none)
    (z_enumerate : PySem.W.nsIn K mainGlobals "enumerate" = some none)
    (z_super : PySem.W.nsIn K mainGlobals "super" = some none)
    (a0 : PySem.W.nsIn K mainGlobals "is_command" = some (some (.ref f0)))
    (d0 : ∃ fd, Fun K "is_command" "is_command" sIsCommand f0 fd)
    (k0 : PySem.W.keepIn K (.ref f0) = true)
    (a1 : PySem.W.nsIn K mainGlobals "is_symbol" = some (some (.ref f1)))
    (d1 : ∃ fd, Fun K "is_symbol" "is_symbol" sIsSymbol f1 fd)
    (k1 : PySem.W.keepIn K (.ref f1) = true)
    (a2 : PySem.W.nsIn K mainGlobals "scaled" = some (some (.ref f2)))
    (d2 : ∃ fd, Fun K "scaled" "scaled" sScaled f2 fd)
    (k2 : PySem.W.keepIn K (.ref f2) = true)
    (a3 : PySem.W.nsIn K mainGlobals "are_symbols" = some (some (.ref f3)))
    (d3 : ∃ fd, Fun K "are_symbols" "are_symbols" sAreSymbols f3 fd)
    (k3 : PySem.W.keepIn K (.ref f3) = true)
    (a4 : PySem.W.nsIn K mainGlobals "is_entry" = some (some (.ref f4)))
    (d4 : ∃ fd, Fun K "is_entry" "is_entry" sIsEntry f4 fd)
    (k4 : PySem.W.keepIn K (.ref f4) = true)
    (a5 : PySem.W.nsIn K mainGlobals "are_lengths" = some (some (.ref f5)))
    (d5 : ∃ fd, Fun K "are_lengths" "are_lengths" sAreLengths f5 fd)
    (k5 : PySem.W.keepIn K (.ref f5) = true)
    (a6 : PySem.W.nsIn K mainGlobals "is_integer" = some (some (.ref f6)))
    (d6 : ∃ fd, Fun K "is_integer" "is_integer" sIsInteger f6 fd)
    (k6 : PySem.W.keepIn K (.ref f6) = true)
    (a7 : PySem.W.nsIn K mainGlobals "length_of" = some (some (.ref f7)))
    (d7 : ∃ fd, Fun K "length_of" "length_of" sLengthOf f7 fd)
    (k7 : PySem.W.keepIn K (.ref f7) = true)
    (a8 : PySem.W.nsIn K mainGlobals "classes_of" = some (some (.ref f8)))
    (d8 : ∃ fd, Fun K "classes_of" "classes_of" sClassesOf f8 fd)
    (k8 : PySem.W.keepIn K (.ref f8) = true)
    (a9 : PySem.W.nsIn K mainGlobals "nucleus_class" = some (some (.ref f9)))
    (d9 : ∃ fd, Fun K "nucleus_class" "nucleus_class" sNucCls f9 fd)
    (k9 : PySem.W.keepIn K (.ref f9) = true)
    (a10 : PySem.W.nsIn K mainGlobals "has_operands" = some (some (.ref f10)))
    (d10 : ∃ fd, Fun K "has_operands" "has_operands" sHasOp f10 fd)
    (k10 : PySem.W.keepIn K (.ref f10) = true)
    (a11 : PySem.W.nsIn K mainGlobals "space_between" = some (some (.ref f11)))
    (d11 : ∃ fd, Fun K "space_between" "space_between" sSpace f11 fd)
    (k11 : PySem.W.keepIn K (.ref f11) = true)
    (a12 : PySem.W.nsIn K mainGlobals "check_depth" = some (some (.ref f12)))
    (d12 : ∃ fd, Fun K "check_depth" "check_depth" sCheckDepth f12 fd)
    (k12 : PySem.W.keepIn K (.ref f12) = true)
    (a13 : PySem.W.nsIn K mainGlobals "check_formula" = some (some (.ref f13)))
    (d13 : ∃ fd, Fun K "check_formula" "check_formula" sCheckFormula f13 fd)
    (k13 : PySem.W.keepIn K (.ref f13) = true)
    (a14 : PySem.W.nsIn K mainGlobals "rows_of" = some (some (.ref f14)))
    (d14 : ∃ fd, Fun K "rows_of" "rows_of" sRowsOf f14 fd)
    (k14 : PySem.W.keepIn K (.ref f14) = true)
    (a15 : PySem.W.nsIn K mainGlobals "rows_in" = some (some (.ref f15)))
    (d15 : ∃ fd, Fun K "rows_in" "rows_in" sRowsIn f15 fd)
    (k15 : PySem.W.keepIn K (.ref f15) = true)
    (a16 : PySem.W.nsIn K mainGlobals "nucleus_rows" = some (some (.ref f16)))
    (d16 : ∃ fd, Fun K "nucleus_rows" "nucleus_rows" sNucRows f16 fd)
    (k16 : PySem.W.keepIn K (.ref f16) = true)
    (a17 : PySem.W.nsIn K mainGlobals "depth_of" = some (some (.ref f17)))
    (d17 : ∃ fd, Fun K "depth_of" "depth_of" sDepthOf f17 fd)
    (k17 : PySem.W.keepIn K (.ref f17) = true)
    (a18 : PySem.W.nsIn K mainGlobals "text_of" = some (some (.ref f18)))
    (d18 : ∃ fd, Fun K "text_of" "text_of" sTextOf f18 fd)
    (k18 : PySem.W.keepIn K (.ref f18) = true)
    (a19 : PySem.W.nsIn K mainGlobals "row_words" = some (some (.ref f19)))
    (d19 : ∃ fd, Fun K "row_words" "row_words" sRowWords f19 fd)
    (k19 : PySem.W.keepIn K (.ref f19) = true)
    (a20 : PySem.W.nsIn K mainGlobals "nucleus_words" = some (some (.ref f20)))
    (d20 : ∃ fd, Fun K "nucleus_words" "nucleus_words" sNucWords f20 fd)
    (k20 : PySem.W.keepIn K (.ref f20) = true)
    (a21 : PySem.W.nsIn K mainGlobals "braced_words" = some (some (.ref f21)))
    (d21 : ∃ fd, Fun K "braced_words" "braced_words" sBraced f21 fd)
    (k21 : PySem.W.keepIn K (.ref f21) = true)
    (a22 : PySem.W.nsIn K mainGlobals "fence_words" = some (some (.ref f22)))
    (d22 : ∃ fd, Fun K "fence_words" "fence_words" sFenceW f22 fd)
    (k22 : PySem.W.keepIn K (.ref f22) = true)
    (a23 : PySem.W.nsIn K mainGlobals "grid_words" = some (some (.ref f23)))
    (d23 : ∃ fd, Fun K "grid_words" "grid_words" sGridW f23 fd)
    (k23 : PySem.W.keepIn K (.ref f23) = true)
    (a24 : PySem.W.nsIn K mainGlobals "_law_cell" = some (some (.ref f24)))
    (d24 : ∃ fd, Fun K "_law_cell" "_law_cell" sCell f24 fd)
    (k24 : PySem.W.keepIn K (.ref f24) = true)
    (a25 : PySem.W.nsIn K mainGlobals "_law_draws" = some (some (.ref f25)))
    (d25 : ∃ fd, Fun K "_law_draws" "_law_draws" sDraws f25 fd)
    (k25 : PySem.W.keepIn K (.ref f25) = true)
    (a26 : PySem.W.nsIn K mainGlobals "_law_stream" = some (some (.ref f26)))
    (d26 : ∃ fd, Fun K "_law_stream" "_law_stream" sStream f26 fd)
    (k26 : PySem.W.keepIn K (.ref f26) = true)
    (a27 : PySem.W.nsIn K mainGlobals "_law_next" = some (some (.ref f27)))
    (d27 : ∃ fd, Fun K "_law_next" "_law_next" sNext f27 fd)
    (k27 : PySem.W.keepIn K (.ref f27) = true)
    (a28 : PySem.W.nsIn K mainGlobals "_law_names" = some (some (.ref f28)))
    (d28 : ∃ fd, Fun K "_law_names" "_law_names" sNames f28 fd)
    (k28 : PySem.W.keepIn K (.ref f28) = true)
    (a29 : PySem.W.nsIn K mainGlobals "_law_font" = some (some (.ref f29)))
    (d29 : ∃ fd, Fun K "_law_font" "_law_font" sLFont f29 fd)
    (k29 : PySem.W.keepIn K (.ref f29) = true)
    (a30 : PySem.W.nsIn K mainGlobals "_law_same" = some (some (.ref f30)))
    (d30 : ∃ fd, Fun K "_law_same" "_law_same" sSame f30 fd)
    (k30 : PySem.W.keepIn K (.ref f30) = true)
    (a31 : PySem.W.nsIn K mainGlobals "_law_row" = some (some (.ref f31)))
    (d31 : ∃ fd, Fun K "_law_row" "_law_row" sLRow f31 fd)
    (k31 : PySem.W.keepIn K (.ref f31) = true)
    (a32 : PySem.W.nsIn K mainGlobals "_law_nucleus" = some (some (.ref f32)))
    (d32 : ∃ fd, Fun K "_law_nucleus" "_law_nucleus" sLNuc f32 fd)
    (k32 : PySem.W.keepIn K (.ref f32) = true)
    (a33 : PySem.W.nsIn K mainGlobals "_law_item" = some (some (.ref f33)))
    (d33 : ∃ fd, Fun K "_law_item" "_law_item" sLItem f33 fd)
    (k33 : PySem.W.keepIn K (.ref f33) = true)
    (a34 : PySem.W.nsIn K mainGlobals "_law_scaled" = some (some (.ref f34)))
    (d34 : ∃ fd, Fun K "_law_scaled" "_law_scaled" sLScaled f34 fd)
    (k34 : PySem.W.keepIn K (.ref f34) = true)
    (a35 : PySem.W.nsIn K mainGlobals "_law_kind" = some (some (.ref f35)))
    (d35 : ∃ fd, Fun K "_law_kind" "_law_kind" sLKind f35 fd)
    (k35 : PySem.W.keepIn K (.ref f35) = true)
    (a36 : PySem.W.nsIn K mainGlobals "_law_kinds" = some (some (.ref f36)))
    (d36 : ∃ fd, Fun K "_law_kinds" "_law_kinds" sLKinds f36 fd)
    (k36 : PySem.W.keepIn K (.ref f36) = true)
    (a37 : PySem.W.nsIn K mainGlobals "_law_gap" = some (some (.ref f37)))
    (d37 : ∃ fd, Fun K "_law_gap" "_law_gap" sLGap f37 fd)
    (k37 : PySem.W.keepIn K (.ref f37) = true)
    (a38 : PySem.W.nsIn K mainGlobals "_law_fixed" = some (some (.ref f38)))
    (d38 : ∃ fd, Fun K "_law_fixed" "_law_fixed" sFixed f38 fd)
    (k38 : PySem.W.keepIn K (.ref f38) = true)
    (a39 : PySem.W.nsIn K mainGlobals "_law_within" = some (some (.ref f39)))
    (d39 : ∃ fd, Fun K "_law_within" "_law_within" sWithin f39 fd)
    (k39 : PySem.W.keepIn K (.ref f39) = true)
    (ma0 : PySem.W.findIn K (.ref CF) "__init__" = some (some (.ref m0)))
    (mi0 : PySem.W.isFn K (.ref m0) = true)
    (md0 : ∃ fd, Fun K "__init__" "Font.__init__" sFInit m0 fd)
    (mk0 : PySem.W.keepIn K (.ref m0) = true)
    (ma1 : PySem.W.findIn K (.ref CF) "class_of" = some (some (.ref m1)))
    (mi1 : PySem.W.isFn K (.ref m1) = true)
    (md1 : ∃ fd, Fun K "class_of" "Font.class_of" sFClassOf m1 fd)
    (mk1 : PySem.W.keepIn K (.ref m1) = true)
    (ma2 : PySem.W.findIn K (.ref CF) "_entry" = some (some (.ref m2)))
    (mi2 : PySem.W.isFn K (.ref m2) = true)
    (md2 : ∃ fd, Fun K "_entry" "Font._entry" sFEntry m2 fd)
    (mk2 : PySem.W.keepIn K (.ref m2) = true)
    (aL : PySem.W.nsIn K mainGlobals "law" = some (some (.ref fL)))
    (lL : K.lookup fL = some ⟨ocL, odL, .func (PySem.W.fnOf "law" "law" (defArgs sLaw) (defBody sLaw) (defScope sLaw) .none kVL dcL pmL anL cdL ctL), slL⟩)
    (cL : PySem.W.codeIn K cdL "law" = true)
    (kL : PySem.W.keepIn K (.ref fL) = true)
    (pg : PySem.W.plainGet K CF Str.empty = true)
    (hd : PySem.W.hasDictIn K CF = true)
    (po : PySem.W.plainOver K CF = true)
    (sa : PySem.W.findIn K (.ref CF) "__setattr__" = some (some (.builtin "object.__setattr__")))
    (mkc : PySem.W.makesIn K CF = true)
    (kcF : PySem.W.keepIn K (.ref CF) = true)
    (n_symbols : PySem.W.findIn K (.ref CF) "symbols" = some none)
    (n_lengths : PySem.W.findIn K (.ref CF) "lengths" = some none)
    (n__entries : PySem.W.findIn K (.ref CF) "_entries" = some none)
    (bx : PySem.W.excIn K CB [.type "ValueError", .type "Exception", .type "BaseException", .type "object"] "ValueError.__new__" = true)
    (bk : PySem.W.keepIn K (.ref CB) = true)
    (bb : PySem.W.subIn K (.ref CB) (.type "BaseException") = some true)
    (bt : PySem.W.typeIn K (.ref CB) = some (.type "type"))
    (bd : PySem.W.hasDictIn K CB = true)
    (bs : PySem.W.subIn K (.ref CB) (.ref CB) = some true)
    (bS : PySem.W.subIn K (.ref CB) (.ref CS) = some true)
    (bV : PySem.W.subIn K (.ref CB) (.type "ValueError") = some true)
    (bN : CB ≠ CS)
    (tdx : PySem.W.excIn K CTD [.type "ValueError", .type "Exception", .type "BaseException", .type "object"] "ValueError.__new__" = true)
    (tdk : PySem.W.keepIn K (.ref CTD) = true)
    (tdb : PySem.W.subIn K (.ref CTD) (.type "BaseException") = some true)
    (tdt : PySem.W.typeIn K (.ref CTD) = some (.type "type"))
    (tdd : PySem.W.hasDictIn K CTD = true)
    (tds : PySem.W.subIn K (.ref CTD) (.ref CTD) = some true)
    (tdS : PySem.W.subIn K (.ref CTD) (.ref CS) = some true)
    (tdV : PySem.W.subIn K (.ref CTD) (.type "ValueError") = some true)
    (tdN : CTD ≠ CS)
    (tlx : PySem.W.excIn K CTL [.type "ValueError", .type "Exception", .type "BaseException", .type "object"] "ValueError.__new__" = true)
    (tlk : PySem.W.keepIn K (.ref CTL) = true)
    (tlb : PySem.W.subIn K (.ref CTL) (.type "BaseException") = some true)
    (tlt : PySem.W.typeIn K (.ref CTL) = some (.type "type"))
    (tld : PySem.W.hasDictIn K CTL = true)
    (tls : PySem.W.subIn K (.ref CTL) (.ref CTL) = some true)
    (tlS : PySem.W.subIn K (.ref CTL) (.ref CS) = some true)
    (tlV : PySem.W.subIn K (.ref CTL) (.type "ValueError") = some true)
    (tlN : CTL ≠ CS)
    (sb : PySem.W.subIn K (.ref CS) (.type "BaseException") = some true)
    (sd : PySem.W.hasDictIn K CS = true)
    (st : PySem.W.typeIn K (.ref CS) = some (.type "type"))
    (uL : K.lookup CU = some (excClassObj unm uq CU uN ubs [.ref CS, .type "ValueError", .type "Exception", .type "BaseException", .type "object"] true usn usub uab ucol udd um0 um1 um2 um3 um5 "ValueError.__new__"))
    (usa : PySem.W.findIn K (.ref CU) "__setattr__" = some (some (.builtin "object.__setattr__")))
    (uga : PySem.W.findIn K (.ref CU) "__getattribute__" = some (some (.builtin "BaseException.__getattribute__")))
    (ugg : PySem.W.findIn K (.ref CU) "__getattr__" = some none)
    (un : PySem.W.findIn K (.ref CU) "name" = some none)
    (ui : PySem.W.findIn K (.ref CU) "__init__" = some (some (.ref fU)))
    (ut : PySem.W.typeIn K (.ref fU) = some (.type "function"))
    (uk : PySem.W.keepIn K (.ref CU) = true)
    (ub : PySem.W.subIn K (.ref CU) (.type "BaseException") = some true)
    (uty : PySem.W.typeIn K (.ref CU) = some (.type "type"))
    (ud : PySem.W.hasDictIn K CU = true)
    (uV : PySem.W.subIn K (.ref CU) (.type "ValueError") = some true)
    (uS : PySem.W.subIn K (.ref CU) (.ref CS) = some true)
    (us : PySem.W.subIn K (.ref CU) (.ref CU) = some true)
    (uo : PySem.W.mroIn K CU (.ref CU) = some true)
    (ual : PySem.W.ks_superIn K CU CU "__init__" = some (some (.builtin "ValueError.__init__")))
    (uop : PySem.W.nsIn K cStatics "thirdparty.any" = some none)
    (ufn : K.lookup fU = some ⟨ocU, odU, .func (PySem.W.ksFn "__init__" "UnknownSymbol.__init__" (PySem.MgU.iA ⟨9, 17, 9, 21⟩ ⟨9, 23, 9, 27⟩) (PySem.MgU.iB "the font has no symbol " ⟨10, 8, 10, 13⟩ ⟨10, 8, 10, 15⟩ ⟨10, 8, 10, 24⟩ ⟨10, 27, 10, 50⟩ ⟨10, 51, 10, 55⟩ ⟨10, 50, 10, 56⟩ ⟨10, 25, 10, 57⟩ ⟨10, 8, 10, 58⟩ ⟨10, 8, 10, 58⟩ ⟨11, 8, 11, 12⟩ ⟨11, 8, 11, 17⟩ ⟨11, 20, 11, 24⟩ ⟨11, 8, 11, 24⟩) PySem.MgU.iS .none .none dcU pmU anU (.ref cdaU) ctU ccU), slU⟩)
    (ucd : PySem.W.codeIn K (.ref cdaU) "UnknownSymbol.__init__" = true)
    (ucc : K.lookup ccU = some ⟨clU, cldU, .cell (some (.ref CU)), cslU⟩)
    (uda : K.lookup cdaU = some ⟨cclU, cddU, .fields vsU, ccsU⟩)
    (uvs : vsU[2]? = some (.str fileU tfU))
    (ufl : ((P.main.file : Str) == fileU) = true)
    (uht : (P.main.scope.names.lookup ("super" : Str)).isSome = false)
    (neU : CU ≠ CS)
    (c_LETTERS : PySem.W.nsIn K mainGlobals "LETTERS" = some (some (.str cLETTERS t_LETTERS)))
    (c_SIGNS : PySem.W.nsIn K mainGlobals "SIGNS" = some (some (.str cSIGNS t_SIGNS)))
    (c_MOST_LETTERS : PySem.W.nsIn K mainGlobals "MOST_LETTERS" = some (some (.int 8 t_MOST_LETTERS)))
    (c_ROOT_SIGN : PySem.W.nsIn K mainGlobals "ROOT_SIGN" = some (some (.str "@root" t_ROOT_SIGN)))
    (c_MOST_MEASURE : PySem.W.nsIn K mainGlobals "MOST_MEASURE" = some (some (.int 1000 t_MOST_MEASURE)))
    (c_MOST_SYMBOLS : PySem.W.nsIn K mainGlobals "MOST_SYMBOLS" = some (some (.int 60 t_MOST_SYMBOLS)))
    (c_RESERVED : PySem.W.nsIn K mainGlobals "RESERVED" = some (some (.ref aR)))
    (k_RESERVED : K.lookup aR = some ⟨.type "tuple", od_k_RESERVED, .seq #[.str "@frac" t_aR0, .str "@root" t_aR1, .str "@left" t_aR2, .str "@right" t_aR3, .str "@grid" t_aR4] n_k_RESERVED, sl_k_RESERVED⟩)
    (c_CLASSES : PySem.W.nsIn K mainGlobals "CLASSES" = some (some (.ref aC)))
    (k_CLASSES : K.lookup aC = some ⟨.type "tuple", od_k_CLASSES, .seq #[.str "op" t_aC0, .str "ord" t_aC1, .str "bin" t_aC2, .str "rel" t_aC3, .str "open" t_aC4, .str "close" t_aC5, .str "punct" t_aC6] n_k_CLASSES, sl_k_CLASSES⟩)
    (c_LENGTH_LIMITS : PySem.W.nsIn K mainGlobals "LENGTH_LIMITS" = some (some (.ref aLL)))
    (k_LENGTH_LIMITS : K.lookup aLL = some ⟨.type "tuple", od_k_LENGTH_LIMITS, .seq #[.ref aM0, .ref aM1, .ref aM2, .ref aM3, .ref aM4, .ref aM5, .ref aM6, .ref aM7] n_k_LENGTH_LIMITS, sl_k_LENGTH_LIMITS⟩)
    (kM0 : K.lookup aM0 = some ⟨.type "tuple", od_kM0, .seq #[.int 0 tp0, .int 200 tq0] n_kM0, sl_kM0⟩)
    (kM1 : K.lookup aM1 = some ⟨.type "tuple", od_kM1, .seq #[.int 1 tp1, .int 50 tq1] n_kM1, sl_kM1⟩)
    (kM2 : K.lookup aM2 = some ⟨.type "tuple", od_kM2, .seq #[.int 0 tp2, .int 100 tq2] n_kM2, sl_kM2⟩)
    (kM3 : K.lookup aM3 = some ⟨.type "tuple", od_kM3, .seq #[.int 0 tp3, .int 300 tq3] n_kM3, sl_kM3⟩)
    (kM4 : K.lookup aM4 = some ⟨.type "tuple", od_kM4, .seq #[.int 0 tp4, .int 200 tq4] n_kM4, sl_kM4⟩)
    (kM5 : K.lookup aM5 = some ⟨.type "tuple", od_kM5, .seq #[.int 0 tp5, .int 200 tq5] n_kM5, sl_kM5⟩)
    (kM6 : K.lookup aM6 = some ⟨.type "tuple", od_kM6, .seq #[.int 0 tp6, .int 200 tq6] n_kM6, sl_kM6⟩)
    (kM7 : K.lookup aM7 = some ⟨.type "tuple", od_kM7, .seq #[.int 1 tp7, .int 200 tq7] n_kM7, sl_kM7⟩)
    (c_STEP : PySem.W.nsIn K mainGlobals "STEP" = some (some (.int 7 t_STEP)))
    (c_RULE : PySem.W.nsIn K mainGlobals "RULE" = some (some (.int 1 t_RULE)))
    (c_THIN : PySem.W.nsIn K mainGlobals "THIN" = some (some (.int 4 t_THIN)))
    (c_DEEPEST : PySem.W.nsIn K mainGlobals "DEEPEST" = some (some (.int 7 t_DEEPEST)))
    (c_MOST_ITEMS : PySem.W.nsIn K mainGlobals "MOST_ITEMS" = some (some (.int 80 t_MOST_ITEMS)))
    (c_LONGEST : PySem.W.nsIn K mainGlobals "LONGEST" = some (some (.int 400 t_LONGEST)))
    (c_KINDS : PySem.W.nsIn K mainGlobals "KINDS" = some (some (.ref aK)))
    (k_KINDS : K.lookup aK = some ⟨.type "tuple", none, .seq #[.str "ord" t_aK0, .str "op" t_aK1, .str "bin" t_aK2, .str "rel" t_aK3, .str "open" t_aK4, .str "close" t_aK5, .str "punct" t_aK6, .str "inner" t_aK7] n_k_KINDS, sl_k_KINDS⟩)
    (c_NO_OPERANDS : PySem.W.nsIn K mainGlobals "NO_OPERANDS" = some (some (.ref aN)))
    (k_NO_OPERANDS : K.lookup aN = some ⟨.type "tuple", od_k_NO_OPERANDS, .seq #[.str "bin" t_aN0, .str "op" t_aN1, .str "rel" t_aN2, .str "open" t_aN3, .str "punct" t_aN4] n_k_NO_OPERANDS, sl_k_NO_OPERANDS⟩)
    (c_NO_OPERANDS_BEHIND : PySem.W.nsIn K mainGlobals "NO_OPERANDS_BEHIND" = some (some (.ref aB)))
    (k_NO_OPERANDS_BEHIND : K.lookup aB = some ⟨.type "tuple", od_k_NO_OPERANDS_BEHIND, .seq #[.str "rel" t_aB0, .str "close" t_aB1, .str "punct" t_aB2] n_k_NO_OPERANDS_BEHIND, sl_k_NO_OPERANDS_BEHIND⟩)
    (c_SPACES : PySem.W.nsIn K mainGlobals "SPACES" = some (some (.ref aS)))
    (k_SPACES : K.lookup aS = some ⟨.type "dict", none, .dict es_aS nn_aS, #[]⟩)
    (l_SPACES : PySem.W.KeysLit w.params es_aS.toList)
    (e_SPACES0 : PySem.W.nsIn K aS "ord" = some (some (.ref aS0)))
    (g_SPACES0 : K.lookup aS0 = some ⟨.type "tuple", od_g_SPACES0, .seq #[.int 0 t_aS00, .int 1 t_aS01, .int (-2) t_aS02, .int (-3) t_aS03, .int 0 t_aS04, .int 0 t_aS05, .int 0 t_aS06, .int (-1) t_aS07] n_g_SPACES0, sl_g_SPACES0⟩)
    (e_SPACES1 : PySem.W.nsIn K aS "op" = some (some (.ref aS1)))
    (g_SPACES1 : K.lookup aS1 = some ⟨.type "tuple", od_g_SPACES1, .seq #[.int 1 t_aS10, .int 1 t_aS11, .int 0 t_aS12, .int (-3) t_aS13, .int 0 t_aS14, .int 0 t_aS15, .int 0 t_aS16, .int (-1) t_aS17] n_g_SPACES1, sl_g_SPACES1⟩)
    (e_SPACES2 : PySem.W.nsIn K aS "bin" = some (some (.ref aS2)))
    (g_SPACES2 : K.lookup aS2 = some ⟨.type "tuple", od_g_SPACES2, .seq #[.int (-2) t_aS20, .int (-2) t_aS21, .int 0 t_aS22, .int 0 t_aS23, .int (-2) t_aS24, .int 0 t_aS25, .int 0 t_aS26, .int (-2) t_aS27] n_g_SPACES2, sl_g_SPACES2⟩)
    (e_SPACES3 : PySem.W.nsIn K aS "rel" = some (some (.ref aS3)))
    (g_SPACES3 : K.lookup aS3 = some ⟨.type "tuple", od_g_SPACES3, .seq #[.int (-3) t_aS30, .int (-3) t_aS31, .int 0 t_aS32, .int 0 t_aS33, .int (-3) t_aS34, .int 0 t_aS35, .int 0 t_aS36, .int (-3) t_aS37] n_g_SPACES3, sl_g_SPACES3⟩)
    (e_SPACES4 : PySem.W.nsIn K aS "open" = some (some (.ref aS4)))
    (g_SPACES4 : K.lookup aS4 = some ⟨.type "tuple", od_g_SPACES4, .seq #[.int 0 t_aS40, .int 0 t_aS41, .int 0 t_aS42, .int 0 t_aS43, .int 0 t_aS44, .int 0 t_aS45, .int 0 t_aS46, .int 0 t_aS47] n_g_SPACES4, sl_g_SPACES4⟩)
    (e_SPACES5 : PySem.W.nsIn K aS "close" = some (some (.ref aS5)))
    (g_SPACES5 : K.lookup aS5 = some ⟨.type "tuple", od_g_SPACES5, .seq #[.int 0 t_aS50, .int 1 t_aS51, .int (-2) t_aS52, .int (-3) t_aS53, .int 0 t_aS54, .int 0 t_aS55, .int 0 t_aS56, .int (-1) t_aS57] n_g_SPACES5, sl_g_SPACES5⟩)
    (e_SPACES6 : PySem.W.nsIn K aS "punct" = some (some (.ref aS6)))
    (g_SPACES6 : K.lookup aS6 = some ⟨.type "tuple", od_g_SPACES6, .seq #[.int (-1) t_aS60, .int (-1) t_aS61, .int 0 t_aS62, .int (-1) t_aS63, .int (-1) t_aS64, .int (-1) t_aS65, .int (-1) t_aS66, .int (-1) t_aS67] n_g_SPACES6, sl_g_SPACES6⟩)
    (e_SPACES7 : PySem.W.nsIn K aS "inner" = some (some (.ref aS7)))
    (g_SPACES7 : K.lookup aS7 = some ⟨.type "tuple", od_g_SPACES7, .seq #[.int (-1) t_aS70, .int 1 t_aS71, .int (-2) t_aS72, .int (-3) t_aS73, .int (-1) t_aS74, .int 0 t_aS75, .int (-1) t_aS76, .int (-1) t_aS77] n_g_SPACES7, sl_g_SPACES7⟩)
    : ∃ fd : FuncData, (∀ (s : Shared) (v : Value), BindsTo s fd ⟨[v], []⟩ [("script", v)]) ∧ ∀ base : Heap, K.In base → base.Ns mainGlobals mg → FnOk P w K mg base CX0 13 fa fd ["script"] (spLaw K) := by
  have e := hfa.symm.trans (PySem.W.mg_of X G aL)
  cases e
  obtain ⟨fd0, F0⟩ := d0
  obtain ⟨fd1, F1⟩ := d1
  obtain ⟨fd2, F2⟩ := d2
  obtain ⟨fd3, F3⟩ := d3
  obtain ⟨fd4, F4⟩ := d4
  obtain ⟨fd5, F5⟩ := d5
  obtain ⟨fd6, F6⟩ := d6
  obtain ⟨fd7, F7⟩ := d7
  obtain ⟨fd8, F8⟩ := d8
  obtain ⟨fd9, F9⟩ := d9
  obtain ⟨fd10, F10⟩ := d10
  obtain ⟨fd11, F11⟩ := d11
  obtain ⟨fd12, F12⟩ := d12
  obtain ⟨fd13, F13⟩ := d13
  obtain ⟨fd14, F14⟩ := d14
  obtain ⟨fd15, F15⟩ := d15
  obtain ⟨fd16, F16⟩ := d16
  obtain ⟨fd17, F17⟩ := d17
  obtain ⟨fd18, F18⟩ := d18
  obtain ⟨fd19, F19⟩ := d19
  obtain ⟨fd20, F20⟩ := d20
  obtain ⟨fd21, F21⟩ := d21
  obtain ⟨fd22, F22⟩ := d22
  obtain ⟨fd23, F23⟩ := d23
  obtain ⟨fd24, F24⟩ := d24
  obtain ⟨fd25, F25⟩ := d25
  obtain ⟨fd26, F26⟩ := d26
  obtain ⟨fd27, F27⟩ := d27
  obtain ⟨fd28, F28⟩ := d28
  obtain ⟨fd29, F29⟩ := d29
  obtain ⟨fd30, F30⟩ := d30
  obtain ⟨fd31, F31⟩ := d31
  obtain ⟨fd32, F32⟩ := d32
  obtain ⟨fd33, F33⟩ := d33
  obtain ⟨fd34, F34⟩ := d34
  obtain ⟨fd35, F35⟩ := d35
  obtain ⟨fd36, F36⟩ := d36
  obtain ⟨fd37, F37⟩ := d37
  obtain ⟨fd38, F38⟩ := d38
  obtain ⟨fd39, F39⟩ := d39
  obtain ⟨fm0, M0⟩ := md0
  obtain ⟨fm1, M1⟩ := md1
  obtain ⟨fm2, M2⟩ := md2
  have b0 : Binds K _ ["word"] [] := F0.binds (ps := ["word"]) fun _ _ _ _ _ _ us hl => match us, hl with | [_], _ => rfl
  have b1 : Binds K _ ["word"] [] := F1.binds (ps := ["word"]) fun _ _ _ _ _ _ us hl => match us, hl with | [_], _ => rfl
  have b2 : Binds K _ ["number", "style"] [] := F2.binds (ps := ["number", "style"]) fun _ _ _ _ _ _ us hl => match us, hl with | [_, _], _ => rfl
  have b3 : Binds K _ ["value"] [] := F3.binds (ps := ["value"]) fun _ _ _ _ _ _ us hl => match us, hl with | [_], _ => rfl
  have b4 : Binds K _ ["value"] [] := F4.binds (ps := ["value"]) fun _ _ _ _ _ _ us hl => match us, hl with | [_], _ => rfl
  have b5 : Binds K _ ["value"] [] := F5.binds (ps := ["value"]) fun _ _ _ _ _ _ us hl => match us, hl with | [_], _ => rfl
  have b6 : Binds K _ ["value", "least", "most"] [] := F6.binds (ps := ["value", "least", "most"]) fun _ _ _ _ _ _ us hl => match us, hl with | [_, _, _], _ => rfl
  have b7 : Binds K _ ["font", "which", "style"] [] := F7.binds (ps := ["font", "which", "style"]) fun _ _ _ _ _ _ us hl => match us, hl with | [_, _, _], _ => rfl
  have b8 : Binds K _ ["font", "row"] [] := F8.binds (ps := ["font", "row"]) fun _ _ _ _ _ _ us hl => match us, hl with | [_, _], _ => rfl
  have b9 : Binds K _ ["font", "nucleus"] [] := F9.binds (ps := ["font", "nucleus"]) fun _ _ _ _ _ _ us hl => match us, hl with | [_, _], _ => rfl
  have b10 : Binds K _ ["ahead", "behind"] [] := F10.binds (ps := ["ahead", "behind"]) fun _ _ _ _ _ _ us hl => match us, hl with | [_, _], _ => rfl
  have b11 : Binds K _ ["font", "left", "right", "style"] [] := F11.binds (ps := ["font", "left", "right", "style"]) fun _ _ _ _ _ _ us hl => match us, hl with | [_, _, _, _], _ => rfl
  have b12 : Binds K _ ["depth"] [] := F12.binds (ps := ["depth"]) fun _ _ _ _ _ _ us hl => match us, hl with | [_], _ => rfl
  have b13 : Binds K _ ["formula"] [] := F13.binds (ps := ["formula"]) fun _ _ _ _ _ _ us hl => match us, hl with | [_], _ => rfl
  have b14 : Binds K _ ["formula"] [] := F14.binds (ps := ["formula"]) fun _ _ _ _ _ _ us hl => match us, hl with | [_], _ => rfl
  have b15 : Binds K _ ["item"] [] := F15.binds (ps := ["item"]) fun _ _ _ _ _ _ us hl => match us, hl with | [_], _ => rfl
  have b16 : Binds K _ ["nucleus"] [] := F16.binds (ps := ["nucleus"]) fun _ _ _ _ _ _ us hl => match us, hl with | [_], _ => rfl
  have b17 : Binds K _ ["row"] [] := F17.binds (ps := ["row"]) fun _ _ _ _ _ _ us hl => match us, hl with | [_], _ => rfl
  have b18 : Binds K _ ["formula"] [] := F18.binds (ps := ["formula"]) fun _ _ _ _ _ _ us hl => match us, hl with | [_], _ => rfl
  have b19 : Binds K _ ["row"] [] := F19.binds (ps := ["row"]) fun _ _ _ _ _ _ us hl => match us, hl with | [_], _ => rfl
  have b20 : Binds K _ ["nucleus"] [] := F20.binds (ps := ["nucleus"]) fun _ _ _ _ _ _ us hl => match us, hl with | [_], _ => rfl
  have b21 : Binds K _ ["row"] [] := F21.binds (ps := ["row"]) fun _ _ _ _ _ _ us hl => match us, hl with | [_], _ => rfl
  have b22 : Binds K _ ["opening", "closing", "row"] [] := F22.binds (ps := ["opening", "closing", "row"]) fun _ _ _ _ _ _ us hl => match us, hl with | [_, _, _], _ => rfl
  have b23 : Binds K _ ["rows"] [] := F23.binds (ps := ["rows"]) fun _ _ _ _ _ _ us hl => match us, hl with | [_], _ => rfl
  have b24 : Binds K _ ["script", "k"] [] := F24.binds (ps := ["script", "k"]) fun _ _ _ _ _ _ us hl => match us, hl with | [_, _], _ => rfl
  have b25 : Binds K _ ["cell", "count"] [] := F25.binds (ps := ["cell", "count"]) fun _ _ _ _ _ _ us hl => match us, hl with | [_, _], _ => rfl
  have b26 : Binds K _ ["script", "first", "count"] [] := F26.binds (ps := ["script", "first", "count"]) fun _ _ _ _ _ _ us hl => match us, hl with | [_, _, _], _ => rfl
  have b27 : Binds K _ ["stream", "many"] [] := F27.binds (ps := ["stream", "many"]) fun _ _ _ _ _ _ us hl => match us, hl with | [_, _], _ => rfl
  have b28 : Binds K _ [] [] := F28.binds (ps := []) fun _ _ _ _ _ _ us hl => match us, hl with | [], _ => rfl
  have b29 : Binds K _ ["stream"] [] := F29.binds (ps := ["stream"]) fun _ _ _ _ _ _ us hl => match us, hl with | [_], _ => rfl
  have b30 : Binds K _ ["actual", "expected"] [] := F30.binds (ps := ["actual", "expected"]) fun _ _ _ _ _ _ us hl => match us, hl with | [_, _], _ => rfl
  have b31 : Binds K _ ["stream", "depth", "most"] [] := F31.binds (ps := ["stream", "depth", "most"]) fun _ _ _ _ _ _ us hl => match us, hl with | [_, _, _], _ => rfl
  have b32 : Binds K _ ["stream", "depth"] [] := F32.binds (ps := ["stream", "depth"]) fun _ _ _ _ _ _ us hl => match us, hl with | [_, _], _ => rfl
  have b33 : Binds K _ ["stream", "depth"] [] := F33.binds (ps := ["stream", "depth"]) fun _ _ _ _ _ _ us hl => match us, hl with | [_, _], _ => rfl
  have b34 : Binds K _ ["number", "style"] [] := F34.binds (ps := ["number", "style"]) fun _ _ _ _ _ _ us hl => match us, hl with | [_, _], _ => rfl
  have b35 : Binds K _ ["font", "nucleus"] [] := F35.binds (ps := ["font", "nucleus"]) fun _ _ _ _ _ _ us hl => match us, hl with | [_, _], _ => rfl
  have b36 : Binds K _ ["font", "row"] [] := F36.binds (ps := ["font", "row"]) fun _ _ _ _ _ _ us hl => match us, hl with | [_, _], _ => rfl
  have b37 : Binds K _ ["font", "left", "right", "style"] [] := F37.binds (ps := ["font", "left", "right", "style"]) fun _ _ _ _ _ _ us hl => match us, hl with | [_, _, _, _], _ => rfl
  have b38 : Binds K _ [] [] := F38.binds (ps := []) fun _ _ _ _ _ _ us hl => match us, hl with | [], _ => rfl
  have b39 : Binds K _ ["row"] [] := F39.binds (ps := ["row"]) fun _ _ _ _ _ _ us hl => match us, hl with | [_], _ => rfl
  have mb0 : Binds K _ ["self", "symbols", "lengths"] [] := M0.binds (ps := ["self", "symbols", "lengths"]) fun _ _ _ _ _ _ us hl => match us, hl with | [_, _, _], _ => rfl
  have mb1 : Binds K _ ["self", "name"] [] := M1.binds (ps := ["self", "name"]) fun _ _ _ _ _ _ us hl => match us, hl with | [_, _], _ => rfl
  have mb2 : Binds K _ ["self", "name"] [] := M2.binds (ps := ["self", "name"]) fun _ _ _ _ _ _ us hl => match us, hl with | [_, _], _ => rfl
  have TB : TxtB mg := ⟨(PySem.W.mg_none_of X G z_len), (PySem.W.mg_none_of X G z_int), (PySem.W.mg_none_of X G z_abs), (PySem.W.mg_none_of X G z_range), (PySem.W.mg_none_of X G z_isinstance), (PySem.W.mg_none_of X G z_tuple), (PySem.W.mg_none_of X G z_list)⟩
  have TC : TxtC mg := { TB with b_bool := (PySem.W.mg_none_of X G z_bool), b_str := (PySem.W.mg_none_of X G z_str) }
  have TO : TxtO K CF := ⟨⟨pg, hd, po, sa⟩, n_symbols, n_lengths, n__entries⟩
  have TS : TxtS K mg aR := ⟨(PySem.W.mg_none_of X G z_len), (PySem.W.mg_none_of X G z_all), ⟨_, (PySem.W.mg_of X G c_LETTERS)⟩, ⟨_, (PySem.W.mg_of X G c_SIGNS)⟩, ⟨_, (PySem.W.mg_of X G c_MOST_LETTERS)⟩, (PySem.W.mg_of X G c_RESERVED), sqt_of k_RESERVED (show 5 ≤ sizeLine by decide) ((.cons ⟨_, rfl⟩ (.cons ⟨_, rfl⟩ (.cons ⟨_, rfl⟩ (.cons ⟨_, rfl⟩ (.cons ⟨_, rfl⟩ .nil))))))⟩
  have TE : TxtE K mg aC := { TC with b_all := (PySem.W.mg_none_of X G z_all), c_ROOT_SIGN := ⟨_, (PySem.W.mg_of X G c_ROOT_SIGN)⟩, c_MOST_MEASURE := ⟨_, (PySem.W.mg_of X G c_MOST_MEASURE)⟩, c_CLASSES := (PySem.W.mg_of X G c_CLASSES), k_CLASSES := sqt_of k_CLASSES (show 7 ≤ sizeLine by decide) ((.cons ⟨_, rfl⟩ (.cons ⟨_, rfl⟩ (.cons ⟨_, rfl⟩ (.cons ⟨_, rfl⟩ (.cons ⟨_, rfl⟩ (.cons ⟨_, rfl⟩ (.cons ⟨_, rfl⟩ .nil)))))))) }
  have TF : TxtF K mg aC := { TE with c_MOST_SYMBOLS := ⟨_, (PySem.W.mg_of X G c_MOST_SYMBOLS)⟩ }
  have TL : TxtL K mg aLL := { TC with b_all := (PySem.W.mg_none_of X G z_all), b_zip := (PySem.W.mg_none_of X G z_zip), c_LENGTH_LIMITS := (PySem.W.mg_of X G c_LENGTH_LIMITS), k_LIM := ⟨[aM0, aM1, aM2, aM3, aM4, aM5, aM6, aM7], rfl, sqt_of k_LENGTH_LIMITS (show 8 ≤ sizeLine by decide) ((.cons rfl (.cons rfl (.cons rfl (.cons rfl (.cons rfl (.cons rfl (.cons rfl (.cons rfl .nil))))))))), fun i a hi => ?lim⟩ }
  case lim =>
    match i, hi with
    | 0, hi => cases hi; exact ⟨(0, 200), rfl, sqt_of kM0 (show 2 ≤ sizeLine by decide) (.cons ⟨_, rfl⟩ (.cons ⟨_, rfl⟩ .nil))⟩
    | 1, hi => cases hi; exact ⟨(1, 50), rfl, sqt_of kM1 (show 2 ≤ sizeLine by decide) (.cons ⟨_, rfl⟩ (.cons ⟨_, rfl⟩ .nil))⟩
    | 2, hi => cases hi; exact ⟨(0, 100), rfl, sqt_of kM2 (show 2 ≤ sizeLine by decide) (.cons ⟨_, rfl⟩ (.cons ⟨_, rfl⟩ .nil))⟩
    | 3, hi => cases hi; exact ⟨(0, 300), rfl, sqt_of kM3 (show 2 ≤ sizeLine by decide) (.cons ⟨_, rfl⟩ (.cons ⟨_, rfl⟩ .nil))⟩
    | 4, hi => cases hi; exact ⟨(0, 200), rfl, sqt_of kM4 (show 2 ≤ sizeLine by decide) (.cons ⟨_, rfl⟩ (.cons ⟨_, rfl⟩ .nil))⟩
    | 5, hi => cases hi; exact ⟨(0, 200), rfl, sqt_of kM5 (show 2 ≤ sizeLine by decide) (.cons ⟨_, rfl⟩ (.cons ⟨_, rfl⟩ .nil))⟩
    | 6, hi => cases hi; exact ⟨(0, 200), rfl, sqt_of kM6 (show 2 ≤ sizeLine by decide) (.cons ⟨_, rfl⟩ (.cons ⟨_, rfl⟩ .nil))⟩
    | 7, hi => cases hi; exact ⟨(1, 200), rfl, sqt_of kM7 (show 2 ≤ sizeLine by decide) (.cons ⟨_, rfl⟩ (.cons ⟨_, rfl⟩ .nil))⟩
    | _ + 8, hi => cases hi
  have EB : ExB K mg "BadFont" CB := ⟨(PySem.W.mg_of X G gB), bx, bk, bb, bt⟩
  have TU : PySem.MgU.UTxt P K mg "UnknownSymbol" "UnknownSymbol.__init__" "the font has no symbol " CU fU ccU :=
    { gC := (PySem.W.mg_of X G gU), cls := ⟨_, _, _, _, _, _, _, _, _, _, _, _, _, _, _, uL, by rfl⟩, sa := usa, noN := un, iC := ui, tC := ut, kC := uk, exC := ub, tyC := uty, hC := uV, alg := ual, op := uop, cell := ⟨_, _, _, ucc⟩, sup := (PySem.W.mg_none_of X G z_super), own := uo, htop := uht,
      fn := ⟨_, _, _, _, _, _, _, _, _, _, _, _, _, _, _, _, _, _, _, _, _, _, _, ufn, ucd, rfl, _, _, _, _, _, _, uda, uvs, ufl⟩ }
  have U : MkU P K mg CU := mkU TU (show ("the font has no symbol " : Str).length ≤ 1000 by decide +kernel)
  have TW : TxtWithin K mg CTD CTL CS := ⟨(PySem.W.mg_of X G gS), PySem.W.exm_ref sb sd st tdS, PySem.W.exm_ref sb sd st tlS⟩
  have ETD : ExB K mg "TooDeep" CTD := ⟨(PySem.W.mg_of X G gTD), tdx, tdk, tdb, tdt⟩
  have ETL : ExB K mg "TooLarge" CTL := ⟨(PySem.W.mg_of X G gTL), tlx, tlk, tlb, tlt⟩
  have TCls : TxtCls K w mg CF aN aB aK aS := { TO with b_len := (PySem.W.mg_none_of X G z_len), b_max := (PySem.W.mg_none_of X G z_max), b_abs := (PySem.W.mg_none_of X G z_abs), b_enumerate := (PySem.W.mg_none_of X G z_enumerate), c_RULE := ⟨_, (PySem.W.mg_of X G c_RULE)⟩, c_STEP := ⟨_, (PySem.W.mg_of X G c_STEP)⟩, c_THIN := ⟨_, (PySem.W.mg_of X G c_THIN)⟩, c_NO_OPERANDS := (PySem.W.mg_of X G c_NO_OPERANDS), k_NO := sqt_of k_NO_OPERANDS (show 5 ≤ sizeLine by decide) ((.cons ⟨_, rfl⟩ (.cons ⟨_, rfl⟩ (.cons ⟨_, rfl⟩ (.cons ⟨_, rfl⟩ (.cons ⟨_, rfl⟩ .nil)))))), c_NO_OPERANDS_BEHIND := (PySem.W.mg_of X G c_NO_OPERANDS_BEHIND), k_NB := sqt_of k_NO_OPERANDS_BEHIND (show 3 ≤ sizeLine by decide) ((.cons ⟨_, rfl⟩ (.cons ⟨_, rfl⟩ (.cons ⟨_, rfl⟩ .nil)))), c_KINDS := (PySem.W.mg_of X G c_KINDS), k_KINDS := sqt_of k_KINDS (show 8 ≤ sizeLine by decide) ((.cons ⟨_, rfl⟩ (.cons ⟨_, rfl⟩ (.cons ⟨_, rfl⟩ (.cons ⟨_, rfl⟩ (.cons ⟨_, rfl⟩ (.cons ⟨_, rfl⟩ (.cons ⟨_, rfl⟩ (.cons ⟨_, rfl⟩ .nil))))))))), t_KINDS := ⟨_, k_KINDS, rfl, rfl⟩, c_SPACES := (PySem.W.mg_of X G c_SPACES), k_SPACES := fun i x hx => ?spc }
  case spc =>
    match i, hx with
    | 0, hx => cases hx; exact ⟨aS0, [0, 1, -2, -3, 0, 0, 0, -1], rfl, ⟨_, _, _, k_SPACES, l_SPACES, e_SPACES0, rfl⟩, sqt_of g_SPACES0 (show 8 ≤ sizeLine by decide) ((.cons ⟨_, rfl⟩ (.cons ⟨_, rfl⟩ (.cons ⟨_, rfl⟩ (.cons ⟨_, rfl⟩ (.cons ⟨_, rfl⟩ (.cons ⟨_, rfl⟩ (.cons ⟨_, rfl⟩ (.cons ⟨_, rfl⟩ .nil)))))))))⟩
    | 1, hx => cases hx; exact ⟨aS1, [1, 1, 0, -3, 0, 0, 0, -1], rfl, ⟨_, _, _, k_SPACES, l_SPACES, e_SPACES1, rfl⟩, sqt_of g_SPACES1 (show 8 ≤ sizeLine by decide) ((.cons ⟨_, rfl⟩ (.cons ⟨_, rfl⟩ (.cons ⟨_, rfl⟩ (.cons ⟨_, rfl⟩ (.cons ⟨_, rfl⟩ (.cons ⟨_, rfl⟩ (.cons ⟨_, rfl⟩ (.cons ⟨_, rfl⟩ .nil)))))))))⟩
    | 2, hx => cases hx; exact ⟨aS2, [-2, -2, 0, 0, -2, 0, 0, -2], rfl, ⟨_, _, _, k_SPACES, l_SPACES, e_SPACES2, rfl⟩, sqt_of g_SPACES2 (show 8 ≤ sizeLine by decide) ((.cons ⟨_, rfl⟩ (.cons ⟨_, rfl⟩ (.cons ⟨_, rfl⟩ (.cons ⟨_, rfl⟩ (.cons ⟨_, rfl⟩ (.cons ⟨_, rfl⟩ (.cons ⟨_, rfl⟩ (.cons ⟨_, rfl⟩ .nil)))))))))⟩
    | 3, hx => cases hx; exact ⟨aS3, [-3, -3, 0, 0, -3, 0, 0, -3], rfl, ⟨_, _, _, k_SPACES, l_SPACES, e_SPACES3, rfl⟩, sqt_of g_SPACES3 (show 8 ≤ sizeLine by decide) ((.cons ⟨_, rfl⟩ (.cons ⟨_, rfl⟩ (.cons ⟨_, rfl⟩ (.cons ⟨_, rfl⟩ (.cons ⟨_, rfl⟩ (.cons ⟨_, rfl⟩ (.cons ⟨_, rfl⟩ (.cons ⟨_, rfl⟩ .nil)))))))))⟩
    | 4, hx => cases hx; exact ⟨aS4, [0, 0, 0, 0, 0, 0, 0, 0], rfl, ⟨_, _, _, k_SPACES, l_SPACES, e_SPACES4, rfl⟩, sqt_of g_SPACES4 (show 8 ≤ sizeLine by decide) ((.cons ⟨_, rfl⟩ (.cons ⟨_, rfl⟩ (.cons ⟨_, rfl⟩ (.cons ⟨_, rfl⟩ (.cons ⟨_, rfl⟩ (.cons ⟨_, rfl⟩ (.cons ⟨_, rfl⟩ (.cons ⟨_, rfl⟩ .nil)))))))))⟩
    | 5, hx => cases hx; exact ⟨aS5, [0, 1, -2, -3, 0, 0, 0, -1], rfl, ⟨_, _, _, k_SPACES, l_SPACES, e_SPACES5, rfl⟩, sqt_of g_SPACES5 (show 8 ≤ sizeLine by decide) ((.cons ⟨_, rfl⟩ (.cons ⟨_, rfl⟩ (.cons ⟨_, rfl⟩ (.cons ⟨_, rfl⟩ (.cons ⟨_, rfl⟩ (.cons ⟨_, rfl⟩ (.cons ⟨_, rfl⟩ (.cons ⟨_, rfl⟩ .nil)))))))))⟩
    | 6, hx => cases hx; exact ⟨aS6, [-1, -1, 0, -1, -1, -1, -1, -1], rfl, ⟨_, _, _, k_SPACES, l_SPACES, e_SPACES6, rfl⟩, sqt_of g_SPACES6 (show 8 ≤ sizeLine by decide) ((.cons ⟨_, rfl⟩ (.cons ⟨_, rfl⟩ (.cons ⟨_, rfl⟩ (.cons ⟨_, rfl⟩ (.cons ⟨_, rfl⟩ (.cons ⟨_, rfl⟩ (.cons ⟨_, rfl⟩ (.cons ⟨_, rfl⟩ .nil)))))))))⟩
    | 7, hx => cases hx; exact ⟨aS7, [-1, 1, -2, -3, -1, 0, -1, -1], rfl, ⟨_, _, _, k_SPACES, l_SPACES, e_SPACES7, rfl⟩, sqt_of g_SPACES7 (show 8 ≤ sizeLine by decide) ((.cons ⟨_, rfl⟩ (.cons ⟨_, rfl⟩ (.cons ⟨_, rfl⟩ (.cons ⟨_, rfl⟩ (.cons ⟨_, rfl⟩ (.cons ⟨_, rfl⟩ (.cons ⟨_, rfl⟩ (.cons ⟨_, rfl⟩ .nil)))))))))⟩
    | _ + 8, hx => cases hx
  refine ⟨PySem.W.fnOf "law" "law" (defArgs sLaw) (defBody sLaw) (defScope sLaw) .none kVL dcL pmL anL cdL ctL, fun s v => .of_eq rfl, fun base _ _ => ?_⟩
  have q_cell : Cal P w K mg base _ _ "_law_cell" _ _ := ⟨f24, fd24, ok_cell F24 TB, PySem.W.mg_of X G a24, k24, b24⟩
  have q_draws : Cal P w K mg base _ _ "_law_draws" _ _ := ⟨f25, fd25, ok_draws F25 TB, PySem.W.mg_of X G a25, k25, b25⟩
  have q_stream : Cal P w K mg base _ _ "_law_stream" _ _ := ⟨f26, fd26, ok_stream F26 TB q_cell q_draws, PySem.W.mg_of X G a26, k26, b26⟩
  have q_next : Cal P w K mg base _ _ "_law_next" _ _ := ⟨f27, fd27, ok_next F27 TB, PySem.W.mg_of X G a27, k27, b27⟩
  have q_names : Cal P w K mg base _ _ "_law_names" _ _ := ⟨f28, fd28, ok_names F28, PySem.W.mg_of X G a28, k28, b28⟩
  have q_font : Cal P w K mg base _ _ "_law_font" _ _ := ⟨f29, fd29, ok_lfont F29 TB q_names q_next, PySem.W.mg_of X G a29, k29, b29⟩
  have q_scaled : Cal P w K mg base _ _ "scaled" _ _ := ⟨f2, fd2, ok_scaled F2, PySem.W.mg_of X G a2, k2, b2⟩
  have q_command : Cal P w K mg base _ _ "is_command" _ _ := ⟨f0, fd0, ok_is_command F0 TS, PySem.W.mg_of X G a0, k0, b0⟩
  have q_symbol : Cal P w K mg base _ _ "is_symbol" _ _ := ⟨f1, fd1, ok_is_symbol F1 TS q_command, PySem.W.mg_of X G a1, k1, b1⟩
  have q_integer : Cal P w K mg base _ _ "is_integer" _ _ := ⟨f6, fd6, ok_is_integer F6 TC, PySem.W.mg_of X G a6, k6, b6⟩
  have q_entry : Cal P w K mg base _ _ "is_entry" _ _ := ⟨f4, fd4, ok_is_entry F4 TE q_symbol q_integer, PySem.W.mg_of X G a4, k4, b4⟩
  have q_symbols : Cal P w K mg base _ _ "are_symbols" _ _ := ⟨f3, fd3, ok_are_symbols F3 TF q_entry, PySem.W.mg_of X G a3, k3, b3⟩
  have q_lengths : Cal P w K mg base _ _ "are_lengths" _ _ := ⟨f5, fd5, ok_are_lengths F5 TL q_integer, PySem.W.mg_of X G a5, k5, b5⟩
  have MF : MkF P w K mg base CF CB := ⟨m0, fm0, ok_finit M0 TO EB q_symbols q_lengths, ⟨mkc, ma0, mi0, kcF⟩, mb0⟩
  have q__entry : CalM P w K mg base (L2.CX P w) _ CF "_entry" _ _ := ⟨m2, fm2, ok_fentry M2 TO U, ⟨ma2, mi2, mk2⟩, mb2⟩
  have q_class : CalM P w K mg base (L2.CX P w) _ CF "class_of" _ _ := ⟨m1, fm1, ok_fclass_of M1 TO q__entry, ⟨ma1, mi1, mk1⟩, mb1⟩
  have q_same := ok_same (P := P) (w := w) (base := base) F30 TC (PySem.W.mg_of X G a30) k30 b30 4
  have q_lengthof : Cal P w K mg base _ _ "length_of" _ _ := ⟨f7, fd7, ok_lengthof F7 TCls q_scaled, PySem.W.mg_of X G a7, k7, b7⟩
  have q_nuccls : Cal P w K mg base _ _ "nucleus_class" _ _ := ⟨f9, fd9, ok_nuccls F9 TCls q_class, PySem.W.mg_of X G a9, k9, b9⟩
  have q_hasop : Cal P w K mg base _ _ "has_operands" _ _ := ⟨f10, fd10, ok_hasop F10 TCls, PySem.W.mg_of X G a10, k10, b10⟩
  have q_classes : Cal P w K mg base _ _ "classes_of" _ _ := ⟨f8, fd8, ok_classesof F8 TCls q_nuccls q_hasop, PySem.W.mg_of X G a8, k8, b8⟩
  have q_space : Cal P w K mg base _ _ "space_between" _ _ := ⟨f11, fd11, ok_space F11 TCls q_lengthof, PySem.W.mg_of X G a11, k11, b11⟩
  have TSrc : TxtSrc mg := ⟨(PySem.W.mg_none_of X G z_len), (PySem.W.mg_none_of X G z_max), (PySem.W.mg_none_of X G z_sum), (PySem.W.mg_none_of X G z_enumerate), ⟨_, (PySem.W.mg_of X G c_LETTERS)⟩, ⟨_, (PySem.W.mg_of X G c_DEEPEST)⟩, ⟨_, (PySem.W.mg_of X G c_MOST_ITEMS)⟩, ⟨_, (PySem.W.mg_of X G c_LONGEST)⟩⟩
  have q_nucrows : Cal P w K mg base _ _ "nucleus_rows" _ _ := ⟨f16, fd16, ok_nucrows F16, PySem.W.mg_of X G a16, k16, b16⟩
  have q_rowsin : Cal P w K mg base _ _ "rows_in" _ _ := ⟨f15, fd15, ok_rowsin F15 q_nucrows, PySem.W.mg_of X G a15, k15, b15⟩
  have q_rowsof := fun n => ok_rowsof (P := P) (w := w) (base := base) F14 q_rowsin (PySem.W.mg_of X G a14) k14 b14 n
  have q_words := fun n => words_ok (P := P) (w := w) (base := base) F19 F21 F20 F22 F23 ⟨PySem.W.mg_of X G a19, k19, b19⟩ ⟨PySem.W.mg_of X G a21, k21, b21⟩ ⟨PySem.W.mg_of X G a20, k20, b20⟩ ⟨PySem.W.mg_of X G a22, k22, b22⟩ ⟨PySem.W.mg_of X G a23, k23, b23⟩ n
  have q_depth := fun n => ok_depthof (P := P) (w := w) (base := base) F17 TSrc q_rowsin (PySem.W.mg_of X G a17) k17 b17 n
  have q_text : Cal P w K mg base _ _ "text_of" _ _ := ⟨f18, fd18, ok_textof (n := 3) F18 TSrc (q_words 3).row, PySem.W.mg_of X G a18, k18, b18⟩
  have q_cdepth : Cal P w K mg base _ _ "check_depth" _ _ := ⟨f12, fd12, ok_checkdepth F12 TSrc ETD, PySem.W.mg_of X G a12, k12, b12⟩
  have q_check : Cal P w K mg base _ _ "check_formula" _ _ := ⟨f13, fd13, ok_checkformula (n := 3) F13 TSrc ETL (by decide) q_cdepth (q_depth 3) (q_rowsof 3) q_text, PySem.W.mg_of X G a13, k13, b13⟩
  have q_within : Cal P w K mg base _ _ "_law_within" _ _ := ⟨f39, fd39, ok_within (n := 3) F39 TW q_check, PySem.W.mg_of X G a39, k39, b39⟩
  have q_drawn := draw_ok (P := P) (w := w) (base := base) F31 F32 F33 TB q_next q_names ⟨PySem.W.mg_of X G a31, k31, b31⟩ ⟨PySem.W.mg_of X G a32, k32, b32⟩ ⟨PySem.W.mg_of X G a33, k33, b33⟩ 2 (by decide)
  have q_lscaled : Cal P w K mg base _ _ "_law_scaled" _ _ := ⟨f34, fd34, ok_lscaled F34, PySem.W.mg_of X G a34, k34, b34⟩
  have q_lkind : Cal P w K mg base _ _ "_law_kind" _ _ := ⟨f35, fd35, ok_lkind F35 TB, PySem.W.mg_of X G a35, k35, b35⟩
  have q_lkinds : Cal P w K mg base _ _ "_law_kinds" _ _ := ⟨f36, fd36, ok_lkinds F36 TB q_lkind, PySem.W.mg_of X G a36, k36, b36⟩
  have q_lgap : Cal P w K mg base _ _ "_law_gap" _ _ := ⟨f37, fd37, ok_lgap F37 q_lscaled, PySem.W.mg_of X G a37, k37, b37⟩
  have TFx : TxtFix P w K mg base CF CB := { TB with g_Font := (PySem.W.mg_of X G gF), mkF := MF }
  have q_fixed : Cal P w K mg base _ _ "_law_fixed" _ _ := ⟨f38, fd38, ok_fixed (aN := aN) (aB := aB) (aK := aK) (aS := aS) F38 TFx q_classes q_space, PySem.W.mg_of X G a38, k38, b38⟩
  have FL := fun_mk (st := sLaw) lL cL kL
  exact ok_law FL { TB with g_Font := (PySem.W.mg_of X G gF), mkF := MF, fixed := q_fixed, stream := q_stream, font := q_font, next := q_next, item := q_drawn.item, within := q_within, same := q_same, classes := q_classes, kinds := q_lkinds, space := q_space, gap := q_lgap }
theorem walk {l : PySem.W.OpenLaw} {q : Program} {loose : List Str} {XP : (Str → Option Value) → Heap → Prop} {YP : World → Heap → Prop} {d : DefRec} {K : Params → PySem.W.Frag} (hn : l.most = some 63) (hdf : d.params.defaults = [])
    (hY : ∀ (w : World) (h : Heap), YP w h → (K w.params).In h)
    (F : ∀ (w : World) (mg : Str → Option Value) (fa : Addr) (h : Heap), (K w.params).In h → h.Ns mainGlobals mg → mg d.name = some (.ref fa) →
      ∃ fd : FuncData, (∀ (s : Shared) (u : Value), BindsTo s fd ⟨[u], []⟩ [("script", u)]) ∧ ∀ base : Heap, (K w.params).In base → base.Ns mainGlobals mg → FnOk l.prog w (K w.params) mg base CX0 13 fa fd ["script"] (spLaw (K w.params))) :
    PySem.W.WalkO q loose XP YP l.row.toRowW d [] (fun f vs => PySem.call f vs) :=
  L2.walk_of (n := 63) (k := 13) (x := "script") (CX := fun _ => CX0) (sp := fun w => spLaw (K w.params)) hn (by decide) hdf ⟨rfl, by decide, by decide⟩ hY F (fun _ _ a ns hl _ hS => ⟨a, ns, rfl, hS, fun _ => rfl⟩) fun _ _ _ _ _ z => z
end Mg

set_option Elab.async false
open PySem PySem.W PyProof.Rows
set_option maxRecDepth 100000 in
set_option maxHeartbeats 0 in
theorem PySem.Challenge.cw_mathgalley_k11_classes_and_spaces_holds : PySem.Challenge.rw_mathgalley_k11_classes_and_spaces.Holds := by
  w_on; o_law; k_head; (case hw => w_witness2)
  k_fill
  refine Mg.walk (l := PySem.Challenge.rw_mathgalley_k11_classes_and_spaces) rfl rfl (fun w h Y => PySem.W.kIn_of Y) ?F
  case F =>
    intro w mg fa h KX G hmg
    refine' Mg.all_mk KX G hmg ?gF ?gB ?gU ?gS ?gTD ?gTL ?z_len ?z_int ?z_abs ?z_range ?z_isinstance ?z_tuple ?z_list ?z_bool ?z_str ?z_all ?z_zip ?z_max ?z_sum ?z_enumerate ?z_super ?a0 ?d0 ?k0 ?a1 ?d1 ?k1 ?a2 ?d2 ?k2 ?a3 ?d3 ?k3 ?a4 ?d4 ?k4 ?a5 ?d5 ?k5 ?a6 ?d6 ?k6 ?a7 ?d7 ?k7 ?a8 ?d8 ?k8 ?a9 ?d9 ?k9 ?a10 ?d10 ?k10 ?a11 ?d11 ?k11 ?a12 ?d12 ?k12 ?a13 ?d13 ?k13 ?a14 ?d14 ?k14 ?a15 ?d15 ?k15 ?a16 ?d16 ?k16 ?a17 ?d17 ?k17 ?a18 ?d18 ?k18 ?a19 ?d19 ?k19 ?a20 ?d20 ?k20 ?a21 ?d21 ?k21 ?a22 ?d22 ?k22 ?a23 ?d23 ?k23 ?a24 ?d24 ?k24 ?a25 ?d25 ?k25 ?a26 ?d26 ?k26 ?a27 ?d27 ?k27 ?a28 ?d28 ?k28 ?a29 ?d29 ?k29 ?a30 ?d30 ?k30 ?a31 ?d31 ?k31 ?a32 ?d32 ?k32 ?a33 ?d33 ?k33 ?a34 ?d34 ?k34 ?a35 ?d35 ?k35 ?a36 ?d36 ?k36 ?a37 ?d37 ?k37 ?a38 ?d38 ?k38 ?a39 ?d39 ?k39 ?ma0 ?mi0 ?md0 ?mk0 ?ma1 ?mi1 ?md1 ?mk1 ?ma2 ?mi2 ?md2 ?mk2 ?aL ?lL ?cL ?kL ?pg ?hd ?po ?sa ?mkc ?kcF ?n_symbols ?n_lengths ?n__entries ?bx ?bk ?bb ?bt ?bd ?bs ?bS ?bV ?bN ?tdx ?tdk ?tdb ?tdt ?tdd ?tds ?tdS ?tdV ?tdN ?tlx ?tlk ?tlb ?tlt ?tld ?tls ?tlS ?tlV ?tlN ?sb ?sd ?st ?uL ?usa ?uga ?ugg ?un ?ui ?ut ?uk ?ub ?uty ?ud ?uV ?uS ?us ?uo ?ual ?uop ?ufn ?ucd ?ucc ?uda ?uvs ?ufl ?uht ?neU ?c_LETTERS ?c_SIGNS ?c_MOST_LETTERS ?c_ROOT_SIGN ?c_MOST_MEASURE ?c_MOST_SYMBOLS ?c_RESERVED ?k_RESERVED ?c_CLASSES ?k_CLASSES ?c_LENGTH_LIMITS ?k_LENGTH_LIMITS ?kM0 ?kM1 ?kM2 ?kM3 ?kM4 ?kM5 ?kM6 ?kM7 ?c_STEP ?c_RULE ?c_THIN ?c_DEEPEST ?c_MOST_ITEMS ?c_LONGEST ?c_KINDS ?k_KINDS ?c_NO_OPERANDS ?k_NO_OPERANDS ?c_NO_OPERANDS_BEHIND ?k_NO_OPERANDS_BEHIND ?c_SPACES ?k_SPACES ?l_SPACES ?e_SPACES0 ?g_SPACES0 ?e_SPACES1 ?g_SPACES1 ?e_SPACES2 ?g_SPACES2 ?e_SPACES3 ?g_SPACES3 ?e_SPACES4 ?g_SPACES4 ?e_SPACES5 ?g_SPACES5 ?e_SPACES6 ?g_SPACES6 ?e_SPACES7 ?g_SPACES7
    (case gF => k_is)
    (case gB => k_is)
    (case gU => k_is)
    (case gS => k_is)
    (case gTD => k_is)
    (case gTL => k_is)
    (case z_len => k_is)
    (case z_int => k_is)
    (case z_abs => k_is)
    (case z_range => k_is)
    (case z_isinstance => k_is)
    (case z_tuple => k_is)
    (case z_list => k_is)
    (case z_bool => k_is)
    (case z_str => k_is)
    (case z_all => k_is)
    (case z_zip => k_is)
    (case z_max => k_is)
    (case z_sum => k_is)
    (case z_enumerate => k_is)
    (case z_super => k_is)
    (case a0 => k_is)
    (case d0 => (refine' ⟨_, L2.fun_mk (st := Mg.sIsCommand) ?l ?c ?k⟩; (case l => k_is); (case c => k_is); (case k => k_is)))
    (case k0 => k_is)
    (case a1 => k_is)
    (case d1 => (refine' ⟨_, L2.fun_mk (st := Mg.sIsSymbol) ?l ?c ?k⟩; (case l => k_is); (case c => k_is); (case k => k_is)))
    (case k1 => k_is)
    (case a2 => k_is)
    (case d2 => (refine' ⟨_, L2.fun_mk (st := Mg.sScaled) ?l ?c ?k⟩; (case l => k_is); (case c => k_is); (case k => k_is)))
    (case k2 => k_is)
    (case a3 => k_is)
    (case d3 => (refine' ⟨_, L2.fun_mk (st := Mg.sAreSymbols) ?l ?c ?k⟩; (case l => k_is); (case c => k_is); (case k => k_is)))
    (case k3 => k_is)
    (case a4 => k_is)
    (case d4 => (refine' ⟨_, L2.fun_mk (st := Mg.sIsEntry) ?l ?c ?k⟩; (case l => k_is); (case c => k_is); (case k => k_is)))
    (case k4 => k_is)
    (case a5 => k_is)
    (case d5 => (refine' ⟨_, L2.fun_mk (st := Mg.sAreLengths) ?l ?c ?k⟩; (case l => k_is); (case c => k_is); (case k => k_is)))
    (case k5 => k_is)
    (case a6 => k_is)
    (case d6 => (refine' ⟨_, L2.fun_mk (st := Mg.sIsInteger) ?l ?c ?k⟩; (case l => k_is); (case c => k_is); (case k => k_is)))
    (case k6 => k_is)
    (case a7 => k_is)
    (case d7 => (refine' ⟨_, L2.fun_mk (st := Mg.sLengthOf) ?l ?c ?k⟩; (case l => k_is); (case c => k_is); (case k => k_is)))
    (case k7 => k_is)
    (case a8 => k_is)
    (case d8 => (refine' ⟨_, L2.fun_mk (st := Mg.sClassesOf) ?l ?c ?k⟩; (case l => k_is); (case c => k_is); (case k => k_is)))
    (case k8 => k_is)
    (case a9 => k_is)
    (case d9 => (refine' ⟨_, L2.fun_mk (st := Mg.sNucCls) ?l ?c ?k⟩; (case l => k_is); (case c => k_is); (case k => k_is)))
    (case k9 => k_is)
    (case a10 => k_is)
    (case d10 => (refine' ⟨_, L2.fun_mk (st := Mg.sHasOp) ?l ?c ?k⟩; (case l => k_is); (case c => k_is); (case k => k_is)))
    (case k10 => k_is)
    (case a11 => k_is)
    (case d11 => (refine' ⟨_, L2.fun_mk (st := Mg.sSpace) ?l ?c ?k⟩; (case l => k_is); (case c => k_is); (case k => k_is)))
    (case k11 => k_is)
    (case a12 => k_is)
    (case d12 => (refine' ⟨_, L2.fun_mk (st := Mg.sCheckDepth) ?l ?c ?k⟩; (case l => k_is); (case c => k_is); (case k => k_is)))
    (case k12 => k_is)
    (case a13 => k_is)
    (case d13 => (refine' ⟨_, L2.fun_mk (st := Mg.sCheckFormula) ?l ?c ?k⟩; (case l => k_is); (case c => k_is); (case k => k_is)))
    (case k13 => k_is)
    (case a14 => k_is)
    (case d14 => (refine' ⟨_, L2.fun_mk (st := Mg.sRowsOf) ?l ?c ?k⟩; (case l => k_is); (case c => k_is); (case k => k_is)))
    (case k14 => k_is)
    (case a15 => k_is)
    (case d15 => (refine' ⟨_, L2.fun_mk (st := Mg.sRowsIn) ?l ?c ?k⟩; (case l => k_is); (case c => k_is); (case k => k_is)))
    (case k15 => k_is)
    (case a16 => k_is)
    (case d16 => (refine' ⟨_, L2.fun_mk (st := Mg.sNucRows) ?l ?c ?k⟩; (case l => k_is); (case c => k_is); (case k => k_is)))
    (case k16 => k_is)
    (case a17 => k_is)
    (case d17 => (refine' ⟨_, L2.fun_mk (st := Mg.sDepthOf) ?l ?c ?k⟩; (case l => k_is); (case c => k_is); (case k => k_is)))
    (case k17 => k_is)
    (case a18 => k_is)
    (case d18 => (refine' ⟨_, L2.fun_mk (st := Mg.sTextOf) ?l ?c ?k⟩; (case l => k_is); (case c => k_is); (case k => k_is)))
    (case k18 => k_is)
    (case a19 => k_is)
    (case d19 => (refine' ⟨_, L2.fun_mk (st := Mg.sRowWords) ?l ?c ?k⟩; (case l => k_is); (case c => k_is); (case k => k_is)))
    (case k19 => k_is)
    (case a20 => k_is)
    (case d20 => (refine' ⟨_, L2.fun_mk (st := Mg.sNucWords) ?l ?c ?k⟩; (case l => k_is); (case c => k_is); (case k => k_is)))
    (case k20 => k_is)
    (case a21 => k_is)
    (case d21 => (refine' ⟨_, L2.fun_mk (st := Mg.sBraced) ?l ?c ?k⟩; (case l => k_is); (case c => k_is); (case k => k_is)))
    (case k21 => k_is)
    (case a22 => k_is)
    (case d22 => (refine' ⟨_, L2.fun_mk (st := Mg.sFenceW) ?l ?c ?k⟩; (case l => k_is); (case c => k_is); (case k => k_is)))
    (case k22 => k_is)
    (case a23 => k_is)
    (case d23 => (refine' ⟨_, L2.fun_mk (st := Mg.sGridW) ?l ?c ?k⟩; (case l => k_is); (case c => k_is); (case k => k_is)))
    (case k23 => k_is)
    (case a24 => k_is)
    (case d24 => (refine' ⟨_, L2.fun_mk (st := Mg.sCell) ?l ?c ?k⟩; (case l => k_is); (case c => k_is); (case k => k_is)))
    (case k24 => k_is)
    (case a25 => k_is)
    (case d25 => (refine' ⟨_, L2.fun_mk (st := Mg.sDraws) ?l ?c ?k⟩; (case l => k_is); (case c => k_is); (case k => k_is)))
    (case k25 => k_is)
    (case a26 => k_is)
    (case d26 => (refine' ⟨_, L2.fun_mk (st := Mg.sStream) ?l ?c ?k⟩; (case l => k_is); (case c => k_is); (case k => k_is)))
    (case k26 => k_is)
    (case a27 => k_is)
    (case d27 => (refine' ⟨_, L2.fun_mk (st := Mg.sNext) ?l ?c ?k⟩; (case l => k_is); (case c => k_is); (case k => k_is)))
    (case k27 => k_is)
    (case a28 => k_is)
    (case d28 => (refine' ⟨_, L2.fun_mk (st := Mg.sNames) ?l ?c ?k⟩; (case l => k_is); (case c => k_is); (case k => k_is)))
    (case k28 => k_is)
    (case a29 => k_is)
    (case d29 => (refine' ⟨_, L2.fun_mk (st := Mg.sLFont) ?l ?c ?k⟩; (case l => k_is); (case c => k_is); (case k => k_is)))
    (case k29 => k_is)
    (case a30 => k_is)
    (case d30 => (refine' ⟨_, L2.fun_mk (st := Mg.sSame) ?l ?c ?k⟩; (case l => k_is); (case c => k_is); (case k => k_is)))
    (case k30 => k_is)
    (case a31 => k_is)
    (case d31 => (refine' ⟨_, L2.fun_mk (st := Mg.sLRow) ?l ?c ?k⟩; (case l => k_is); (case c => k_is); (case k => k_is)))
    (case k31 => k_is)
    (case a32 => k_is)
    (case d32 => (refine' ⟨_, L2.fun_mk (st := Mg.sLNuc) ?l ?c ?k⟩; (case l => k_is); (case c => k_is); (case k => k_is)))
    (case k32 => k_is)
    (case a33 => k_is)
    (case d33 => (refine' ⟨_, L2.fun_mk (st := Mg.sLItem) ?l ?c ?k⟩; (case l => k_is); (case c => k_is); (case k => k_is)))
    (case k33 => k_is)
    (case a34 => k_is)
    (case d34 => (refine' ⟨_, L2.fun_mk (st := Mg.sLScaled) ?l ?c ?k⟩; (case l => k_is); (case c => k_is); (case k => k_is)))
    (case k34 => k_is)
    (case a35 => k_is)
    (case d35 => (refine' ⟨_, L2.fun_mk (st := Mg.sLKind) ?l ?c ?k⟩; (case l => k_is); (case c => k_is); (case k => k_is)))
    (case k35 => k_is)
    (case a36 => k_is)
    (case d36 => (refine' ⟨_, L2.fun_mk (st := Mg.sLKinds) ?l ?c ?k⟩; (case l => k_is); (case c => k_is); (case k => k_is)))
    (case k36 => k_is)
    (case a37 => k_is)
    (case d37 => (refine' ⟨_, L2.fun_mk (st := Mg.sLGap) ?l ?c ?k⟩; (case l => k_is); (case c => k_is); (case k => k_is)))
    (case k37 => k_is)
    (case a38 => k_is)
    (case d38 => (refine' ⟨_, L2.fun_mk (st := Mg.sFixed) ?l ?c ?k⟩; (case l => k_is); (case c => k_is); (case k => k_is)))
    (case k38 => k_is)
    (case a39 => k_is)
    (case d39 => (refine' ⟨_, L2.fun_mk (st := Mg.sWithin) ?l ?c ?k⟩; (case l => k_is); (case c => k_is); (case k => k_is)))
    (case k39 => k_is)
    (case ma0 => k_is)
    (case mi0 => k_is)
    (case md0 => (refine' ⟨_, L2.fun_mk (st := Mg.sFInit) ?l ?c ?k⟩; (case l => k_is); (case c => k_is); (case k => k_is)))
    (case mk0 => k_is)
    (case ma1 => k_is)
    (case mi1 => k_is)
    (case md1 => (refine' ⟨_, L2.fun_mk (st := Mg.sFClassOf) ?l ?c ?k⟩; (case l => k_is); (case c => k_is); (case k => k_is)))
    (case mk1 => k_is)
    (case ma2 => k_is)
    (case mi2 => k_is)
    (case md2 => (refine' ⟨_, L2.fun_mk (st := Mg.sFEntry) ?l ?c ?k⟩; (case l => k_is); (case c => k_is); (case k => k_is)))
    (case mk2 => k_is)
    (case aL => k_is)
    (case lL => k_is)
    (case cL => k_is)
    (case kL => k_is)
    (case pg => k_is)
    (case hd => k_is)
    (case po => k_is)
    (case sa => k_is)
    (case mkc => k_is)
    (case kcF => k_is)
    (case n_symbols => k_is)
    (case n_lengths => k_is)
    (case n__entries => k_is)
    (case bx => k_exc)
    (case bk => k_is)
    (case bb => k_is)
    (case bt => k_is)
    (case bd => k_is)
    (case bs => first | rfl | k_is)
    (case bS => k_is)
    (case bV => k_is)
    (case bN => decide)
    (case tdx => k_exc)
    (case tdk => k_is)
    (case tdb => k_is)
    (case tdt => k_is)
    (case tdd => k_is)
    (case tds => first | rfl | k_is)
    (case tdS => k_is)
    (case tdV => k_is)
    (case tdN => decide)
    (case tlx => k_exc)
    (case tlk => k_is)
    (case tlb => k_is)
    (case tlt => k_is)
    (case tld => k_is)
    (case tls => first | rfl | k_is)
    (case tlS => k_is)
    (case tlV => k_is)
    (case tlN => decide)
    (case sb => k_is)
    (case sd => k_is)
    (case st => k_is)
    (case uL => k_is)
    (case usa => k_is)
    (case uga => k_is)
    (case ugg => k_is)
    (case un => k_is)
    (case ui => k_is)
    (case ut => k_is)
    (case uk => k_is)
    (case ub => k_is)
    (case uty => k_is)
    (case ud => k_is)
    (case uV => k_is)
    (case uS => k_is)
    (case us => first | rfl | k_is)
    (case uo => k_is)
    (case ual => ks_is)
    (case uop => k_is)
    (case ufn => k_is)
    (case ucd => k_is)
    (case ucc => k_is)
    (case uda => k_is)
    (case uvs => rfl)
    (case ufl => rfl)
    (case uht => rfl)
    (case neU => decide)
    (case c_LETTERS => k_is)
    (case c_SIGNS => k_is)
    (case c_MOST_LETTERS => k_is)
    (case c_ROOT_SIGN => k_is)
    (case c_MOST_MEASURE => k_is)
    (case c_MOST_SYMBOLS => k_is)
    (case c_RESERVED => k_is)
    (case k_RESERVED => k_is)
    (case c_CLASSES => k_is)
    (case k_CLASSES => k_is)
    (case c_LENGTH_LIMITS => k_is)
    (case k_LENGTH_LIMITS => k_is)
    (case kM0 => k_is)
    (case kM1 => k_is)
    (case kM2 => k_is)
    (case kM3 => k_is)
    (case kM4 => k_is)
    (case kM5 => k_is)
    (case kM6 => k_is)
    (case kM7 => k_is)
    (case c_STEP => k_is)
    (case c_RULE => k_is)
    (case c_THIN => k_is)
    (case c_DEEPEST => k_is)
    (case c_MOST_ITEMS => k_is)
    (case c_LONGEST => k_is)
    (case c_KINDS => k_is)
    (case k_KINDS => k_is)
    (case c_NO_OPERANDS => k_is)
    (case k_NO_OPERANDS => k_is)
    (case c_NO_OPERANDS_BEHIND => k_is)
    (case k_NO_OPERANDS_BEHIND => k_is)
    (case c_SPACES => k_is)
    (case k_SPACES => k_is)
    (case l_SPACES => k_keys)
    (case e_SPACES0 => k_is)
    (case g_SPACES0 => k_is)
    (case e_SPACES1 => k_is)
    (case g_SPACES1 => k_is)
    (case e_SPACES2 => k_is)
    (case g_SPACES2 => k_is)
    (case e_SPACES3 => k_is)
    (case g_SPACES3 => k_is)
    (case e_SPACES4 => k_is)
    (case g_SPACES4 => k_is)
    (case e_SPACES5 => k_is)
    (case g_SPACES5 => k_is)
    (case e_SPACES6 => k_is)
    (case g_SPACES6 => k_is)
    (case e_SPACES7 => k_is)
    (case g_SPACES7 => k_is)
