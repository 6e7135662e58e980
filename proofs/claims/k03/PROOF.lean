import PyProof.Rows.All
import Wide.All
import OpenK.AllK
import Wide.FinOn
import HandS.ForMost
import HandS.ForExc
import HandS.IsInst
import HandS.TupMul
import HandS.TupAny
import HandS.More
import HandS.Style
import PySem.Challenge.RW_stealyard_k03_started
set_option Elab.async false
set_option linter.all false
set_option maxRecDepth 100000
set_option maxHeartbeats 4000000
namespace L2
open PySem PySem.Spec PyProof.Rows
/-! ### defs of the program, with what they promise -/
def FunAt (K : PySem.W.Frag) (mg : Str → Option Value) (x : Str) (st : Stmt) (ps : List Str) : Prop := ∃ f fd, Fun K x x st f fd ∧ mg x = some (.ref f) ∧ Binds K fd ps []
def Has (P : Program) (w : World) (K : PySem.W.Frag) (mg : Str → Option Value) (base : Heap) (CX : CXT) (k : Nat) (x : Str) (ps : List Str) (sp : Sp) : Prop :=
  ∃ f fd, FnOk P w K mg base CX k f fd ps sp ∧ mg x = some (.ref f) ∧ PySem.W.keepIn K (.ref f) = true ∧ Binds K fd ps []
theorem FunAt.has {P : Program} {w : World} {K : PySem.W.Frag} {mg : Str → Option Value} {base : Heap} {CX : CXT} {k : Nat} {x : Str} {st : Stmt} {ps : List Str} {sp : Sp} (F : FunAt K mg x st ps)
    (h : ∀ f fd, Fun K x x st f fd → FnOk P w K mg base CX k f fd ps sp) : Has P w K mg base CX k x ps sp := by
  obtain ⟨f, fd, F, m, b⟩ := F
  exact ⟨f, fd, h f fd F, m, F.kp, b⟩
theorem Has.mono {P : Program} {w : World} {K : PySem.W.Frag} {mg : Str → Option Value} {base : Heap} {CX : CXT} {j k : Nat} {x : Str} {ps : List Str} {sp : Sp} (F : Has P w K mg base CX j x ps sp) (h : j ≤ k) : Has P w K mg base CX k x ps sp := by
  obtain ⟨f, fd, F, m, b⟩ := F
  exact ⟨f, fd, F.mono h, m, b⟩
theorem pe_callH {X : Cx} {CX : CXT} {k j : Nat} {ps : List Str} {sp : Sp} {E : XK} {x : Str} {p pos : Pos} {e : Expr} {es : List Expr} {t : TA} (F : Has X.prog X.w X.K X.mg X.base CX k x ps sp) (hr : Room j X.A) (hg : Gl X x) (hx : Passes CX X E)
    (ha : PA X (e :: es) t) (hk : k ≤ j := by omega) (hdb : (x == ("__debug__" : Str)) = false := by decide) (he : starEach (e :: es) X.env = (false, eval e X.env) :: starEach es X.env := by rfl) (hpl : (backTo pos (starEach es X.env)).any (·.1) = false := by rfl) :
    PE X (.Call (.Name x p) (e :: es) [] pos) (tCall sp [] E t) := by
  obtain ⟨f, fd, F, m, kp, b⟩ := F
  exact pe_call F (hr.mono hk) hg m kp b .nil hx ha hdb he hpl
theorem mk_at {K : PySem.W.Frag} {mg : Str → Option Value} {x : Str} {st : Stmt} {f : Addr} {ps : List Str} {oc : Value} {od an : Option Addr} {osl : Array (Option Value)} {kV doc pm cdv ct : Value} (m : mg x = some (.ref f))
    (l : K.lookup f = some ⟨oc, od, .func (PySem.W.fnOf x x (defArgs st) (defBody st) (defScope st) .none kV doc pm an cdv ct), osl⟩) (c : PySem.W.codeIn K cdv x = true) (k : PySem.W.keepIn K (.ref f) = true)
    (hb : ∀ (kV doc pm : Value) (an : Option Addr) (cdv ct : Value) (us : List Value), us.length = ps.length → bindArgs (PySem.W.fnOf x x (defArgs st) (defBody st) (defScope st) .none kV doc pm an cdv ct) ⟨us, []⟩ = pure (ps.zip us)) : FunAt K mg x st ps :=
  ⟨f, _, fun_mk l c k, m, (fun_mk l c k).binds hb⟩
/-- a def that is asked for nothing -/
theorem FnOk.never {P : Program} {w : World} {K : PySem.W.Frag} {mg : Str → Option Value} {base : Heap} {CX : CXT} {k : Nat} {f : Addr} {fd : FuncData} {ps : List Str} : FnOk P w K mg base CX k f fd ps (fun _ _ _ _ => False) :=
  ⟨fun _ _ _ _ h => h.elim, fun _ _ _ _ _ _ _ _ _ _ _ _ _ h => h.elim⟩
/-! ### the built-in names that the program leaves -/
structure Bt (mg : Str → Option Value) : Prop where
  len_ : mg "len" = none
  range_ : mg "range" = none
  list_ : mg "list" = none
  tuple_ : mg "tuple" = none
  int_ : mg "int" = none
  str_ : mg "str" = none
  bool_ : mg "bool" = none
  isinstance_ : mg "isinstance" = none
  all_ : mg "all" = none
  sorted_ : mg "sorted" = none
  enumerate_ : mg "enumerate" = none
  sum_ : mg "sum" = none
  ValueError_ : mg "ValueError" = none
  any_ : mg "any" = none
  zip_ : mg "zip" = none
  dict_ : mg "dict" = none
  set_ : mg "set" = none
  max_ : mg "max" = none
  min_ : mg "min" = none
/-! ### heaps -/
theorem Same.upd {H H' : Hp} {p : Addr} {o : HO} (s : Same H H') (h : H p = none) : Same H (upd H' p o) := fun a u e => by
  rw [upd_ne (ne_of_none e h)]
  exact s a u e
theorem same_new {H : Hp} {p : Addr} {o : HO} (h : H p = none) : Same H (upd H p o) := Same.upd (Same.refl H) h
theorem Same.rd {H H' : Hp} {a : Addr} {u : HO} (e : Same H H') (h : Rd H a u) : Rd H' a u := by
  rcases h with h | ⟨o, h⟩
  · exact .inl (e a _ h)
  · exact .inr ⟨o, e a _ h⟩
theorem Same.tup {K : PySem.W.Frag} {H H' : Hp} {a : Addr} {xs : List V} (e : Same H H') (h : SqT K H a xs) : SqT K H' a xs := by
  rcases h with h | h
  · exact .inl (e.rd h)
  · exact .inr h
/-- all tuples stay -/
def KeepT (H H' : Hp) : Prop := ∀ a xs, Rd H a (.tup xs) → Rd H' a (.tup xs)
theorem KeepT.refl (H : Hp) : KeepT H H := fun _ _ h => h
theorem KeepT.trans {H H1 H2 : Hp} (a : KeepT H H1) (b : KeepT H1 H2) : KeepT H H2 := fun x o h => b x o (a x o h)
theorem Same.keepT {H H' : Hp} (e : Same H H') : KeepT H H' := fun _ _ h => e.rd h
theorem keepT_upd {H : Hp} {p : Addr} {o : HO} {xs : List V} (h : H p = some (.lst xs)) : KeepT H (upd H p o) := fun a ys r => by
  have e : a ≠ p := by
    intro e
    subst e
    rcases r with r | ⟨u, r⟩ <;> rw [h] at r <;> cases r
  rcases r with r | ⟨u, r⟩
  · exact .inl (by rw [upd_ne e]; exact r)
  · exact .inr ⟨u, by rw [upd_ne e]; exact r⟩
theorem KeepT.tup {K : PySem.W.Frag} {H H' : Hp} {a : Addr} {xs : List V} (e : KeepT H H') (h : SqT K H a xs) : SqT K H' a xs := by
  rcases h with h | h
  · exact .inl (e a xs h)
  · exact .inr h
theorem KeepT.upd {H H' : Hp} {p : Addr} {o : HO} {xs : List V} (s : KeepT H H') (h : H' p = some (.lst xs)) : KeepT H (L2.upd H' p o) := s.trans (keepT_upd h)
theorem KeepT.new {H H' : Hp} {p : Addr} {o : HO} (s : KeepT H H') (h : H' p = none) : KeepT H (L2.upd H' p o) := s.trans (Same.keepT (same_new h))
/-! ### data -/
mutual
theorem dp_same {K : PySem.W.Frag} {H H' : Hp} (s : Same H H') : ∀ (d : PyData) (v : V), Dp K H v d → Dp K H' v d
  | .none, v, h => by cases h; exact .non
  | .bool b, v, h => by cases h; exact .bl b
  | .int i, v, h => by cases h; exact .int i
  | .str x, v, h => by cases h; exact .str x
  | .list ds, v, h => by
    cases h with
    | lst h1 h2 => exact .lst (s.seq h1) (dpAll_same s ds _ h2)
  | .tuple ds, v, h => by
    cases h with
    | tup h1 h2 => exact .tup (Same.tup s h1) (dpAll_same s ds _ h2)
  | .dict _, v, h => by cases h
theorem dpAll_same {K : PySem.W.Frag} {H H' : Hp} (s : Same H H') : ∀ (ds : List PyData) (vs : List V), DpAll K H vs ds → DpAll K H' vs ds
  | [], vs, h => by cases h; exact .nil
  | d :: ds, vs, h => by
    cases h with
    | cons h1 h2 => exact .cons (dp_same s d _ h1) (dpAll_same s ds _ h2)
end

mutual
def tOnly : PyData → Bool
  | .none | .bool _ | .int _ | .str _ => true
  | .tuple ds => tOnlyAll ds
  | .list _ => false
  | .dict _ => false
def tOnlyAll : List PyData → Bool
  | [] => true
  | d :: ds => tOnly d && tOnlyAll ds
end
mutual
theorem dp_keep {K : PySem.W.Frag} {H H' : Hp} (s : KeepT H H') : ∀ (d : PyData) (v : V), tOnly d = true → Dp K H v d → Dp K H' v d
  | .none, v, _, h => by cases h; exact .non
  | .bool b, v, _, h => by cases h; exact .bl b
  | .int i, v, _, h => by cases h; exact .int i
  | .str x, v, _, h => by cases h; exact .str x
  | .list ds, v, t, h => by simp [tOnly] at t
  | .tuple ds, v, t, h => by
    cases h with
    | tup h1 h2 => exact .tup (s.tup h1) (dpAll_keep s ds _ (by simpa [tOnly] using t) h2)
  | .dict _, v, _, h => by cases h
theorem dpAll_keep {K : PySem.W.Frag} {H H' : Hp} (s : KeepT H H') : ∀ (ds : List PyData) (vs : List V), tOnlyAll ds = true → DpAll K H vs ds → DpAll K H' vs ds
  | [], vs, _, h => by cases h; exact .nil
  | d :: ds, vs, t, h => by
    have t' : tOnly d = true ∧ tOnlyAll ds = true := by simpa [tOnlyAll] using t
    cases h with
    | cons h1 h2 => exact .cons (dp_keep s d _ t'.1 h1) (dpAll_keep s ds _ t'.2 h2)
end
/-- a tuple-only thing -/
def Tp (K : PySem.W.Frag) (H : Hp) (v : V) (d : PyData) : Prop := Dp K H v d ∧ tOnly d = true
theorem Tp.keep {K : PySem.W.Frag} {H H' : Hp} {v : V} {d : PyData} (s : KeepT H H') (h : Tp K H v d) : Tp K H' v d := ⟨dp_keep s d v h.2 h.1, h.2⟩
theorem Tp.same {K : PySem.W.Frag} {H H' : Hp} {v : V} {d : PyData} (s : Same H H') (h : Tp K H v d) : Tp K H' v d := ⟨dp_same s d v h.1, h.2⟩
/-! plain kinds: none, ints, texts, lists and tuples of these, to a depth -/
def kin : Nat → PyData → Bool
  | _, .none => true
  | _, .int _ => true
  | _, .str x => PyData.strOk x
  | n + 1, .list ds => decide (ds.length ≤ 100000) && ds.all (kin n)
  | n + 1, .tuple ds => decide (ds.length ≤ 100000) && ds.all (kin n)
  | _, _ => false
theorem kin_lay : ∀ (n : Nat) (d : PyData), kin n d = true → d.canLay0 = true ∧ d.depth ≤ n
  | n, .none, h => ⟨by simp [PyData.canLay0], by simp [PyData.depth]⟩
  | n, .int i, h => ⟨by simp [PyData.canLay0], by simp [PyData.depth]⟩
  | n, .str x, h => ⟨by simpa [PyData.canLay0, kin] using h, by simp [PyData.depth]⟩
  | n, .bool _, h => by cases n <;> simp [kin] at h
  | n, .dict _, h => by cases n <;> simp [kin] at h
  | 0, .list ds, h => by simp [kin] at h
  | 0, .tuple ds, h => by simp [kin] at h
  | n + 1, .list ds, h => by
    have hh : ∀ d ∈ ds, kin n d = true := by
      have q : ds.length ≤ 100000 ∧ ∀ d ∈ ds, kin n d = true := by simpa [kin] using h
      exact q.2
    have q : PyData.canLayAll0 ds = true ∧ PyData.depthAll ds ≤ n := by
      clear h
      induction ds with
      | nil => exact ⟨by simp [PyData.canLayAll0], by simp [PyData.depthAll]⟩
      | cons d ds ih =>
        have a := kin_lay n d (hh d List.mem_cons_self)
        have b := ih fun e he => hh e (List.mem_cons_of_mem _ he)
        refine ⟨by simp [PyData.canLayAll0, a.1, b.1], ?_⟩
        simp only [PyData.depthAll]
        omega
    exact ⟨by simpa [PyData.canLay0] using q.1, by simp only [PyData.depth]; omega⟩
  | n + 1, .tuple ds, h => by
    have hh : ∀ d ∈ ds, kin n d = true := by
      have q : ds.length ≤ 100000 ∧ ∀ d ∈ ds, kin n d = true := by simpa [kin] using h
      exact q.2
    have q : PyData.canLayAll0 ds = true ∧ PyData.depthAll ds ≤ n := by
      clear h
      induction ds with
      | nil => exact ⟨by simp [PyData.canLayAll0], by simp [PyData.depthAll]⟩
      | cons d ds ih =>
        have a := kin_lay n d (hh d List.mem_cons_self)
        have b := ih fun e he => hh e (List.mem_cons_of_mem _ he)
        refine ⟨by simp [PyData.canLayAll0, a.1, b.1], ?_⟩
        simp only [PyData.depthAll]
        omega
    exact ⟨by simpa [PyData.canLay0] using q.1, by simp only [PyData.depth]; omega⟩
theorem kin_shaped {n : Nat} {d : PyData} (h : kin n d = true) (hn : n ≤ 64) : SeqAt.shaped d = true := by
  have q := kin_lay n d h
  unfold SeqAt.shaped
  rw [q.1, decide_eq_true (Nat.le_trans q.2 hn)]
  rfl
theorem kin_eqv {n : Nat} {d : PyData} (h : kin n d = true) : PyData.eqv d d = true := SeqAt.eqv_refl d (kin_lay n d h).1
/-! what stands where data stand -/
theorem dp_list {K : PySem.W.Frag} {H : Hp} {v : V} {ds : List PyData} (h : Dp K H v (.list ds)) : ∃ a xs, v = .ref a ∧ SqL K H a xs ∧ DpAll K H xs ds := by
  cases h with
  | lst h1 h2 => exact ⟨_, _, rfl, h1, h2⟩
theorem dp_tup {K : PySem.W.Frag} {H : Hp} {v : V} {ds : List PyData} (h : Dp K H v (.tuple ds)) : ∃ a xs, v = .ref a ∧ SqT K H a xs ∧ DpAll K H xs ds := by
  cases h with
  | tup h1 h2 => exact ⟨_, _, rfl, h1, h2⟩
theorem dp_int {K : PySem.W.Frag} {H : Hp} {v : V} {i : Int} (h : Dp K H v (.int i)) : v = .int i := by cases h; rfl
theorem dp_str {K : PySem.W.Frag} {H : Hp} {v : V} {x : Str} (h : Dp K H v (.str x)) : v = .str x := by cases h; rfl
theorem dp_non {K : PySem.W.Frag} {H : Hp} {v : V} (h : Dp K H v .none) : v = .non := by cases h; rfl
theorem DpAll.len {K : PySem.W.Frag} {H : Hp} : ∀ {vs : List V} {ds : List PyData}, DpAll K H vs ds → vs.length = ds.length
  | _, _, .nil => rfl
  | _, _, .cons _ h => by rw [List.length_cons, List.length_cons, DpAll.len h]
theorem DpAll.get {K : PySem.W.Frag} {H : Hp} : ∀ {vs : List V} {ds : List PyData} (i : Nat) {d : PyData}, DpAll K H vs ds → ds[i]? = some d → ∃ v, vs[i]? = some v ∧ Dp K H v d
  | _, _, i, d, .nil, e => by simp at e
  | _, _, 0, d, .cons h _, e => by simp at e; subst e; exact ⟨_, rfl, h⟩
  | _, _, i + 1, d, .cons _ h, e => by
    obtain ⟨v, e1, e2⟩ := DpAll.get i h (by simpa using e)
    exact ⟨v, by simpa using e1, e2⟩
theorem DpAll.get2 {K : PySem.W.Frag} {H : Hp} {vs : List V} {ds : List PyData} {i : Nat} {v : V} (h : DpAll K H vs ds) (e : vs[i]? = some v) : ∃ d, ds[i]? = some d ∧ Dp K H v d := by
  have hi : i < ds.length := by rw [← h.len]; exact (List.getElem?_eq_some_iff.mp e).1
  obtain ⟨v', e1, e2⟩ := h.get i (List.getElem?_eq_getElem hi)
  rw [e] at e1
  cases e1
  exact ⟨_, List.getElem?_eq_getElem hi, e2⟩
theorem dpAll_ints {K : PySem.W.Frag} {H : Hp} : ∀ ns : List Int, DpAll K H (ns.map V.int) (ns.map PyData.int)
  | [] => .nil
  | n :: ns => .cons (.int n) (dpAll_ints ns)
theorem ints_dpAll {K : PySem.W.Frag} {H : Hp} : ∀ {ns : List Int} {vs : List V}, DpAll K H vs (ns.map PyData.int) → vs = ns.map V.int
  | [], _, .nil => rfl
  | n :: ns, _, .cons h t => by
    rw [dp_int h, ints_dpAll t]
    rfl
theorem DpAll.append {K : PySem.W.Frag} {H : Hp} : ∀ {vs ws : List V} {ds es : List PyData}, DpAll K H vs ds → DpAll K H ws es → DpAll K H (vs ++ ws) (ds ++ es)
  | _, _, _, _, .nil, h => h
  | _, _, _, _, .cons a b, h => .cons a (DpAll.append b h)
theorem DpAll.take {K : PySem.W.Frag} {H : Hp} : ∀ {vs : List V} {ds : List PyData} (n : Nat), DpAll K H vs ds → DpAll K H (vs.take n) (ds.take n)
  | _, _, 0, _ => .nil
  | _, _, _ + 1, .nil => .nil
  | _, _, n + 1, .cons r t => .cons r (DpAll.take n t)
theorem DpAll.drop {K : PySem.W.Frag} {H : Hp} : ∀ {vs : List V} {ds : List PyData} (n : Nat), DpAll K H vs ds → DpAll K H (vs.drop n) (ds.drop n)
  | _, _, 0, r => r
  | _, _, _ + 1, .nil => .nil
  | _, _, n + 1, .cons _ t => DpAll.drop n t
theorem dpAll0 {K : PySem.W.Frag} {H : Hp} {xs : List V} (h : DpAll K H xs []) : xs = [] := by cases h; rfl
theorem dpAll1 {K : PySem.W.Frag} {H : Hp} {xs : List V} {a : PyData} (h : DpAll K H xs [a]) : ∃ u, xs = [u] ∧ Dp K H u a := by
  cases h with
  | cons h1 t => cases t; exact ⟨_, rfl, h1⟩
theorem dpAll2 {K : PySem.W.Frag} {H : Hp} {xs : List V} {a b : PyData} (h : DpAll K H xs [a, b]) : ∃ u v, xs = [u, v] ∧ Dp K H u a ∧ Dp K H v b := by
  cases h with
  | cons h1 t => obtain ⟨v, rfl, h2⟩ := dpAll1 t; exact ⟨_, _, rfl, h1, h2⟩
theorem dpAll3 {K : PySem.W.Frag} {H : Hp} {xs : List V} {a b c : PyData} (h : DpAll K H xs [a, b, c]) : ∃ u v w, xs = [u, v, w] ∧ Dp K H u a ∧ Dp K H v b ∧ Dp K H w c := by
  cases h with
  | cons h1 t => obtain ⟨v, w, rfl, h2⟩ := dpAll2 t; exact ⟨_, _, _, rfl, h1, h2⟩
theorem dpAll4 {K : PySem.W.Frag} {H : Hp} {xs : List V} {a b c d : PyData} (h : DpAll K H xs [a, b, c, d]) : ∃ u v w z, xs = [u, v, w, z] ∧ Dp K H u a ∧ Dp K H v b ∧ Dp K H w c ∧ Dp K H z d := by
  cases h with
  | cons h1 t => obtain ⟨v, w, z, rfl, h2⟩ := dpAll3 t; exact ⟨_, _, _, _, rfl, h1, h2⟩
/-- the kind of data, for isinstance -/
def tyD : PyData → String
  | .none => "NoneType"
  | .bool _ => "bool"
  | .int _ => "int"
  | .str _ => "str"
  | .list _ => "list"
  | .tuple _ => "tuple"
  | .dict _ => "dict"
theorem sqL_ty {K : PySem.W.Frag} {H : Hp} {a : Addr} {xs : List V} (h : SqL K H a xs) : TyX K H (.ref a) (.type "list") := by
  rcases h with (h | ⟨o, h⟩) | ⟨o, its, n, e, c, _⟩
  · exact .base (.lst h)
  · exact .base (.frz h)
  · exact .kList e c
theorem sqT_ty {K : PySem.W.Frag} {H : Hp} {a : Addr} {xs : List V} (h : SqT K H a xs) : TyX K H (.ref a) (.type "tuple") := by
  rcases h with (h | ⟨o, h⟩) | ⟨o, its, n, e, c, _⟩
  · exact .base (.tup h)
  · exact .fTuple h
  · exact .kTuple e c
theorem dp_ty {K : PySem.W.Frag} {H : Hp} {v : V} {d : PyData} (h : Dp K H v d) : TyX K H v (.type (tyD d)) := by
  cases h with
  | non => exact .base .non
  | bl b => exact .base (.bl b)
  | int i => exact .base (.int i)
  | str x => exact .base (.str x)
  | lst h _ => exact sqL_ty h
  | tup h _ => exact sqT_ty h
/-- tuple * n, n from 1 on -/
theorem tuple_mulW1 (l : Addr) (items : Array Value) (n : Nat) (dd : Option Addr) (sl : Array (Option Value)) (u : Tok) (c1 : items.isEmpty = false) :
    Meets (Builtin.«tuple.__mul__» ⟨[.ref l, .int 1 u], []⟩) (fun _ R s => s.heap.get? l = some { cls := .type "tuple", dict := dd, data := .seq items n, slots := sl } ∧
      R (.ok (.ret (Value.ref l))) s) :=
  .of_wp fun prog w A R s h => by
    obtain ⟨hp, g, d, tk, os⟩ := s
    obtain ⟨hl, h⟩ := h
    have f1 := AutoSeq1.idx_int
    wp_walk using wpAny_loadPart' hl
    exact ⟨_, rfl, h⟩
def rRepT1 (K : PySem.W.Frag) : R2 := fun x y H Q => ∃ l k xs, x = .ref l ∧ y = .int k ∧ SqT K H l xs ∧ xs ≠ [] ∧ 1 ≤ k ∧ k ≤ 1000 ∧ xs.length ≤ 1000 ∧ (k = 1 → Q (.ref l) H) ∧ (2 ≤ k → ∀ p, H p = none → Q (.ref p) (upd H p (.tup (List.replicate k.toNat xs).flatten)))
theorem op_repT1 {X : Cx} : OpR X (binaryOp .Mult) (rRepT1 X.K) := by
  intro pins s σ H x y v u Q I rx ry h
  obtain ⟨l, k, xs, rfl, rfl, hT, hne, h1, h2, hz, q1, q2⟩ := h
  by_cases hk : 2 ≤ k
  · exact op_repT pins s σ H _ _ v u Q I rx ry ⟨l, k, xs, rfl, rfl, hT, hne, hk, h2, hz, q2 hk⟩
  have ek : k = 1 := by omega
  subst ek
  cases rx
  obtain ⟨t, rfl⟩ := ry
  obtain ⟨its, r, ⟨⟨cls, dd, data, sl⟩, ho, hc, n, hd⟩, hs⟩ := I.tuple hT
  simp only at hc hd
  subst hc hd
  have hle : its.length = xs.length := r.length.symm
  have hn : its ≠ [] := fun e => hne (by
    rw [e] at hle
    exact List.eq_nil_of_length_eq_zero hle.symm)
  have hi : its.toArray.isEmpty = false := by
    cases its with
    | nil => exact absurd rfl hn
    | cons a b => rfl
  refine wpAny_binaryOp_repeat_ref (T := "tuple") (U := "int") (by decide) ⟨_, ho, rfl⟩ (fun s' => typeIs_int s' 1 t) noFill_tuple_mul F.fills_int_mul F.slot_int_rmul repeat_tuple F.slot_int_index.lookup
    (call_meets F.slot_int_rmul (typeIs_int s 1 t) F.entry_int_rmul (F.args_int_rmul_2 _ _) (int_rmul_tuple 1 t l its.toArray n dd sl)
      ⟨ho, rfl, ⟨_, ho, rfl⟩, call_meets F.slot_tuple_mul ⟨_, ho, rfl⟩ F.entry_tuple_mul (F.args_tuple_mul_2 _ _) (tuple_mulW1 l its.toArray n dd sl t hi) ⟨ho, ?_⟩⟩)
  exact ⟨.ref l, _, I, rfl, q1 rfl⟩
/-! ### the rules that read lists and tuples, the written part named -/
section
variable {X : Cx} (K : PySem.W.Frag)
def rLenK : List V → Hp → VK → Prop := fun xs H Q => ∃ p ys, xs = [.ref p] ∧ (SqL K H p ys ∨ SqT K H p ys) ∧ Q (.int ys.length) H
def rListK : List V → Hp → VK → Prop := fun xs H Q => ∃ p ys, xs = [.ref p] ∧ (SqL K H p ys ∨ SqT K H p ys) ∧ ∀ l, H l = none → Q (.ref l) (upd H l (.lst ys))
def rTupK : List V → Hp → VK → Prop := fun xs H Q => ∃ p ys, xs = [.ref p] ∧ ((SqL K H p ys ∧ ∀ l, H l = none → Q (.ref l) (upd H l (.tup ys))) ∨ (SqT K H p ys ∧ Q (.ref p) H))
theorem k_len (h : X.K = K := by rfl) : CallR X (.builtin "len") (rLenK K) := by subst h; exact call_len_seq
theorem k_list_of (h : X.K = K := by rfl) : CallR X (.type "list") (rListK K) := by subst h; exact call_list_of
theorem k_tuple_of (h : X.K = K := by rfl) : CallR X (.type "tuple") (rTupK K) := by subst h; exact call_tuple_of
theorem k_isi (h : X.K = K := by rfl) : CallR X (.builtin "isinstance") (rIsi K) := by subst h; exact call_isi
theorem k_isiT (h : X.K = K := by rfl) : CallR X (.builtin "isinstance") (rIsiT K) := by subst h; exact call_isiT
theorem k_all (hc : X.calm = true) (h : X.K = K := by rfl) : CallR X (.builtin "all") (rAll K) := by subst h; exact cr_all hc
theorem k_ixL (h : X.K = K := by rfl) : IxR X (rIxL K) := by subst h; exact ix_list
theorem k_ixT (h : X.K = K := by rfl) : IxR X (rIxT K) := by subst h; exact ix_tup
theorem k_ix (h : X.K = K := by rfl) : IxR X (rIx K) := by subst h; exact ix_seq
theorem k_slL (h : X.K = K := by rfl) : SlR X (rSlL K) := by subst h; exact sl_list
theorem k_slT (h : X.K = K := by rfl) : SlR X (rSlA K) := by subst h; exact sl_tupA
theorem k_catT (h : X.K = K := by rfl) : OpR X (binaryOp .Add) (rCatA K) := by subst h; exact op_catA
theorem k_eqD (hu : X.A.units + 64 < cLine) (h : X.K = K := by rfl) : OpR X (compareOp .Eq) (rEqD K) := by subst h; exact op_eqD hu
theorem k_neD (hu : X.A.units + 64 < cLine) (h : X.K = K := by rfl) : OpR X (compareOp .NotEq) (rNeD K) := by subst h; exact op_neD hu
theorem k_in (h : X.K = K := by rfl) : OpR X (compareOp .In) (rIn K false) := by subst h; exact op_in_seq
theorem k_notIn (h : X.K = K := by rfl) : OpR X (compareOp .NotIn) (rIn K true) := by subst h; exact op_notIn_seq
theorem k_repT (h : X.K = K := by rfl) : OpR X (binaryOp .Mult) (rRepT1 K) := by subst h; exact op_repT1
theorem k_piL {tg l : Expr} {tl : TE} (hl : PE X l tl) (h : X.K = K := by rfl) : PI X tg l (iList K tl) := by subst h; exact pi_list hl
theorem k_piT {tg l : Expr} {tl : TE} (hl : PE X l tl) (h : X.K = K := by rfl) : PI X tg l (iTup K tl) := by subst h; exact pi_tup hl
theorem k_index (h : X.K = K := by rfl) : MtR X "list.index" (rIndex K) := by subst h; exact mt_index
end
end L2

namespace L2
open PySem PySem.Spec PyProof.Rows
theorem tOnlyAll_iff {ds : List PyData} : tOnlyAll ds = true ↔ ∀ d ∈ ds, tOnly d = true := by
  induction ds with
  | nil => simp [tOnlyAll]
  | cons d ds ih => simp [tOnlyAll, ih]
theorem sz1 {n : Nat} (h : n ≤ 1000000) : n ≤ sizeLine := Nat.le_trans h (by decide)
theorem sz2 {n : Nat} (h : n < 1000000) : n < sizeLine := Nat.lt_of_lt_of_le h (by decide)
/-- the built-up list of tuple-only things -/
def AccT (K : PySem.W.Frag) (H0 : Hp) (D : Addr) (ds : List PyData) (i : Nat) (H : Hp) : Prop :=
  ∃ acc, H D = some (.lst acc) ∧ Same H0 H ∧ DpAll K H acc (ds.take i)
theorem AccT.start {K : PySem.W.Frag} {H0 : Hp} {D : Addr} {ds : List PyData} (hD : H0 D = none) : AccT K H0 D ds 0 (upd H0 D (.lst [])) :=
  ⟨[], upd_same, same_new hD, .nil⟩
theorem AccT.next {K : PySem.W.Frag} {H0 H H' : Hp} {D : Addr} {ds : List PyData} {i : Nat} {d : PyData} {v : V} (hD : H0 D = none) (ht : tOnlyAll ds = true) (hl : ds.length < 1000000) (hd : ds[i]? = some d) (A : AccT K H0 D ds i H) (s : Same H H') (hv : Dp K H' v d) :
    ∃ acc, H' D = some (.lst acc) ∧ acc.length < sizeLine ∧ AccT K H0 D ds (i + 1) (upd H' D (.lst (acc ++ [v]))) := by
  obtain ⟨acc, h1, h2, h3⟩ := A
  have hi : i < ds.length := (List.getElem?_eq_some_iff.mp hd).1
  refine ⟨acc, s _ _ h1, ?_, acc ++ [v], upd_same, Same.upd (h2.trans s) hD, ?_⟩
  · have := h3.len
    rw [List.length_take] at this
    exact sz2 (by omega)
  · rw [List.take_add_one, hd]
    have k := keepT_upd (o := .lst (acc ++ [v])) (s _ _ h1)
    have td : tOnly d = true := tOnlyAll_iff.mp ht d (List.mem_of_getElem? hd)
    refine DpAll.append (dpAll_keep k _ _ ?_ (dpAll_same s _ _ h3)) (.cons (dp_keep k _ _ td hv) .nil)
    exact tOnlyAll_iff.mpr fun e he => tOnlyAll_iff.mp ht e (List.mem_of_mem_take he)
theorem AccT.done {K : PySem.W.Frag} {H0 H : Hp} {D : Addr} {ds : List PyData} {n : Nat} (h : ds.length ≤ n) (A : AccT K H0 D ds n H) : ∃ acc, H D = some (.lst acc) ∧ Same H0 H ∧ DpAll K H acc ds := by
  obtain ⟨acc, h1, h2, h3⟩ := A
  rw [List.take_of_length_le h] at h3
  exact ⟨acc, h1, h2, h3⟩
/-- what an element's reading gives: some tuple-only d -/
def EvD (K : PySem.W.Frag) (te : TE) (σ : L2.St) (H : Hp) (d : PyData) : Prop := ∀ Q : VK, (∀ v H', Same H H' → Dp K H' v d → Q v H') → te σ H Q
section
variable {K : PySem.W.Frag} {a : Addr} {xs : List V} {te : TE} {σ : L2.St} {H : Hp} {D : Addr} {i : Nat} {vs : List Nat} {ds : List PyData} {Qd : Hp → Prop}
theorem lcT_list (hD : H D = none) (hA : SqL K H a xs) (ht : tOnlyAll ds = true) (hl : ds.length < 1000000) (hx : xs.length = ds.length) (hw : ∀ x, wipe ((wipe σ vs).set i (some x)) vs = wipe σ vs)
    (hs : ∀ (j : Nat) x d H1, xs[j]? = some x → ds[j]? = some d → Same H H1 → EvD K te ((wipe σ vs).set i (some x)) H1 d) (hq : ∀ H2 acc, Same H H2 → H2 D = some (.lst acc) → DpAll K H2 acc ds → Qd H2) :
    ∃ W : Nat → Nat → Hp → Prop, (∃ m, W 0 m (upd H D (.lst []))) ∧ ∀ i' m H, W i' m H →
      ((Itl K a).stop i' H ∧ Qd H) ∨ ((Itl K a).go i' H ∧ ∃ Nx : Hp → Prop, (∀ H', Nx H' → ∃ m', m' < m ∧ W (i' + 1) m' H') ∧ ∀ x H', (Itl K a).yld i' H x H' → gName i x (wipe σ vs) H' fun σ2 H2 => wipe σ2 vs = wipe σ vs ∧ tYes σ2 H2 fun b H3 =>
        if b = true then te σ2 H3 fun y H4 => ∃ acc, H4 D = some (.lst acc) ∧ acc.length < sizeLine ∧ Nx (upd H4 D (.lst (acc ++ [y]))) else Nx H3) := by
  refine lc_list (K := K) (a := a) (xs := xs) (AccT K H D ds) (AccT.start hD) (fun _ _ _ A => ?_) (fun j x H1 hj A => ?_) (fun H1 A => ?_)
  · obtain ⟨_, _, s, _⟩ := A
    exact s.seq hA
  · refine ⟨hw x, ?_⟩
    show te _ _ _
    have hj' : j < ds.length := hx ▸ (List.getElem?_eq_some_iff.mp hj).1
    obtain ⟨_, _, s, _⟩ := id A
    exact hs j x _ H1 hj (List.getElem?_eq_getElem hj') s _ fun v H2 s2 hv => A.next hD ht hl (List.getElem?_eq_getElem hj') s2 hv
  · rw [hx] at A
    obtain ⟨acc, h1, h2, h3⟩ := A.done (Nat.le_refl _)
    exact hq H1 acc h2 h1 h3
theorem lcT_tup (hD : H D = none) (hA : SqT K H a xs) (ht : tOnlyAll ds = true) (hl : ds.length < 1000000) (hx : xs.length = ds.length) (hw : ∀ x, wipe ((wipe σ vs).set i (some x)) vs = wipe σ vs)
    (hs : ∀ (j : Nat) x d H1, xs[j]? = some x → ds[j]? = some d → Same H H1 → EvD K te ((wipe σ vs).set i (some x)) H1 d) (hq : ∀ H2 acc, Same H H2 → H2 D = some (.lst acc) → DpAll K H2 acc ds → Qd H2) :
    ∃ W : Nat → Nat → Hp → Prop, (∃ m, W 0 m (upd H D (.lst []))) ∧ ∀ i' m H, W i' m H →
      ((Itt K a).stop i' H ∧ Qd H) ∨ ((Itt K a).go i' H ∧ ∃ Nx : Hp → Prop, (∀ H', Nx H' → ∃ m', m' < m ∧ W (i' + 1) m' H') ∧ ∀ x H', (Itt K a).yld i' H x H' → gName i x (wipe σ vs) H' fun σ2 H2 => wipe σ2 vs = wipe σ vs ∧ tYes σ2 H2 fun b H3 =>
        if b = true then te σ2 H3 fun y H4 => ∃ acc, H4 D = some (.lst acc) ∧ acc.length < sizeLine ∧ Nx (upd H4 D (.lst (acc ++ [y]))) else Nx H3) := by
  refine lc_tup (K := K) (a := a) (xs := xs) (AccT K H D ds) (AccT.start hD) (fun _ _ _ A => ?_) (fun j x H1 hj A => ?_) (fun H1 A => ?_)
  · obtain ⟨_, _, s, _⟩ := A
    exact Same.tup s hA
  · refine ⟨hw x, ?_⟩
    show te _ _ _
    have hj' : j < ds.length := hx ▸ (List.getElem?_eq_some_iff.mp hj).1
    obtain ⟨_, _, s, _⟩ := id A
    exact hs j x _ H1 hj (List.getElem?_eq_getElem hj') s _ fun v H2 s2 hv => A.next hD ht hl (List.getElem?_eq_getElem hj') s2 hv
  · rw [hx] at A
    obtain ⟨acc, h1, h2, h3⟩ := A.done (Nat.le_refl _)
    exact hq H1 acc h2 h1 h3
theorem lcT_range {lo : Int} {n : Nat} (hD : H D = none) (ht : tOnlyAll ds = true) (hl : ds.length < 1000000) (hx : n = ds.length) (hw : ∀ x, wipe ((wipe σ vs).set i (some x)) vs = wipe σ vs)
    (hs : ∀ (j : Nat) d H1, ds[j]? = some d → Same H H1 → EvD K te ((wipe σ vs).set i (some (.int (lo + j)))) H1 d) (hq : ∀ H2 acc, Same H H2 → H2 D = some (.lst acc) → DpAll K H2 acc ds → Qd H2) :
    ∃ W : Nat → Nat → Hp → Prop, (∃ m, W 0 m (upd H D (.lst []))) ∧ ∀ i' m H, W i' m H →
      ((Itr lo n).stop i' H ∧ Qd H) ∨ ((Itr lo n).go i' H ∧ ∃ Nx : Hp → Prop, (∀ H', Nx H' → ∃ m', m' < m ∧ W (i' + 1) m' H') ∧ ∀ x H', (Itr lo n).yld i' H x H' → gName i x (wipe σ vs) H' fun σ2 H2 => wipe σ2 vs = wipe σ vs ∧ tYes σ2 H2 fun b H3 =>
        if b = true then te σ2 H3 fun y H4 => ∃ acc, H4 D = some (.lst acc) ∧ acc.length < sizeLine ∧ Nx (upd H4 D (.lst (acc ++ [y]))) else Nx H3) := by
  refine lc_range (AccT K H D ds) (AccT.start hD) (fun j H1 hj A => ?_) (fun H1 A => ?_)
  · refine ⟨hw _, ?_⟩
    show te _ _ _
    have hj' : j < ds.length := hx ▸ hj
    obtain ⟨_, _, s, _⟩ := id A
    exact hs j _ H1 (List.getElem?_eq_getElem hj') s _ fun v H2 s2 hv => A.next hD ht hl (List.getElem?_eq_getElem hj') s2 hv
  · rw [hx] at A
    obtain ⟨acc, h1, h2, h3⟩ := A.done (Nat.le_refl _)
    exact hq H1 acc h2 h1 h3
/-- tuple([.. for x in xs]), each a tuple-only thing -/
theorem tupcomp_read {te0 : TE} {Q : VK} (h0 : ∀ Q' : VK, Q' (.ref a) H → te0 σ H Q') (hA : SqL K H a xs) (ht : tOnlyAll ds = true) (hl : ds.length < 1000000) (hx : xs.length = ds.length) (hw : ∀ x, wipe ((wipe σ vs).set i (some x)) vs = wipe σ vs)
    (hs : ∀ (j : Nat) x d H1, xs[j]? = some x → ds[j]? = some d → Same H H1 → EvD K te ((wipe σ vs).set i (some x)) H1 d) (q : ∀ v H', Same H H' → Dp K H' v (.tuple ds) → Q v H') :
    tCB (rTupK K) (tCons (tLc (iList K te0) (gName i) tYes te vs) tNil) σ H Q := by
  refine h0 _ ⟨a, rfl, ⟨_, hA⟩, fun D hD => ?_⟩
  refine lcT_list (K := K) (ds := ds) hD hA ht hl hx hw hs fun H2 acc s2 hacc hds => ?_
  refine ⟨D, acc, rfl, .inl ⟨.of hacc, fun l hl => ?_⟩⟩
  have s3 : Same H2 (upd H2 l (.tup acc)) := same_new hl
  exact q _ _ (s2.trans s3) (.tup (.of upd_same) (dpAll_same s3 _ _ hds))
end
/-! ### tests whose answer is known -/
def An (t : TT) (σ : L2.St) (H : Hp) (b : Bool) : Prop := ∀ Q : Bool → Hp → Prop, Q b H → t σ H Q
theorem nm {i : Nat} {v : V} {σ : L2.St} {H : Hp} {Q : St → Hp → Prop} (h : Q (σ.set i (some v)) H) : gName i v σ H Q := h
theorem seqI {te : TE} {i : Nat} {t : TS} {D : Ends} {σ : L2.St} {H : Hp} (h : te σ H fun v H1 => t D (σ.set i (some v)) H1) : tSeq (tAsg te (gName i)) t D σ H := h
theorem cons_i {ta : TE} {tr : TA} {σ : L2.St} {H : Hp} {Q : List V → Hp → Prop} (h : ta σ H fun x H1 => tr σ H1 fun xs H2 => Q (x :: xs) H2) : tCons ta tr σ H Q := h
theorem tup_i {t : TA} {σ : L2.St} {H : Hp} {Q : VK} (h : t σ H fun xs H1 => xs.length ≤ sizeLine ∧ ∀ p, H1 p = none → Q (.ref p) (upd H1 p (.tup xs))) : tTup t σ H Q := h
theorem nxi {f : L2.St → Hp → Prop} {rt : VK} {bk ct : L2.St → Hp → Prop} {σ : L2.St} {H : Hp} (h : f σ H) : Ends.nx ⟨f, rt, bk, ct⟩ σ H := h
theorem an_and {t u : TT} {σ : L2.St} {H : Hp} {a b : Bool} (h1 : An t σ H a) (h2 : An u σ H b) : An (tAnd t u) σ H (a && b) := fun Q q => by
  refine h1 _ ?_
  cases a with
  | true => exact h2 Q q
  | false => exact q
theorem an_or {t u : TT} {σ : L2.St} {H : Hp} {a b : Bool} (h1 : An t σ H a) (h2 : An u σ H b) : An (tOr t u) σ H (a || b) := fun Q q => by
  refine h1 _ ?_
  cases a with
  | true => exact q
  | false => exact h2 Q q
theorem an_not {t : TT} {σ : L2.St} {H : Hp} {a : Bool} (h1 : An t σ H a) : An (tNot t) σ H (!a) := fun Q q => h1 _ q
theorem an_if {c : TT} {t u : TS} {D : Ends} {σ : L2.St} {H : Hp} {b : Bool} (h : An c σ H b) (h1 : b = true → t D σ H) (h2 : b = false → u D σ H) : tIfS c t u D σ H := by
  refine h _ ?_
  cases b with
  | true => exact h1 rfl
  | false => exact h2 rfl
/-- an expression whose value is known, new things being laid -/
def EvS (te : TE) (σ : L2.St) (H : Hp) (v : V) : Prop := ∀ Q : VK, (∀ H', Same H H' → Q v H') → te σ H Q
def AnS (t : TT) (σ : L2.St) (H : Hp) (b : Bool) : Prop := ∀ Q : Bool → Hp → Prop, (∀ H', Same H H' → Q b H') → t σ H Q
theorem ans_if {c : TT} {t u : TS} {D : Ends} {σ : L2.St} {H : Hp} {b : Bool} (h : AnS c σ H b) (h1 : b = true → ∀ H', Same H H' → t D σ H') (h2 : b = false → ∀ H', Same H H' → u D σ H') : tIfS c t u D σ H := by
  refine h _ fun H' s => ?_
  cases b with
  | true => exact h1 rfl H' s
  | false => exact h2 rfl H' s
theorem seq_ifS {c : TT} {t t2 : TS} {D : Ends} {σ : L2.St} {H : Hp} {b : Bool} (h : AnS c σ H b) (h1 : b = true → ∀ H', Same H H' → t { D with nx := t2 D } σ H') (h2 : b = false → ∀ H', Same H H' → t2 D σ H') : tSeq (tIfS c t tNext) t2 D σ H := by
  refine h _ fun H' s => ?_
  cases b with
  | true => exact h1 rfl H' s
  | false => exact h2 rfl H' s
theorem seq_if {c : TT} {t t2 : TS} {D : Ends} {σ : L2.St} {H : Hp} {b : Bool} (h : An c σ H b) (h1 : b = true → t { D with nx := t2 D } σ H) (h2 : b = false → t2 D σ H) : tSeq (tIfS c t tNext) t2 D σ H := by
  refine h _ ?_
  cases b with
  | true => exact h1 rfl
  | false => exact h2 rfl
def isTL : PyData → Bool
  | .list _ => true
  | .tuple _ => true
  | _ => false
theorem kit_tl {K : PySem.W.Frag} {n : Nat} {d : PyData} (h : kin n d = true) : PySem.W.kitAny K (.type (tyD d)) [.type "tuple", .type "list"] = some (isTL d) := by
  cases d with
  | none => exact kitAny_cons (kit_ty (a := "NoneType") (r := false) (by decide +kernel)) (fun _ => kitAny_cons (kit_ty (a := "NoneType") (r := false) (by decide +kernel)) (fun _ => kitAny_nil) (fun h => h)) (fun h => h)
  | bool b => cases n <;> simp [kin] at h
  | int i => exact kitAny_cons (kit_ty (a := "int") (r := false) (by decide +kernel)) (fun _ => kitAny_cons (kit_ty (a := "int") (r := false) (by decide +kernel)) (fun _ => kitAny_nil) (fun h => h)) (fun h => h)
  | str x => exact kitAny_cons (kit_ty (a := "str") (r := false) (by decide +kernel)) (fun _ => kitAny_cons (kit_ty (a := "str") (r := false) (by decide +kernel)) (fun _ => kitAny_nil) (fun h => h)) (fun h => h)
  | list ds => exact kitAny_cons (kit_ty (a := "list") (r := false) (by decide +kernel)) (fun _ => kitAny_cons (kit_ty (a := "list") (r := true) (by decide +kernel)) (fun h => nomatch h) (fun _ => rfl)) (fun h => nomatch h)
  | tuple ds => exact kitAny_cons (kit_ty (a := "tuple") (r := true) (by decide +kernel)) (fun h => nomatch h) (fun _ => rfl)
  | dict _ => cases n <;> simp [kin] at h
theorem kit_of1 {K : PySem.W.Frag} {n : Nat} {d : PyData} (h : kin n d = true) (c : String) (hc : c = "tuple" ∨ c = "str" ∨ c = "int" ∨ c = "bool" ∨ c = "list") : PySem.W.kitOne K (.type (tyD d)) (.type c) = some (decide (tyD d = c)) := by
  have hb : ∀ b, d ≠ .bool b := fun b e => by rw [e] at h; cases n <;> simp [kin] at h
  have hd : ∀ k, d ≠ .dict k := fun b e => by rw [e] at h; cases n <;> simp [kin] at h
  have hh : ∀ a : String, a = "NoneType" ∨ a = "int" ∨ a = "str" ∨ a = "list" ∨ a = "tuple" → PySem.W.kitOne K (.type a) (.type c) = some (decide (a = c)) := fun a ha => by
    rcases ha with rfl | rfl | rfl | rfl | rfl <;> rcases hc with rfl | rfl | rfl | rfl | rfl <;> exact kit_ty (by decide +kernel)
  refine hh _ ?_
  cases d with
  | bool b => exact absurd rfl (hb b)
  | dict b => exact absurd rfl (hd b)
  | none => exact .inl rfl
  | int i => exact .inr (.inl rfl)
  | str x => exact .inr (.inr (.inl rfl))
  | list ds => exact .inr (.inr (.inr (.inl rfl)))
  | tuple ds => exact .inr (.inr (.inr (.inr rfl)))
section
variable {K : PySem.W.Frag} {σ : L2.St} {H : Hp} {i : Nat} {v : V} {n : Nat} {d : PyData}
theorem ev_isTL (hi : σ[i]? = some (some v)) (h : Dp K H v d) (hk : kin n d = true) : EvS (tCB (rIsiT K) (tCons (tVar i) (tCons (tTup (tCons (tC (.ty "tuple")) (tCons (tC (.ty "list")) tNil))) tNil))) σ H (.bl (isTL d)) := fun Q q => by
  refine ⟨v, hi, by show 2 ≤ sizeLine; decide, fun t ht => ?_⟩
  have s := same_new (o := .tup [.ty "tuple", .ty "list"]) ht
  exact ⟨v, t, _, _, _, _, rfl, upd_same, .cons (.ty _) (.cons (.ty _) .nil), dp_ty (dp_same s d v h), kit_tl hk, q _ s⟩
theorem ev_is1 {c : String} (hc : c = "tuple" ∨ c = "str" ∨ c = "int" ∨ c = "bool" ∨ c = "list") (hi : σ[i]? = some (some v)) (h : Dp K H v d) (hk : kin n d = true) {Q : VK} (q : Q (.bl (decide (tyD d = c))) H) : tCB (rIsi K) (tCons (tVar i) (tCons (tC (.ty c)) tNil)) σ H Q :=
  ⟨v, hi, v, _, _, _, _, rfl, .ty _, dp_ty h, kit_of1 hk c hc, q⟩
end
theorem ix_read {K : PySem.W.Frag} {H : Hp} {a : Addr} {xs : List V} {i : Int} {j : Nat} {v : V} {Q : VK} (h : SqL K H a xs ∨ SqT K H a xs) (e : i = (j : Int)) (hj : xs[j]? = some v) (q : Q v H) : rIx K (.ref a) (.int i) H Q := by
  rcases h with h | h
  · exact .inl ⟨a, xs, i, v, rfl, rfl, h, at_of e hj, q⟩
  · exact .inr (.inl ⟨a, xs, i, v, rfl, rfl, h, at_of e hj, q⟩)
/-! ### shapes of data -/
abbrev intsL (r : List Int) : PyData := .list (r.map .int)
abbrev intsT (r : List Int) : PyData := .tuple (r.map .int)
/-- a plan as data -/
def planD (b s : List (List Int)) : PyData := .tuple [.list (b.map intsL), .list (s.map intsL)]
theorem tOnly_ints (r : List Int) : tOnlyAll (r.map PyData.int) = true := tOnlyAll_iff.mpr fun d hd => by
  obtain ⟨i, _, rfl⟩ := List.mem_map.mp hd
  rfl
theorem tOnly_intsT (r : List Int) : tOnly (intsT r) = true := by
  show tOnlyAll _ = true
  exact tOnly_ints r
/-- a list of lists of ints -/
theorem rows_get {K : PySem.W.Frag} {H : Hp} {xs : List V} {rows : List (List Int)} (h : DpAll K H xs (rows.map intsL)) {j : Nat} {x : V} (e : xs[j]? = some x) : ∃ r a, rows[j]? = some r ∧ x = .ref a ∧ SqL K H a (r.map V.int) := by
  obtain ⟨d, e1, e2⟩ := h.get2 e
  rw [List.getElem?_map] at e1
  cases er : rows[j]? with
  | none => rw [er] at e1; cases e1
  | some r =>
    rw [er] at e1
    cases e1
    obtain ⟨a, ys, rfl, h1, h2⟩ := dp_list e2
    rw [ints_dpAll h2] at h1
    exact ⟨r, a, rfl, rfl, h1⟩
end L2

namespace L2
open PySem PySem.Spec PyProof.Rows
/-! ### lists of lists of one's own -/
/-- at the addresses ps stand the lists rows -/
def Rows (H : Hp) (ps : List Addr) (rows : List (List V)) : Prop := ps.length = rows.length ∧ ∀ (j : Nat) p r, ps[j]? = some p → rows[j]? = some r → H p = some (.lst r)
theorem Rows.same {H H' : Hp} {ps : List Addr} {rows : List (List V)} (s : Same H H') (h : Rows H ps rows) : Rows H' ps rows := ⟨h.1, fun j p r a b => s _ _ (h.2 j p r a b)⟩
theorem Rows.ne {H : Hp} {ps : List Addr} {rows : List (List V)} {q : Addr} {o : HO} (h : Rows H ps rows) (hq : q ∉ ps) : Rows (upd H q o) ps rows := ⟨h.1, fun j p r a b => by
  rw [upd_ne (fun e => hq (by rw [← e]; exact List.mem_of_getElem? a))]
  exact h.2 j p r a b⟩
theorem Rows.set {H : Hp} {ps : List Addr} {rows : List (List V)} {j : Nat} {p : Addr} {r' : List V} (h : Rows H ps rows) (nd : ps.Nodup) (hj : ps[j]? = some p) : Rows (upd H p (.lst r')) ps (rows.set j r') := by
  refine ⟨by rw [List.length_set]; exact h.1, fun i q r a b => ?_⟩
  by_cases e : i = j
  · subst e
    rw [hj] at a
    cases a
    rw [upd_same]
    have hi : i < rows.length := h.1 ▸ (List.getElem?_eq_some_iff.mp hj).1
    rw [List.getElem?_set_self hi] at b
    cases b
    rfl
  · have ne : q ≠ p := fun z => by
      subst z
      exact e (nd_ix nd a hj)
    rw [upd_ne ne]
    rw [List.getElem?_set_ne (fun z => e z.symm)] at b
    exact h.2 i q r a b
theorem Rows.get {H : Hp} {ps : List Addr} {rows : List (List V)} {j : Nat} {r : List V} (h : Rows H ps rows) (hj : rows[j]? = some r) : ∃ p, ps[j]? = some p ∧ H p = some (.lst r) := by
  have hi : j < ps.length := h.1 ▸ (List.getElem?_eq_some_iff.mp hj).1
  exact ⟨ps[j], List.getElem?_eq_getElem hi, h.2 j _ _ (List.getElem?_eq_getElem hi) hj⟩
theorem Rows.dp {K : PySem.W.Frag} {H : Hp} : ∀ {ps : List Addr} {rows : List (List Int)}, Rows H ps (rows.map fun r => r.map V.int) → DpAll K H (ps.map V.ref) (rows.map intsL)
  | [], [], _ => .nil
  | [], r :: rows, h => by simp [Rows] at h
  | p :: ps, [], h => by simp [Rows] at h
  | p :: ps, r :: rows, h => by
    refine .cons (.lst (.of (h.2 0 p _ rfl rfl)) (dpAll_ints r)) (Rows.dp ⟨?_, fun j q s a b => h.2 (j + 1) q s (by simpa using a) (by simpa using b)⟩)
    have := h.1
    simpa using this
/-- the built-up list of new lists -/
def AccL (H0 : Hp) (D : Addr) (rows : List (List V)) (i : Nat) (H : Hp) : Prop :=
  ∃ ps : List Addr, H D = some (.lst (ps.map V.ref)) ∧ Same H0 H ∧ ps.length = i ∧ (D :: ps).Nodup ∧ (∀ p ∈ ps, H0 p = none) ∧ ∀ (j : Nat) p r, ps[j]? = some p → rows[j]? = some r → H p = some (.lst r)
theorem AccL.start {H0 : Hp} {D : Addr} {rows : List (List V)} (hD : H0 D = none) : AccL H0 D rows 0 (upd H0 D (.lst [])) :=
  ⟨[], upd_same, same_new hD, rfl, by simp, fun _ h => by simp at h, fun j p r h => by simp at h⟩
theorem AccL.next {H0 H H' : Hp} {D : Addr} {rows : List (List V)} {i : Nat} {r : List V} {p : Addr} (hD : H0 D = none) (hl : rows.length < 1000000) (hr : rows[i]? = some r) (A : AccL H0 D rows i H) (s : Same H H') (hp : H p = none) (hv : H' p = some (.lst r)) :
    ∃ acc, H' D = some (.lst acc) ∧ acc.length < sizeLine ∧ AccL H0 D rows (i + 1) (upd H' D (.lst (acc ++ [V.ref p]))) := by
  obtain ⟨ps, h1, h2, h3, h4, h5, h6⟩ := A
  have hi : i < rows.length := (List.getElem?_eq_some_iff.mp hr).1
  have pD : p ≠ D := fun e => by rw [e, h1] at hp; cases hp
  have pps : p ∉ ps := fun hm => by
    obtain ⟨j, hj, e⟩ := List.getElem_of_mem hm
    have hj2 : j < rows.length := by omega
    have := h6 j p rows[j] (by rw [List.getElem?_eq_getElem hj, e]) (List.getElem?_eq_getElem hj2)
    rw [this] at hp
    cases hp
  refine ⟨ps.map V.ref, s _ _ h1, by rw [List.length_map]; exact sz2 (by omega), ps ++ [p], ?_, Same.upd (h2.trans s) hD, by rw [List.length_append, h3]; rfl, ?_, fun q hq => ?_, fun j q r' a b => ?_⟩
  · rw [upd_same, List.map_append]
    rfl
  · rw [← List.cons_append, List.nodup_append]
    refine ⟨h4, by simp, fun a ha b hb e => ?_⟩
    have eb : b = p := by simpa using hb
    subst e
    rcases List.mem_cons.mp ha with z | z
    · exact pD (eb.symm.trans z)
    · exact pps (eb ▸ z)
  · rcases List.mem_append.mp hq with z | z
    · exact h5 q z
    · have e : q = p := by simpa using z
      exact e ▸ h2.free hp
  · by_cases hj : j < ps.length
    · rw [List.getElem?_append_left hj] at a
      have ne : q ≠ D := fun e => by
        have : q ∈ ps := List.mem_of_getElem? a
        exact (List.nodup_cons.mp h4).1 (e ▸ this)
      rw [upd_ne ne]
      exact s _ _ (h6 j q r' a b)
    · rw [List.getElem?_append_right (by omega)] at a
      have ej : j = i := by
        have := (List.getElem?_eq_some_iff.mp a).1
        simp at this
        omega
      subst ej
      rw [show j - ps.length = 0 by omega] at a
      cases a
      rw [hr] at b
      cases b
      rw [upd_ne pD]
      exact hv
/-- a new list of new lists -/
structure NewLL (H0 H : Hp) (D : Addr) (ps : List Addr) (rows : List (List V)) : Prop where
  same : Same H0 H
  top : H D = some (.lst (ps.map V.ref))
  nd : (D :: ps).Nodup
  free : ∀ p ∈ D :: ps, H0 p = none
  rows : Rows H ps rows
theorem AccL.done {H0 H : Hp} {D : Addr} {rows : List (List V)} (hD : H0 D = none) (A : AccL H0 D rows rows.length H) : ∃ ps, NewLL H0 H D ps rows := by
  obtain ⟨ps, h1, h2, h3, h4, h5, h6⟩ := A
  exact ⟨ps, h2, h1, h4, fun p hp => by
    rcases List.mem_cons.mp hp with e | e
    · exact e ▸ hD
    · exact h5 p e, h3, h6⟩
theorem NewLL.later {H0 H H' : Hp} {D : Addr} {ps : List Addr} {rows : List (List V)} (h : NewLL H0 H D ps rows) (s : Same H H') : NewLL H0 H' D ps rows := ⟨h.same.trans s, s _ _ h.top, h.nd, h.free, h.rows.same s⟩
/-- what an element's reading gives: a new list of r -/
def EvN (te : TE) (σ : St) (H : Hp) (r : List V) : Prop := ∀ Q : VK, (∀ p H', Same H H' → H p = none → H' p = some (.lst r) → Q (.ref p) H') → te σ H Q
section
variable {K : PySem.W.Frag} {a : Addr} {xs : List V} {te : TE} {σ : St} {H : Hp} {D : Addr} {i : Nat} {vs : List Nat} {rows : List (List V)} {Qd : Hp → Prop}
theorem lcN_list (hD : H D = none) (hA : SqL K H a xs) (hl : rows.length < 1000000) (hx : xs.length = rows.length) (hw : ∀ x, wipe ((wipe σ vs).set i (some x)) vs = wipe σ vs)
    (hs : ∀ (j : Nat) x r H1, xs[j]? = some x → rows[j]? = some r → Same H H1 → EvN te ((wipe σ vs).set i (some x)) H1 r) (hq : ∀ H2 ps, NewLL H H2 D ps rows → Qd H2) :
    ∃ W : Nat → Nat → Hp → Prop, (∃ m, W 0 m (upd H D (.lst []))) ∧ ∀ i' m H, W i' m H →
      ((Itl K a).stop i' H ∧ Qd H) ∨ ((Itl K a).go i' H ∧ ∃ Nx : Hp → Prop, (∀ H', Nx H' → ∃ m', m' < m ∧ W (i' + 1) m' H') ∧ ∀ x H', (Itl K a).yld i' H x H' → gName i x (wipe σ vs) H' fun σ2 H2 => wipe σ2 vs = wipe σ vs ∧ tYes σ2 H2 fun b H3 =>
        if b = true then te σ2 H3 fun y H4 => ∃ acc, H4 D = some (.lst acc) ∧ acc.length < sizeLine ∧ Nx (upd H4 D (.lst (acc ++ [y]))) else Nx H3) := by
  refine lc_list (K := K) (a := a) (xs := xs) (AccL H D rows) (AccL.start hD) (fun _ _ _ A => ?_) (fun j x H1 hj A => ?_) (fun H1 A => ?_)
  · obtain ⟨_, _, s, _⟩ := A
    exact s.seq hA
  · refine ⟨hw x, ?_⟩
    show te _ _ _
    have hj' : j < rows.length := hx ▸ (List.getElem?_eq_some_iff.mp hj).1
    obtain ⟨_, _, s, _⟩ := id A
    exact hs j x _ H1 hj (List.getElem?_eq_getElem hj') s _ fun p H2 s2 hp hv => A.next hD hl (List.getElem?_eq_getElem hj') s2 hp hv
  · rw [hx] at A
    obtain ⟨ps, h⟩ := A.done hD
    exact hq H1 ps h
theorem lcN_range {lo : Int} {n : Nat} (hD : H D = none) (hl : rows.length < 1000000) (hx : n = rows.length) (hw : ∀ x, wipe ((wipe σ vs).set i (some x)) vs = wipe σ vs)
    (hs : ∀ (j : Nat) r H1, rows[j]? = some r → Same H H1 → EvN te ((wipe σ vs).set i (some (.int (lo + j)))) H1 r) (hq : ∀ H2 ps, NewLL H H2 D ps rows → Qd H2) :
    ∃ W : Nat → Nat → Hp → Prop, (∃ m, W 0 m (upd H D (.lst []))) ∧ ∀ i' m H, W i' m H →
      ((Itr lo n).stop i' H ∧ Qd H) ∨ ((Itr lo n).go i' H ∧ ∃ Nx : Hp → Prop, (∀ H', Nx H' → ∃ m', m' < m ∧ W (i' + 1) m' H') ∧ ∀ x H', (Itr lo n).yld i' H x H' → gName i x (wipe σ vs) H' fun σ2 H2 => wipe σ2 vs = wipe σ vs ∧ tYes σ2 H2 fun b H3 =>
        if b = true then te σ2 H3 fun y H4 => ∃ acc, H4 D = some (.lst acc) ∧ acc.length < sizeLine ∧ Nx (upd H4 D (.lst (acc ++ [y]))) else Nx H3) := by
  refine lc_range (AccL H D rows) (AccL.start hD) (fun j H1 hj A => ?_) (fun H1 A => ?_)
  · refine ⟨hw _, ?_⟩
    show te _ _ _
    have hj' : j < rows.length := hx ▸ hj
    obtain ⟨_, _, s, _⟩ := id A
    exact hs j _ H1 (List.getElem?_eq_getElem hj') s _ fun p H2 s2 hp hv => A.next hD hl (List.getElem?_eq_getElem hj') s2 hp hv
  · rw [hx] at A
    obtain ⟨ps, h⟩ := A.done hD
    exact hq H1 ps h
end
end L2
/-! ### plans -/
namespace Plan
/-- what a plan keeps: the numbers of tasks, each greater than the one of which it comes, none twice -/
structure Good (most : Nat) (b s : List (List Nat)) : Prop where
  size : b.length ≤ most
  crew1 : 1 ≤ s.length
  crew2 : s.length ≤ 12
  up : ∀ (t : Nat) r, b[t]? = some r → ∀ c ∈ r, t < c ∧ c < b.length
  inS : ∀ r ∈ s, ∀ c ∈ r, c < b.length
  once : (b.flatten ++ s.flatten).Nodup
def toI (l : List (List Nat)) : List (List Int) := l.map fun r => r.map Int.ofNat
theorem toI_len (l : List (List Nat)) : (toI l).length = l.length := by unfold toI; rw [List.length_map]
/-- while the plan is made: the tasks below i are dealt out -/
structure Half (i : Nat) (b s : List (List Nat)) : Prop where
  up : ∀ (t : Nat) r, b[t]? = some r → ∀ c ∈ r, t < c ∧ c < i
  inS : ∀ r ∈ s, ∀ c ∈ r, c < i
  once : (b.flatten ++ s.flatten).Nodup
theorem flatten_replicate_nil {α : Type} : ∀ n : Nat, (List.replicate n ([] : List α)).flatten = []
  | 0 => rfl
  | n + 1 => by rw [List.replicate_succ, List.flatten_cons, flatten_replicate_nil n]; rfl
theorem half0 (n m : Nat) : Half 0 (List.replicate n []) (List.replicate m []) := by
  refine ⟨fun t r h c hc => ?_, fun r h c hc => ?_, by rw [flatten_replicate_nil, flatten_replicate_nil]; exact List.nodup_nil⟩
  · have := List.mem_of_getElem? h
    rw [(List.mem_replicate.mp this).2] at hc
    cases hc
  · rw [(List.mem_replicate.mp h).2] at hc
    cases hc
theorem Half.later {i : Nat} {b s : List (List Nat)} (h : Half i b s) : Half (i + 1) b s :=
  ⟨fun t r e c hc => ⟨(h.up t r e c hc).1, Nat.lt_succ_of_lt (h.up t r e c hc).2⟩, fun r e c hc => Nat.lt_succ_of_lt (h.inS r e c hc), h.once⟩
theorem flat_set {l : List (List Nat)} {j : Nat} {r r' : List Nat} {x : Nat} (hj : l[j]? = some r) (hp : r'.Perm (x :: r)) : (l.set j r').flatten.Perm (x :: l.flatten) := by
  induction l generalizing j with
  | nil => simp at hj
  | cons a l ih =>
    cases j with
    | zero =>
      have e : a = r := by simpa using hj
      subst e
      rw [List.set_cons_zero, List.flatten_cons, List.flatten_cons]
      exact hp.append_right _
    | succ j =>
      rw [List.set_cons_succ, List.flatten_cons, List.flatten_cons]
      refine ((ih (by simpa using hj)).append_left a).trans ?_
      exact List.perm_middle
theorem Half.low {i : Nat} {b s : List (List Nat)} (h : Half i b s) : i ∉ b.flatten ++ s.flatten := fun hm => by
  rcases List.mem_append.mp hm with hm | hm
  · obtain ⟨r, hr, hc⟩ := List.mem_flatten.mp hm
    obtain ⟨t, ht, e⟩ := List.getElem_of_mem hr
    have := (h.up t r (by rw [List.getElem?_eq_getElem ht, e]) i hc).2
    omega
  · obtain ⟨r, hr, hc⟩ := List.mem_flatten.mp hm
    have := h.inS r hr i hc
    omega
theorem mem_set {α : Type} {l : List α} {j : Nat} {a r : α} (h : r ∈ l.set j a) : r = a ∨ r ∈ l := by
  rcases List.mem_or_eq_of_mem_set h with h | h
  · exact .inr h
  · exact .inl h
theorem Half.brood {i j : Nat} {b s : List (List Nat)} {r r' : List Nat} (h : Half i b s) (hj : b[j]? = some r) (hji : j < i) (hp : r'.Perm (i :: r)) : Half (i + 1) (b.set j r') s := by
  refine ⟨fun t q e c hc => ?_, fun q e c hc => Nat.lt_succ_of_lt (h.inS q e c hc), ?_⟩
  · by_cases et : t = j
    · subst et
      have ht : t < b.length := (List.getElem?_eq_some_iff.mp hj).1
      rw [List.getElem?_set_self ht] at e
      cases e
      rcases List.mem_cons.mp (hp.mem_iff.mp hc) with z | z
      · subst z
        exact ⟨hji, Nat.lt_succ_self _⟩
      · exact ⟨(h.up t r hj c z).1, Nat.lt_succ_of_lt (h.up t r hj c z).2⟩
    · rw [List.getElem?_set_ne (fun z => et z.symm)] at e
      exact ⟨(h.up t q e c hc).1, Nat.lt_succ_of_lt (h.up t q e c hc).2⟩
  · have p1 : ((b.set j r').flatten ++ s.flatten).Perm (i :: (b.flatten ++ s.flatten)) := by
      rw [← List.cons_append]
      exact (flat_set hj hp).append_right _
    exact p1.nodup_iff.mpr (List.nodup_cons.mpr ⟨h.low, h.once⟩)
theorem Half.start {i j : Nat} {b s : List (List Nat)} {r r' : List Nat} (h : Half i b s) (hj : s[j]? = some r) (hp : r'.Perm (i :: r)) : Half (i + 1) b (s.set j r') := by
  refine ⟨fun t q e c hc => ⟨(h.up t q e c hc).1, Nat.lt_succ_of_lt (h.up t q e c hc).2⟩, fun q e c hc => ?_, ?_⟩
  · rcases mem_set e with z | z
    · subst z
      rcases List.mem_cons.mp (hp.mem_iff.mp hc) with z | z
      · exact z ▸ Nat.lt_succ_self _
      · exact Nat.lt_succ_of_lt (h.inS r (List.mem_of_getElem? hj) c z)
    · exact Nat.lt_succ_of_lt (h.inS q z c hc)
  · have p1 : (b.flatten ++ (s.set j r').flatten).Perm (i :: (b.flatten ++ s.flatten)) := by
      refine ((flat_set hj hp).append_left _).trans ?_
      exact List.perm_middle
    exact p1.nodup_iff.mpr (List.nodup_cons.mpr ⟨h.low, h.once⟩)
theorem nodup_len : ∀ (n : Nat) (l : List Nat), l.Nodup → (∀ c ∈ l, c < n) → l.length ≤ n
  | 0, [], _, _ => Nat.le_refl _
  | 0, c :: l, _, h => absurd (h c List.mem_cons_self) (Nat.not_lt_zero _)
  | n + 1, l, nd, h => by
    have h1 : (l.erase n).length ≤ n := nodup_len n _ (nd.erase n) fun c hc => by
      have h2 := h c (List.mem_of_mem_erase hc)
      have h3 : c ≠ n := fun e => by
        subst e
        exact nd.not_mem_erase hc
      omega
    have h4 := List.length_erase (a := n) (l := l)
    split at h4 <;> omega
theorem Half.lenB {i j : Nat} {b s : List (List Nat)} {r : List Nat} (h : Half i b s) (hj : b[j]? = some r) : r.length ≤ i := by
  have hr := List.mem_of_getElem? hj
  exact nodup_len i r (((List.nodup_append.mp h.once).1).sublist (List.sublist_flatten_of_mem hr)) fun c hc => (h.up j r hj c hc).2
theorem Half.lenS {i : Nat} {b s : List (List Nat)} {r : List Nat} (h : Half i b s) (hr : r ∈ s) : r.length ≤ i :=
  nodup_len i r (((List.nodup_append.mp h.once).2.1).sublist (List.sublist_flatten_of_mem hr)) fun c hc => h.inS r hr c hc
theorem Half.good {most i : Nat} {b s : List (List Nat)} (h : Half i b s) (hb : b.length = i) (hm : i ≤ most) (h1 : 1 ≤ s.length) (h2 : s.length ≤ 12) : Good most b s :=
  ⟨by omega, h1, h2, fun t r e c hc => by rw [hb]; exact h.up t r e c hc, fun r e c hc => by rw [hb]; exact h.inS r e c hc, h.once⟩
theorem rows_len {l : List (List Nat)} {n : Nat} (nd : l.flatten.Nodup) (lt : ∀ c ∈ l.flatten, c < n) : ∀ r ∈ l, r.length ≤ n := fun r hr =>
  nodup_len n r (nd.sublist (List.sublist_flatten_of_mem hr)) fun c hc => lt c ((List.sublist_flatten_of_mem hr).subset hc)
end Plan
namespace L2
open PySem PySem.Spec PyProof.Rows
/-- the plan while it is made -/
structure Mkp (H0 H : Hp) (Bd Sd : Addr) (bs ss : List Addr) (b s : List (List Nat)) : Prop where
  same : Same H0 H
  topB : H Bd = some (.lst (bs.map V.ref))
  topS : H Sd = some (.lst (ss.map V.ref))
  nd : (Bd :: Sd :: (bs ++ ss)).Nodup
  free : ∀ p ∈ Bd :: Sd :: (bs ++ ss), H0 p = none
  rB : Rows H bs ((Plan.toI b).map fun r => r.map V.int)
  rS : Rows H ss ((Plan.toI s).map fun r => r.map V.int)
abbrev vI (r : List Nat) : List V := (r.map Int.ofNat).map V.int
theorem Mkp.lenB {H0 H : Hp} {Bd Sd : Addr} {bs ss : List Addr} {b s : List (List Nat)} (m : Mkp H0 H Bd Sd bs ss b s) : bs.length = b.length := by
  have := m.rB.1
  rwa [List.length_map, Plan.toI_len] at this
theorem Mkp.lenS {H0 H : Hp} {Bd Sd : Addr} {bs ss : List Addr} {b s : List (List Nat)} (m : Mkp H0 H Bd Sd bs ss b s) : ss.length = s.length := by
  have := m.rS.1
  rwa [List.length_map, Plan.toI_len] at this
theorem toI_get {l : List (List Nat)} {j : Nat} {r : List Nat} (h : l[j]? = some r) : ((Plan.toI l).map fun r => r.map V.int)[j]? = some (vI r) := by
  unfold Plan.toI
  rw [List.getElem?_map, List.getElem?_map, h]
  rfl
theorem toI_set {l : List (List Nat)} {j : Nat} {r : List Nat} : ((Plan.toI (l.set j r)).map fun r => r.map V.int) = ((Plan.toI l).map fun r => r.map V.int).set j (vI r) := by
  unfold Plan.toI
  rw [List.map_set, List.map_set]
theorem Mkp.getB {H0 H : Hp} {Bd Sd : Addr} {bs ss : List Addr} {b s : List (List Nat)} {j : Nat} {r : List Nat} (m : Mkp H0 H Bd Sd bs ss b s) (h : b[j]? = some r) : ∃ p, bs[j]? = some p ∧ H p = some (.lst (vI r)) := m.rB.get (toI_get h)
theorem Mkp.getS {H0 H : Hp} {Bd Sd : Addr} {bs ss : List Addr} {b s : List (List Nat)} {j : Nat} {r : List Nat} (m : Mkp H0 H Bd Sd bs ss b s) (h : s[j]? = some r) : ∃ p, ss[j]? = some p ∧ H p = some (.lst (vI r)) := m.rS.get (toI_get h)
theorem Mkp.parts {H0 H : Hp} {Bd Sd : Addr} {bs ss : List Addr} {b s : List (List Nat)} (m : Mkp H0 H Bd Sd bs ss b s) : Bd ∉ bs ∧ Bd ∉ ss ∧ Sd ∉ bs ∧ Sd ∉ ss ∧ Bd ≠ Sd ∧ bs.Nodup ∧ ss.Nodup ∧ ∀ p ∈ bs, p ∉ ss := by
  have n := m.nd
  rw [List.nodup_cons, List.nodup_cons, List.nodup_append] at n
  obtain ⟨n1, n2, n3, n4, n5⟩ := n
  refine ⟨fun h => n1 (List.mem_cons_of_mem _ (List.mem_append_left _ h)), fun h => n1 (List.mem_cons_of_mem _ (List.mem_append_right _ h)), fun h => n2 (List.mem_append_left _ h), fun h => n2 (List.mem_append_right _ h), fun h => n1 (h ▸ List.mem_cons_self), n3, n4, fun p h1 h2 => n5 p h1 p h2 rfl⟩
theorem Mkp.setB {H0 H : Hp} {Bd Sd p : Addr} {bs ss : List Addr} {b s : List (List Nat)} {j : Nat} {r' : List Nat} (m : Mkp H0 H Bd Sd bs ss b s) (h : bs[j]? = some p) : Mkp H0 (upd H p (.lst (vI r'))) Bd Sd bs ss (b.set j r') s := by
  obtain ⟨a1, a2, a3, a4, a5, a6, a7, a8⟩ := m.parts
  have hm := List.mem_of_getElem? h
  refine ⟨Same.upd m.same (m.free p (List.mem_cons_of_mem _ (List.mem_cons_of_mem _ (List.mem_append_left _ hm)))), ?_, ?_, m.nd, m.free, ?_, m.rS.ne (a8 p hm)⟩
  · rw [upd_ne (fun e => a1 (by rw [e]; exact hm))]
    exact m.topB
  · rw [upd_ne (fun e => a3 (by rw [e]; exact hm))]
    exact m.topS
  · rw [toI_set]
    exact m.rB.set a6 h
theorem Mkp.setS {H0 H : Hp} {Bd Sd p : Addr} {bs ss : List Addr} {b s : List (List Nat)} {j : Nat} {r' : List Nat} (m : Mkp H0 H Bd Sd bs ss b s) (h : ss[j]? = some p) : Mkp H0 (upd H p (.lst (vI r'))) Bd Sd bs ss b (s.set j r') := by
  obtain ⟨a1, a2, a3, a4, a5, a6, a7, a8⟩ := m.parts
  have hm := List.mem_of_getElem? h
  refine ⟨Same.upd m.same (m.free p (List.mem_cons_of_mem _ (List.mem_cons_of_mem _ (List.mem_append_right _ hm)))), ?_, ?_, m.nd, m.free, m.rB.ne (fun z => a8 p z hm), ?_⟩
  · rw [upd_ne (fun e => a2 (by rw [e]; exact hm))]
    exact m.topB
  · rw [upd_ne (fun e => a4 (by rw [e]; exact hm))]
    exact m.topS
  · rw [toI_set]
    exact m.rS.set a7 h
theorem toI_rep (n : Nat) : ((Plan.toI (List.replicate n [])).map fun r => r.map V.int) = List.replicate n [] := by
  unfold Plan.toI
  rw [List.map_replicate, List.map_replicate]
  rfl
theorem Mkp.of2 {H H1 H2 H3 : Hp} {Bd Sd : Addr} {bs ss : List Addr} {b s : List (List Nat)} (s1 : Same H H1) (hb : NewLL H1 H2 Bd bs ((Plan.toI b).map fun r => r.map V.int)) (hs : NewLL H2 H3 Sd ss ((Plan.toI s).map fun r => r.map V.int)) : Mkp H H3 Bd Sd bs ss b s := by
  have hb2 := hb.later hs.same
  have old : ∀ p ∈ Bd :: bs, ∃ o, H2 p = some o := fun p hp => by
    rcases List.mem_cons.mp hp with e | e
    · exact ⟨_, e ▸ hb.top⟩
    · obtain ⟨j, hj, e⟩ := List.getElem_of_mem e
      have hj2 := hb.rows.1 ▸ hj
      exact ⟨_, hb.rows.2 j p _ (by rw [List.getElem?_eq_getElem hj, e]) (List.getElem?_eq_getElem hj2)⟩
  have apart : ∀ p ∈ Bd :: bs, ∀ q ∈ Sd :: ss, p ≠ q := fun p hp q hq e => by
    obtain ⟨o, ho⟩ := old p hp
    rw [e, hs.free q hq] at ho
    cases ho
  refine ⟨s1.trans (hb.same.trans hs.same), hb2.top, hs.top, ?_, fun p hp => ?_, hb2.rows, hs.rows⟩
  · have n1 := hb.nd
    have n2 := hs.nd
    rw [List.nodup_cons] at n1 n2
    rw [List.nodup_cons, List.nodup_cons, List.nodup_append]
    refine ⟨fun h => ?_, fun h => ?_, n1.2, n2.2, fun x hx y hy e => apart x (List.mem_cons_of_mem _ hx) y (List.mem_cons_of_mem _ hy) e⟩
    · rcases List.mem_cons.mp h with e | h
      · exact apart Bd List.mem_cons_self Sd List.mem_cons_self e
      · rcases List.mem_append.mp h with h | h
        · exact n1.1 h
        · exact apart Bd List.mem_cons_self Bd (List.mem_cons_of_mem _ h) rfl
    · rcases List.mem_append.mp h with h | h
      · exact apart Sd (List.mem_cons_of_mem _ h) Sd List.mem_cons_self rfl
      · exact n2.1 h
  · have f1 : ∀ q ∈ Bd :: bs, H q = none := fun q hq => s1.free (hb.free q hq)
    have f2 : ∀ q ∈ Sd :: ss, H q = none := fun q hq => s1.free (hb.same.free (hs.free q hq))
    rcases List.mem_cons.mp hp with e | hp
    · exact f1 p (e ▸ List.mem_cons_self)
    · rcases List.mem_cons.mp hp with e | hp
      · exact f2 p (e ▸ List.mem_cons_self)
      · rcases List.mem_append.mp hp with h | h
        · exact f1 p (List.mem_cons_of_mem _ h)
        · exact f2 p (List.mem_cons_of_mem _ h)
theorem Mkp.later {H0 H H' : Hp} {Bd Sd : Addr} {bs ss : List Addr} {b s : List (List Nat)} (m : Mkp H0 H Bd Sd bs ss b s) (e : Same H H') : Mkp H0 H' Bd Sd bs ss b s := ⟨m.same.trans e, e _ _ m.topB, e _ _ m.topS, m.nd, m.free, m.rB.same e, m.rS.same e⟩
theorem Mkp.dp {K : PySem.W.Frag} {H0 H : Hp} {Bd Sd G : Addr} {bs ss : List Addr} {b s : List (List Nat)} (m : Mkp H0 H Bd Sd bs ss b s) (h : SqT K H G [.ref Bd, .ref Sd]) : Dp K H (.ref G) (planD (Plan.toI b) (Plan.toI s)) :=
  .tup h (.cons (.lst (.of m.topB) m.rB.dp) (.cons (.lst (.of m.topS) m.rS.dp) .nil))
/-- [list(x) for x in t[j]] -/
theorem copy_read {K : PySem.W.Frag} {σ : L2.St} {H : Hp} {T B : Addr} {xs ys : List V} {rows : List (List Int)} {te0 : TE} {r : Nat} {Q : VK} (h0 : ∀ Q' : VK, Q' (.ref B) H → te0 σ H Q') (hB : SqL K H B ys) (hr : DpAll K H ys (rows.map intsL)) (hl : rows.length < 1000000)
    (hw : ∀ x, wipe ((wipe σ [r]).set r (some x)) [r] = wipe σ [r]) (hg : ∀ x, ((wipe σ [r]).set r (some x))[r]? = some (some x)) (q : ∀ D ps H', NewLL H H' D ps (rows.map fun r => r.map V.int) → Q (.ref D) H') :
    tLc (iList K te0) (gName r) tYes (tCB (rListK K) (tCons (tVar r) tNil)) [r] σ H Q := by
  refine h0 _ ⟨B, rfl, ⟨_, hB⟩, fun D hD => ?_⟩
  refine lcN_list (K := K) (rows := rows.map fun r => r.map V.int) hD hB (by rw [List.length_map]; exact hl) (by rw [hr.len, List.length_map, List.length_map]) hw (fun j x r1 H1 hj hd s1 => ?_) (fun H2 ps h => q D ps H2 h)
  obtain ⟨r2, a, er, rfl, hr1⟩ := rows_get hr hj
  rw [List.getElem?_map, er] at hd
  cases hd
  intro Q' hQ
  exact ⟨_, hg _, a, _, rfl, .inl (s1.seq hr1), fun l hl => hQ _ _ (same_new hl) hl upd_same⟩
/-- ([list(x) for x in t[0]], [list(x) for x in t[1]]) -/
theorem given_read {K : PySem.W.Frag} {σ : L2.St} {H : Hp} {v : V} {b s : List (List Nat)} {p r : Nat} {Q : VK} (hp : σ[p]? = some (some v)) (hv : Dp K H v (planD (Plan.toI b) (Plan.toI s))) (hb : b.length < 1000000) (hs : s.length < 1000000)
    (hw : ∀ x, wipe ((wipe σ [r]).set r (some x)) [r] = wipe σ [r]) (hg : ∀ x, ((wipe σ [r]).set r (some x))[r]? = some (some x))
    (q : ∀ G Bd Sd bs ss H', Mkp H H' Bd Sd bs ss b s → H G = none → G ∉ Bd :: Sd :: (bs ++ ss) → H' G = some (.tup [.ref Bd, .ref Sd]) → Q (.ref G) H') :
    tTup (tCons (tLc (iList K (tOp (rIxT K) (tVar p) (tC (.int 0)))) (gName r) tYes (tCB (rListK K) (tCons (tVar r) tNil)) [r])
      (tCons (tLc (iList K (tOp (rIxT K) (tVar p) (tC (.int 1)))) (gName r) tYes (tCB (rListK K) (tCons (tVar r) tNil)) [r]) tNil)) σ H Q := by
  obtain ⟨T, xs, rfl, hT, hA⟩ := dp_tup hv
  obtain ⟨vB, vS, rfl, hB, hS⟩ := dpAll2 hA
  obtain ⟨B0, yb, rfl, hB1, hB2⟩ := dp_list hB
  obtain ⟨S0, ys, rfl, hS1, hS2⟩ := dp_list hS
  refine tup_i (cons_i ?_)
  refine copy_read (T := T) (xs := []) (fun Q' q' => ⟨_, hp, T, _, 0, _, rfl, rfl, hT, atI_nat (j := 0) rfl, q'⟩) hB1 hB2 (by rw [Plan.toI_len]; exact hb) hw hg fun Bd bs H2 h2 => ?_
  have s2 := h2.same
  refine cons_i ?_
  refine copy_read (T := T) (xs := []) (fun Q' q' => ⟨_, hp, T, _, 1, _, rfl, rfl, Same.tup s2 hT, atI_nat (j := 1) rfl, q'⟩) (s2.seq hS1) (dpAll_same s2 _ _ hS2) (by rw [Plan.toI_len]; exact hs) hw hg fun Sd ss H3 h3 => ?_
  have m : Mkp H H3 Bd Sd bs ss b s := Mkp.of2 (Same.refl H) h2 h3
  refine ⟨by show 2 ≤ sizeLine; decide, fun G hG => ?_⟩
  have s4 := same_new (o := .tup [.ref Bd, .ref Sd]) hG
  refine q G Bd Sd bs ss _ (m.later s4) (m.same.free hG) (fun hm => ?_) upd_same
  have some1 : ∃ o, H3 G = some o := by
    rcases List.mem_cons.mp hm with e | hm
    · exact ⟨_, e ▸ m.topB⟩
    · rcases List.mem_cons.mp hm with e | hm
      · exact ⟨_, e ▸ m.topS⟩
      · rcases List.mem_append.mp hm with h | h
        · obtain ⟨j, hj, e⟩ := List.getElem_of_mem h
          have hj2 := m.rB.1 ▸ hj
          exact ⟨_, m.rB.2 j G _ (by rw [List.getElem?_eq_getElem hj, e]) (List.getElem?_eq_getElem hj2)⟩
        · obtain ⟨j, hj, e⟩ := List.getElem_of_mem h
          have hj2 := m.rS.1 ▸ hj
          exact ⟨_, m.rS.2 j G _ (by rw [List.getElem?_eq_getElem hj, e]) (List.getElem?_eq_getElem hj2)⟩
  obtain ⟨o, ho⟩ := some1
  rw [hG] at ho
  cases ho
end L2

namespace Y
open PySem PySem.Spec PyProof.Rows L2
def topS (i : Nat) : Stmt := PySem.Challenge.pw_stealyard_k03_started.main.body.getD i (.Pass ⟨0, 0, 0, 0⟩)
end Y

namespace Y
open PySem PySem.Spec PyProof.Rows L2
local macro_rules
  | `(tactic| and_intros) => `(tactic| repeat (first
      | refine ⟨_, rfl, ?_⟩
      | refine ⟨_, _, rfl, rfl, ?_⟩
      | refine ⟨(show (0 : Int) < _ by decide), ?_⟩
      | refine ⟨(show CDiv _ _ from ⟨by decide, by decide⟩), ?_⟩))
abbrev s_law_cell_at : Stmt := topS 6
abbrev N_law_cell_at : List Str := ["_law_script", "_law_k"]
theorem sc_law_cell_at : FnScope N_law_cell_at ["_law_script", "_law_k"] (defScope s_law_cell_at) := ⟨rfl, rfl, rfl, by decide +kernel, rfl, by decide +kernel, by decide +kernel⟩
abbrev s_law_plan_by : Stmt := topS 7
abbrev N_law_plan_by : List Str := ["_law_script", "_law_first", "_law_most", "_law_cell", "_law_many", "_law_size", "_law_brood", "_law_starts", "_law_task", "_law_way", "_law_worker"]
theorem sc_law_plan_by : FnScope N_law_plan_by ["_law_script", "_law_first", "_law_most"] (defScope s_law_plan_by) := ⟨rfl, rfl, rfl, by decide +kernel, rfl, by decide +kernel, by decide +kernel⟩
def cell (ns : List Int) (k : Nat) : Int := ns.getD k 0
def spCellL (K : PySem.W.Frag) : Sp := fun vs H Q _ => ∃ (a : Addr) (ns : List Int) (k : Nat), vs = [.ref a, .int k] ∧ SqL K H a (ns.map V.int) ∧ Q (.int (cell ns k)) H
def spPlan (K : PySem.W.Frag) : Sp := fun vs H Q _ => ∃ (a : Addr) (ns : List Int) (first most : Nat), vs = [.ref a, .int first, .int most] ∧ SqL K H a (ns.map V.int) ∧ first ≤ 1000 ∧ most ≤ 1000 ∧
  ∀ (H' : Hp) (v : V) (b s : List (List Nat)), Plan.Good most b s → Same H H' → Dp K H' v (planD (Plan.toI b) (Plan.toI s)) → Q v H'
section
variable {P : Program} {w : World} {K : PySem.W.Frag} {mg : Str → Option Value} {base : Heap}
theorem ok_cell {f : Addr} {fd : FuncData} {k : Nat} (F : Fun K "_law_cell_at" "_law_cell_at" s_law_cell_at f fd) (B : Bt mg) : FnOk P w K mg base CX0 (k + 1) f fd ["_law_script", "_law_k"] (spCellL K) := by
  refine F.ok sc_law_cell_at (fun vs H Q E h => ?_) (fun cdv A outer s H vs Q E hr h => ?_)
  · obtain ⟨a, ns, k, rfl, _⟩ := h
    rfl
  · obtain ⟨a, ns, k, rfl, hS, q⟩ := h
    refine ⟨_, (pss_cons (ps_if (pt_cmpR op_lt (pv 1) (pe_callB (k_len K) (by rfl) B.len_ PySem.boot_len (pa_cons (pv 0) pa_nil)) (nomark _))
          (pss_one (ps_ret (pe_ix (k_ixL K) (pv 0) (pv 1) (fun _ _ => rfl))))
          pss_nil)
      (pss_one (ps_ret pe_int))), ?_⟩
    refine ⟨_, rfl, .ref a, rfl, a, _, rfl, .inl hS, _, _, rfl, rfl, _, rfl, ite2 (fun e => ?_) (fun e => ?_)⟩
    · have e1 := of_decide_eq_true e
      rw [List.length_map] at e1
      have e2 : k < ns.length := by omega
      refine ⟨.ref a, rfl, _, rfl, a, _, _, .int ns[k], rfl, rfl, hS, atI_nat ?_, ?_⟩
      · rw [List.getElem?_map, List.getElem?_eq_getElem e2]
        rfl
      · have : cell ns k = ns[k] := by
          unfold cell
          rw [List.getD_eq_getElem?_getD, List.getElem?_eq_getElem e2]
          rfl
        rw [← this]
        exact q
    · have e2 : ¬ k < ns.length := fun z => e (decide_eq_true (by rw [List.length_map]; omega))
      have : cell ns k = 0 := by
        unfold cell
        rw [List.getD_eq_getElem?_getD, List.getElem?_eq_none (by omega)]
        rfl
      rw [this] at q
      exact q
structure Gc (P : Program) (w : World) (K : PySem.W.Frag) (mg : Str → Option Value) (base : Heap) : Prop where
  law_cell_at : Has P w K mg base CX0 1 "_law_cell_at" ["_law_script", "_law_k"] (spCellL K)
theorem emod_nat {i : Int} {n : Nat} (h : 0 < n) : ∃ j : Nat, j < n ∧ i % (n : Int) = (j : Int) := by
  have h1 : 0 ≤ i % (n : Int) := Int.emod_nonneg i (by omega)
  have h2 : i % (n : Int) < (n : Int) := Int.emod_lt_of_pos i (by omega)
  exact ⟨(i % (n : Int)).toNat, by omega, by omega⟩
theorem ok_plan {f : Addr} {fd : FuncData} (F : Fun K "_law_plan_by" "_law_plan_by" s_law_plan_by f fd) (B : Bt mg) (G : Gc P w K mg base) : FnOk P w K mg base CX0 2 f fd ["_law_script", "_law_first", "_law_most"] (spPlan K) := by
  refine F.ok sc_law_plan_by (fun vs H Q E h => ?_) (fun cdv A outer s H vs Q E hr h => ?_)
  · obtain ⟨a, ns, first, most, rfl, _⟩ := h
    rfl
  · obtain ⟨a, ns, first, most, rfl, hS, hf, hm, q⟩ := h
    refine ⟨_, (pss_cons (ps_asg (pe_callH G.law_cell_at hr (by rfl) pass0 (pa_cons (pv 0) (pa_cons (pv 1) pa_nil))) (pg_name (i := 3) sc_law_plan_by.nd rfl (by first | exact Or.inl rfl | exact Or.inr rfl)))
      (pss_cons (ps_asg (pe_op op_add pe_int (pe_op op_mod (pv 3) (pe_ix (k_ixL K) (pe_lst (pa_cons pe_int (pa_cons pe_int (pa_cons pe_int pa_nil)))) (pe_op op_mod (pe_op op_fdiv (pv 3) pe_int) pe_int) (fun _ _ => rfl)))) (pg_name (i := 4) sc_law_plan_by.nd rfl (by first | exact Or.inl rfl | exact Or.inr rfl)))
      (pss_cons (ps_asg (pe_op op_mod (pe_op op_fdiv (pv 3) pe_int) (pe_op op_add (pv 2) pe_int)) (pg_name (i := 5) sc_law_plan_by.nd rfl (by first | exact Or.inl rfl | exact Or.inr rfl)))
      (pss_cons (ps_setLc (i := 6) (own := [("_law_task", 8)]) (g := gName 8) (tt := tYes) rfl sc_law_plan_by.nd rfl rfl (sw_true rfl rfl rfl (by decide +kernel)) (pi_range1 (by rfl) B.range_ (pa_cons (pv 5) pa_nil)) (blkOk_by (own := [("_law_task", 8)]) (N := N_law_plan_by) (sc := defScope s_law_plan_by) (by decide +kernel)) (fun _ _ _ _ _ => pg_name (i := 8) sc_law_plan_by.nd rfl (Or.inl rfl)) (fun _ _ _ _ _ => pts_nil) (fun _ _ _ _ _ => (pe_lst pa_nil)))
      (pss_cons (ps_setLc (i := 7) (own := [("_law_worker", 10)]) (g := gName 10) (tt := tYes) rfl sc_law_plan_by.nd rfl rfl (sw_true rfl rfl rfl (by decide +kernel)) (pi_range1 (by rfl) B.range_ (pa_cons (pv 4) pa_nil)) (blkOk_by (own := [("_law_worker", 10)]) (N := N_law_plan_by) (sc := defScope s_law_plan_by) (by decide +kernel)) (fun _ _ _ _ _ => pg_name (i := 10) sc_law_plan_by.nd rfl (Or.inl rfl)) (fun _ _ _ _ _ => pts_nil) (fun _ _ _ _ _ => (pe_lst pa_nil)))
      (pss_cons (ps_for PassesOwn.never rfl (pi_range1 (by rfl) B.range_ (pa_cons (pv 5) pa_nil)) (pg_name (i := 8) sc_law_plan_by.nd rfl (by first | exact Or.inl rfl | exact Or.inr rfl))
          (pss_cons (ps_asg (pe_op op_add (pe_callH G.law_cell_at hr (by rfl) pass0 (pa_cons (pv 0) (pa_cons (pe_op op_add (pe_op op_add (pv 1) pe_int) (pv 8)) pa_nil))) (pe_op op_mul (pv 8) (pe_op op_mod (pe_op op_fdiv (pv 3) pe_int) pe_int))) (pg_name (i := 9) sc_law_plan_by.nd rfl (by first | exact Or.inl rfl | exact Or.inr rfl)))
          (pss_one (ps_if (PW.pt (pw_and (pt_cmpR op_lt (pe_op op_mod (pv 9) pe_int) pe_int (nomark _)) (pw_and1 (pt_cmpR op_gt (pv 8) pe_int (nomark _)))))
              (pss_one (ps_expr (pe_bm PySem.F.plainAttrs_list PySem.F.slot_list_append PySem.F.type_list_append mt_append (pe_ix (k_ixL K) (pv 6) (pe_op op_mod (pe_op op_fdiv (pv 9) pe_int) (pv 8)) (fun _ _ => rfl)) (pa_cons (pv 8) pa_nil))))
              (pss_one (ps_if (PW.pt (pw_and (pt_cmpR op_eq (pe_op op_mod (pv 9) pe_int) pe_int (nomark _)) (pw_and1 (pt_cmpR op_gt (pv 8) pe_int (nomark _)))))
                  (pss_one (ps_expr (pe_bm PySem.F.plainAttrs_list PySem.F.slot_list_insert PySem.F.type_list_insert mt_insert (pe_ix (k_ixL K) (pv 6) (pe_op op_sub (pv 8) pe_int) (fun _ _ => rfl)) (pa_cons pe_int (pa_cons (pv 8) pa_nil)))))
                  (pss_one (ps_if (pt_cmpR op_ne (pe_op op_mod (pv 9) pe_int) pe_int (nomark _))
                      (pss_one (ps_expr (pe_bm PySem.F.plainAttrs_list PySem.F.slot_list_append PySem.F.type_list_append mt_append (pe_ix (k_ixL K) (pv 7) (pe_op op_mod (pe_op op_fdiv (pv 9) pe_int) (pe_ix (k_ixL K) (pe_lst (pa_cons pe_int (pa_cons (pv 4) pa_nil))) (pe_op op_mod (pe_op op_fdiv (pv 3) pe_int) pe_int) (fun _ _ => rfl))) (fun _ _ => rfl)) (pa_cons (pv 8) pa_nil))))
                      pss_nil))))))))
      (pss_one (ps_ret (pe_tup (pa_cons (pv 6) (pa_cons (pv 7) pa_nil))))))))))), ?_⟩
    -- cell
    refine ⟨_, rfl, _, rfl, a, ns, first, rfl, hS, ?_⟩
    generalize hc : cell ns first = c
    -- many
    obtain ⟨many, j, hm1, hj, ej⟩ : ∃ (d : Int) (j : Nat), (d = 4 ∨ d = 12) ∧ ([V.int 4, V.int 4, V.int 12] : List V)[j]? = some (V.int d) ∧ c / 48 % 3 = (j : Int) := by
      obtain ⟨j, hj, ej⟩ := emod_nat (i := c / 48) (n := 3) (by decide)
      match j, hj with
      | 0, _ => exact ⟨4, 0, .inl rfl, rfl, ej⟩
      | 1, _ => exact ⟨4, 1, .inl rfl, rfl, ej⟩
      | 2, _ => exact ⟨12, 2, .inr rfl, rfl, ej⟩
    obtain ⟨m, h1m, h2m, em⟩ : ∃ m : Nat, 1 ≤ m ∧ m ≤ 12 ∧ 1 + c % many = (m : Int) := by
      obtain ⟨x, hx, ex⟩ := emod_nat (i := c) (n := many.toNat) (by omega)
      have e0 : ((many.toNat : Nat) : Int) = many := by omega
      rw [e0] at ex
      exact ⟨1 + x, by omega, by omega, by omega⟩
    obtain ⟨size, hsz, esz⟩ : ∃ size : Nat, size ≤ most ∧ c / 144 % ((most : Int) + 1) = (size : Int) := by
      obtain ⟨x, hx, ex⟩ := emod_nat (i := c / 144) (n := most + 1) (by omega)
      exact ⟨x, by omega, by rw [← ex]; congr 1⟩
    refine ⟨_, rfl, by show 3 ≤ sizeLine; decide, fun t ht => ?_⟩
    have s1 : Same H (upd H t (.lst [.int 4, .int 4, .int 12])) := same_new ht
    refine ⟨_, rfl, _, _, rfl, rfl, ⟨by decide, by decide⟩, _, _, rfl, rfl, (show (0 : Int) < _ from by decide), t, _, _, .int many, rfl, rfl, .of upd_same, at_of ej hj, _, _, rfl, rfl, (show (0 : Int) < _ from by omega), _, _, rfl, rfl, ?_⟩
    show gName 4 (.int (1 + c % many)) _ _ _
    rw [em]
    -- size
    refine ⟨_, rfl, _, _, rfl, rfl, ⟨by decide, by decide⟩, _, rfl, _, _, rfl, rfl, _, _, rfl, rfl, (show (0 : Int) < _ from by omega), ?_⟩
    show gName 5 (.int (c / 144 % ((most : Int) + 1))) _ _ _
    rw [esz]
    generalize hH1 : upd H t (.lst [.int 4, .int 4, .int 12]) = H1 at s1 ⊢
    clear hH1
    -- brood, starts
    refine ⟨_, rfl, _, rfl, by omega, by omega, fun Bd hBd => ?_⟩
    refine lcN_range (rows := List.replicate size []) hBd (by rw [List.length_replicate]; omega) (by rw [List.length_replicate]; rfl) (fun _ => rfl) (fun j r H2 hr s2 Q' hQ => ?_) (fun H2 bs hb => ?_)
    · refine ⟨Nat.zero_le _, fun p hp => hQ p _ (same_new hp) hp ?_⟩
      rw [upd_same, (List.mem_replicate.mp (List.mem_of_getElem? hr)).2]
    refine ⟨_, rfl, _, rfl, by omega, by omega, fun Sd hSd => ?_⟩
    refine lcN_range (rows := List.replicate m []) hSd (by rw [List.length_replicate]; omega) (by rw [List.length_replicate]; rfl) (fun _ => rfl) (fun j r H3 hr s2 Q' hQ => ?_) (fun H3 ss hs => ?_)
    · refine ⟨Nat.zero_le _, fun p hp => hQ p _ (same_new hp) hp ?_⟩
      rw [upd_same, (List.mem_replicate.mp (List.mem_of_getElem? hr)).2]
    have m0 : Mkp H H3 Bd Sd bs ss (List.replicate size []) (List.replicate m []) := Mkp.of2 s1 (by rw [toI_rep]; exact hb) (by rw [toI_rep]; exact hs)
    -- the tasks, one by one
    refine ⟨_, rfl, _, rfl, by omega, by omega, for_range (lo := 0) (n := size) (fun i σ H' => ∃ b s v8 v9, σ = [some (.ref a), some (.int first), some (.int most), some (.int c), some (.int m), some (.int size), some (.ref Bd), some (.ref Sd), v8, v9, none] ∧
      Mkp H H' Bd Sd bs ss b s ∧ b.length = size ∧ s.length = m ∧ Plan.Half i b s) ⟨_, _, _, _, rfl, m0, List.length_replicate, List.length_replicate, Plan.half0 _ _⟩ ?_ ?_⟩
    · rintro i σ H4 hi ⟨b, s, v8, v9, rfl, mk, hbl, hsl, hh⟩
      have hS4 := mk.same.seq hS
      rw [show (0 : Int) + (i : Int) = (i : Int) from Int.zero_add _]
      -- way
      refine seqI ?_
      refine ⟨_, rfl, _, rfl, _, _, rfl, rfl, _, rfl, _, _, rfl, rfl, a, ns, first + 1 + i, rfl, hS4, _, rfl, _, rfl, _, _, rfl, rfl, ⟨by decide, by decide⟩, _, _, rfl, rfl, (show (0 : Int) < _ from by decide), _, _, rfl, rfl, .inl ⟨by omega, by omega⟩, _, _, rfl, rfl, ?_⟩
      show tIfS _ _ _ _ (List.set _ 9 (some (.int (cell ns (first + 1 + i) + (i : Int) * (c / 30000 % 50))))) _
      generalize hway : cell ns (first + 1 + i) + (i : Int) * (c / 30000 % 50) = way
      have fin : ∀ (σ' : L2.St) (H' : Hp) (b' s' : List (List Nat)), σ' = [some (.ref a), some (.int first), some (.int most), some (.int c), some (.int m), some (.int size), some (.ref Bd), some (.ref Sd), some (.int i), some (.int way), none] →
          Mkp H H' Bd Sd bs ss b' s' → b'.length = size → s'.length = m → Plan.Half (i + 1) b' s' →
          ∃ b s v8 v9, σ' = [some (.ref a), some (.int first), some (.int most), some (.int c), some (.int m), some (.int size), some (.ref Bd), some (.ref Sd), v8, v9, none] ∧ Mkp H H' Bd Sd bs ss b s ∧ b.length = size ∧ s.length = m ∧ Plan.Half (i + 1) b s :=
        fun σ' H' b' s' e h1 h2 h3 h4 => ⟨b', s', _, _, e, h1, h2, h3, h4⟩
      refine an_if (b := decide (way % 5 < 2) && decide (0 < (i : Int))) (an_and (fun Q' q' => ⟨_, rfl, _, _, rfl, rfl, (show (0 : Int) < _ from by decide), _, _, rfl, rfl, _, rfl, q'⟩) (fun Q' q' => ⟨_, rfl, _, _, rfl, rfl, _, rfl, q'⟩)) (fun e => ?_) (fun e => ?_)
      · -- at the end of a brood
        rw [Bool.and_eq_true, decide_eq_true_eq, decide_eq_true_eq] at e
        obtain ⟨j, hj, ej⟩ := emod_nat (i := way / 5) (n := i) (by omega)
        obtain ⟨r, hr⟩ : ∃ r, b[j]? = some r := ⟨_, List.getElem?_eq_getElem (by omega)⟩
        obtain ⟨p, hp1, hp2⟩ := mk.getB hr
        refine ⟨_, rfl, _, rfl, _, _, rfl, rfl, ⟨by decide, by decide⟩, _, rfl, _, _, rfl, rfl, (show (0 : Int) < _ from e.2), Bd, _, _, .ref p, rfl, rfl, .of mk.topB, at_of ej (by rw [List.getElem?_map, hp1]; rfl), .inl ⟨rfl, _, .of hp2⟩, _, rfl, p, _, .int i, rfl, rfl, hp2, ?_, ?_⟩
        · rw [List.length_map, List.length_map]
          have := hh.lenB hr
          exact sz2 (by omega)
        · have := mk.setB (r' := r ++ [i]) hp1
          rw [show vI (r ++ [i]) = vI r ++ [V.int (i : Int)] by unfold vI; rw [List.map_append, List.map_append]; rfl] at this
          exact fin _ _ _ _ rfl this (by rw [List.length_set]; exact hbl) hsl (hh.brood hr (by omega) (List.perm_append_singleton _ _))
      refine an_if (b := decide (way % 5 = 2) && decide (0 < (i : Int))) (an_and (fun Q' q' => ⟨_, rfl, _, _, rfl, rfl, (show (0 : Int) < _ from by decide), rfl, _, rfl, by rw [show decide (V.int (way % 5) = V.int 2) = decide (way % 5 = 2) from decide_eq_decide.mpr ⟨fun e => V.int.inj e, fun e => by rw [e]⟩]; exact q'⟩) (fun Q' q' => ⟨_, rfl, _, _, rfl, rfl, _, rfl, q'⟩)) (fun e => ?_) (fun e => ?_)
      · -- at the beginning of a brood
        rw [Bool.and_eq_true, decide_eq_true_eq, decide_eq_true_eq] at e
        obtain ⟨r, hr⟩ : ∃ r, b[i - 1]? = some r := ⟨_, List.getElem?_eq_getElem (by omega)⟩
        obtain ⟨p, hp1, hp2⟩ := mk.getB hr
        refine ⟨_, rfl, _, rfl, _, _, rfl, rfl, Bd, _, _, .ref p, rfl, rfl, .of mk.topB, at_of (j := i - 1) (by omega) (by rw [List.getElem?_map, hp1]; rfl), .inl ⟨rfl, _, .of hp2⟩, _, rfl, p, _, 0, .int i, rfl, rfl, hp2, ?_, by decide, by decide, ?_⟩
        · rw [List.length_map, List.length_map]
          have := hh.lenB hr
          exact sz2 (by omega)
        · have := mk.setB (r' := i :: r) hp1
          exact fin _ _ _ _ rfl this (by rw [List.length_set]; exact hbl) hsl (hh.brood hr (by omega) (List.Perm.refl _))
      refine an_if (b := !decide (way % 25 = 23)) (fun Q' q' => ⟨_, rfl, _, _, rfl, rfl, (show (0 : Int) < _ from by decide), rfl, _, rfl, by rw [show decide (V.int (way % 25) = V.int 23) = decide (way % 25 = 23) from decide_eq_decide.mpr ⟨fun e => V.int.inj e, fun e => by rw [e]⟩]; exact q'⟩) (fun e => ?_) (fun e => ?_)
      · -- in a row at first
        obtain ⟨d, j2, hd1, hd2, hj2, ej2⟩ : ∃ (d j : Nat), 1 ≤ d ∧ d ≤ m ∧ ([V.int 1, V.int (m : Int)] : List V)[j]? = some (V.int (d : Int)) ∧ c / 4000 % 2 = (j : Int) := by
          obtain ⟨j, hj, ej⟩ := emod_nat (i := c / 4000) (n := 2) (by decide)
          match j, hj with
          | 0, _ => exact ⟨1, 0, Nat.le_refl _, h1m, rfl, ej⟩
          | 1, _ => exact ⟨m, 1, h1m, Nat.le_refl _, rfl, ej⟩
        obtain ⟨j, hj, ej⟩ := emod_nat (i := way / 25) (n := d) (by omega)
        obtain ⟨r, hr⟩ : ∃ r, s[j]? = some r := ⟨_, List.getElem?_eq_getElem (by omega)⟩
        obtain ⟨p, hp1, hp2⟩ := mk.getS hr
        refine ⟨_, rfl, _, rfl, _, _, rfl, rfl, ⟨by decide, by decide⟩, _, rfl, by show 2 ≤ sizeLine; decide, fun l hl => ?_⟩
        have s5 := same_new (o := .lst [.int 1, .int m]) hl
        have mk5 : Mkp H (upd H4 l (.lst [.int 1, .int m])) Bd Sd bs ss b s := ⟨mk.same.trans s5, s5 _ _ mk.topB, s5 _ _ mk.topS, mk.nd, mk.free, mk.rB.same s5, mk.rS.same s5⟩
        refine ⟨_, rfl, _, _, rfl, rfl, ⟨by decide, by decide⟩, _, _, rfl, rfl, (show (0 : Int) < _ from by decide), l, _, _, .int d, rfl, rfl, .of upd_same, at_of ej2 hj2, _, _, rfl, rfl, (show (0 : Int) < _ from by omega), Sd, _, _, .ref p, rfl, rfl, .of mk5.topS, at_of ej (by rw [List.getElem?_map, hp1]; rfl), .inl ⟨rfl, _, .of (s5 _ _ hp2)⟩, _, rfl, p, _, .int i, rfl, rfl, s5 _ _ hp2, ?_, ?_⟩
        · rw [List.length_map, List.length_map]
          have := hh.lenS (List.mem_of_getElem? hr)
          exact sz2 (by omega)
        · have := mk5.setS (r' := r ++ [i]) hp1
          rw [show vI (r ++ [i]) = vI r ++ [V.int (i : Int)] by unfold vI; rw [List.map_append, List.map_append]; rfl] at this
          exact fin _ _ _ _ rfl this hbl (by rw [List.length_set]; exact hsl) (hh.start hr (List.perm_append_singleton _ _))
      · exact fin _ _ _ _ rfl mk hbl hsl hh.later
    · -- the plan
      rintro σ H4 ⟨b, s, v8, v9, rfl, mk, hbl, hsl, hh⟩
      refine ⟨_, rfl, _, rfl, by show 2 ≤ sizeLine; decide, fun p hp => ?_⟩
      have s5 := same_new (o := .tup [.ref Bd, .ref Sd]) hp
      refine q _ _ b s (hh.good hbl hsz (by omega) (by omega)) (mk.same.trans s5) ?_
      exact .tup (.of upd_same) (.cons (.lst (.of (s5 _ _ mk.topB)) (mk.rB.same s5).dp) (.cons (.lst (.of (s5 _ _ mk.topS)) (mk.rS.same s5).dp) .nil))
end
end Y

namespace Y
open PySem PySem.Spec PyProof.Rows L2
/-- the constants of yards -/
structure Cy (K : PySem.W.Frag) (mg : Str → Option Value) (aF aR : Addr) : Prop where
  FREE : mg "FREE" = some (.ref aF)
  RESTS : mg "RESTS" = some (.ref aR)
  free : ∀ H, SqT K H aF [.str "free"]
  rests : ∀ H, SqT K H aR [.str "rests"]
abbrev sTup (x : Str) : PyData := .tuple [.str x]
abbrev s_started : Stmt := topS 3
abbrev N_started : List Str := ["plan", "_", "starts", "rows", "tasks"]
theorem sc_started : FnScope N_started ["plan"] (defScope s_started) := ⟨rfl, rfl, rfl, by decide +kernel, rfl, by decide +kernel, by decide +kernel⟩
abbrev s_is_over : Stmt := topS 4
abbrev N_is_over : List Str := ["yard", "_", "states", "state"]
theorem sc_is_over : FnScope N_is_over ["yard"] (defScope s_is_over) := ⟨rfl, rfl, rfl, by decide +kernel, rfl, by decide +kernel, by decide +kernel⟩
def row0 (r : List Int) : PyData := .tuple [.int 0, .int r.length, intsT r]
def yard0 (s : List (List Int)) : PyData := .tuple [.tuple (s.map row0), .tuple (s.map fun _ => sTup "free")]
def spStarted (K : PySem.W.Frag) : Sp := fun vs H Q _ => ∃ (v : V) (b s : List (List Int)), vs = [v] ∧ Dp K H v (planD b s) ∧ 1 ≤ s.length ∧ s.length ≤ 1000 ∧ (∀ r ∈ s, r.length ≤ 1000) ∧
  ∀ H' v', Same H H' → Dp K H' v' (yard0 s) → Q v' H'
def spOver (K : PySem.W.Frag) : Sp := fun vs H Q _ => ∃ (v : V) (rd : PyData) (ss : List PyData), vs = [v] ∧ Dp K H v (.tuple [rd, .tuple ss]) ∧ ss.length ≤ 1000 ∧ (∀ d ∈ ss, kin 3 d = true) ∧
  ∀ H', Same H H' → Q (.bl (ss.all fun d => PyData.eqv d (sTup "rests"))) H'
section
variable {P : Program} {w : World} {K : PySem.W.Frag} {mg : Str → Option Value} {base : Heap} {aF aR : Addr}
theorem tOnly_row0 (r : List Int) : tOnly (row0 r) = true := by
  show (tOnly (.int 0) && (tOnly (.int r.length) && (tOnly (intsT r) && true))) = true
  rw [tOnly_intsT]
  rfl
theorem row_read {σ : L2.St} {H : Hp} {i : Nat} {a : Addr} {r : List Int} (hi : σ[i]? = some (some (.ref a))) (hr2 : SqL K H a (r.map V.int)) :
    EvD K (tTup (tCons (tC (.int 0)) (tCons (tCB (rLenK K) (tCons (tVar i) tNil)) (tCons (tCB (rTupK K) (tCons (tVar i) tNil)) tNil)))) σ H (row0 r) := by
  intro Q hQ
  refine ⟨_, hi, a, _, rfl, .inl hr2, _, hi, a, _, rfl, .inl ⟨hr2, fun l hl => ?_⟩⟩
  refine ⟨by show 3 ≤ sizeLine; decide, fun t ht => hQ _ _ ((same_new hl).trans (same_new ht)) ?_⟩
  have e1 : (upd (upd H l (.tup (r.map V.int))) t (.tup [.int 0, .int ((r.map V.int).length : Nat), .ref l])) l = some (.tup (r.map V.int)) := by
    rw [upd_ne (ne_of_none upd_same ht), upd_same]
  refine .tup (.of upd_same) (.cons (.int 0) (.cons ?_ (.cons (.tup (.of e1) (dpAll_ints r)) .nil)))
  rw [List.length_map]
  exact .int _
theorem ok_started {f : Addr} {fd : FuncData} {k : Nat} (F : Fun K "started" "started" s_started f fd) (B : Bt mg) (M : Cy K mg aF aR) : FnOk P w K mg base CX0 (k + 1) f fd ["plan"] (spStarted K) := by
  refine F.ok sc_started (fun vs H Q E h => ?_) (fun cdv A outer s H vs Q E hr h => ?_)
  · obtain ⟨v, b, s, rfl, _⟩ := h
    rfl
  · obtain ⟨v, b, s, rfl, hP, h1, h2, h3, q⟩ := h
    refine ⟨_, (pss_cons (ps_asg (pv 0) (pg_tup (by rfl) (pgs_cons (pg_name (i := 1) sc_started.nd rfl (by first | exact Or.inl rfl | exact Or.inr rfl)) (pgs_cons (pg_name (i := 2) sc_started.nd rfl (by first | exact Or.inl rfl | exact Or.inr rfl)) pgs_nil))))
      (pss_cons (ps_asg (pe_callTy (k_tuple_of K) (by rfl) B.tuple_ (by decide +kernel) (pa_cons (pe_lc (own := [("tasks", 4)]) (g := gName 4) (tt := tYes) rfl sc_started.nd (k_piL K (pv 2)) (blkOk_by (own := [("tasks", 4)]) (N := N_started) (sc := defScope s_started) (by decide +kernel)) (fun _ _ _ _ _ => pg_name (i := 4) sc_started.nd rfl (Or.inl rfl)) (fun _ _ _ _ _ => pts_nil) (fun _ _ _ _ _ => (pe_tup (pa_cons pe_int (pa_cons (pe_callB (k_len K) (by rfl) B.len_ PySem.boot_len (pa_cons (pv 4) pa_nil)) (pa_cons (pe_callTy (k_tuple_of K) (by rfl) B.tuple_ (by decide +kernel) (pa_cons (pv 4) pa_nil)) pa_nil)))))) pa_nil)) (pg_name (i := 3) sc_started.nd rfl (by first | exact Or.inl rfl | exact Or.inr rfl)))
      (pss_one (ps_ret (pe_tup (pa_cons (pv 3) (pa_cons (pe_op (k_repT K) (pe_tup (pa_cons (pe_glob (v := .ref aF) rfl M.FREE rfl) pa_nil)) (pe_callB (k_len K) (by rfl) B.len_ PySem.boot_len (pa_cons (pv 2) pa_nil))) pa_nil))))))), ?_⟩
    -- _, starts = plan
    obtain ⟨p, xs, rfl, hT, hA⟩ := dp_tup hP
    obtain ⟨vb, vS, rfl, hB, hS⟩ := dpAll2 hA
    obtain ⟨S, ss, rfl, hSl, hSs⟩ := dp_list hS
    have hlen : ss.length = s.length := by rw [hSs.len, List.length_map]
    refine ⟨_, rfl, p, _, rfl, hT, rfl, _, _, rfl, _, _, rfl, rfl, ?_⟩
    -- the rows
    refine ⟨_, rfl, S, rfl, ⟨_, hSl⟩, fun D hD => ?_⟩
    refine lcT_list (K := K) (ds := s.map row0) hD hSl (tOnlyAll_iff.mpr fun d hd => ?_) (by rw [List.length_map]; omega) (by rw [hlen, List.length_map]) (fun _ => rfl) (fun j x d H1 hj hd s1 => ?_) (fun H2 acc s2 hacc hds => ?_)
    · obtain ⟨r, _, rfl⟩ := List.mem_map.mp hd
      exact tOnly_row0 r
    · obtain ⟨r, a, er, rfl, hr1⟩ := rows_get hSs hj
      rw [List.getElem?_map, er] at hd
      cases hd
      have hlr : r.length ≤ 1000 := h3 r (List.mem_of_getElem? er)
      have hr2 := s1.seq hr1
      intro Q hQ
      refine ⟨_, rfl, a, _, rfl, .inl hr2, _, rfl, a, _, rfl, .inl ⟨hr2, fun l hl => ?_⟩⟩
      refine ⟨by show 3 ≤ sizeLine; decide, fun t ht => hQ _ _ ((same_new hl).trans (same_new ht)) ?_⟩
      have e1 : (upd (upd H1 l (.tup (r.map V.int))) t (.tup [.int 0, .int ((r.map V.int).length : Nat), .ref l])) l = some (.tup (r.map V.int)) := by
        rw [upd_ne (ne_of_none upd_same ht), upd_same]
      refine .tup (.of upd_same) (.cons (.int 0) (.cons ?_ (.cons (.tup (.of e1) (dpAll_ints r)) .nil)))
      rw [List.length_map]
      exact .int _
    · -- tuple(..), the end
      refine ⟨D, acc, rfl, .inl ⟨.of hacc, fun l hl => ?_⟩⟩
      have hle : acc.length = s.length := by rw [hds.len, List.length_map]
      have s3 : Same H2 (upd H2 l (.tup acc)) := same_new hl
      refine ⟨_, rfl, by show 1 ≤ sizeLine; decide, fun t ht => ⟨_, rfl, S, ss, rfl, .inl ((s2.trans (s3.trans (same_new ht))).seq hSl), ?_⟩⟩
      have s4 : Same H2 (upd (upd H2 l (.tup acc)) t (.tup [.ref aF])) := s3.trans (same_new ht)
      have hl4 : (upd (upd H2 l (.tup acc)) t (.tup [.ref aF])) l = some (.tup acc) := by rw [upd_ne (ne_of_none upd_same ht), upd_same]
      have fin : ∀ (H5 : Hp) (x : Addr), Same (upd (upd H2 l (.tup acc)) t (.tup [.ref aF])) H5 → H5 x = some (.tup (List.replicate s.length (V.ref aF))) →
          [V.ref l, V.ref x].length ≤ sizeLine ∧ ∀ p, H5 p = none → Q (.ref p) (upd H5 p (.tup [.ref l, .ref x])) := by
        intro H5 x s5 hx
        refine ⟨by show 2 ≤ sizeLine; decide, fun p hp => q _ _ (((s2.trans s4).trans s5).trans (same_new hp)) ?_⟩
        have s6 := s5.trans (same_new (o := .tup [.ref l, .ref x]) hp)
        refine .tup (.of upd_same) (.cons (.tup (.of (s6 _ _ hl4)) (dpAll_same (s4.trans s6) _ _ hds)) (.cons (.tup (xs := List.replicate s.length (V.ref aF)) (.of (same_new hp _ _ hx)) ?_) .nil))
        clear hx
        generalize s = l
        induction l with
        | nil => exact .nil
        | cons _ _ ih => exact .cons (.tup (M.free _) (.cons (.str _) .nil)) ih
      refine ⟨t, ((ss.length : Nat) : Int), [.ref aF], rfl, rfl, .of upd_same, by simp, by omega, by omega, by show 1 ≤ 1000; decide, fun e => ?_, fun e p hp => ?_⟩
      · have e1 : s.length = 1 := by omega
        refine fin _ t (Same.refl _) ?_
        rw [upd_same, e1]
        rfl
      · refine fin _ p (same_new hp) ?_
        rw [upd_same, Int.toNat_natCast, hlen, List.flatten_replicate_singleton]
theorem ok_is_over {f : Addr} {fd : FuncData} {k : Nat} (F : Fun K "is_over" "is_over" s_is_over f fd) (B : Bt mg) (M : Cy K mg aF aR) : FnOk P w K mg base CX0 (k + 1) f fd ["yard"] (spOver K) := by
  refine F.ok sc_is_over (fun vs H Q E h => ?_) (fun cdv A outer s H vs Q E hr h => ?_)
  · obtain ⟨v, rd, ss, rfl, _⟩ := h
    rfl
  · obtain ⟨v, rd, ss, rfl, hP, h1, h2, q⟩ := h
    refine ⟨_, (pss_cons (ps_asg (pv 0) (pg_tup (by rfl) (pgs_cons (pg_name (i := 1) sc_is_over.nd rfl (by first | exact Or.inl rfl | exact Or.inr rfl)) (pgs_cons (pg_name (i := 2) sc_is_over.nd rfl (by first | exact Or.inl rfl | exact Or.inr rfl)) pgs_nil))))
      (pss_one (ps_ret (pe_callB (k_all K rfl) (by rfl) B.all_ (by decide +kernel) (pa_cons (pe_lc (own := [("state", 3)]) (g := gName 3) (tt := tYes) rfl sc_is_over.nd (k_piT K (pv 2)) (blkOk_by (own := [("state", 3)]) (N := N_is_over) (sc := defScope s_is_over) (by decide +kernel)) (fun _ _ _ _ _ => pg_name (i := 3) sc_is_over.nd rfl (Or.inl rfl)) (fun _ _ _ _ _ => pts_nil) (fun _ _ _ _ _ => (pe_cmpR (k_eqD K hr.units) (pv 3) (pe_glob (v := .ref aR) rfl M.RESTS rfl) (nomark _)))) pa_nil))))), ?_⟩
    obtain ⟨p, xs, rfl, hT, hA⟩ := dp_tup hP
    obtain ⟨vb, vS, rfl, hB, hS⟩ := dpAll2 hA
    obtain ⟨S, ys, rfl, hSl, hSs⟩ := dp_tup hS
    refine ⟨_, rfl, p, _, rfl, hT, rfl, _, _, rfl, _, _, rfl, rfl, ?_⟩
    refine ⟨_, rfl, S, rfl, ⟨_, hSl⟩, fun D hD => ?_⟩
    refine lcT_tup (K := K) (ds := ss.map fun d => .bool (PyData.eqv d (sTup "rests"))) hD hSl (tOnlyAll_iff.mpr fun d hd => ?_) (by rw [List.length_map]; omega) (by rw [hSs.len, List.length_map]) (fun _ => rfl) (fun j x d H1 hj hd s1 => ?_) (fun H2 acc s2 hacc hds => ?_)
    · obtain ⟨r, _, rfl⟩ := List.mem_map.mp hd
      rfl
    · obtain ⟨d', e1, e2⟩ := hSs.get2 hj
      rw [List.getElem?_map, e1] at hd
      cases hd
      intro Q hQ
      exact ⟨_, rfl, d', sTup "rests", dp_same s1 _ _ e2, .tup (M.rests _) (.cons (.str _) .nil), kin_shaped (h2 d' (List.mem_of_getElem? e1)) (by decide), by decide +kernel, hQ _ _ (Same.refl _) (.bl _)⟩
    · have ea : acc = (ss.map fun d => PyData.eqv d (sTup "rests")).map V.bl := by
        clear hacc
        generalize ss = l at hds ⊢
        induction l generalizing acc with
        | nil => cases hds; rfl
        | cons d l ih =>
          cases hds with
          | cons a b =>
            cases a
            rw [ih _ b]
            rfl
      subst ea
      refine ⟨D, _, rfl, .of hacc, ?_⟩
      have := q _ s2
      rw [List.all_map]
      exact this
end
end Y

namespace Y
open PySem PySem.Spec PyProof.Rows L2
abbrev s_law_alike : Stmt := topS 8
abbrev N_law_alike : List Str := ["_law_found", "_law_due", "_law_k"]
theorem sc_law_alike : FnScope N_law_alike ["_law_found", "_law_due"] (defScope s_law_alike) := ⟨rfl, rfl, rfl, by decide +kernel, rfl, by decide +kernel, by decide +kernel⟩
def spAlike (K : PySem.W.Frag) (n : Nat) : Sp := fun vs H Q _ => ∃ (v u : V) (d : PyData), vs = [v, u] ∧ Dp K H v d ∧ Dp K H u d ∧ kin n d = true ∧ ∀ H', Same H H' → Q (.bl true) H'
structure Ga (P : Program) (w : World) (K : PySem.W.Frag) (mg : Str → Option Value) (base : Heap) (n : Nat) (sp : Sp) : Prop where
  law_alike : Has P w K mg base CX0 n "_law_alike" ["_law_found", "_law_due"] sp
section
variable {P : Program} {w : World} {K : PySem.W.Frag} {mg : Str → Option Value} {base : Heap}
theorem alike_step {f : Addr} {fd : FuncData} {n : Nat} {spR : Sp} (F : Fun K "_law_alike" "_law_alike" s_law_alike f fd) (B : Bt mg) (G : Ga P w K mg base n spR) (hR : ∀ m, n = m + 1 → spR = spAlike K m) :
    FnOk P w K mg base CX0 (n + 1) f fd ["_law_found", "_law_due"] (spAlike K n) := by
  refine F.ok sc_law_alike (fun vs H Q E h => ?_) (fun cdv A outer s H vs Q E hr h => ?_)
  · obtain ⟨v, u, d, rfl, _⟩ := h
    rfl
  · obtain ⟨v, u, d, rfl, hv, hu, hk, q⟩ := h
    refine ⟨_, (pss_cons (ps_if (pt_val (pe_callB (k_isiT K) (by rfl) B.isinstance_ (by decide +kernel) (pa_cons (pv 1) (pa_cons (pe_tup (pa_cons (pe_bltn (v := .ty "tuple") rfl B.tuple_ (by decide +kernel) rfl) (pa_cons (pe_bltn (v := .ty "list") rfl B.list_ (by decide +kernel) rfl) pa_nil))) pa_nil))))
          (pss_cons (ps_if (PW.pt (pw_or (pt_not (pt_val (pe_callB (k_isiT K) (by rfl) B.isinstance_ (by decide +kernel) (pa_cons (pv 0) (pa_cons (pe_tup (pa_cons (pe_bltn (v := .ty "tuple") rfl B.tuple_ (by decide +kernel) rfl) (pa_cons (pe_bltn (v := .ty "list") rfl B.list_ (by decide +kernel) rfl) pa_nil))) pa_nil))))) (pw_or1 (pt_cmpR op_ne (pe_callB (k_isi K) (by rfl) B.isinstance_ (by decide +kernel) (pa_cons (pv 0) (pa_cons (pe_bltn (v := .ty "tuple") rfl B.tuple_ (by decide +kernel) rfl) pa_nil))) (pe_callB (k_isi K) (by rfl) B.isinstance_ (by decide +kernel) (pa_cons (pv 1) (pa_cons (pe_bltn (v := .ty "tuple") rfl B.tuple_ (by decide +kernel) rfl) pa_nil))) (nomark _)))))
              (pss_one (ps_ret pe_bl))
              pss_nil)
          (pss_cons (ps_if (pt_cmpR op_ne (pe_callB (k_len K) (by rfl) B.len_ PySem.boot_len (pa_cons (pv 0) pa_nil)) (pe_callB (k_len K) (by rfl) B.len_ PySem.boot_len (pa_cons (pv 1) pa_nil)) (nomark _))
              (pss_one (ps_ret pe_bl))
              pss_nil)
          (pss_one (ps_ret (pe_callB (k_all K rfl) (by rfl) B.all_ (by decide +kernel) (pa_cons (pe_lc (own := [("_law_k", 2)]) (g := gName 2) (tt := tYes) rfl sc_law_alike.nd (pi_range1 (by rfl) B.range_ (pa_cons (pe_callB (k_len K) (by rfl) B.len_ PySem.boot_len (pa_cons (pv 1) pa_nil)) pa_nil)) (blkOk_by (own := [("_law_k", 2)]) (N := N_law_alike) (sc := defScope s_law_alike) (by decide +kernel)) (fun _ _ _ _ _ => pg_name (i := 2) sc_law_alike.nd rfl (Or.inl rfl)) (fun _ _ _ _ _ => pts_nil) (fun _ _ _ _ _ => (pe_callH G.law_alike hr (by rfl) pass0 (pa_cons (pe_ix (k_ix K) (pv 0) (pv 2) (fun _ _ => rfl)) (pa_cons (pe_ix (k_ix K) (pv 1) (pv 2) (fun _ _ => rfl)) pa_nil))))) pa_nil))))))
          pss_nil)
      (pss_cons (ps_if (pt_val (pe_callB (k_isi K) (by rfl) B.isinstance_ (by decide +kernel) (pa_cons (pv 1) (pa_cons (pe_bltn (v := .ty "str") rfl B.str_ (by decide +kernel) rfl) pa_nil))))
          (pss_one (ps_ret (pe_and (pe_callB (k_isi K) (by rfl) B.isinstance_ (by decide +kernel) (pa_cons (pv 0) (pa_cons (pe_bltn (v := .ty "str") rfl B.str_ (by decide +kernel) rfl) pa_nil))) (pe_one (pe_cmpR (k_eqD K hr.units) (pv 0) (pv 1) (nomark _))))))
          pss_nil)
      (pss_cons (ps_if (pt_cmpR op_isN (pv 1) pe_non (nomark _))
          (pss_one (ps_ret (pe_cmpR op_isN (pv 0) pe_non (nomark _))))
          pss_nil)
      (pss_one (ps_ret (pe_and (pe_callB (k_isi K) (by rfl) B.isinstance_ (by decide +kernel) (pa_cons (pv 0) (pa_cons (pe_bltn (v := .ty "int") rfl B.int_ (by decide +kernel) rfl) pa_nil))) (pe_and (pe_not (pe_callB (k_isi K) (by rfl) B.isinstance_ (by decide +kernel) (pa_cons (pv 0) (pa_cons (pe_bltn (v := .ty "bool") rfl B.bool_ (by decide +kernel) rfl) pa_nil)))) (pe_one (pe_cmpR (k_eqD K hr.units) (pv 0) (pv 1) (nomark _)))))))))), ?_⟩
    refine seq_ifS (b := isTL d) (fun Q' q' => ev_isTL rfl hu hk _ fun H' s => ⟨_, rfl, q' H' s⟩) (fun e H1 s1 => ?_) (fun e H1 s1 => ?_)
    · -- lists and tuples
      obtain ⟨m, ds, rfl, hd, hkk, hln⟩ : ∃ (m : Nat) (ds : List PyData), n = m + 1 ∧ (d = .list ds ∨ d = .tuple ds) ∧ (∀ x ∈ ds, kin m x = true) ∧ ds.length ≤ 100000 := by
        cases d with
        | list ds =>
          cases n with
          | zero => simp [kin] at hk
          | succ m =>
            have q : ds.length ≤ 100000 ∧ ∀ d ∈ ds, kin m d = true := by simpa [kin] using hk
            exact ⟨m, ds, rfl, .inl rfl, q.2, q.1⟩
        | tuple ds =>
          cases n with
          | zero => simp [kin] at hk
          | succ m =>
            have q : ds.length ≤ 100000 ∧ ∀ d ∈ ds, kin m d = true := by simpa [kin] using hk
            exact ⟨m, ds, rfl, .inr rfl, q.2, q.1⟩
        | _ => simp [isTL] at e
      have ety : tyD d = tyD d := rfl
      refine seq_ifS (b := false) (fun Q' q' => ?_) (fun z => nomatch z) (fun _ H2 s2 => ?_)
      · refine ev_isTL rfl (dp_same s1 _ _ hv) hk _ fun H' s => ⟨_, rfl, ?_⟩
        rw [e]
        have sx := s1.trans s
        refine ev_is1 (c := "tuple") (.inl rfl) rfl (dp_same sx _ _ hv) hk (ev_is1 (c := "tuple") (.inl rfl) rfl (dp_same sx _ _ hu) hk ?_)
        refine ⟨rfl, _, rfl, ?_⟩
        rw [decide_eq_true (rfl : V.bl (decide (tyD d = "tuple")) = V.bl (decide (tyD d = "tuple")))]
        exact q' H' s
      have sv := s1.trans s2
      obtain ⟨a, xs, rfl, ha, hxs⟩ : ∃ a xs, v = .ref a ∧ (SqL K H2 a xs ∨ SqT K H2 a xs) ∧ DpAll K H2 xs ds := by
        have h := dp_same sv _ _ hv
        rcases hd with rfl | rfl
        · obtain ⟨a, xs, e1, e2, e3⟩ := dp_list h
          exact ⟨a, xs, e1, .inl e2, e3⟩
        · obtain ⟨a, xs, e1, e2, e3⟩ := dp_tup h
          exact ⟨a, xs, e1, .inr e2, e3⟩
      obtain ⟨b, ys, rfl, hb, hys⟩ : ∃ a xs, u = .ref a ∧ (SqL K H2 a xs ∨ SqT K H2 a xs) ∧ DpAll K H2 xs ds := by
        have h := dp_same sv _ _ hu
        rcases hd with rfl | rfl
        · obtain ⟨a, xs, e1, e2, e3⟩ := dp_list h
          exact ⟨a, xs, e1, .inl e2, e3⟩
        · obtain ⟨a, xs, e1, e2, e3⟩ := dp_tup h
          exact ⟨a, xs, e1, .inr e2, e3⟩
      have lx := hxs.len
      have ly := hys.len
      refine seq_ifS (b := false) (fun Q' q' => ?_) (fun z => nomatch z) (fun _ H3 s3 => ?_)
      · refine ⟨_, rfl, a, xs, rfl, ha, _, rfl, b, ys, rfl, hb, rfl, _, rfl, ?_⟩
        rw [lx, ly, decide_eq_true rfl]
        exact q' _ (Same.refl _)
      have hb3 : SqL K H3 b ys ∨ SqT K H3 b ys := hb.imp (fun h => s3.seq h) (fun h => Same.tup s3 h)
      refine ⟨_, rfl, b, ys, rfl, hb3, _, rfl, by omega, by omega, fun D hD => ?_⟩
      refine lcT_range (K := K) (ds := List.replicate ds.length (.bool true)) hD (tOnlyAll_iff.mpr fun d hd => ?_) (by rw [List.length_replicate]; omega) (by rw [List.length_replicate]; omega) (fun _ => rfl) (fun j d H4 hd s4 => ?_) (fun H4 acc s4 hacc hds => ?_)
      · rw [(List.mem_replicate.mp hd).2]
        rfl
      · rw [(List.mem_replicate.mp (List.mem_of_getElem? hd)).2]
        have hj : j < ds.length := by
          have := (List.getElem?_eq_some_iff.mp hd).1
          rwa [List.length_replicate] at this
        have s34 := s3.trans s4
        obtain ⟨v1, ev1, hv1⟩ := (dpAll_same s34 _ _ hxs).get j (List.getElem?_eq_getElem hj)
        obtain ⟨u1, eu1, hu1⟩ := (dpAll_same s34 _ _ hys).get j (List.getElem?_eq_getElem hj)
        intro Q' q'
        refine ⟨_, rfl, _, rfl, ix_read (ha.imp (fun h => s34.seq h) (fun h => Same.tup s34 h)) (Int.zero_add _) ev1 ⟨_, rfl, _, rfl, ix_read (hb.imp (fun h => s34.seq h) (fun h => Same.tup s34 h)) (Int.zero_add _) eu1 ?_⟩⟩
        rw [hR m rfl]
        exact ⟨v1, u1, ds[j], rfl, hv1, hu1, hkk _ (List.getElem_mem hj), fun H' s => q' _ H' s (.bl true)⟩
      · have ea : acc = (List.replicate ds.length true).map V.bl := by
          clear hacc
          generalize ds.length = l at hds ⊢
          induction l generalizing acc with
          | zero => cases hds; rfl
          | succ l ih =>
            cases hds with
            | cons a b =>
              cases a
              rw [ih _ b]
              rfl
        subst ea
        refine ⟨D, _, rfl, .of hacc, ?_⟩
        rw [show (List.replicate ds.length true).all id = true by simp]
        exact q _ (sv.trans (s3.trans s4))
    have hv1 := dp_same s1 _ _ hv
    have hu1 := dp_same s1 _ _ hu
    cases d with
    | list ds => simp [isTL] at e
    | tuple ds => simp [isTL] at e
    | dict ds => cases hu
    | bool b => cases n <;> simp [kin] at hk
    | none =>
      obtain rfl := dp_non hv
      obtain rfl := dp_non hu
      refine seq_if (b := false) (fun Q' q' => ev_is1 (c := "str") (.inr (.inl rfl)) rfl hu1 hk ⟨_, rfl, q'⟩) (fun z => nomatch z) (fun _ => ?_)
      refine seq_if (b := true) (fun Q' q' => ⟨_, rfl, rfl, _, rfl, q'⟩) (fun _ => ?_) (fun z => nomatch z)
      exact ⟨_, rfl, rfl, q _ s1⟩
    | str x =>
      obtain rfl := dp_str hv
      obtain rfl := dp_str hu
      refine seq_if (b := true) (fun Q' q' => ev_is1 (c := "str") (.inr (.inl rfl)) rfl hu1 hk ⟨_, rfl, q'⟩) (fun _ => ?_) (fun z => nomatch z)
      have hk0 : kin 0 (.str x) = true := by cases n <;> simpa [kin] using hk
      refine ev_is1 (c := "str") (.inr (.inl rfl)) rfl hv1 hk ⟨_, rfl, ?_⟩
      refine ⟨_, rfl, _, rfl, .str x, .str x, .str x, .str x, kin_shaped hk0 (by decide), kin_shaped hk0 (by decide), ?_⟩
      rw [kin_eqv hk0]
      exact q _ s1
    | int i =>
      obtain rfl := dp_int hv
      obtain rfl := dp_int hu
      refine seq_if (b := false) (fun Q' q' => ev_is1 (c := "str") (.inr (.inl rfl)) rfl hu1 hk ⟨_, rfl, q'⟩) (fun z => nomatch z) (fun _ => ?_)
      refine seq_if (b := false) (fun Q' q' => ⟨_, rfl, rfl, _, rfl, q'⟩) (fun z => nomatch z) (fun _ => ?_)
      have hk0 : kin 0 (.int i) = true := rfl
      refine ev_is1 (c := "int") (.inr (.inr (.inl rfl))) rfl hv1 hk ⟨_, rfl, ?_⟩
      refine ev_is1 (c := "bool") (.inr (.inr (.inr (.inl rfl)))) rfl hv1 hk ⟨_, rfl, _, rfl, ?_⟩
      refine ⟨_, rfl, _, rfl, .int i, .int i, .int i, .int i, kin_shaped hk0 (by decide), kin_shaped hk0 (by decide), ?_⟩
      rw [kin_eqv hk0]
      exact q _ s1
theorem has_alike (F : FunAt K mg "_law_alike" s_law_alike ["_law_found", "_law_due"]) (B : Bt mg) : ∀ n, Has P w K mg base CX0 (n + 1) "_law_alike" ["_law_found", "_law_due"] (spAlike K n)
  | 0 => F.has fun f fd F' => alike_step (spR := fun _ _ _ _ => False) F' B ⟨F.has fun f fd _ => FnOk.never⟩ fun m e => nomatch e
  | n + 1 => F.has fun f fd F' => alike_step F' B ⟨has_alike F B n⟩ fun m e => by cases e; rfl
end
end Y

namespace Y
open PySem PySem.Spec PyProof.Rows L2
abbrev s_law : Stmt := topS 9
abbrev N_law : List Str := ["_law_script", "_law_plan", "_law_given", "_law_found", "_law_rows", "_law_due", "_law_row", "_law_empty"]
theorem sc_law : FnScope N_law ["_law_script"] (defScope s_law) := ⟨rfl, rfl, rfl, by decide +kernel, rfl, by decide +kernel, by decide +kernel⟩
def spLaw (K : PySem.W.Frag) : Sp := fun vs H Q _ => ∃ (a : Addr) (ns : List Int), vs = [.ref a] ∧ SqL K H a (ns.map V.int) ∧ ns.length ≤ 63 ∧ ∀ H', Q (.bl true) H'
structure Gl3 (P : Program) (w : World) (K : PySem.W.Frag) (mg : Str → Option Value) (base : Heap) : Prop where
  law_plan_by : Has P w K mg base CX0 2 "_law_plan_by" ["_law_script", "_law_first", "_law_most"] (spPlan K)
  started : Has P w K mg base CX0 1 "started" ["plan"] (spStarted K)
  is_over : Has P w K mg base CX0 1 "is_over" ["yard"] (spOver K)
  law_alike : Has P w K mg base CX0 5 "_law_alike" ["_law_found", "_law_due"] (spAlike K 4)
theorem tOnly_yard0 (s : List (List Int)) : tOnly (yard0 s) = true := by
  have h1 : tOnlyAll (s.map row0) = true := tOnlyAll_iff.mpr fun d hd => by
    obtain ⟨r, _, rfl⟩ := List.mem_map.mp hd
    exact tOnly_row0 r
  have h2 : tOnlyAll (s.map fun _ => sTup "free") = true := tOnlyAll_iff.mpr fun d hd => by
    obtain ⟨r, _, rfl⟩ := List.mem_map.mp hd
    rfl
  show (tOnlyAll (s.map row0) && (tOnlyAll (s.map fun _ => sTup "free") && true)) = true
  rw [h1, h2]
  rfl
theorem kin_mono : ∀ {n m : Nat} {d : PyData}, n ≤ m → kin n d = true → kin m d = true
  | n, m, .none, h, k => by cases m <;> rfl
  | n, m, .int _, h, k => by cases m <;> rfl
  | n, m, .str x, h, k => by cases m <;> cases n <;> simpa [kin] using k
  | n, m, .bool _, h, k => by cases n <;> simp [kin] at k
  | n, m, .dict _, h, k => by cases n <;> simp [kin] at k
  | 0, m, .list ds, h, k => by simp [kin] at k
  | 0, m, .tuple ds, h, k => by simp [kin] at k
  | n + 1, 0, _, h, k => by omega
  | n + 1, m + 1, .list ds, h, k => by
    have q : ds.length ≤ 100000 ∧ ∀ d ∈ ds, kin n d = true := by simpa [kin] using k
    have r : ds.length ≤ 100000 ∧ ∀ d ∈ ds, kin m d = true := ⟨q.1, fun d hd => kin_mono (by omega) (q.2 d hd)⟩
    simpa [kin] using r
  | n + 1, m + 1, .tuple ds, h, k => by
    have q : ds.length ≤ 100000 ∧ ∀ d ∈ ds, kin n d = true := by simpa [kin] using k
    have r : ds.length ≤ 100000 ∧ ∀ d ∈ ds, kin m d = true := ⟨q.1, fun d hd => kin_mono (by omega) (q.2 d hd)⟩
    simpa [kin] using r
theorem kin_tup {n : Nat} {ds : List PyData} (h1 : ds.length ≤ 100000) (h2 : ∀ d ∈ ds, kin n d = true) : kin (n + 1) (.tuple ds) = true := by
  have r : ds.length ≤ 100000 ∧ ∀ d ∈ ds, kin n d = true := ⟨h1, h2⟩
  simpa [kin] using r
theorem kin_lst {n : Nat} {ds : List PyData} (h1 : ds.length ≤ 100000) (h2 : ∀ d ∈ ds, kin n d = true) : kin (n + 1) (.list ds) = true := by
  have r : ds.length ≤ 100000 ∧ ∀ d ∈ ds, kin n d = true := ⟨h1, h2⟩
  simpa [kin] using r
theorem kin_intsT {r : List Int} (h : r.length ≤ 100000) : kin 1 (intsT r) = true := kin_tup (by rw [List.length_map]; exact h) fun d hd => by
  obtain ⟨i, _, rfl⟩ := List.mem_map.mp hd
  rfl
theorem kin_intsL {r : List Int} (h : r.length ≤ 100000) : kin 1 (intsL r) = true := kin_lst (by rw [List.length_map]; exact h) fun d hd => by
  obtain ⟨i, _, rfl⟩ := List.mem_map.mp hd
  rfl
theorem kin_yard0 {s : List (List Int)} (h1 : s.length ≤ 1000) (h2 : ∀ r ∈ s, r.length ≤ 1000) : kin 4 (yard0 s) = true := by
  refine kin_tup (by simp) fun d hd => ?_
  rcases List.mem_cons.mp hd with rfl | hd
  · refine kin_tup (by rw [List.length_map]; omega) fun d hd => ?_
    obtain ⟨r, hr, rfl⟩ := List.mem_map.mp hd
    refine kin_tup (by simp) fun d hd => ?_
    have hr2 := h2 r hr
    rcases List.mem_cons.mp hd with rfl | hd
    · rfl
    · rcases List.mem_cons.mp hd with rfl | hd
      · rfl
      · rcases List.mem_cons.mp hd with rfl | hd
        · exact kin_intsT (by omega)
        · cases hd
  · rcases List.mem_cons.mp hd with rfl | hd
    · refine kin_tup (by rw [List.length_map]; omega) fun d hd => ?_
      obtain ⟨r, hr, rfl⟩ := List.mem_map.mp hd
      exact by decide +kernel
    · cases hd
theorem kin_plan {b s : List (List Int)} (h1 : b.length ≤ 1000) (h2 : s.length ≤ 1000) (h3 : ∀ r ∈ b, r.length ≤ 1000) (h4 : ∀ r ∈ s, r.length ≤ 1000) : kin 3 (planD b s) = true := by
  refine kin_tup (by simp) fun d hd => ?_
  rcases List.mem_cons.mp hd with rfl | hd
  · refine kin_lst (by rw [List.length_map]; omega) fun d hd => ?_
    obtain ⟨r, hr, rfl⟩ := List.mem_map.mp hd
    have := h3 r hr
    exact kin_intsL (by omega)
  · rcases List.mem_cons.mp hd with rfl | hd
    · refine kin_lst (by rw [List.length_map]; omega) fun d hd => ?_
      obtain ⟨r, hr, rfl⟩ := List.mem_map.mp hd
      have := h4 r hr
      exact kin_intsL (by omega)
    · cases hd
section
variable {P : Program} {w : World} {K : PySem.W.Frag} {mg : Str → Option Value} {base : Heap}
theorem good_rows {most : Nat} {b s : List (List Nat)} (g : Plan.Good most b s) : (∀ r ∈ Plan.toI b, r.length ≤ most) ∧ ∀ r ∈ Plan.toI s, r.length ≤ most := by
  have n := List.nodup_append.mp g.once
  refine ⟨fun r hr => ?_, fun r hr => ?_⟩
  · obtain ⟨r', hr', rfl⟩ := List.mem_map.mp hr
    rw [List.length_map]
    refine Nat.le_trans (Plan.rows_len n.1 (fun c hc => ?_) r' hr') g.size
    obtain ⟨r2, h2, hc2⟩ := List.mem_flatten.mp hc
    obtain ⟨t, ht, e⟩ := List.getElem_of_mem h2
    exact (g.up t r2 (by rw [List.getElem?_eq_getElem ht, e]) c hc2).2
  · obtain ⟨r', hr', rfl⟩ := List.mem_map.mp hr
    rw [List.length_map]
    refine Nat.le_trans (Plan.rows_len n.2.1 (fun c hc => ?_) r' hr') g.size
    obtain ⟨r2, h2, hc2⟩ := List.mem_flatten.mp hc
    exact g.inS r2 h2 c hc2
theorem ok_law {f : Addr} {fd : FuncData} (F : Fun K "law" "law" s_law f fd) (B : Bt mg) (G : Gl3 P w K mg base) : FnOk P w K mg base CX0 7 f fd ["_law_script"] (spLaw K) := by
  refine F.ok sc_law (fun vs H Q E h => ?_) (fun cdv A outer s H vs Q E hr h => ?_)
  · obtain ⟨a, ns, rfl, _⟩ := h
    rfl
  · obtain ⟨a, ns, rfl, hS, hn, q⟩ := h
    refine ⟨_, (pss_cons (ps_asg (pe_callH G.law_plan_by hr (by rfl) pass0 (pa_cons (pv 0) (pa_cons pe_int (pa_cons pe_int pa_nil)))) (pg_name (i := 1) sc_law.nd rfl (by first | exact Or.inl rfl | exact Or.inr rfl)))
      (pss_cons (ps_asg (pe_tup (pa_cons (pe_lc (own := [("_law_row", 6)]) (g := gName 6) (tt := tYes) rfl sc_law.nd (k_piL K (pe_ix (k_ixT K) (pv 1) pe_int (fun _ _ => rfl))) (blkOk_by (own := [("_law_row", 6)]) (N := N_law) (sc := defScope s_law) (by decide +kernel)) (fun _ _ _ _ _ => pg_name (i := 6) sc_law.nd rfl (Or.inl rfl)) (fun _ _ _ _ _ => pts_nil) (fun _ _ _ _ _ => (pe_callTy (k_list_of K) (by rfl) B.list_ (by decide +kernel) (pa_cons (pv 6) pa_nil)))) (pa_cons (pe_lc (own := [("_law_row", 6)]) (g := gName 6) (tt := tYes) rfl sc_law.nd (k_piL K (pe_ix (k_ixT K) (pv 1) pe_int (fun _ _ => rfl))) (blkOk_by (own := [("_law_row", 6)]) (N := N_law) (sc := defScope s_law) (by decide +kernel)) (fun _ _ _ _ _ => pg_name (i := 6) sc_law.nd rfl (Or.inl rfl)) (fun _ _ _ _ _ => pts_nil) (fun _ _ _ _ _ => (pe_callTy (k_list_of K) (by rfl) B.list_ (by decide +kernel) (pa_cons (pv 6) pa_nil)))) pa_nil))) (pg_name (i := 2) sc_law.nd rfl (by first | exact Or.inl rfl | exact Or.inr rfl)))
      (pss_cons (ps_asg (pe_callH G.started hr (by rfl) pass0 (pa_cons (pv 2) pa_nil)) (pg_name (i := 3) sc_law.nd rfl (by first | exact Or.inl rfl | exact Or.inr rfl)))
      (pss_cons (ps_asg (pe_callTy (k_tuple_of K) (by rfl) B.tuple_ (by decide +kernel) (pa_cons (pe_lc (own := [("_law_row", 6)]) (g := gName 6) (tt := tYes) rfl sc_law.nd (k_piL K (pe_ix (k_ixT K) (pv 1) pe_int (fun _ _ => rfl))) (blkOk_by (own := [("_law_row", 6)]) (N := N_law) (sc := defScope s_law) (by decide +kernel)) (fun _ _ _ _ _ => pg_name (i := 6) sc_law.nd rfl (Or.inl rfl)) (fun _ _ _ _ _ => pts_nil) (fun _ _ _ _ _ => (pe_tup (pa_cons pe_int (pa_cons (pe_callB (k_len K) (by rfl) B.len_ PySem.boot_len (pa_cons (pv 6) pa_nil)) (pa_cons (pe_callTy (k_tuple_of K) (by rfl) B.tuple_ (by decide +kernel) (pa_cons (pv 6) pa_nil)) pa_nil)))))) pa_nil)) (pg_name (i := 4) sc_law.nd rfl (by first | exact Or.inl rfl | exact Or.inr rfl)))
      (pss_cons (ps_asg (pe_tup (pa_cons (pv 4) (pa_cons (pe_callTy (k_tuple_of K) (by rfl) B.tuple_ (by decide +kernel) (pa_cons (pe_lc (own := [("_law_row", 6)]) (g := gName 6) (tt := tYes) rfl sc_law.nd (k_piL K (pe_ix (k_ixT K) (pv 1) pe_int (fun _ _ => rfl))) (blkOk_by (own := [("_law_row", 6)]) (N := N_law) (sc := defScope s_law) (by decide +kernel)) (fun _ _ _ _ _ => pg_name (i := 6) sc_law.nd rfl (Or.inl rfl)) (fun _ _ _ _ _ => pts_nil) (fun _ _ _ _ _ => (pe_tup (pa_cons pe_str pa_nil)))) pa_nil)) pa_nil))) (pg_name (i := 5) sc_law.nd rfl (by first | exact Or.inl rfl | exact Or.inr rfl)))
      (pss_cons (ps_if (PW.pt (pw_or (pt_not (pt_val (pe_callH G.law_alike hr (by rfl) pass0 (pa_cons (pv 3) (pa_cons (pv 5) pa_nil))))) (pw_or (pt_cmpR (k_neD K hr.units) (pv 2) (pv 1) (nomark _)) (pw_or1 (pt_cmpR op_notBl (pe_callH G.is_over hr (by rfl) pass0 (pa_cons (pv 3) pa_nil)) pe_bl (nomark _))))))
          (pss_one (ps_ret pe_bl))
          pss_nil)
      (pss_cons (ps_for PassesOwn.never rfl (k_piL K (pe_ix (k_ixT K) (pv 2) pe_int (fun _ _ => rfl))) (pg_name (i := 6) sc_law.nd rfl (by first | exact Or.inl rfl | exact Or.inr rfl))
          (pss_one (ps_expr (pe_bm0 PySem.F.plainAttrs_list PySem.F.slot_list_clear PySem.F.type_list_clear mt_clear (pv 6)))))
      (pss_cons (ps_asg (pe_callTy (k_tuple_of K) (by rfl) B.tuple_ (by decide +kernel) (pa_cons (pe_lc (own := [("_law_row", 6)]) (g := gName 6) (tt := tYes) rfl sc_law.nd (k_piL K (pe_ix (k_ixT K) (pv 1) pe_int (fun _ _ => rfl))) (blkOk_by (own := [("_law_row", 6)]) (N := N_law) (sc := defScope s_law) (by decide +kernel)) (fun _ _ _ _ _ => pg_name (i := 6) sc_law.nd rfl (Or.inl rfl)) (fun _ _ _ _ _ => pts_nil) (fun _ _ _ _ _ => (pe_tup (pa_cons pe_int (pa_cons pe_int (pa_cons (pe_tup pa_nil) pa_nil)))))) pa_nil)) (pg_name (i := 7) sc_law.nd rfl (by first | exact Or.inl rfl | exact Or.inr rfl)))
      (pss_one (ps_ret (pe_and (pe_callH G.law_alike hr (by rfl) pass0 (pa_cons (pv 3) (pa_cons (pv 5) pa_nil))) (pe_one (pe_callH G.law_alike hr (by rfl) pass0 (pa_cons (pe_callH G.started hr (by rfl) pass0 (pa_cons (pv 2) pa_nil)) (pa_cons (pe_tup (pa_cons (pv 7) (pa_cons (pe_ix (k_ixT K) (pv 5) pe_int (fun _ _ => rfl)) pa_nil))) pa_nil))))))))))))))), ?_⟩
    -- the plan
    refine seqI ?_
    refine ⟨_, rfl, a, ns, 0, 40, rfl, hS, by decide, by decide, fun H1 v b s g s1 hv => ?_⟩
    have gr := good_rows g
    have lb := g.size
    have l1 := g.crew1
    have l2 := g.crew2
    have lS : (Plan.toI s).length = s.length := Plan.toI_len s
    have lB : (Plan.toI b).length = b.length := Plan.toI_len b
    have k3 : kin 3 (planD (Plan.toI b) (Plan.toI s)) = true := kin_plan (by omega) (by omega) (fun r hr => by have := gr.1 r hr; omega) (fun r hr => by have := gr.2 r hr; omega)
    obtain ⟨T, xs, rfl, hT1, hA1⟩ := dp_tup hv
    obtain ⟨vB, vS, rfl, hvB, hvS⟩ := dpAll2 hA1
    obtain ⟨S0, ys, rfl, hS11, hS21⟩ := dp_list hvS
    have ly : ys.length = s.length := by rw [hS21.len, List.length_map, lS]
    -- given
    refine seqI ?_
    refine given_read rfl hv (by omega) (by omega) (fun _ => rfl) (fun _ => rfl) fun Gv Bd Sd bs ss H2 m nG hG tG => ?_
    -- found
    refine seqI ?_
    refine ⟨_, rfl, .ref Gv, Plan.toI b, Plan.toI s, rfl, m.dp (.of tG), by omega, by omega, fun r hr => by have := gr.2 r hr; omega, fun H3 vf s3 hf => ?_⟩
    have hT := Same.tup m.same hT1
    have hS1 := m.same.seq hS11
    have hS2 := dpAll_same m.same _ _ hS21
    have hv2 : Dp K H2 (.ref T) (planD (Plan.toI b) (Plan.toI s)) := dp_same m.same _ _ hv
    have hsz : (Plan.toI s).length < 1000000 := by omega
    have tr0 : tOnlyAll ((Plan.toI s).map row0) = true := tOnlyAll_iff.mpr fun d hd => by
      obtain ⟨r, _, rfl⟩ := List.mem_map.mp hd
      exact tOnly_row0 r
    have trF : tOnlyAll ((Plan.toI s).map fun _ => sTup "free") = true := tOnlyAll_iff.mpr fun d hd => by
      obtain ⟨r, _, rfl⟩ := List.mem_map.mp hd
      rfl
    have trE : tOnlyAll ((Plan.toI s).map fun _ => row0 []) = true := tOnlyAll_iff.mpr fun d hd => by
      obtain ⟨r, _, rfl⟩ := List.mem_map.mp hd
      exact tOnly_row0 []
    -- rows
    refine seqI ?_
    refine tupcomp_read (K := K) (ds := (Plan.toI s).map row0) (fun Q' q' => ⟨_, rfl, T, _, 1, _, rfl, rfl, Same.tup s3 hT, atI_nat (j := 1) rfl, q'⟩) (s3.seq hS1) tr0 (by rw [List.length_map]; exact hsz) (by rw [ly, List.length_map, lS]) (fun _ => rfl) (fun j x d H4 hj hd s4 => ?_) fun vr H4 s4 hvr => ?_
    · obtain ⟨r, a, er, rfl, hr1⟩ := rows_get hS2 hj
      rw [List.getElem?_map, er] at hd
      cases hd
      exact row_read (a := a) rfl ((s3.trans s4).seq hr1)
    -- due
    have s34 := s3.trans s4
    refine seqI (tup_i (cons_i ⟨_, rfl, ?_⟩))
    refine cons_i (tupcomp_read (K := K) (ds := (Plan.toI s).map fun _ => sTup "free") (fun Q' q' => ⟨_, rfl, T, _, 1, _, rfl, rfl, Same.tup s34 hT, atI_nat (j := 1) rfl, q'⟩) (s34.seq hS1) trF (by rw [List.length_map]; exact hsz) (by rw [ly, List.length_map, lS]) (fun _ => rfl) (fun j x d H5 hj hd s5 => ?_) fun vfr H5 s5 hvfr => ?_)
    · obtain ⟨r, a, er, rfl, hr1⟩ := rows_get hS2 hj
      rw [List.getElem?_map, er] at hd
      cases hd
      intro Q' q'
      exact ⟨by show 1 ≤ sizeLine; decide, fun t ht => q' _ _ (same_new ht) (.tup (.of upd_same) (.cons (.str _) .nil))⟩
    refine ⟨by show 2 ≤ sizeLine; decide, fun du hdu => ?_⟩
    have s6 := same_new (o := .tup [vr, vfr]) hdu
    generalize hH6 : upd H5 du (.tup [vr, vfr]) = H6 at s6 ⊢
    have hdue : Dp K H6 (.ref du) (yard0 (Plan.toI s)) := .tup (.of (by rw [← hH6, upd_same])) (.cons (dp_same (s5.trans s6) _ _ hvr) (.cons (dp_same s6 _ _ hvfr) .nil))
    have s36 : Same H3 H6 := (s4.trans s5).trans s6
    have hf6 : Dp K H6 vf (yard0 (Plan.toI s)) := dp_same s36 _ _ hf
    have m6 : Mkp H1 H6 Bd Sd bs ss b s := m.later (s3.trans s36)
    have tG6 : H6 Gv = some (.tup [.ref Bd, .ref Sd]) := s36 _ _ (s3 _ _ tG)
    have hv6 : Dp K H6 (.ref T) (planD (Plan.toI b) (Plan.toI s)) := dp_same (s3.trans s36) _ _ hv2
    have ky : kin 4 (yard0 (Plan.toI s)) = true := kin_yard0 (by omega) (fun r hr => by have := gr.2 r hr; omega)
    have hov : (((Plan.toI s).map fun _ => sTup "free").all fun d => PyData.eqv d (sTup "rests")) = false := by
      have e : PyData.eqv (sTup "free") (sTup "rests") = false := by decide +kernel
      cases hh : Plan.toI s with
      | nil => rw [hh] at lS; simp at lS; omega
      | cons r l => rw [List.map_cons, List.all_cons, e]; rfl
    clear hH6
    -- the first test
    refine seq_ifS (b := false) (fun Q' q' => ?_) (fun z => nomatch z) (fun _ H7 s7 => ?_)
    · refine ⟨_, rfl, _, rfl, vf, .ref du, _, rfl, hf6, hdue, ky, fun H7 s7 => ⟨true, rfl, ?_⟩⟩
      refine ⟨_, rfl, _, rfl, _, _, (m6.later s7).dp (.of (s7 _ _ tG6)), dp_same s7 _ _ hv6, kin_shaped k3 (by decide), kin_shaped k3 (by decide), _, rfl, ?_⟩
      rw [kin_eqv k3]
      refine ⟨_, rfl, vf, _, _, rfl, dp_same s7 _ _ hf6, by rw [List.length_map]; omega, fun d hd => ?_, fun H8 s8 => ?_⟩
      · obtain ⟨r, _, rfl⟩ := List.mem_map.mp hd
        exact by decide +kernel
      · rw [hov]
        exact ⟨_, _, rfl, rfl, _, rfl, q' H8 (s7.trans s8)⟩
    have m7 := m6.later s7
    have tG7 := s7 _ _ tG6
    have hf7 := dp_same s7 _ _ hf6
    have hdue7 := dp_same s7 _ _ hdue
    have s17 : Same H1 H7 := m7.same
    -- the rows are cleared
    refine ⟨_, rfl, Gv, _, 1, _, rfl, rfl, .of tG7, atI_nat (j := 1) rfl, Sd, rfl, ⟨_, .of m7.topS⟩, for_list (K := K) (a := Sd) (xs := ss.map V.ref) (fun i σ H' => ∃ (s' : List (List Nat)) (v6 : Option V),
      σ = [some (.ref a), some (.ref T), some (.ref Gv), some vf, some vr, some (.ref du), v6, none] ∧ Mkp H1 H' Bd Sd bs ss b s' ∧ s'.length = s.length ∧ (∀ j, j < i → j < s.length → s'[j]? = some []) ∧ KeepT H7 H')
      ⟨s, none, rfl, m7, rfl, fun j hj => by omega, KeepT.refl _⟩ (fun i σ H' _ ⟨_, _, _, m, _⟩ => .of m.topS) ?_ ?_⟩
    · rintro i x σ H8 hx ⟨s', v6, rfl, m8, ls', hcl, kt⟩
      rw [List.getElem?_map] at hx
      cases hp : ss[i]? with
      | none => rw [hp] at hx; cases hx
      | some p =>
        rw [hp] at hx
        cases hx
        have hi : i < s'.length := by
          have h1 := m8.lenS
          have h2 := (List.getElem?_eq_some_iff.mp hp).1
          omega
        obtain ⟨p', hp1, hp2⟩ := m8.getS (List.getElem?_eq_getElem hi)
        rw [hp] at hp1
        cases hp1
        refine ⟨_, rfl, .inl ⟨rfl, _, .of hp2⟩, p, _, rfl, rfl, hp2, ?_⟩
        refine ⟨s'.set i [], _, rfl, m8.setS (r' := []) hp, by rw [List.length_set]; exact ls', fun j hj hj2 => ?_, kt.upd hp2⟩
        by_cases e : j = i
        · subst e
          rw [List.getElem?_set_self hi]
        · rw [List.getElem?_set_ne (fun z => e z.symm)]
          exact hcl j (by omega) hj2
    rintro σ H8 ⟨s', v6, rfl, m8, ls', hcl, kt⟩
    have es' : s' = List.replicate s.length [] := by
      refine List.ext_getElem? fun j => ?_
      by_cases hj : j < s.length
      · rw [hcl j (by rw [List.length_map, m8.lenS, ls']; exact hj) hj, List.getElem?_replicate, if_pos hj]
      · rw [List.getElem?_eq_none (by omega), List.getElem?_eq_none (by rw [List.length_replicate]; omega)]
    subst es'
    have ty := tOnly_yard0 (Plan.toI s)
    have hf8 := dp_keep kt _ _ ty hf7
    have hdue8 := dp_keep kt _ _ ty hdue7
    have tG8 : SqT K H8 Gv [.ref Bd, .ref Sd] := kt.tup (.of tG7)
    have s18 : Same H1 H8 := m8.same
    -- the empty rows
    refine nxi (seqI ?_)
    refine tupcomp_read (K := K) (ds := (Plan.toI s).map fun _ => row0 []) (fun Q' q' => ⟨_, rfl, T, _, 1, _, rfl, rfl, Same.tup s18 hT1, atI_nat (j := 1) rfl, q'⟩) (s18.seq hS11) trE (by rw [List.length_map]; exact hsz) (by rw [ly, List.length_map, lS]) (fun _ => rfl) (fun j x d H9 hj hd s9 => ?_) fun ve H9 s9 hve => ?_
    · obtain ⟨r, a, er, rfl, hr1⟩ := rows_get hS21 hj
      rw [List.getElem?_map, er] at hd
      cases hd
      intro Q' q'
      refine ⟨Nat.zero_le _, fun t ht => ⟨by show 3 ≤ sizeLine; decide, fun u hu => q' _ _ ((same_new ht).trans (same_new hu)) ?_⟩⟩
      exact .tup (.of upd_same) (.cons (.int 0) (.cons (.int 0) (.cons (.tup (.of (same_new hu _ _ upd_same)) .nil) .nil)))
    -- the end
    have hf9 := dp_same s9 _ _ hf8
    have hdue9 := dp_same s9 _ _ hdue8
    refine ⟨_, rfl, _, rfl, vf, .ref du, _, rfl, hf9, hdue9, ky, fun H10 s10 => ⟨true, rfl, ?_⟩⟩
    have s810 := s9.trans s10
    have lr : (Plan.toI (List.replicate s.length [])).length = s.length := by rw [Plan.toI_len, List.length_replicate]
    have hrep : ∀ r ∈ Plan.toI (List.replicate s.length []), r = [] := fun r hr => by
      obtain ⟨r', hr', rfl⟩ := List.mem_map.mp hr
      rw [(List.mem_replicate.mp hr').2]
      rfl
    refine ⟨_, rfl, .ref Gv, Plan.toI b, Plan.toI (List.replicate s.length []), rfl, (m8.later s810).dp (Same.tup s810 tG8), by omega, by omega, fun r hr => by rw [hrep r hr]; exact Nat.zero_le _, fun H11 vf2 s11 hf2 => ?_⟩
    -- due[1]
    obtain ⟨du', xd, ed, hd1, hd2⟩ := dp_tup (dp_same (s10.trans s11) _ _ hdue9)
    cases ed
    obtain ⟨vr', vfr', rfl, hr', hfr'⟩ := dpAll2 hd2
    refine ⟨_, rfl, _, rfl, du, _, 1, _, rfl, rfl, hd1, atI_nat (j := 1) rfl, by show 2 ≤ sizeLine; decide, fun p hp => ?_⟩
    have s12 := same_new (o := .tup [ve, vfr']) hp
    have kye : kin 4 (yard0 (Plan.toI (List.replicate s.length []))) = true := kin_yard0 (by omega) (fun r hr => by rw [hrep r hr]; exact Nat.zero_le _)
    refine ⟨vf2, .ref p, _, rfl, dp_same s12 _ _ hf2, ?_, kye, fun H12 _ => q H12⟩
    have e1 : yard0 (Plan.toI (List.replicate s.length [])) = .tuple [.tuple ((Plan.toI s).map fun _ => row0 []), .tuple ((Plan.toI s).map fun _ => sTup "free")] := by
      unfold yard0 Plan.toI
      simp only [List.map_replicate, List.map_map, List.map_nil]
      congr 2
      · congr 1
        exact (List.map_const' ..).symm
      · congr 2
        exact (List.map_const' ..).symm
    rw [e1]
    exact .tup (.of upd_same) (.cons (dp_same ((s10.trans s11).trans s12) _ _ hve) (.cons (dp_same s12 _ _ hfr') .nil))
end
end Y

namespace Y
open PySem PySem.Spec PyProof.Rows L2
theorem all_mk {l : PySem.W.OpenLaw} {w : World} {K : PySem.W.Frag} {h : Heap} {mg : Str → Option Value} {fa : Addr} (X : K.In h) (G : h.Ns mainGlobals mg) (hfa : mg "law" = some (.ref fa))
    {f0 f1 f2 f3 f4 f5 xFREE xRESTS : Addr} {od0 an0 od1 an1 od2 an2 od3 an3 od4 an4 od5 an5 oFREE oRESTS : Option Addr} {sl0 sl1 sl2 sl3 sl4 sl5 sFREE sRESTS : Array (Option Value)} {oc0 kV0 dc0 pm0 cd0 ct0 oc1 kV1 dc1 pm1 cd1 ct1 oc2 kV2 dc2 pm2 cd2 ct2 oc3 kV3 dc3 pm3 cd3 ct3 oc4 kV4 dc4 pm4 cd4 ct4 oc5 kV5 dc5 pm5 cd5 ct5 : Value} {nFREE nRESTS : Nat} {tFREE0 tRESTS0 : Tok}
    (a0 : PySem.W.nsIn K mainGlobals "started" = some (some (.ref f0))) (l0 : K.lookup f0 = some ⟨oc0, od0, .func (PySem.W.fnOf "started" "started" (defArgs s_started) (defBody s_started) (defScope s_started) .none kV0 dc0 pm0 an0 cd0 ct0), sl0⟩) (c0 : PySem.W.codeIn K cd0 "started" = true) (k0 : PySem.W.keepIn K (.ref f0) = true)
    (a1 : PySem.W.nsIn K mainGlobals "is_over" = some (some (.ref f1))) (l1 : K.lookup f1 = some ⟨oc1, od1, .func (PySem.W.fnOf "is_over" "is_over" (defArgs s_is_over) (defBody s_is_over) (defScope s_is_over) .none kV1 dc1 pm1 an1 cd1 ct1), sl1⟩) (c1 : PySem.W.codeIn K cd1 "is_over" = true) (k1 : PySem.W.keepIn K (.ref f1) = true)
    (a2 : PySem.W.nsIn K mainGlobals "_law_cell_at" = some (some (.ref f2))) (l2 : K.lookup f2 = some ⟨oc2, od2, .func (PySem.W.fnOf "_law_cell_at" "_law_cell_at" (defArgs s_law_cell_at) (defBody s_law_cell_at) (defScope s_law_cell_at) .none kV2 dc2 pm2 an2 cd2 ct2), sl2⟩) (c2 : PySem.W.codeIn K cd2 "_law_cell_at" = true) (k2 : PySem.W.keepIn K (.ref f2) = true)
    (a3 : PySem.W.nsIn K mainGlobals "_law_plan_by" = some (some (.ref f3))) (l3 : K.lookup f3 = some ⟨oc3, od3, .func (PySem.W.fnOf "_law_plan_by" "_law_plan_by" (defArgs s_law_plan_by) (defBody s_law_plan_by) (defScope s_law_plan_by) .none kV3 dc3 pm3 an3 cd3 ct3), sl3⟩) (c3 : PySem.W.codeIn K cd3 "_law_plan_by" = true) (k3 : PySem.W.keepIn K (.ref f3) = true)
    (a4 : PySem.W.nsIn K mainGlobals "_law_alike" = some (some (.ref f4))) (l4 : K.lookup f4 = some ⟨oc4, od4, .func (PySem.W.fnOf "_law_alike" "_law_alike" (defArgs s_law_alike) (defBody s_law_alike) (defScope s_law_alike) .none kV4 dc4 pm4 an4 cd4 ct4), sl4⟩) (c4 : PySem.W.codeIn K cd4 "_law_alike" = true) (k4 : PySem.W.keepIn K (.ref f4) = true)
    (a5 : PySem.W.nsIn K mainGlobals "law" = some (some (.ref f5))) (l5 : K.lookup f5 = some ⟨oc5, od5, .func (PySem.W.fnOf "law" "law" (defArgs s_law) (defBody s_law) (defScope s_law) .none kV5 dc5 pm5 an5 cd5 ct5), sl5⟩) (c5 : PySem.W.codeIn K cd5 "law" = true) (k5 : PySem.W.keepIn K (.ref f5) = true)
    (aFREE : PySem.W.nsIn K mainGlobals "FREE" = some (some (.ref xFREE))) (lFREE : K.lookup xFREE = some ⟨.type "tuple", oFREE, .seq #[.str "free" tFREE0] nFREE, sFREE⟩)
    (aRESTS : PySem.W.nsIn K mainGlobals "RESTS" = some (some (.ref xRESTS))) (lRESTS : K.lookup xRESTS = some ⟨.type "tuple", oRESTS, .seq #[.str "rests" tRESTS0] nRESTS, sRESTS⟩)
    (zlen : PySem.W.nsIn K mainGlobals "len" = some none)
    (zrange : PySem.W.nsIn K mainGlobals "range" = some none)
    (zlist : PySem.W.nsIn K mainGlobals "list" = some none)
    (ztuple : PySem.W.nsIn K mainGlobals "tuple" = some none)
    (zint : PySem.W.nsIn K mainGlobals "int" = some none)
    (zstr : PySem.W.nsIn K mainGlobals "str" = some none)
    (zbool : PySem.W.nsIn K mainGlobals "bool" = some none)
    (zisinstance : PySem.W.nsIn K mainGlobals "isinstance" = some none)
    (zall : PySem.W.nsIn K mainGlobals "all" = some none)
    (zsorted : PySem.W.nsIn K mainGlobals "sorted" = some none)
    (zenumerate : PySem.W.nsIn K mainGlobals "enumerate" = some none)
    (zsum : PySem.W.nsIn K mainGlobals "sum" = some none)
    (zValueError : PySem.W.nsIn K mainGlobals "ValueError" = some none)
    (zany : PySem.W.nsIn K mainGlobals "any" = some none)
    (zzip : PySem.W.nsIn K mainGlobals "zip" = some none)
    (zdict : PySem.W.nsIn K mainGlobals "dict" = some none)
    (zset : PySem.W.nsIn K mainGlobals "set" = some none)
    (zmax : PySem.W.nsIn K mainGlobals "max" = some none)
    (zmin : PySem.W.nsIn K mainGlobals "min" = some none) :
    ∃ fd : FuncData, (∀ (s : Shared) (v : Value), BindsTo s fd ⟨[v], []⟩ [("_law_script", v)]) ∧ ∀ base : Heap, K.In base → base.Ns mainGlobals mg → FnOk l.prog w K mg base CX0 7 fa fd ["_law_script"] (spLaw K) := by
  have B : Bt mg := ⟨PySem.W.mg_none_of X G zlen, PySem.W.mg_none_of X G zrange, PySem.W.mg_none_of X G zlist, PySem.W.mg_none_of X G ztuple, PySem.W.mg_none_of X G zint, PySem.W.mg_none_of X G zstr, PySem.W.mg_none_of X G zbool, PySem.W.mg_none_of X G zisinstance, PySem.W.mg_none_of X G zall, PySem.W.mg_none_of X G zsorted, PySem.W.mg_none_of X G zenumerate, PySem.W.mg_none_of X G zsum, PySem.W.mg_none_of X G zValueError, PySem.W.mg_none_of X G zany, PySem.W.mg_none_of X G zzip, PySem.W.mg_none_of X G zdict, PySem.W.mg_none_of X G zset, PySem.W.mg_none_of X G zmax, PySem.W.mg_none_of X G zmin⟩
  have F_started : FunAt K mg "started" s_started ["plan"] := mk_at (PySem.W.mg_of X G a0) l0 c0 k0 (fun _ _ _ _ _ _ us hl => match us, hl with | [_], _ => rfl)
  have F_is_over : FunAt K mg "is_over" s_is_over ["yard"] := mk_at (PySem.W.mg_of X G a1) l1 c1 k1 (fun _ _ _ _ _ _ us hl => match us, hl with | [_], _ => rfl)
  have F_law_cell_at : FunAt K mg "_law_cell_at" s_law_cell_at ["_law_script", "_law_k"] := mk_at (PySem.W.mg_of X G a2) l2 c2 k2 (fun _ _ _ _ _ _ us hl => match us, hl with | [_, _], _ => rfl)
  have F_law_plan_by : FunAt K mg "_law_plan_by" s_law_plan_by ["_law_script", "_law_first", "_law_most"] := mk_at (PySem.W.mg_of X G a3) l3 c3 k3 (fun _ _ _ _ _ _ us hl => match us, hl with | [_, _, _], _ => rfl)
  have F_law_alike : FunAt K mg "_law_alike" s_law_alike ["_law_found", "_law_due"] := mk_at (PySem.W.mg_of X G a4) l4 c4 k4 (fun _ _ _ _ _ _ us hl => match us, hl with | [_, _], _ => rfl)
  have m_FREE := PySem.W.mg_of X G aFREE
  have m_RESTS := PySem.W.mg_of X G aRESTS
  have e := hfa.symm.trans (PySem.W.mg_of X G a5)
  cases e
  have FL := fun_mk (st := s_law) l5 c5 k5
  have M : Cy K mg xFREE xRESTS := ⟨m_FREE, m_RESTS, fun H => .inr ⟨_, _, _, lFREE, rfl, rfl, (by show 1 ≤ sizeLine; decide), .cons ⟨_, rfl⟩ .nil⟩, fun H => .inr ⟨_, _, _, lRESTS, rfl, rfl, (by show 1 ≤ sizeLine; decide), .cons ⟨_, rfl⟩ .nil⟩⟩
  refine ⟨PySem.W.fnOf "law" "law" (defArgs s_law) (defBody s_law) (defScope s_law) .none kV5 dc5 pm5 an5 cd5 ct5, fun s v => .of_eq rfl, fun base _ _ => ok_law FL B ⟨?_, ?_, ?_, ?_⟩⟩
  · exact F_law_plan_by.has fun f fd F => ok_plan F B ⟨F_law_cell_at.has fun f fd F => ok_cell F B⟩
  · exact F_started.has fun f fd F => ok_started F B M
  · exact F_is_over.has fun f fd F => ok_is_over F B M
  · exact has_alike F_law_alike B 4
end Y
open PySem PySem.W PyProof.Rows
set_option maxHeartbeats 0 in
theorem PySem.Challenge.cw_stealyard_k03_started_holds : PySem.Challenge.rw_stealyard_k03_started.Holds := by
  w_on; o_law; k_head; (case hw => w_witness2)
  k_fill
  refine L2.walk_of (l := PySem.Challenge.rw_stealyard_k03_started) (n := 63) (k := 7) (x := "_law_script") (CX := fun _ => L2.CX0) (sp := fun w => Y.spLaw _) rfl (by decide) rfl ⟨rfl, by decide, by decide⟩ (fun w h Y => PySem.W.kIn_of Y) ?F (fun _ _ a ns hl _ hS => ⟨a, ns, rfl, hS, hl, fun _ => rfl⟩) (fun _ _ _ _ _ h => h)
  case F =>
    intro w mg fa h KX G hmg
    refine' Y.all_mk KX G hmg ?a0 ?l0 ?c0 ?k0 ?a1 ?l1 ?c1 ?k1 ?a2 ?l2 ?c2 ?k2 ?a3 ?l3 ?c3 ?k3 ?a4 ?l4 ?c4 ?k4 ?a5 ?l5 ?c5 ?k5 ?aFREE ?lFREE ?aRESTS ?lRESTS ?zlen ?zrange ?zlist ?ztuple ?zint ?zstr ?zbool ?zisinstance ?zall ?zsorted ?zenumerate ?zsum ?zValueError ?zany ?zzip ?zdict ?zset ?zmax ?zmin
    (case a0 => k_is); (case l0 => k_is); (case c0 => k_is); (case k0 => k_is); (case a1 => k_is); (case l1 => k_is); (case c1 => k_is); (case k1 => k_is); (case a2 => k_is); (case l2 => k_is); (case c2 => k_is); (case k2 => k_is); (case a3 => k_is); (case l3 => k_is); (case c3 => k_is); (case k3 => k_is); (case a4 => k_is); (case l4 => k_is); (case c4 => k_is); (case k4 => k_is); (case a5 => k_is); (case l5 => k_is); (case c5 => k_is); (case k5 => k_is); (case aFREE => k_is); (case lFREE => k_is); (case aRESTS => k_is); (case lRESTS => k_is); (case zlen => k_is); (case zrange => k_is); (case zlist => k_is); (case ztuple => k_is); (case zint => k_is); (case zstr => k_is); (case zbool => k_is); (case zisinstance => k_is); (case zall => k_is); (case zsorted => k_is); (case zenumerate => k_is); (case zsum => k_is); (case zValueError => k_is); (case zany => k_is); (case zzip => k_is); (case zdict => k_is); (case zset => k_is); (case zmax => k_is); (case zmin => k_is)

