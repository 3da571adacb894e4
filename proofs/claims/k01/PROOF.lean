import PyProof.Rows.All
import Wide.All
import OpenK.AllK
import Wide.FinOn
import HandS.ForMost
import HandS.IsInst
import HandS.Defaults
import HandS.Conv
import HandS.TupAny
import KE.DataMinMax
import HandS.ForExc
import HandS.Lambda
import HandS.ExcIs
import HandS.Dict
import HandS.EndTab
import PyProof.FactsAll.dict
import HandS.GenList
import HandS.AnyAll
import HandS.RaiseMore
import HandS.List
import HandS.Codes
import HandS.SetFor
import HandS.Strs
import HandS.Style
import HandS.TupLe
import HandS.Ends
import KE.RegKIsAll
import PySem.Challenge.RW_giveway_k01_charts_looked_at
set_option Elab.async false
set_option linter.all false
set_option maxRecDepth 100000
namespace Gw
open PySem L2
def top (i : Nat) : Stmt := PySem.Challenge.pw_giveway_k01_charts_looked_at.main.body.getD i (.Pass ⟨0, 0, 0, 0⟩)
abbrev sWhole : Stmt := top 1
abbrev sWithin : Stmt := top 2
abbrev sPoints : Stmt := top 4
abbrev sIsChart : Stmt := top 5
abbrev sCell : Stmt := top 7
abbrev sState : Stmt := top 8
abbrev sChoice : Stmt := top 9
abbrev sLWhole : Stmt := top 10
abbrev sOdd : Stmt := top 11
abbrev sBent : Stmt := top 12
abbrev sChart : Stmt := top 13
abbrev sLIsChart : Stmt := top 14
abbrev sLaw : Stmt := top 15
/-! data, dicts of whole numbers among it -/
def dictK (ms : List (Int × Int)) : List (Key × V) := ms.map fun m => (Sum.inl m.1, V.int m.2)
def dictD (ms : List (Int × Int)) : List (PyData × PyData) := ms.map fun m => (PyData.int m.1, PyData.int m.2)
mutual
inductive Dp (K : PySem.W.Frag) (Hh : Hp) : V → PyData → Prop
  | non : Dp K Hh .non .none
  | bl (t : Bool) : Dp K Hh (.bl t) (.bool t)
  | int (n : Int) : Dp K Hh (.int n) (.int n)
  | str (t : Str) : Dp K Hh (.str t) (.str t)
  | lst {r : Addr} {us : List V} {es : List PyData} (at_ : SqL K Hh r us) (each : DpAll K Hh us es) : Dp K Hh (.ref r) (.list es)
  | tup {r : Addr} {us : List V} {es : List PyData} (at_ : SqT K Hh r us) (each : DpAll K Hh us es) : Dp K Hh (.ref r) (.tuple es)
  | dct {r : Addr} {ms : List (Int × Int)} (at_ : Hh r = some (.dK (dictK ms))) : Dp K Hh (.ref r) (.dict (dictD ms))
inductive DpAll (K : PySem.W.Frag) (Hh : Hp) : List V → List PyData → Prop
  | nil : DpAll K Hh [] []
  | cons {u : V} {us : List V} {e : PyData} {es : List PyData} (one : Dp K Hh u e) (more : DpAll K Hh us es) : DpAll K Hh (u :: us) (e :: es)
end
/-! no list is in it -/
mutual
def noL : PyData → Bool
  | .list _ => false
  | .tuple es => noLs es
  | _ => true
def noLs : List PyData → Bool
  | [] => true
  | e :: es => noL e && noLs es
end
theorem reads_dict {Pg : Program} {wd : World} {h : Heap} : ∀ (ms : List (Int × Int)) (vs : List (Key × Value)) (es : List DictEntry), KV (dictK ms) vs → Pairs (mixKind Pg wd) es vs →
    ReadsAll h (es.map fun e => e.key) ((dictD ms).map fun p => p.1) [] ∧ ReadsAll h (es.map fun e => e.val) ((dictD ms).map fun p => p.2) []
  | [], vs, es, kv, pr => by
    cases kv
    cases pr
    exact ⟨.nil, .nil⟩
  | m :: ms, vs, es, kv, pr => by
    cases kv with
    | cons h1 h2 =>
      cases pr with
      | cons p1 p2 p3 =>
        obtain ⟨q1, q2⟩ := reads_dict (h := h) ms _ _ h2 p3
        obtain ⟨e1, e2⟩ := h1
        rw [← e1] at p1
        have p1 : keyIs (Sum.inl m.1) _ = true := p1
        rcases keyIs_shape p1 with ⟨i, t, z1, z2⟩ | ⟨x, t, z1, z2⟩
        · cases z1
          obtain ⟨t2, e2⟩ := e2
          refine ⟨?_, ?_⟩
          · refine (show ReadsAll h (_ :: _) (PyData.int m.1 :: _) ([] ++ []) from ?_)
            dsimp only
            rw [z2]
            exact .cons (.int _ _) q1
          · refine (show ReadsAll h (_ :: _) (PyData.int m.2 :: _) ([] ++ []) from ?_)
            dsimp only
            rw [p2, e2]
            exact .cons (.int _ _) q2
        · cases z1
section
variable {X : Cx} {pins : List (Addr × Obj)} {σ : L2.St} {H : Hp} {s : Shared}
theorem dct_reads (I : Inv X pins σ H s) {r : Addr} {ms : List (Int × Int)} (h : H r = some (.dK (dictK ms))) : ∃ o es n, s.heap.get? r = some o ∧ o.ExactDict ∧ o.data = .dict es n ∧ r ≠ sysModules ∧ Reads s.heap (.ref r) (.dict (dictD ms)) (r :: [] ++ []) := by
  obtain ⟨_, ns, vs, kv, o, es, ep, g, ex, dd, _, pr, _⟩ := I.hok r _ h
  obtain ⟨q1, q2⟩ := reads_dict ms vs es.toList kv pr
  exact ⟨o, es, ep, g, ex, dd, beq_eq_false_iff_ne.mp ns, .dict g ex.1 dd q1 q2⟩
mutual
theorem Dp.rd (I : Inv X pins σ H s) : ∀ (d : PyData) (v : V) (u : Value), Dp X.K H v d → RelV v u → ∃ as, Reads s.heap u d as ∧ (noL d = true → sysModules ∉ as)
  | .none, v, u, h, r => by cases h; cases r; exact ⟨_, .none, fun _ z => nomatch z⟩
  | .bool b, v, u, h, r => by cases h; cases r; exact ⟨_, .bool b, fun _ z => nomatch z⟩
  | .int i, v, u, h, r => by cases h; obtain ⟨t, rfl⟩ := r; exact ⟨_, .int i t, fun _ z => nomatch z⟩
  | .str x, v, u, h, r => by cases h; obtain ⟨t, rfl⟩ := r; exact ⟨_, .str x t, fun _ z => nomatch z⟩
  | .list es, v, u, h, r => by
    cases h with
    | lst at_ each =>
      cases r
      obtain ⟨its, rv, ⟨o, n, ho, hc, _, hd⟩, _⟩ := I.list at_
      obtain ⟨as, hr, _⟩ := Dp.rds I es _ its each rv
      exact ⟨_, .list ho hc hd hr, fun z => by simp [noL] at z⟩
  | .tuple es, v, u, h, r => by
    cases h with
    | tup at_ each =>
      cases r
      obtain ⟨its, rv, ⟨o, ho, hc, n, hd⟩, _⟩ := I.tuple at_
      obtain ⟨as, hr, hn⟩ := Dp.rds I es _ its each rv
      exact ⟨_, .tuple ho hc hd hr, fun z => hn (by simpa only [noL] using z)⟩
  | .dict kvs, v, u, h, r => by
    cases h with
    | dct at_ =>
      cases r
      obtain ⟨_, _, _, _, _, _, ns, rd⟩ := dct_reads I at_
      exact ⟨_, rd, fun _ z => by
        have z : sysModules ∈ [_] := z
        exact ns (List.mem_singleton.mp z).symm⟩
theorem Dp.rds (I : Inv X pins σ H s) : ∀ (ds : List PyData) (vs : List V) (us : List Value), DpAll X.K H vs ds → Vals vs us → ∃ as, ReadsAll s.heap us ds as ∧ (noLs ds = true → sysModules ∉ as)
  | [], vs, us, h, r => by cases h; cases r; exact ⟨_, .nil, fun _ z => nomatch z⟩
  | d :: ds, vs, us, h, r => by
    cases h with
    | cons one more =>
      cases r with
      | cons r1 r2 =>
        obtain ⟨as, q1, n1⟩ := Dp.rd I d _ _ one r1
        obtain ⟨bs, q2, n2⟩ := Dp.rds I ds _ _ more r2
        refine ⟨_, .cons q1 q2, fun z => ?_⟩
        have z' : noL d = true ∧ noLs ds = true := by simpa [noLs] using z
        intro hm
        rcases List.mem_append.mp hm with hm | hm
        · exact n1 z'.1 hm
        · exact n2 z'.2 hm
end
end
/-! a dict against a text -/
section
open PySem.SeqAt
theorem dict_declines (l : Addr) (es : Array DictEntry) (n : Nat) (b : Str) (u : Tok) :
    Meets (Builtin.«dict.__eq__» ⟨[.ref l, .str b u], []⟩) (fun _ R s => s.heap.get? l = some { cls := .type "dict", data := .dict es n } ∧ R (.ok (.ret .notImplemented)) s) :=
  .of_wp fun prog w A R s h => by obtain ⟨hp, g, d, tk, os⟩ := s; obtain ⟨hl, h⟩ := h; have f1 := F.sub_str_dict; wp_walk using AutoSeq1.wpAny_loadPart' hl; exact ⟨_, rfl, h⟩
theorem str_declines_dict (b : Str) (u : Tok) (l : Addr) (es : Array DictEntry) (n : Nat) :
    Meets (Builtin.«str.__eq__» ⟨[.str b u, .ref l], []⟩) (fun _ R s => s.heap.get? l = some { cls := .type "dict", data := .dict es n } ∧ R (.ok (.ret .notImplemented)) s) :=
  .of_wp fun prog w A R s h => by obtain ⟨hp, g, d, tk, os⟩ := s; obtain ⟨hl, h⟩ := h; wp_walk using AutoSeq1.wpAny_loadPart' hl, wpAny_load hl; exact ⟨_, rfl, h⟩
theorem rc_dict_str {A : Around} {s : Shared} {l : Addr} {es : Array DictEntry} {n : Nat} (b : Str) (u : Tok) (ho : s.heap.get? l = some { cls := .type "dict", data := .dict es n }) (hu : A.units < cLine) : RcAt A s (.ref l) (.str b u) false := fun prog w E Q h =>
  rc_eq_decline_or (k := false) ⟨_, ho, rfl⟩ (typeIs_str s b u) (by decide) F.sub_str_dict F.slot_dict_eq F.slot_str_eq_refl
    (fun _ hq => call_meets F.slot_dict_eq ⟨_, ho, rfl⟩ F.entry_dict_eq (F.args_dict_eq_2 _ _) (dict_declines l es n b u) ⟨ho, hq⟩)
    (fun _ hq => call_meets F.slot_str_eq_refl (typeIs_str s b u) F.entry_str_eq (F.args_str_eq_2 _ _) (str_declines_dict b u l es n) ⟨ho, hq⟩)
    (fun _ hq => wpAny_of_eq (rfl : isSame (.ref l) (.str b u) = pure false) hq) (.inr hu) h
end
def OkL (_ : PyData) : Prop := True
def OkR (e : PyData) : Prop := ∃ t, e = .str t
theorem okL_mem {ds : List PyData} {d : PyData} (h : OkL (.tuple ds)) (hm : d ∈ ds) : OkL d := trivial
theorem okR_tie : OkR (.str "tie") := ⟨_, rfl⟩
/-- whatever it is against a text -/
def rEqT (K : PySem.W.Frag) : R2 := fun x y H Q => ∃ d e, Dp K H x d ∧ Dp K H y e ∧ OkL d ∧ OkR e ∧ Q (.bl (PyData.eqv d e)) H
theorem op_eqT {X : Cx} (hu : X.A.units + 64 < cLine) : OpR X (compareOp .Eq) (rEqT X.K) := by
  intro pins s σ H x y v u Q I rx ry h
  obtain ⟨d, e, hd, he, _, ⟨t, rfl⟩, q⟩ := h
  cases he
  obtain ⟨tk, rfl⟩ := ry
  have fin : ∀ b, PyData.eqv d (.str t) = b → SeqAt.RcAt X.A s v (.str t tk) b → wpAny (model X.prog X.w) X.A (compareOp .Eq v (.str t tk)) (EP X pins σ Q) X.xe s := fun b e rc => by
    refine rc X.prog X.w _ _ ⟨.bl b, H, I, rfl, ?_⟩
    rw [← e]
    exact q
  have hu' : X.A.units < cLine := by omega
  cases hd with
  | non => cases rx; exact fin false (by simp [PyData.eqv]) (SeqAt.RcAt.none_str _ _)
  | bl b => cases rx; exact fin false (by simp [PyData.eqv]) (SeqAt.RcAt.bool_str _ _ _)
  | int i => obtain ⟨k, rfl⟩ := rx; exact fin false (by simp [PyData.eqv]) (SeqAt.RcAt.int_str _ _ _ _)
  | str z => obtain ⟨k, rfl⟩ := rx; exact fin (z == t) (by simp [PyData.eqv]) (SeqAt.RcAt.str_str _ _ _ _)
  | lst at_ each =>
    cases rx
    obtain ⟨its, rv, ⟨o, n, ho, hc, _, hd⟩, _⟩ := I.list at_
    exact fin false (by simp [PyData.eqv]) (SeqAt.RcAt.list_str _ _ ⟨o, ho, hc, n, hd⟩ hu')
  | tup at_ each =>
    cases rx
    obtain ⟨its, rv, ⟨o, ho, hc, n, hd⟩, _⟩ := I.tuple at_
    exact fin false (by simp [PyData.eqv]) (SeqAt.RcAt.tuple_str _ _ ⟨o, ho, hc, n, hd⟩ hu')
  | dct at_ =>
    cases rx
    obtain ⟨⟨oc, od, oda, osl⟩, es, n, g, ⟨e1, e2, e3⟩, e4, _, _⟩ := dct_reads I at_
    dsimp only at e1 e2 e3 e4
    subst e1 e2 e3 e4
    exact fin false (by simp [PyData.eqv]) (rc_dict_str _ _ g hu')
/-- data without dicts against such -/
def rNeD (K : PySem.W.Frag) : R2 := fun x y Hh Q => ∃ d e, Dp K Hh x d ∧ Dp K Hh y e ∧ SeqAt.shaped d = true ∧ SeqAt.shaped e = true ∧ Q (.bl (!PyData.eqv d e)) Hh
theorem op_neD {X : Cx} (hu : X.A.units + 64 < cLine) : OpR X (compareOp .NotEq) (rNeD X.K) := by
  intro pins s σ Hh x y v u Q I rx ry h
  obtain ⟨d, e, hd, he, sd, se, q⟩ := h
  obtain ⟨as, r1, _⟩ := Dp.rd I d x v hd rx
  obtain ⟨bs, r2, _⟩ := Dp.rd I e y u he ry
  exact SeqAt.compareNe_shaped r1 r2 sd se hu ⟨.bl _, Hh, I, rfl, q⟩
/-! repr -/
theorem call_reprD {X : Cx} (hg : X.A.guards = some []) (hu : X.A.units + 80 < cLine) : CallR X (.builtin "repr") (fun xs H Q => ∃ (a : Addr) (d : PyData), xs = [.ref a] ∧ Dp X.K H (.ref a) d ∧ d.showable = true ∧ (d.hasDict = true → noL d = true) ∧ d.depth ≤ 64 ∧ d.shown.length ≤ sizeLine ∧ Q (.str d.shown) H) := by
  intro pins s σ H xs us Q I r h
  obtain ⟨a, d, rfl, hd, h1, h2, h3, h4, q⟩ := h
  obtain ⟨u, rfl, ru⟩ := vals1 r
  cases ru
  obtain ⟨as, hr, hn⟩ := Dp.rd I d (.ref a) (.ref a) hd rfl
  exact repr_of_reads' hr h1 (fun z => hn (h2 z)) hg (by omega) (fun _ _ e => e) (fun h' u tk hk => ⟨.str d.shown, H, I.kept hk, ⟨u, rfl⟩, q⟩) h4
/-- the names that the module leaves to the built-ins -/
structure Free (mg : Str → Option Value) : Prop where
  isi : mg "isinstance" = none
  int : mg "int" = none
  bool : mg "bool" = none
  tuple : mg "tuple" = none
  len : mg "len" = none
  range : mg "range" = none
  min : mg "min" = none
  max : mg "max" = none
  sum : mg "sum" = none
  list : mg "list" = none
  repr : mg "repr" = none
/-- a def that stands under its name and keeps a promise -/
def Cal (P : Program) (w : World) (K : PySem.W.Frag) (mg : Str → Option Value) (base : Heap) (x : Str) (k : Nat) (ps : List Str) (sp : Sp) : Prop :=
  ∃ (f : Addr) (fd : FuncData), FnOk P w K mg base CX0 k f fd ps sp ∧ mg x = some (.ref f) ∧ PySem.W.keepIn K (.ref f) = true ∧ Binds K fd ps []
theorem Cal.mono {P : Program} {w : World} {K : PySem.W.Frag} {mg : Str → Option Value} {base : Heap} {x : Str} {j k : Nat} {ps : List Str} {sp : Sp} (C : Cal P w K mg base x j ps sp) (h : j ≤ k) : Cal P w K mg base x k ps sp := by
  obtain ⟨f, fd, F, r⟩ := C
  exact ⟨f, fd, F.mono h, r⟩
theorem pe_cal {X : Cx} {x : Str} {p pos : Pos} {e : Expr} {es : List Expr} {t : TA} {k : Nat} {ps : List Str} {sp : Sp} (C : Cal X.prog X.w X.K X.mg X.base x k ps sp) (hr : Room k X.A) (hg : Gl X x) (ha : PA X (e :: es) t)
    (hdb : (x == ("__debug__" : Str)) = false := by decide) (he : starEach (e :: es) X.env = (false, eval e X.env) :: starEach es X.env := by rfl) (hpl : ((backTo pos (starEach es X.env)).any fun x => x.fst) = false := by rfl) :
    PE X (.Call (.Name x p) (e :: es) [] pos) (tCall sp [] E0 t) := by
  obtain ⟨f, fd, F, hm, hk, hb⟩ := C
  exact pe_call F hr hg hm hk hb .nil pass0 ha hdb he hpl
/-! the kinds of data -/
def kindD : PyData → String
  | .none => "NoneType"
  | .bool _ => "bool"
  | .int _ => "int"
  | .str _ => "str"
  | .list _ => "list"
  | .tuple _ => "tuple"
  | .dict _ => "dict"
theorem ty_lst {K : PySem.W.Frag} {H : Hp} {a : Addr} {xs : List V} (h : SqL K H a xs) : TyX K H (.ref a) (.type "list") := by
  rcases h with (h | ⟨o, h⟩) | ⟨o, its, n, hk, hc, _⟩
  · exact .base (.lst h)
  · exact .base (.frz h)
  · exact .kList hk hc
theorem ty_tup {K : PySem.W.Frag} {H : Hp} {a : Addr} {xs : List V} (h : SqT K H a xs) : TyX K H (.ref a) (.type "tuple") := by
  rcases h with (h | ⟨o, h⟩) | ⟨o, its, n, hk, hc, _⟩
  · exact .base (.tup h)
  · exact .fTuple h
  · exact .kTuple hk hc
theorem ty_of {K : PySem.W.Frag} {H : Hp} {x : V} {d : PyData} (h : Dp K H x d) : TyX K H x (.type (kindD d)) := by
  cases h with
  | non => exact .base .non
  | bl b => exact .base (.bl b)
  | int i => exact .base (.int i)
  | str s => exact .base (.str s)
  | lst h _ => exact ty_lst h
  | dct h => exact .base (.dK h)
  | tup h _ => exact ty_tup h
def intD : PyData → Bool
  | .int _ => true
  | .bool _ => true
  | _ => false
def boolD : PyData → Bool
  | .bool _ => true
  | _ => false
def tupleD : PyData → Bool
  | .tuple _ => true
  | _ => false
theorem kit_int {K : PySem.W.Frag} (d : PyData) : PySem.W.kitOne K (.type (kindD d)) (.type "int") = some (intD d) := by
  cases d with
  | none => exact kit_ty (show kitB "NoneType" "int" = some false by decide +kernel)
  | bool _ => exact kit_ty (show kitB "bool" "int" = some true by decide +kernel)
  | int _ => exact kit_ty (show kitB "int" "int" = some true by decide +kernel)
  | str _ => exact kit_ty (show kitB "str" "int" = some false by decide +kernel)
  | list _ => exact kit_ty (show kitB "list" "int" = some false by decide +kernel)
  | tuple _ => exact kit_ty (show kitB "tuple" "int" = some false by decide +kernel)
  | dict _ => exact kit_ty (show kitB "dict" "int" = some false by decide +kernel)
theorem kit_bool {K : PySem.W.Frag} (d : PyData) : PySem.W.kitOne K (.type (kindD d)) (.type "bool") = some (boolD d) := by
  cases d with
  | none => exact kit_ty (show kitB "NoneType" "bool" = some false by decide +kernel)
  | bool _ => exact kit_ty (show kitB "bool" "bool" = some true by decide +kernel)
  | int _ => exact kit_ty (show kitB "int" "bool" = some false by decide +kernel)
  | str _ => exact kit_ty (show kitB "str" "bool" = some false by decide +kernel)
  | list _ => exact kit_ty (show kitB "list" "bool" = some false by decide +kernel)
  | tuple _ => exact kit_ty (show kitB "tuple" "bool" = some false by decide +kernel)
  | dict _ => exact kit_ty (show kitB "dict" "bool" = some false by decide +kernel)
theorem kit_tuple {K : PySem.W.Frag} (d : PyData) : PySem.W.kitOne K (.type (kindD d)) (.type "tuple") = some (tupleD d) := by
  cases d with
  | none => exact kit_ty (show kitB "NoneType" "tuple" = some false by decide +kernel)
  | bool _ => exact kit_ty (show kitB "bool" "tuple" = some false by decide +kernel)
  | int _ => exact kit_ty (show kitB "int" "tuple" = some false by decide +kernel)
  | str _ => exact kit_ty (show kitB "str" "tuple" = some false by decide +kernel)
  | list _ => exact kit_ty (show kitB "list" "tuple" = some false by decide +kernel)
  | tuple _ => exact kit_ty (show kitB "tuple" "tuple" = some true by decide +kernel)
  | dict _ => exact kit_ty (show kitB "dict" "tuple" = some false by decide +kernel)
theorem ifT {c : Bool} {A B : Prop} (e : c = true) (h : A) : if c = true then A else B := by rw [if_pos e]; exact h
theorem ifF {c : Bool} {A B : Prop} (e : c = false) (h : B) : if c = true then A else B := by rw [if_neg (by rw [e]; decide)]; exact h
def wholeD : PyData → Bool
  | .int _ => true
  | _ => false
def withinD (lo hi : Int) : PyData → Bool
  | .int i => decide (lo ≤ i) && decide (i ≤ hi)
  | _ => false
def tupD (lo hi : Int) : PyData → Bool
  | .tuple xs => decide (lo ≤ (xs.length : Int)) && decide ((xs.length : Int) ≤ hi)
  | _ => false
theorem dpAll_len {K : PySem.W.Frag} {H : Hp} : ∀ {xs : List V} {ds : List PyData}, DpAll K H xs ds → xs.length = ds.length
  | _, _, .nil => rfl
  | _, _, .cons _ t => by rw [List.length_cons, List.length_cons, dpAll_len t]
theorem dpAll_get {K : PySem.W.Frag} {H : Hp} : ∀ {xs : List V} {ds : List PyData} {i : Nat} {d : PyData}, DpAll K H xs ds → ds[i]? = some d → ∃ x, xs[i]? = some x ∧ Dp K H x d
  | _, _, 0, _, .cons h _, e => by cases e; exact ⟨_, rfl, h⟩
  | _, _, i + 1, _, .cons _ t, e => dpAll_get (i := i) t e
  | _, _, _, _, .nil, e => by cases e
theorem dpAll_get' {K : PySem.W.Frag} {H : Hp} : ∀ {xs : List V} {ds : List PyData} {i : Nat} {x : V}, DpAll K H xs ds → xs[i]? = some x → ∃ d, ds[i]? = some d ∧ Dp K H x d
  | _, _, 0, _, .cons h _, e => by cases e; exact ⟨_, rfl, h⟩
  | _, _, i + 1, _, .cons _ t, e => dpAll_get' (i := i) t e
  | _, _, _, _, .nil, e => by cases e
section
variable {P : Program} {w : World} {K : PySem.W.Frag} {mg : Str → Option Value} {base : Heap} {f : Addr} {fd : FuncData}
def spWhole (K : PySem.W.Frag) : Sp := fun vs H Q _ => ∃ (x : V) (d : PyData), vs = [x] ∧ Dp K H x d ∧ Q (.bl (wholeD d)) H
theorem scWhole : FnScope ["thing"] ["thing"] (defScope sWhole) := ⟨rfl, rfl, rfl, by decide +kernel, rfl, by decide +kernel, by decide +kernel⟩
theorem ok_whole {k : Nat} (F : Fun K "is_whole" "is_whole" sWhole f fd) (T : Free mg) : FnOk P w K mg base CX0 (k + 1) f fd ["thing"] (spWhole K) := by
  refine F.ok scWhole (fun vs H Q E h => ?_) (fun cdv A outer s H vs Q E hr h => ?_)
  · obtain ⟨x, d, rfl, _⟩ := h
    rfl
  obtain ⟨x, d, rfl, hx, q⟩ := h
  refine ⟨_, pss_one (ps_ret (pe_and (pe_callB call_isi rfl T.isi (by decide +kernel) (pa_cons (pv 0) (pa_cons (pe_bltn (v := .ty "int") rfl T.int (by decide +kernel) rfl) pa_nil)))
    (pe_one (pe_not (pe_callB call_isi rfl T.isi (by decide +kernel) (pa_cons (pv 0) (pa_cons (pe_bltn (v := .ty "bool") rfl T.bool (by decide +kernel) rfl) pa_nil))))))), ?_⟩
  have ht := ty_of hx
  refine ⟨_, rfl, x, _, _, _, _, rfl, .ty "int", ht, kit_int d, _, rfl, ?_⟩
  cases d with
  | int i => exact ifT rfl ⟨_, rfl, _, _, _, _, _, rfl, .ty "bool", ht, kit_bool _, _, rfl, q⟩
  | bool b => exact ifT rfl ⟨_, rfl, _, _, _, _, _, rfl, .ty "bool", ht, kit_bool _, _, rfl, q⟩
  | none => exact ifF rfl q
  | str _ => exact ifF rfl q
  | list _ => exact ifF rfl q
  | tuple _ => exact ifF rfl q
  | dict _ => exact ifF rfl q
/-! is_within -/
def spWithin (K : PySem.W.Frag) : Sp := fun vs H Q _ => ∃ (x : V) (d : PyData) (lo hi : Int), vs = [x, .int lo, .int hi] ∧ Dp K H x d ∧ Q (.bl (withinD lo hi d)) H
theorem scWithin : FnScope ["thing", "least", "most"] ["thing", "least", "most"] (defScope sWithin) := ⟨rfl, rfl, rfl, by decide +kernel, rfl, by decide +kernel, by decide +kernel⟩
theorem ok_within {k : Nat} (F : Fun K "is_within" "is_within" sWithin f fd) (cW : Cal P w K mg base "is_whole" k ["thing"] (spWhole K)) : FnOk P w K mg base CX0 (k + 1) f fd ["thing", "least", "most"] (spWithin K) := by
  refine F.ok scWithin (fun vs H Q E h => ?_) (fun cdv A outer s H vs Q E hr h => ?_)
  · obtain ⟨x, d, lo, hi, rfl, _⟩ := h
    rfl
  obtain ⟨x, d, lo, hi, rfl, hx, q⟩ := h
  refine ⟨_, pss_one (ps_ret (pe_and (pe_cal cW hr rfl (pa_cons (pv 0) pa_nil)) (pe_one (pe_chain op_le op_le (pv 1) (pv 0) (pv 2))))), ?_⟩
  refine ⟨_, rfl, x, d, rfl, hx, _, rfl, ?_⟩
  cases d with
  | int i =>
    cases hx
    refine ifT rfl ⟨_, rfl, _, rfl, _, _, rfl, rfl, _, rfl, ?_⟩
    have e : withinD lo hi (.int i) = (decide (lo ≤ i) && decide (i ≤ hi)) := rfl
    rw [e] at q
    by_cases c : lo ≤ i
    · refine ifT (decide_eq_true c) ⟨_, rfl, _, _, rfl, rfl, ?_⟩
      rw [decide_eq_true c, Bool.true_and] at q
      exact q
    · refine ifF (decide_eq_false c) ?_
      rw [decide_eq_false c, Bool.false_and] at q
      exact q
  | bool b => exact ifF rfl q
  | none => exact ifF rfl q
  | str _ => exact ifF rfl q
  | list _ => exact ifF rfl q
  | tuple _ => exact ifF rfl q
  | dict _ => exact ifF rfl q
/-! is_tuple -/
end
theorem atI_at {α : Type} {xs : List α} {i : Int} {v : α} (h0 : 0 ≤ i) (h : xs[i.toNat]? = some v) : atI xs i = some v := by
  have q := atI_nat h
  rw [show ((i.toNat : Nat) : Int) = i by omega] at q
  exact q
/-! heaps: what stands, but for the state's list -/
def StOk (x y z : Int) : Prop := 0 ≤ x ∧ 0 ≤ y ∧ y < 4294967296
def StAt (H : Hp) (st : Addr) : Prop := ∃ x y z, H st = some (.lst [.int x, .int y, .int z]) ∧ StOk x y z
def Kp (st : Addr) (H H' : Hp) : Prop := ∀ b u, b ≠ st → H b = some u → H' b = some u
structure Mv (st : Addr) (H H' : Hp) : Prop where
  kp : Kp st H H'
  sa : StAt H' st
/-- what is no list stands -/
def KT (H H' : Hp) : Prop := ∀ b u, H b = some u → (∀ l, u ≠ .lst l) → H' b = some u
theorem Kp.refl (st : Addr) (H : Hp) : Kp st H H := fun _ _ _ h => h
theorem Kp.trans {st : Addr} {H H1 H2 : Hp} (a : Kp st H H1) (b : Kp st H1 H2) : Kp st H H2 := fun c u n h => b c u n (a c u n h)
theorem Kp.of_same {st : Addr} {H H' : Hp} (a : Same H H') : Kp st H H' := fun c u _ h => a c u h
theorem KT.refl (H : Hp) : KT H H := fun _ _ h _ => h
theorem KT.trans {H H1 H2 : Hp} (a : KT H H1) (b : KT H1 H2) : KT H H2 := fun c u h n => b c u (a c u h n) n
theorem KT.of_same {H H' : Hp} (a : Same H H') : KT H H' := fun c u h _ => a c u h
theorem Kp.kt {st : Addr} {H H' : Hp} (k : Kp st H H') (s : StAt H st) : KT H H' := fun b u h n => k b u (fun e => by
  obtain ⟨x, y, z, hs, _⟩ := s
  rw [e, hs] at h
  cases h
  exact n _ rfl) h
theorem KT.upd {H : Hp} {p : Addr} {l l' : List V} (h : H p = some (.lst l)) : KT H (upd H p (.lst l')) := fun b u hb n => by
  by_cases e : b = p
  · subst e
    rw [h] at hb
    cases hb
    exact absurd rfl (n l)
  · rw [upd_ne e]
    exact hb
theorem same_new {H : Hp} {p : Addr} (h : H p = none) (o : HO) : Same H (upd H p o) := fun b u q => by rw [upd_ne (ne_of_none q h)]; exact q
theorem Kp.upd {st : Addr} {H0 H : Hp} {p : Addr} {o : HO} (k : Kp st H0 H) (h : H0 p = none) : Kp st H0 (upd H p o) := fun b u n hb => by
  rw [upd_ne (ne_of_none hb h)]
  exact k b u n hb
theorem Kp.free {st : Addr} {H H' : Hp} (k : Kp st H H') {p : Addr} (n : p ≠ st) (h : H' p = none) : H p = none := by
  cases e : H p with
  | none => rfl
  | some u =>
    rw [k p u n e] at h
    cases h
theorem StAt.some {H : Hp} {st : Addr} (s : StAt H st) : ∃ l, H st = some (.lst l) := by
  obtain ⟨x, y, z, h, _⟩ := s
  exact ⟨_, h⟩
theorem StAt.ne {H : Hp} {st p : Addr} (s : StAt H st) (h : H p = none) : p ≠ st := fun e => by
  obtain ⟨l, hs⟩ := s.some
  rw [e, hs] at h
  cases h
theorem StAt.same {H H' : Hp} {st : Addr} (s : StAt H st) (k : Same H H') : StAt H' st := by
  obtain ⟨x, y, z, h, ok⟩ := s
  exact ⟨x, y, z, k _ _ h, ok⟩
theorem StAt.upd {H : Hp} {st p : Addr} {o : HO} (s : StAt H st) (n : p ≠ st) : StAt (upd H p o) st := by
  obtain ⟨x, y, z, h, ok⟩ := s
  exact ⟨x, y, z, by rw [upd_ne n.symm]; exact h, ok⟩
/-! data that is tuples, ints and texts alone -/
mutual
def tupOnly : PyData → Bool
  | .int _ | .str _ => true
  | .tuple xs => tupOnlyAll xs
  | _ => false
def tupOnlyAll : List PyData → Bool
  | [] => true
  | x :: r => tupOnly x && tupOnlyAll r
end
theorem sqT_kt {K : PySem.W.Frag} {H H' : Hp} {a : Addr} {xs : List V} (k : KT H H') (h : SqT K H a xs) : SqT K H' a xs := by
  rcases h with (h | ⟨o, h⟩) | h
  · exact .inl (.inl (k _ _ h (fun l z => by cases z)))
  · exact .inl (.inr ⟨o, k _ _ h (fun l z => by cases z)⟩)
  · exact .inr h
mutual
theorem dp_kt {K : PySem.W.Frag} {H H' : Hp} (k : KT H H') : ∀ (d : PyData) (v : V), tupOnly d = true → Dp K H v d → Dp K H' v d
  | .int i, v, _, h => by cases h; exact .int i
  | .str x, v, _, h => by cases h; exact .str x
  | .tuple ds, v, t, h => by
    cases h with
    | tup hs ha => exact .tup (sqT_kt k hs) (dpAll_kt k ds _ (by simpa only [tupOnly] using t) ha)
  | .none, v, t, h => by simp [tupOnly] at t
  | .bool _, v, t, h => by simp [tupOnly] at t
  | .list _, v, t, h => by simp [tupOnly] at t
  | .dict _, v, t, h => by simp [tupOnly] at t
theorem dpAll_kt {K : PySem.W.Frag} {H H' : Hp} (k : KT H H') : ∀ (ds : List PyData) (vs : List V), tupOnlyAll ds = true → DpAll K H vs ds → DpAll K H' vs ds
  | [], vs, _, h => by cases h; exact .nil
  | d :: ds, vs, t, h => by
    simp only [tupOnlyAll, Bool.and_eq_true] at t
    cases h with
    | cons h1 h2 => exact .cons (dp_kt k d _ t.1 h1) (dpAll_kt k ds _ t.2 h2)
end
theorem dpAll_snoc {K : PySem.W.Frag} {H : Hp} {v : V} {d : PyData} (h : Dp K H v d) : ∀ {vs : List V} {ds : List PyData}, DpAll K H vs ds → DpAll K H (vs ++ [v]) (ds ++ [d])
  | _, _, .nil => .cons h .nil
  | _, _, .cons a t => .cons a (dpAll_snoc h t)
theorem dpAll_append {K : PySem.W.Frag} {H : Hp} {ws : List V} {es : List PyData} (h : DpAll K H ws es) : ∀ {vs : List V} {ds : List PyData}, DpAll K H vs ds → DpAll K H (vs ++ ws) (ds ++ es)
  | _, _, .nil => h
  | _, _, .cons a t => .cons a (dpAll_append h t)
theorem tupOnly_snoc : ∀ {ds : List PyData} {d : PyData}, tupOnlyAll ds = true → tupOnly d = true → tupOnlyAll (ds ++ [d]) = true
  | [], d, _, h => by simp [tupOnlyAll, h]
  | x :: r, d, t, h => by
    simp only [tupOnlyAll, Bool.and_eq_true, List.cons_append] at *
    exact ⟨t.1, tupOnly_snoc t.2 h⟩
theorem small {n : Nat} (h : n ≤ 1000) : n ≤ sizeLine := Nat.le_of_lt (small1000 h)
section
variable {P : Program} {w : World} {K : PySem.W.Frag} {mg : Str → Option Value} {base : Heap} {f : Addr} {fd : FuncData}
/-! _law_cell_at -/
def spCell (K : PySem.W.Frag) : Sp := fun vs H Q _ => ∃ (a : Addr) (ns : List Int) (i : Int), vs = [.ref a, .int i] ∧ SqL K H a (ns.map V.int) ∧ 0 ≤ i ∧ ∀ n : Int, Q (.int n) H
theorem scCell : FnScope ["_law_script", "_law_k"] ["_law_script", "_law_k"] (defScope sCell) := ⟨rfl, rfl, rfl, by decide +kernel, rfl, by decide +kernel, by decide +kernel⟩
theorem ok_cell {k : Nat} (F : Fun K "_law_cell_at" "_law_cell_at" sCell f fd) (T : Free mg) : FnOk P w K mg base CX0 (k + 1) f fd ["_law_script", "_law_k"] (spCell K) := by
  refine F.ok scCell (fun vs H Q E h => ?_) (fun cdv A outer s H vs Q E hr h => ?_)
  · obtain ⟨a, ns, i, rfl, _⟩ := h
    rfl
  obtain ⟨a, ns, i, rfl, hs, h0, q⟩ := h
  refine ⟨_, pss_cons (ps_if (pt_cmpR op_lt (pv 1) (pe_callB call_len_seq rfl T.len PySem.boot_len (pa_cons (pv 0) pa_nil)) (nomark _)) (pss_one (ps_ret (pe_ix ix_list (pv 0) (pv 1) (fun _ _ => rfl)))) pss_nil) (pss_one (ps_ret pe_int)), ?_⟩
  refine ⟨_, rfl, _, rfl, a, _, rfl, .inl hs, _, _, rfl, rfl, _, rfl, ?_⟩
  refine ite2 (fun c => ?_) (fun c => q 0)
  have c : i < (((ns.map V.int).length : Nat) : Int) := of_decide_eq_true c
  have hk : i.toNat < ns.length := by rw [List.length_map] at c; omega
  exact ⟨_, rfl, _, rfl, a, _, i, .int ns[i.toNat], rfl, rfl, hs, atI_at h0 (by rw [List.getElem?_map, List.getElem?_eq_getElem hk] <;> rfl), q _⟩
/-! _law_state -/
def spState (K : PySem.W.Frag) : Sp := fun vs H Q _ => ∃ (a : Addr) (ns : List Int) (i : Int), vs = [.ref a, .int i] ∧ SqL K H a (ns.map V.int) ∧ 0 ≤ i ∧ ∀ p x y z, H p = none → StOk x y z → Q (.ref p) (upd H p (.lst [.int x, .int y, .int z]))
theorem scState : FnScope ["_law_script", "_law_k", "_law_cell"] ["_law_script", "_law_k"] (defScope sState) := ⟨rfl, rfl, rfl, by decide +kernel, rfl, by decide +kernel, by decide +kernel⟩
theorem ok_state {k : Nat} (F : Fun K "_law_state" "_law_state" sState f fd) (T : Free mg) (cC : Cal P w K mg base "_law_cell_at" k ["_law_script", "_law_k"] (spCell K)) : FnOk P w K mg base CX0 (k + 1) f fd ["_law_script", "_law_k"] (spState K) := by
  refine F.ok scState (fun vs H Q E h => ?_) (fun cdv A outer s H vs Q E hr h => ?_)
  · obtain ⟨a, ns, i, rfl, _⟩ := h
    rfl
  obtain ⟨a, ns, i, rfl, hs, h0, q⟩ := h
  refine ⟨_, pss_cons (ps_set (i := 2) scState.nd rfl (.inl rfl) (pe_cal cC hr rfl (pa_cons (pv 0) (pa_cons (pv 1) pa_nil))))
    (pss_one (ps_ret (pe_lst (pa_cons (pe_callB (call_max2 rfl) rfl T.max (by decide +kernel) (pa_cons pe_int (pa_cons (pe_op op_sub (pv 2) (pe_op op_pow pe_int pe_int)) pa_nil)))
      (pa_cons (pe_op op_add (pe_op op_mod (pv 2) pe_int) pe_int) (pa_cons pe_int pa_nil)))))), ?_⟩
  refine ⟨_, rfl, _, rfl, a, ns, i, rfl, hs, h0, fun n => ?_⟩
  refine ⟨_, rfl, _, _, rfl, rfl, ⟨by decide, by decide, by decide⟩, _, _, rfl, rfl, _, _, rfl, ?_⟩
  refine ⟨_, rfl, _, _, rfl, rfl, (by show (0 : Int) < 2147483629; decide), _, _, rfl, rfl, small (by show 3 ≤ 1000; decide), fun p hp => ?_⟩
  refine q p _ _ _ hp ⟨?_, ?_, ?_⟩
  · split <;> omega
  · have := Int.emod_nonneg n (show (2147483629 : Int) ≠ 0 by decide)
    omega
  · have := Int.emod_lt_of_pos n (show (0 : Int) < 2147483629 by decide)
    omega
/-! _law_choice -/
def spChoice : Sp := fun vs H Q _ => ∃ (st : Addr) (many : Int), vs = [.ref st, .int many] ∧ StAt H st ∧ 0 < many ∧ many < 1000000 ∧ ∀ r H', 0 ≤ r → r < many → Mv st H H' → Q (.int r) H'
theorem scChoice : FnScope ["_law_state_here", "_law_many", "_law_found", "_law_mixed"] ["_law_state_here", "_law_many"] (defScope sChoice) := ⟨rfl, rfl, rfl, by decide +kernel, rfl, by decide +kernel, by decide +kernel⟩
theorem mv_upd {H : Hp} {st : Addr} {x y z : Int} (ok : StOk x y z) : Mv st H (upd H st (.lst [.int x, .int y, .int z])) :=
  ⟨fun b u n h => by rw [upd_ne n]; exact h, ⟨x, y, z, upd_same, ok⟩⟩
theorem ok_choice {k : Nat} (F : Fun K "_law_choice" "_law_choice" sChoice f fd) : FnOk P w K mg base CX0 (k + 1) f fd ["_law_state_here", "_law_many"] spChoice := by
  refine F.ok scChoice (fun vs H Q E h => ?_) (fun cdv A outer s H vs Q E hr h => ?_)
  · obtain ⟨st, many, rfl, _⟩ := h
    rfl
  obtain ⟨st, many, rfl, ⟨x, y, z, hst, hx, hy, hy2⟩, h0, hm, q⟩ := h
  refine ⟨_, pss_cons (ps_if (pt_cmpR op_gt (pe_ix ix_list (pv 0) pe_int (fun _ _ => rfl)) pe_int (nomark _))
      (pss_cons (ps_set (i := 2) scChoice.nd rfl (.inl rfl) (pe_op op_mod (pe_ix ix_list (pv 0) pe_int (fun _ _ => rfl)) (pv 1)))
      (pss_cons (ps_asg (pe_op op_fdiv (pe_ix ix_list (pv 0) pe_int (fun _ _ => rfl)) (pv 1)) (pg_sub (pv 0) pe_int set_list))
      (pss_one (ps_ret (pv 2))))) pss_nil)
    (pss_cons (ps_asg (pe_op op_add (pe_ix ix_list (pv 0) pe_int (fun _ _ => rfl)) pe_int) (pg_sub (pv 0) pe_int set_list))
    (pss_cons (ps_asg (pe_op op_mod (pe_op op_add (pe_op op_add (pe_op op_mul (pe_ix ix_list (pv 0) pe_int (fun _ _ => rfl)) pe_int) pe_int) (pe_ix ix_list (pv 0) pe_int (fun _ _ => rfl))) pe_int) (pg_sub (pv 0) pe_int set_list))
    (pss_cons (ps_set (i := 3) scChoice.nd rfl (.inl rfl) (pe_op op_mod (pe_op op_add (pe_op op_add (pe_op op_mul (pe_ix ix_list (pv 0) pe_int (fun _ _ => rfl)) (pe_ix ix_list (pv 0) pe_int (fun _ _ => rfl))) (pe_op op_mul pe_int (pe_ix ix_list (pv 0) pe_int (fun _ _ => rfl)))) pe_int) pe_int))
    (pss_cons (ps_set (i := 3) scChoice.nd rfl (.inl rfl) (pe_op op_mod (pe_op op_add (pe_op op_mul (pv 3) (pv 3)) (pe_op op_mul pe_int (pv 3))) pe_int))
    (pss_one (ps_ret (pe_op op_mod (pe_op op_fdiv (pv 3) pe_int) (pv 1)))))))), ?_⟩
  have rd : ∀ {H : Hp} {x y z : Int}, H st = some (.lst [.int x, .int y, .int z]) → SqL K H st [.int x, .int y, .int z] := fun h => SqL.of h
  refine ⟨_, rfl, st, _, 0, _, rfl, rfl, rd hst, rfl, _, _, rfl, rfl, _, rfl, ?_⟩
  refine ite2 (fun c => ?_) (fun c => ?_)
  · refine ⟨_, rfl, st, _, 0, _, rfl, rfl, rd hst, rfl, _, rfl, _, _, rfl, rfl, h0, ?_⟩
    refine ⟨_, rfl, st, _, 0, _, rfl, rfl, rd hst, rfl, _, rfl, _, _, rfl, rfl, ⟨h0, by omega⟩, ?_⟩
    refine ⟨_, rfl, st, _, 0, 0, rfl, rfl, hst, rfl, ?_⟩
    refine ⟨_, rfl, q _ _ (Int.emod_nonneg x (by omega)) (Int.emod_lt_of_pos x h0) (mv_upd (x := x / many) (y := y) (z := z) ⟨Int.ediv_nonneg hx (by omega), hy, hy2⟩)⟩
  · refine ⟨_, rfl, st, _, 2, _, rfl, rfl, rd hst, rfl, _, _, rfl, rfl, ?_⟩
    refine ⟨_, rfl, st, _, 2, 2, rfl, rfl, hst, rfl, ?_⟩
    refine ⟨_, rfl, st, _, 1, _, rfl, rfl, rd upd_same, rfl, _, _, rfl, rfl, .inl ⟨by omega, by omega⟩, _, _, rfl, rfl, _, rfl, st, _, 2, _, rfl, rfl, rd upd_same, rfl, _, _, rfl, rfl, _, _, rfl, rfl, (by show (0 : Int) < 2147483647; decide), ?_⟩
    refine ⟨_, rfl, st, _, 1, 1, rfl, rfl, upd_same, rfl, ?_⟩
    rw [upd_upd]
    have b1 := Int.emod_nonneg (y * 48271 + 29 + (z + 1)) (show (2147483647 : Int) ≠ 0 by decide)
    have b2 := Int.emod_lt_of_pos (y * 48271 + 29 + (z + 1)) (show (0 : Int) < 2147483647 by decide)
    generalize hv : (y * 48271 + 29 + (z + 1)) % 2147483647 = v at b1 b2
    show tSeq _ _ _ _ (upd H st (.lst [.int x, .int ((y * 48271 + 29 + (z + 1)) % 2147483647), .int (z + 1)]))
    rw [hv]
    refine ⟨_, rfl, st, _, 1, _, rfl, rfl, rd upd_same, rfl, _, rfl, st, _, 1, _, rfl, rfl, rd upd_same, rfl, _, _, rfl, rfl, .inl ⟨by omega, by omega⟩, _, rfl, st, _, 1, _, rfl, rfl, rd upd_same, rfl, _, _, rfl, rfl, .inl ⟨by decide, by decide⟩, _, _, rfl, rfl, _, _, rfl, rfl, _, _, rfl, rfl, (by show (0 : Int) < 2147483629; decide), ?_⟩
    have c1 := Int.emod_nonneg (v * v + 39373 * v + 7) (show (2147483629 : Int) ≠ 0 by decide)
    have c2 := Int.emod_lt_of_pos (v * v + 39373 * v + 7) (show (0 : Int) < 2147483629 by decide)
    refine ⟨_, rfl, _, rfl, _, _, rfl, rfl, .inl ⟨by omega, by omega⟩, _, rfl, _, _, rfl, rfl, .inl ⟨by decide, by decide⟩, _, _, rfl, rfl, _, _, rfl, rfl, (by show (0 : Int) < 2147483587; decide), ?_⟩
    refine ⟨_, rfl, _, _, rfl, rfl, ⟨by decide, by decide⟩, _, rfl, _, _, rfl, rfl, h0, ?_⟩
    exact q _ _ (Int.emod_nonneg _ (by omega)) (Int.emod_lt_of_pos _ h0) (mv_upd ⟨hx, b1, by omega⟩)
end
section
open PySem.Spec PyProof.Rows LamX
theorem okC {P : Program} {w : World} {K : PySem.W.Frag} {mg : Str → Option Value} {base : Heap} {x qual : Str} {st : Stmt} {f c : Addr} {fd : FuncData} {N ps : List Str} {k : Nat} {sp : Sp} (F : Fun K x qual st f fd) (hc : fd.code = .ref c) (S : FnScope N ps (defScope st)) (len : ∀ vs H Q E, sp vs H Q E → vs.length = ps.length)
    (hbody : ∀ (A : Around) (outer : List Env) (s : Shared) (H : Hp) (vs : List V) (Q : VK) (E : XK), Room k (A.deeper (envOfC qual (defScope st) s.heap.objs.size f (.ref c))) → sp vs H Q E →
      ∃ t, PSs (cxOf CX0 P w K mg base N qual (defScope st) f (.ref c) A outer s H E).nox (defBody st) t ∧ t { nx := fun _ H' => Q .non H', rt := Q } (L2.start N vs) H) : FnOk P w K mg base CX0 (k + 1) f fd ps sp := by
  obtain ⟨oc, od, kV, doc, pm, an, cdv, ct, osl, rfl, lk, hcd⟩ := F.ex
  obtain rfl : cdv = .ref c := hc
  refine fn_of lk hcd S len fun A outer s H vs Q E hr hsp => ?_
  obtain ⟨t, h, q⟩ := hbody A outer s H vs Q E hr hsp
  exact ⟨t, h.nox, q⟩
mutual
theorem dp_ext {K : PySem.W.Frag} {H H' : Hp} (e : ExtN H H') : ∀ (d : PyData) (v : V), Dp K H v d → Dp K H' v d
  | .none, v, h => by cases h; exact .non
  | .bool b, v, h => by cases h; exact .bl b
  | .int i, v, h => by cases h; exact .int i
  | .str x, v, h => by cases h; exact .str x
  | .list es, v, h => by
    cases h with
    | lst at_ each =>
      refine .lst ?_ (dp_exts e es _ each)
      rcases at_ with (z | ⟨o, z⟩) | z
      · exact .inl (.inl (e _ _ z fun ps q => by cases q))
      · exact .inl (.inr ⟨o, e _ _ z fun ps q => by cases q⟩)
      · exact .inr z
  | .tuple es, v, h => by
    cases h with
    | tup at_ each =>
      refine .tup ?_ (dp_exts e es _ each)
      rcases at_ with (z | ⟨o, z⟩) | z
      · exact .inl (.inl (e _ _ z fun ps q => by cases q))
      · exact .inl (.inr ⟨o, e _ _ z fun ps q => by cases q⟩)
      · exact .inr z
  | .dict kvs, v, h => by
    cases h with
    | dct at_ => exact .dct (e _ _ at_ fun ps q => by cases q)
theorem dp_exts {K : PySem.W.Frag} {H H' : Hp} (e : ExtN H H') : ∀ (ds : List PyData) (vs : List V), DpAll K H vs ds → DpAll K H' vs ds
  | [], vs, h => by cases h; exact .nil
  | d :: ds, vs, h => by
    cases h with
    | cons one more => exact .cons (dp_ext e d _ one) (dp_exts e ds _ more)
end
theorem tabs_upd {T : List (Addr × Str)} {H : Hp} {fa : Addr} {l l' : List V} (t : Tabs T H) (h : H fa = some (.lst l)) : Tabs T (upd H fa (.lst l')) := by
  intro p hp
  obtain ⟨ps, h1, h2, h3⟩ := t p hp
  refine ⟨ps, ?_, h2, fun pos cv hc => ?_⟩
  · rw [upd_ne (show p.1 ≠ fa from fun z => by rw [z, h] at h1; cases h1)]
    exact h1
  · obtain ⟨c, e1, e2⟩ := h3 pos cv hc
    refine ⟨c, e1, ?_⟩
    rw [upd_ne (show c ≠ fa from fun z => by rw [z, h] at e2; cases e2)]
    exact e2
theorem ext_upd {H0 H : Hp} {fa : Addr} {o : HO} (e : ExtN H0 H) (h : ∀ u, H0 fa = some u → ∃ ps, u = .tbl ps) : ExtN H0 (upd H fa o) := fun b u hb n => by
  have nb : b ≠ fa := fun z => by
    rw [z] at hb
    obtain ⟨ps, q⟩ := h u hb
    exact n ps q
  rw [upd_ne nb]
  exact e b u hb n
theorem ext_lst {H H' : Hp} {p : Addr} {l : List V} (e : ExtN H H') (h : H p = some (.lst l)) : H' p = some (.lst l) := e _ _ h fun ps q => by cases q
theorem ext_same {H H' : Hp} (s : Same H H') : ExtN H H' := fun b o h _ => s b o h
end
/-! all(.. for ..) and any(.. for ..), whatever is walked, the element may call defs -/
section
open PySem.Spec PyProof.Rows
/-- the generator expression's own frame, woken from the frames of X -/
def gxCx (X : Cx) (A : Around) (s : Shared) (H : Hp) (ce : Env) (fp : List Addr) (pn : List (Addr × Obj)) : Cx where
  prog := X.prog
  w := X.w
  K := X.K
  mg := X.mg
  base := X.base
  A := A
  N := X.N
  s_0 := s
  H_0 := H
  env := ce
  outer := X.stack
  stack := ce :: X.stack
  ex := fp
  fn := fun _ => false
  calm := true
  pn := pn
  xe := fun _ _ => False
theorem inv_sh {X : Cx} {pins : List (Addr × Obj)} {σ : L2.St} {H : Hp} {s s' : Shared} (I : Inv X pins σ H s) (h1 : s'.heap = s.heap) (h2 : s'.os = s.os) (h3 : AllBare s'.gens) : Inv X pins σ H s' :=
  ⟨I.ok, h2.trans I.os, h3, by rw [h1]; exact I.base, by rw [h1]; exact I.loc, by rw [h1]; exact I.cell, I.free, I.freeC, by rw [h1]; exact I.pin, by rw [h1]; exact I.hok, I.len⟩
section
variable {X : Cx} {pins : List (Addr × Obj)} {σ : L2.St} {H : Hp} {s : Shared}
theorem gx_start {A : Around} {scope : Scope} {own : List (Str × Nat)} {fp : List Addr} {code : Value} {a : Addr} {go : Obj} {h5 : Heap} {g5 : Array GenState} {t5 : Nat} {m0 : Str → Option Value}
    (I : Inv X pins σ H s) (hN : X.N.Nodup) (ok : BlkOk X.N X.env.scope scope own) (nocell : ∀ y ∈ scope.names, y.2 ≠ .cell) (hA : A.handled = none)
    (hfr : A.frames = some (genEnv scope (cloFrom X.env.cells scope.names []) s.heap.objs.size code builtinsNs X.env :: X.stack)) (hfp : ∀ b ∈ fp, FpOk X pins H b ∧ b < s.heap.objs.size)
    (hns : h5.Ns s.heap.objs.size m0) (kp : ∀ b o, s.heap.get? b = some o → h5.get? b = some o) (hgo : h5.get? a = some go) (ha : s.heap.objs.size < a) (hgd : ∀ v, go.data ≠ .cell v) (hg : AllBare g5) :
    Inv (gxCx X A s H (genEnv scope (cloFrom X.env.cells scope.names []) s.heap.objs.size code builtinsNs X.env) fp [(a, go)]) [] (wipe σ (own.map (·.2))) H { s with heap := h5, gens := g5, toks := t5 } := by
  have cm : ∀ {y c}, (cloFrom X.env.cells scope.names []).lookup y = some c → X.env.cells.lookup y = some c := fun {y c} e => by
    rcases cloFrom_mem (PySem.mem_of_lookup e) with hm | ⟨h1, h2⟩
    · cases hm
    · have hy : ∃ c1, X.env.cells.lookup y = some c1 := by
        rcases ok.free _ h1 rfl with k | k
        · exact I.ok.has _ (.inl k)
        · exact I.ok.has _ (.inr k)
      obtain ⟨c1, hc⟩ := hy
      have e2 : c = c1 := by
        rw [h2, hc] <;> rfl
      rw [e2]
      exact hc
  have look : ∀ {y}, scope.names.lookup y = some .free → ∃ c, (cloFrom X.env.cells scope.names []).lookup y = some c := fun {y} hl =>
    mem_lookup (cloFrom_has (cells := X.env.cells) (acc := []) (PySem.mem_of_lookup hl : (y, NameKind.free) ∈ scope.names))
  have cellK : ∀ {c : Addr} {v : Option Value}, s.heap.IsCell c v → h5.IsCell c v := fun {c v} ⟨o, ho, hd⟩ => ⟨o, kp _ _ ho, hd⟩
  refine ⟨⟨I.ok.mod, ok.kind, I.ok.glob, rfl, Nat.le_refl _, fun y z c e1 e2 => I.ok.inj y z c (cm e1) (cm e2), fun y hy => ?_, fun y c z _ => ?_, fun _ => hA, hfr, .inr ⟨rfl, rfl⟩, fun b hb => ⟨?_, fun y c e => ?_⟩, I.bs, Nat.le_trans I.ok.bsz I.sz, fun b o e hb => ?_, fun b hb z => ?_, I.stack, I.stkFree⟩,
    rfl, hg, Un.kept kp, ⟨m0, hns, fun i y v e1 e2 e3 => ?_⟩, fun y c e => ?_, I.hok.fresh (Nat.le_refl _), fun y c e => I.freeC y c (cm e), fun p hp => ?_, I.hok.kept kp, ?_⟩
  · have hy : scope.names.lookup y = some .cell ∨ scope.names.lookup y = some .free := hy
    rcases hy with hy | hy
    · exact absurd rfl (nocell _ (PySem.mem_of_lookup hy))
    · exact look hy
  · have z : false = true := z
    cases z
  · exact Nat.ne_of_lt (hfp b hb).2
  · exact (hfp b hb).1.2.2.2.2.1 y c (cm e)
  · rcases (hfp b hb).1.2.2.2.1 with z | z
    · exact I.ok.noex b o e z
    · have h1 : b < X.base.objs.size := Heap.lt_size e
      exact absurd (Nat.lt_of_lt_of_le h1 (Nat.le_trans I.ok.bsz z)) (Nat.lt_irrefl _)
  · rcases List.mem_cons.mp (I.stkSub b z) with z | z
    · exact (hfp b hb).1.2.1 z
    · exact (hfp b hb).1.2.2.1 z
  · obtain ⟨e2, nv⟩ := wipe_some e2
    have e3 : Vis scope y := e3
    rcases e3 with k | k | k
    · rcases ok.own _ (PySem.mem_of_lookup k) (.inl rfl) with z | z
      · obtain ⟨p, hp, ep⟩ := List.mem_map.mp z
        have e4 := ok.ix p hp
        rw [show p.1 = y from ep] at e4
        exact absurd (List.mem_map.mpr ⟨p, hp, nodup_ix hN e4 e1⟩) nv
      · exact absurd (List.mem_of_getElem? e1) z
    · exact absurd rfl (nocell _ (PySem.mem_of_lookup k))
    · obtain ⟨m, hn, hl⟩ := I.loc
      have hvis : Vis X.env.scope y := (ok.free _ (PySem.mem_of_lookup k) rfl).elim (fun k => .inr (.inl k)) (fun k => .inr (.inr k))
      obtain ⟨u, r, q⟩ := hl i y v e1 e2 hvis
      obtain ⟨c2, h2⟩ := look k
      refine ⟨u, r, .inr ⟨.inr k, c2, h2, ?_⟩⟩
      have c1 := cm h2
      rcases q with ⟨k', _⟩ | ⟨_, c3, e', z⟩
      · have k' : X.env.scope.names.lookup y = some .local := k'
        rcases ok.free _ (PySem.mem_of_lookup k) rfl with k2 | k2 <;> rw [show X.env.scope.names.lookup y = _ from k2] at k' <;> cases k'
      · rw [c1] at e'
        cases e'
        exact cellK z
  · obtain ⟨u, z⟩ := I.cell y c (cm e)
    exact ⟨u, cellK z⟩
  · have hp : p ∈ [(a, go)] ++ [] := hp
    rw [List.append_nil] at hp
    rw [List.mem_singleton.mp hp]
    refine ⟨hgo, I.hok.fresh (Nat.le_of_lt ha), Nat.ne_of_gt ha, fun z => ?_, hgd⟩
    rcases List.mem_cons.mp (I.stkSub a z) with z | z
    · have h1 := I.lt
      rw [z] at ha
      exact absurd (Nat.lt_trans ha h1) (Nat.lt_irrefl _)
    · exact I.nofs (Nat.le_of_lt ha) z
  · rw [wipe_length]
    exact I.len
end
/-- what stands where the generator ends, and where it hands out a truth -/
def GxE (Z : Cx) (σ0 : L2.St) (Qe : Hp → Prop) : Nat → Shared → Shared → Prop := fun _ _ s1 => ∃ H, Inv Z [] σ0 H s1 ∧ Qe H
def GxY (Z : Cx) (e : Bool) (Qn : Hp → Prop) : Protocol := fun _ _ v s kap => ∃ (c : Bool) (H : Hp) (σ' : L2.St), v = .bool c ∧ Inv Z [] σ' H s ∧ (c = e → ∀ s' : Shared, s'.heap = s.heap → s'.os = s.os → AllBare s'.gens → kap (.send .none) s') ∧ (c ≠ e → Qn H)
abbrev gxTurn (J : It) (g : TG) (tt : TT) (te : TE) (vs : List Nat) (σ0 : L2.St) (e : Bool) (Qe Qn : Hp → Prop) (W : Nat → Nat → Hp → Prop) : Prop :=
  ∀ i m H, W i m H → (J.stop i H ∧ Qe H) ∨ (J.go i H ∧ ∃ Nx : Hp → Prop, (∀ H', Nx H' → ∃ m', m' < m ∧ W (i + 1) m' H') ∧ ∀ x H', J.yld i H x H' → g x σ0 H' fun σ2 H2 => wipe σ2 vs = σ0 ∧ tt σ2 H2 fun b H3 =>
    if b = true then te σ2 H3 fun y H4 => ∃ c, y = .bl c ∧ (c = e → Nx H4) ∧ (c ≠ e → Qn H4) else Nx H3)
section
variable {X : Cx} {A0 : Around} {s1 : Shared} {H1 : Hp} {ce : Env} {fp : List Addr} {pn : List (Addr × Obj)} {elt tg iter : Expr} {ifs : List Expr} {scope : Scope} {gpos : Pos} {it : Addr} {tn : Nat → Heap → Prop} {J : It} {g : TG} {tt : TT} {te : TE} {vs : List Nat} {σ0 : L2.St} {e : Bool} {Qe Qn : Hp → Prop} {W : Nat → Nat → Hp → Prop}
abbrev gxCode (elt tg iter : Expr) (ifs : List Expr) (scope : Scope) (gpos : Pos) (it : Addr) (ce : Env) : Code := .compLoop (.GeneratorExp elt [⟨tg, iter, ifs, 0⟩] scope gpos) 0 (.ref it) .none ce
abbrev gxZ (X : Cx) (A0 : Around) (s1 : Shared) (H1 : Hp) (ce : Env) (fp : List Addr) (pn : List (Addr × Obj)) (elt tg iter : Expr) (ifs : List Expr) (scope : Scope) (gpos : Pos) (it : Addr) : Cx := gxCx X (A0.over (gxCode elt tg iter ifs scope gpos it ce) []) s1 H1 ce fp pn
theorem gx_fp {Z : Cx} (hZ : Z = gxZ X A0 s1 H1 ce fp pn elt tg iter ifs scope gpos it) (hpn : ∀ p ∈ pn, p.1 ∉ fp) {σ' : L2.St} {H' : Hp} {s' : Shared} (I : Inv Z [] σ' H' s') (hn : ∀ b ∈ fp, H' b = none) : ∀ b ∈ fp, FpOk Z [] H' b := by
  subst hZ
  intro b hb
  refine ⟨hn b hb, (I.ok.exf b hb).1, I.ok.exfs b hb, .inl hb, fun x c e => (I.ok.exf b hb).2 x c e, fun p hp z => ?_⟩
  have hp : p ∈ pn := by
    rcases List.mem_append.mp hp with hp | hp
    · exact hp
    · cases hp
  exact hpn p hp (by rw [z]; exact hb)
theorem seg_gx {Z : Cx} (hZ : Z = gxZ X A0 s1 H1 ce fp pn elt tg iter ifs scope gpos it) (hpn : ∀ p ∈ pn, p.1 ∉ fp) (hco : ce.scope.isCoroutine = false) (T : Turn X.prog X.w X.K tg J fp it tn) (pg : PG Z tg g) (pt : PTs Z ifs tt) (pe : PE Z elt te) (turn : gxTurn J g tt te vs σ0 e Qe Qn W) :
    ∀ (m i n : Nat) (s₀ s : Shared) (H : Hp), m < n → W i m H → Inv Z [] σ0 H s → tn i s.heap → (∀ b ∈ fp, H b = none) →
      Seg (model X.prog X.w) A0 (fun n s₀ r s1 => r = .ok .next ∧ GxE Z σ0 Qe n s₀ s1) (GxY Z e Qn) n s₀ (gxCode elt tg iter ifs scope gpos it ce) ((model X.prog X.w).den (gxCode elt tg iter ifs scope gpos it ce)) [] s := by
  intro m
  induction m using Nat.strongRecOn with
  | ind m ih =>
    intro i n s₀ s H hmn w0 I st nf
    have fpo := gx_fp hZ hpn I nf
    show Seg _ A0 _ _ _ s₀ _ ((compTurn (.GeneratorExp elt [⟨tg, iter, ifs, 0⟩] scope gpos) 0 (.ref it) .none ce).onRaise (leaving ce)) [] s
    rw [compTurn_gen, Sem.onRaise_eq_wrap]
    refine seg_bind_wrap (wpAny_standAt ?_)
    rcases turn i m H w0 with ⟨stop, qe⟩ | ⟨go, Nx, hNx, step⟩
    · have td := T.done Z (by rw [hZ]; rfl) (by rw [hZ]; rfl) (by rw [hZ]; rfl) (by rw [hZ]; rfl) i [] s σ0 H (fun _ _ => False) I fpo st stop
      have hA : Z.A = A0.over (gxCode elt tg iter ifs scope gpos it ce) [] := by rw [hZ]; rfl
      rw [hA] at td
      refine seg_bind_wrap (wpAny_mono td (fun r s2 hr => ?_) fun _ _ z => z.elim)
      obtain ⟨rfl, I2⟩ := hr
      exact seg_end (.ok .next) ⟨rfl, H, I2, qe⟩
    · have hA : Z.A = A0.over (gxCode elt tg iter ifs scope gpos it ce) [] := by rw [hZ]; rfl
      have hE : Z.env = ce := by rw [hZ]; rfl
      have hPr : Z.prog = X.prog := by rw [hZ]; rfl
      have hWd : Z.w = X.w := by rw [hZ]; rfl
      have hXe : Z.xe = fun _ _ => False := by rw [hZ]; rfl
      have ti := T.item Z hPr hWd (by rw [hZ]; rfl) (by rw [hZ]; rfl) i [] s σ0 H (fun _ _ => False) I fpo st go
      rw [hA] at ti
      refine seg_bind_wrap (wpAny_mono ti (fun r s2 hr => ?_) fun _ _ z => z.elim)
      obtain ⟨u, rfl, ti⟩ := hr
      refine seg_bind_wrap (wpAny_mono ti (fun _ s7 h7 => ?_) fun _ _ z => z.elim)
      obtain ⟨x, H7, I7, r7, y7, st7, n7⟩ := h7
      have I7' := I7.pinned (gx_fp hZ hpn I7 n7) (T.obj _ _ st7)
      have ta := pg.run _ s7 _ H7 x u _ I7' r7 (step x H7 y7)
      rw [hPr, hWd, hA, hE, hXe] at ta
      refine seg_bind_wrap (wpAny_mono ta (fun _ s8 h8 => ?_) fun _ _ z => z.elim)
      obtain ⟨σ8, H8, I8, hw8, q8⟩ := h8
      have tt' := pt.run _ s8 σ8 H8 _ I8 q8
      rw [hPr, hWd, hA, hE, hXe] at tt'
      refine seg_bind_wrap (wpAny_mono tt' (fun b s9 h9 => ?_) fun _ _ z => z.elim)
      obtain ⟨H9, I9, q9⟩ := h9
      -- what stands at the next turn
      have next : ∀ {sn s' : Shared} {H' : Hp}, Inv Z ([] ++ pinsAt fp s7.heap) σ8 H' sn → s'.heap = sn.heap → s'.os = sn.os → AllBare s'.gens → Inv Z [] σ0 H' s' ∧ tn (i + 1) s'.heap ∧ ∀ b ∈ fp, H' b = none := fun {sn s' H'} I' e1 e2 e3 => by
        have pin' : ∀ b ∈ fp, ∀ o, s7.heap.get? b = some o → sn.heap.get? b = some o ∧ H' b = none := fun b hb o eo =>
          let z := I'.pin (b, o) (List.mem_append_right _ (List.mem_append_right _ (mem_pinsAt hb eo)))
          ⟨z.1, z.2.1⟩
        have hl : σ0.length = σ8.length := by rw [← hw8, wipe_length]
        have I'' : Inv Z [] σ0 H' sn := (I'.unpinned (pins := [])).weak hl fun j v ev => by
          rw [← hw8] at ev
          exact (wipe_some ev).1
        refine ⟨inv_sh I'' e1 e2 e3, ?_, fun b hb => ?_⟩
        · rw [e1]
          exact T.keep _ _ _ st7 fun b hb o eo => (pin' b hb o eo).1
        · obtain ⟨o, eo, _⟩ := T.obj _ _ st7 b hb
          exact (pin' b hb o eo).2
      cases b with
      | false =>
        simp only [Bool.false_eq_true, if_false] at q9 ⊢
        obtain ⟨m', hm, w'⟩ := hNx _ q9
        obtain ⟨J1, J2, J3⟩ := next I9 rfl rfl I9.bare
        exact seg_again rfl (ih m' hm (i + 1) n s₀ s9 H9 (by omega) w' J1 J2 J3)
      | true =>
        simp only [if_true] at q9 ⊢
        have out : ∀ v, yieldOut ce v = yieldValue v := fun v => by simp only [yieldOut, hco, Bool.false_eq_true, if_false]
        simp only [out]
        rw [Sem.bind_eq_wrap', Sem.bind_eq_wrap']; rw [Sem.wrap_wrap, Sem.wrap_wrap]
        have tel := pe.run _ s9 σ8 H9 _ I9 q9
        rw [hPr, hWd, hA, hE, hXe] at tel
        refine seg_wrap (wpAny_mono tel (fun y s10 h10 => ?_) fun _ _ z => z.elim)
        obtain ⟨yv, H10, I10, r10, cb, rfl, qn, qx⟩ := h10
        obtain rfl : y = Value.bool cb := r10
        obtain ⟨n', rfl⟩ : ∃ n', n = n' + 1 := ⟨n - 1, by omega⟩
        refine seg_at (seg_yield rfl rfl rfl ⟨cb, H10, σ8, rfl, I10.unpinned, fun hc s' e1 e2 e3 => ?_, qx⟩)
        obtain ⟨m', hm, w'⟩ := hNx _ (qn hc)
        obtain ⟨J1, J2, J3⟩ := next I10 e1 e2 e3
        exact seg_again rfl (ih m' hm (i + 1) n' s' s' H10 (by omega) w' J1 J2 J3)
/-- its begin -/
theorem seg_gx0 {Z : Cx} (hZ : Z = gxZ X A0 s1 H1 ce fp pn elt tg iter ifs scope gpos it) (hpn : ∀ p ∈ pn, p.1 ∉ fp) (hco : ce.scope.isCoroutine = false) (T : Turn X.prog X.w X.K tg J fp it tn) (pg : PG Z tg g) (pt : PTs Z ifs tt) (pe : PE Z elt te) (turn : gxTurn J g tt te vs σ0 e Qe Qn W)
    {m n : Nat} {s₀ s : Shared} {H : Hp} (hmn : m < n) (w0 : W 0 m H) (I : Inv Z [] σ0 H s) (st : tn 0 s.heap) (nf : ∀ b ∈ fp, H b = none) :
    Seg (model X.prog X.w) A0 (fun n s₀ r s1 => r = .ok .next ∧ GxE Z σ0 Qe n s₀ s1) (GxY Z e Qn) n s₀ (.compStart (.GeneratorExp elt [⟨tg, iter, ifs, 0⟩] scope gpos) 0 (.ref it) .none ce) ((model X.prog X.w).den (.compStart (.GeneratorExp elt [⟨tg, iter, ifs, 0⟩] scope gpos) 0 (.ref it) .none ce)) [] s := by
  have loop := seg_gx hZ hpn hco T pg pt pe turn m 0 n s₀ s H hmn w0 I st nf
  show Seg _ A0 _ _ _ s₀ _ ((compStart (.GeneratorExp elt [⟨tg, iter, ifs, 0⟩] scope gpos) 0 (.ref it) .none ce).onRaise (leaving ce)) [] s
  unfold compStart
  rw [Sem.onRaise_eq_wrap]
  show Seg _ A0 _ _ _ s₀ _ ((ask >>= _).wrap _ _ _ _) [] s
  refine seg_bind_wrap (wpAny_askSetting ?_)
  split
  · exact seg_again rfl loop
  · refine seg_bind_wrap (wpAny_rule ?_)
    show Seg _ A0 _ _ _ s₀ _ ((standAt iter.pos >>= _).wrap _ _ _ _) [] s
    exact seg_bind_wrap (wpAny_standAt (seg_bind_wrap (T.self _ 0 s _ _ st (seg_again rfl loop))))
end
theorem un_kept {fs ex : List Addr} {H H' : Hp} {h h1 h2 : Heap} (u : Un fs ex H H' h h1) (k : ∀ b o, h1.get? b = some o → h2.get? b = some o) : Un fs ex H H' h h2 := u.trans (Un.kept k)
/-- all, over it -/
theorem gx_all {Z : Cx} {A : Around} {a : Addr} {g : Nat} {σ0 : L2.St} {Qe Qn : Hp → Prop} {R : Result → Shared → Prop} (hh : A.handled = none) (hd : A.depth < recursionLimit) (isG : ∀ {σ' : L2.St} {H' : Hp} {s' : Shared}, Inv Z [] σ' H' s' → s'.heap.IsGen a g)
    (hE : ∀ (s' : Shared) (H' : Hp), s'.os = Z.s_0.os → AllBare s'.gens → Un Z.fs Z.ex Z.H_0 H' Z.s_0.heap s'.heap → HOk Z.prog Z.w H' s'.heap → Qe H' → R (.ok (.ret (.bool true))) s')
    (hN : ∀ (s' : Shared) (H' : Hp), s'.os = Z.s_0.os → AllBare s'.gens → Un Z.fs Z.ex Z.H_0 H' Z.s_0.heap s'.heap → HOk Z.prog Z.w H' s'.heap → Qn H' → R (.ok (.ret (.bool false))) s') :
    ∀ (m : Nat) (s : Shared), s.heap.IsGen a g → s.heap.NoLimit → (∃ gs, s.gens[g]? = some gs ∧ gs.Goes (model Z.prog Z.w) A.in1.in1 (fun n s₀ r s1 => r = .ok .next ∧ GxE Z σ0 Qe n s₀ s1) (GxY Z true Qn) m (.send .none) (s.setGen g .running)) →
      codeAny (model Z.prog Z.w) A (.builtin "all.loop" ⟨[.ref a], []⟩) R s := by
  intro m
  induction m with
  | zero =>
    intro s hg hl ⟨gs, hgs, goes⟩
    refine codeAny_builtin F.entry_all_loop ?_
    rw [Around.under_plainId F.plain_all_loop _]
    show wpAny _ A.in1 (pyNext (.ref a) >>= _) _ _ s
    refine wpAny_bind (wpAny_pyNext_genexpQ (A := A.in1) hh hl hd hg hgs goes (fun v s1 gs' hbare hv => ?_) (fun s1 hp h' hk => ?_))
    · obtain ⟨c, H', σ', rfl, I, more, last⟩ := hv
      have b1 := allBare_setGen (g := g) I.bare hbare
      refine wpAny_bind (wpAny_holding (wpAny_truthy_bool (wpAny_bind (wpAny_letGo ?_))))
      cases c with
      | true => exact False.elim (more rfl s1 rfl rfl I.bare)
      | false =>
        simp only [Bool.false_eq_true, if_false]
        exact wpAny_bind (wpAny_rule (wpAny_pure (hN _ H' I.os b1 I.base I.hok (last (by decide)))))
    · obtain ⟨H', I, q⟩ := hp
      exact wpAny_bind (wpAny_rule (wpAny_pure (hE _ H' I.os (allBare_setGen I.bare rfl) (un_kept I.base hk) (I.hok.kept hk) q)))
  | succ m ih =>
    intro s hg hl ⟨gs, hgs, goes⟩
    have hgl : g < s.gens.size := (Array.getElem?_eq_some_iff.mp hgs).1
    refine codeAny_builtin F.entry_all_loop ?_
    rw [Around.under_plainId F.plain_all_loop _]
    show wpAny _ A.in1 (pyNext (.ref a) >>= _) _ _ s
    refine wpAny_bind (GenW.wpAny_gsz (n := g + 1) hgl (wpAny_pyNext_genexpQ (A := A.in1) hh hl hd hg hgs goes (fun v s1 gs' hbare hv => ?_) (fun s1 hp h' hk => ?_)))
    · intro hsz
      obtain ⟨c, H', σ', rfl, I, more, last⟩ := hv
      have b1 := allBare_setGen (g := g) I.bare hbare
      refine wpAny_bind (wpAny_holding (wpAny_truthy_bool (wpAny_bind (wpAny_letGo ?_))))
      cases c with
      | true =>
        simp only [if_true]
        have hsz1 : g < s1.gens.size := by
          have q : (s1.setGen g gs').gens.size = s1.gens.size := GenW.setGen_size _ _ _
          have hsz' : g + 1 ≤ (s1.setGen g gs').gens.size := hsz
          omega
        refine wpAny_pure ⟨plainId_quiet F.plain_all_loop _, ih (s1.setGen g gs') (isG (s' := s1) I) I.nolimit ⟨gs', setGen_at hsz1, ?_⟩⟩
        exact more rfl _ rfl rfl (allBare_setGen (s := s1.setGen g gs') b1 rfl)
      | false =>
        simp only [Bool.false_eq_true, if_false]
        exact wpAny_bind (wpAny_rule (wpAny_pure (hN _ H' I.os b1 I.base I.hok (last (by decide)))))
    · intro hsz
      obtain ⟨H', I, q⟩ := hp
      exact wpAny_bind (wpAny_rule (wpAny_pure (hE _ H' I.os (allBare_setGen I.bare rfl) (un_kept I.base hk) (I.hok.kept hk) q)))
/-- any, over it -/
theorem gx_any {Z : Cx} {A : Around} {a : Addr} {g : Nat} {σ0 : L2.St} {Qe Qn : Hp → Prop} {R : Result → Shared → Prop} (hh : A.handled = none) (hd : A.depth < recursionLimit) (isG : ∀ {σ' : L2.St} {H' : Hp} {s' : Shared}, Inv Z [] σ' H' s' → s'.heap.IsGen a g)
    (hE : ∀ (s' : Shared) (H' : Hp), s'.os = Z.s_0.os → AllBare s'.gens → Un Z.fs Z.ex Z.H_0 H' Z.s_0.heap s'.heap → HOk Z.prog Z.w H' s'.heap → Qe H' → R (.ok (.ret (.bool false))) s')
    (hN : ∀ (s' : Shared) (H' : Hp), s'.os = Z.s_0.os → AllBare s'.gens → Un Z.fs Z.ex Z.H_0 H' Z.s_0.heap s'.heap → HOk Z.prog Z.w H' s'.heap → Qn H' → R (.ok (.ret (.bool true))) s') :
    ∀ (m : Nat) (s : Shared), s.heap.IsGen a g → s.heap.NoLimit → (∃ gs, s.gens[g]? = some gs ∧ gs.Goes (model Z.prog Z.w) A.in1.in1 (fun n s₀ r s1 => r = .ok .next ∧ GxE Z σ0 Qe n s₀ s1) (GxY Z false Qn) m (.send .none) (s.setGen g .running)) →
      codeAny (model Z.prog Z.w) A (.builtin "any.loop" ⟨[.ref a], []⟩) R s := by
  intro m
  induction m with
  | zero =>
    intro s hg hl ⟨gs, hgs, goes⟩
    refine codeAny_builtin F.entry_any_loop ?_
    rw [Around.under_plainId F.plain_any_loop _]
    show wpAny _ A.in1 (pyNext (.ref a) >>= _) _ _ s
    refine wpAny_bind (wpAny_pyNext_genexpQ (A := A.in1) hh hl hd hg hgs goes (fun v s1 gs' hbare hv => ?_) (fun s1 hp h' hk => ?_))
    · obtain ⟨c, H', σ', rfl, I, more, last⟩ := hv
      have b1 := allBare_setGen (g := g) I.bare hbare
      refine wpAny_bind (wpAny_holding (wpAny_truthy_bool (wpAny_bind (wpAny_letGo ?_))))
      cases c with
      | false => exact False.elim (more rfl s1 rfl rfl I.bare)
      | true =>
        simp only [if_true]
        exact wpAny_bind (wpAny_rule (wpAny_pure (hN _ H' I.os b1 I.base I.hok (last (by decide)))))
    · obtain ⟨H', I, q⟩ := hp
      exact wpAny_bind (wpAny_rule (wpAny_pure (hE _ H' I.os (allBare_setGen I.bare rfl) (un_kept I.base hk) (I.hok.kept hk) q)))
  | succ m ih =>
    intro s hg hl ⟨gs, hgs, goes⟩
    have hgl : g < s.gens.size := (Array.getElem?_eq_some_iff.mp hgs).1
    refine codeAny_builtin F.entry_any_loop ?_
    rw [Around.under_plainId F.plain_any_loop _]
    show wpAny _ A.in1 (pyNext (.ref a) >>= _) _ _ s
    refine wpAny_bind (GenW.wpAny_gsz (n := g + 1) hgl (wpAny_pyNext_genexpQ (A := A.in1) hh hl hd hg hgs goes (fun v s1 gs' hbare hv => ?_) (fun s1 hp h' hk => ?_)))
    · intro hsz
      obtain ⟨c, H', σ', rfl, I, more, last⟩ := hv
      have b1 := allBare_setGen (g := g) I.bare hbare
      refine wpAny_bind (wpAny_holding (wpAny_truthy_bool (wpAny_bind (wpAny_letGo ?_))))
      cases c with
      | false =>
        simp only [Bool.false_eq_true, if_false]
        have hsz1 : g < s1.gens.size := by
          have q : (s1.setGen g gs').gens.size = s1.gens.size := GenW.setGen_size _ _ _
          have hsz' : g + 1 ≤ (s1.setGen g gs').gens.size := hsz
          omega
        refine wpAny_pure ⟨plainId_quiet F.plain_any_loop _, ih (s1.setGen g gs') (isG (s' := s1) I) I.nolimit ⟨gs', setGen_at hsz1, ?_⟩⟩
        exact more rfl _ rfl rfl (allBare_setGen (s := s1.setGen g gs') b1 rfl)
      | true =>
        simp only [if_true]
        exact wpAny_bind (wpAny_rule (wpAny_pure (hN _ H' I.os b1 I.base I.hok (last (by decide)))))
    · intro hsz
      obtain ⟨H', I, q⟩ := hp
      exact wpAny_bind (wpAny_rule (wpAny_pure (hE _ H' I.os (allBare_setGen I.bare rfl) (un_kept I.base hk) (I.hok.kept hk) q)))
/-- the generator stands ready to be walked -/
def GxReady (X : Cx) (pins : List (Addr × Obj)) (σ : L2.St) (e : Bool) (Qe Qn : Hp → Prop) (a : Addr) (s5 : Shared) : Prop :=
  ∃ (g m : Nat) (Z : Cx) (σ0 : L2.St), Z.prog = X.prog ∧ Z.w = X.w ∧ s5.heap.IsGen a g ∧ s5.heap.NoLimit ∧ (∀ {σ' : L2.St} {H' : Hp} {s' : Shared}, Inv Z [] σ' H' s' → s'.heap.IsGen a g) ∧
    (∃ gs, s5.gens[g]? = some gs ∧ gs.Goes (model Z.prog Z.w) X.A.in1.in1 (fun n s₀ r s1 => r = .ok .next ∧ GxE Z σ0 Qe n s₀ s1) (GxY Z e Qn) m (.send .none) (s5.setGen g .running)) ∧
    ∀ (s' : Shared) (H' : Hp), s'.os = Z.s_0.os → AllBare s'.gens → Un Z.fs Z.ex Z.H_0 H' Z.s_0.heap s'.heap → HOk Z.prog Z.w H' s'.heap → Inv X pins σ H' s'
theorem gx_room {A : Around} {k : Nat} {elt tg iter : Expr} {ifs : List Expr} {scope : Scope} {gpos : Pos} {it : Addr} {ce : Env} (r : Room (k + 1) A) : Room k (A.in1.in1.over (gxCode elt tg iter ifs scope gpos it ce) []) :=
  ⟨r.hd, by have := r.dp; show A.depth + 1 + 3 * k + 5 < _; omega, by have := r.un; show A.units + 1 + 1 + 3 + 16 * k + 200 < _; omega⟩
theorem gx_frames {A : Around} {st : List Env} {elt tg iter : Expr} {ifs : List Expr} {scope : Scope} {gpos : Pos} {it : Addr} {ce : Env} (h : A.frames = some st) : (A.in1.in1.over (gxCode elt tg iter ifs scope gpos it ce) []).frames = some (ce :: st) := by
  obtain ⟨hd, d, fr, gs, u⟩ := A
  obtain rfl : fr = some st := h
  rfl
abbrev tQuant (P : Addr) (wi : TI) (g : TG) (tt : TT) (te : TE) (vs : List Nat) (e : Bool) : TE := fun σ H Q => wi σ H fun J H1 => GxR.TabG H1 P ∧ ∀ H2, GxR.Tabbed P H1 H2 → ∃ W : Nat → Nat → Hp → Prop, (∃ m, W 0 m H2) ∧ gxTurn J g tt te vs (wipe σ vs) e (fun H => Q (.bl e) H) (fun H => Q (.bl (!e)) H) W
theorem gx_eval {X : Cx} {pins : List (Addr × Obj)} {σ : L2.St} {H : Hp} {s : Shared} {c P : Addr} {elt tg iter : Expr} {ifs : List Expr} {scope : Scope} {own : List (Str × Nat)} {gpos : Pos} {wi : TI} {g : TG} {tt : TT} {te : TE} {e : Bool} {k : Nat} {Q : VK} {Q' : Value → Shared → Prop}
    (hN : X.N.Nodup) (hr : Room (k + 1) X.A) (TB : LamX.TabB X.base X.mg c P) (hcode : X.env.code = .ref c) (ok : BlkOk X.N X.env.scope scope own) (nocell : ∀ y ∈ scope.names, y.2 ≠ .cell) (hco : scope.isCoroutine = false) (dot : scope.names.lookup (".0" : Str) = some NameKind.local)
    (hi : PI X tg iter wi)
    (hg : ∀ (A : Around) (s : Shared) (H : Hp) (cl : List (Str × Addr)) (C : Addr) (code : Value) (bi : Addr) (fp : List Addr) (pn : List (Addr × Obj)), Room k A → PG (gxCx X A s H (genEnv scope cl C code bi X.env) fp pn) tg g)
    (ht : ∀ (A : Around) (s : Shared) (H : Hp) (cl : List (Str × Addr)) (C : Addr) (code : Value) (bi : Addr) (fp : List Addr) (pn : List (Addr × Obj)), Room k A → PTs (gxCx X A s H (genEnv scope cl C code bi X.env) fp pn) ifs tt)
    (he : ∀ (A : Around) (s : Shared) (H : Hp) (cl : List (Str × Addr)) (C : Addr) (code : Value) (bi : Addr) (fp : List Addr) (pn : List (Addr × Obj)), Room k A → PE (gxCx X A s H (genEnv scope cl C code bi X.env) fp pn) elt te)
    (hs : ∀ v, genFold iter X.env v = pure v) (I : Inv X pins σ H s) (h : tQuant P wi g tt te (own.map (·.2)) e σ H Q)
    (hQ : ∀ a s5, GxReady X pins σ e (fun H => Q (.bl e) H) (fun H => Q (.bl (!e)) H) a s5 → Q' (.ref a) s5) :
    wpAny (model X.prog X.w) X.A (eval (.GeneratorExp elt [⟨tg, iter, ifs, 0⟩] scope gpos) X.env) Q' X.xe s := by
  have hfree : ∀ y ∈ scope.names, y.2 = .free → ∃ c, X.env.cells.lookup y.1 = some c := fun y hy ey => by
    rcases ok.free y hy ey with z | z
    · exact I.ok.has _ (.inl z)
    · exact I.ok.has _ (.inr z)
  refine wpAny_GeneratorExp_make hco (closure_ok hfree) nocell dot ok.kind hr.depth ?_ hs
  refine thn (hi.run pins s σ H _ I h) fun xv s1 hx => thn hx fun itv s2 h2 => ?_
  obtain ⟨it, fp, tn, J, H2, rfl, I2, T, st2, f2, ⟨ps, hP, tro⟩, q⟩ := h2
  refine ⟨I2.nolimit, ?_⟩
  have hPs : s2.heap.get? P = some { cls := .none, data := .fields ps } := I2.hok P _ hP
  have cd : PySem.W.CodeHd s2.heap c P := TB.code.keeps fun b u z => I2.bk b u z
  have szf : ∀ b ∈ fp, b < s2.heap.objs.size := fun b hb => by
    obtain ⟨o, eo, _⟩ := T.obj _ _ st2 b hb
    exact Heap.lt_size eo
  -- behind the code object
  have cont : ∀ (code : Value) (h3 : Heap) (tk : Nat) (ps' : Array Value), Heap.ExtBut P s2.heap h3 → s2.heap.objs.size ≤ h3.objs.size → h3.get? P = some { cls := .none, data := .fields ps' } → (∃ more, ps' = ps ++ more) → TriplesOk ps'.toList →
      wpAny (model X.prog X.w) X.A (builtinsFor X.env.globals X.env.builtins) (fun bi s4 => ∀ h', h'.Ns s4.heap.objs.size (fun y => if y = ".0" then some (.ref it) else none) → Heap.SameBut s4.heap.objs.size (s4.heap.push { cls := .type "frame", data := .dict #[] }) h' →
        Q' (.ref h'.objs.size) { s4 with
          gens := s4.gens.push (.fresh (.compStart (.GeneratorExp elt [⟨tg, iter, ifs, 0⟩] scope gpos) 0 (.ref it) .none (genEnv scope (cloFrom X.env.cells scope.names []) s4.heap.objs.size code bi X.env)))
          toks := s4.toks + 1 + 1 + 1
          heap := h'.push { cls := .type "generator", data := .fields #[.int s4.gens.size 0, .str "<genexpr>" (s4.toks + 1), .str (X.env.qual ++ "<genexpr>") (s4.toks + 1 + 1)] } }) X.xe { s2 with heap := h3, toks := tk } := by
    intro code h3 tk ps' hx hsz hP3 ⟨more, em⟩ tro'
    obtain ⟨bm, ob, e1, e2, e3, e4, e5, e6, e7, e8⟩ := TB.bm
    have keep3 : ∀ b u, b ≠ P → s2.heap.get? b = some u → h3.get? b = some u := fun b u hb z => hx b u hb z
    refine wpAny_builtinsFor (m := X.mg) (by rw [I2.ok.glob]; exact (I2.mod.glob.keeps I2.bk).extBut hx TB.gP) e1 e2 (keep3 _ _ e4 (I2.bk _ _ e5)) e6 e7 e8 ?_
    intro h' hns hsame
    have J4 := GxR.inv_tab (more := more) (h' := h3) (g' := s2.gens) (d' := s2.drawn) (t' := tk) I2 hP keep3 (by rw [← em]; exact hP3) I2.bare
    have tabbed : GxR.Tabbed P H2 (upd H2 P (.tbl (ps ++ more))) := ⟨⟨ps ++ more, upd_same, by rw [← em]; exact tro'⟩, fun b hb => upd_ne hb⟩
    obtain ⟨W, ⟨m0, w0⟩, turn⟩ := q _ tabbed
    have hsz' : h'.objs.size = h3.objs.size + 1 := by rw [hsame.1, Heap.size_push]
    have kp5 : ∀ (go : Obj) b o, h3.get? b = some o → (h'.push go).get? b = some o := fun go b o eo => Heap.get?_push_of_some _ (hsame.extBut b o (Nat.ne_of_lt (Heap.lt_size eo)) (Heap.get?_push_of_some _ eo))
    have fpP : ∀ b ∈ fp, b ≠ P := fun b hb z => by
      have := (f2 b hb).1
      rw [z, hP] at this
      cases this
    have nf : ∀ b ∈ fp, upd H2 P (.tbl (ps ++ more)) b = none := fun b hb => by rw [upd_ne (fpP b hb)]; exact (f2 b hb).1
    have f3 : ∀ b ∈ fp, FpOk X pins (upd H2 P (.tbl (ps ++ more))) b ∧ b < h3.objs.size := fun b hb => ⟨⟨nf b hb, (f2 b hb).2⟩, Nat.lt_of_lt_of_le (szf b hb) hsz⟩
    refine hQ _ _ ?_
    show GxReady X pins σ e _ _ h'.objs.size { s2 with
      gens := s2.gens.push (.fresh (.compStart (.GeneratorExp elt [⟨tg, iter, ifs, 0⟩] scope gpos) 0 (.ref it) .none (genEnv scope (cloFrom X.env.cells scope.names []) h3.objs.size code builtinsNs X.env)))
      toks := tk + 1 + 1 + 1
      heap := h'.push { cls := .type "generator", data := .fields #[.int s2.gens.size 0, .str "<genexpr>" (tk + 1), .str (X.env.qual ++ "<genexpr>") (tk + 1 + 1)] } }
    generalize hgo : ({ cls := .type "generator", data := .fields #[.int s2.gens.size 0, .str "<genexpr>" (tk + 1), .str (X.env.qual ++ "<genexpr>") (tk + 1 + 1)] } : Obj) = go
    have goC : go.cls = .type "generator" := by rw [← hgo]
    have goD : go.data = .fields #[.int s2.gens.size 0, .str "<genexpr>" (tk + 1), .str (X.env.qual ++ "<genexpr>") (tk + 1 + 1)] := by rw [← hgo]
    have goS : go.slots = #[] := by rw [← hgo]
    have at5 : (h'.push go).get? h'.objs.size = some go := by rw [← hgo]; exact Heap.get?_push_size _ rfl
    have isG : ∀ h : Heap, h.get? h'.objs.size = some go → h.IsGen h'.objs.size s2.gens.size := fun h eo => ⟨go, _, _, eo, goC, goD, goS⟩
    generalize hst : GenState.fresh (.compStart (.GeneratorExp elt [⟨tg, iter, ifs, 0⟩] scope gpos) 0 (.ref it) .none (genEnv scope (cloFrom X.env.cells scope.names []) h3.objs.size code builtinsNs X.env)) = fr
    have bare5 : AllBare (s2.gens.push fr) := I2.bare.push (by rw [← hst]; rfl)
    have rm := gx_room (elt := elt) (tg := tg) (iter := iter) (ifs := ifs) (scope := scope) (gpos := gpos) (it := it) (ce := genEnv scope (cloFrom X.env.cells scope.names []) h3.objs.size code builtinsNs X.env) hr
    obtain ⟨ce, hce⟩ : ∃ ce, ce = genEnv scope (cloFrom X.env.cells scope.names []) h3.objs.size code builtinsNs X.env := ⟨_, rfl⟩
    obtain ⟨s4, hs4⟩ : ∃ s4 : Shared, s4 = { s2 with heap := h3, gens := s2.gens, drawn := s2.drawn, toks := tk } := ⟨_, rfl⟩
    obtain ⟨H4, hH4⟩ : ∃ H4, H4 = upd H2 P (.tbl (ps ++ more)) := ⟨_, rfl⟩
    obtain ⟨Z, hZ⟩ : ∃ Z, Z = gxZ X X.A.in1.in1 s4 H4 ce fp [(h'.objs.size, go)] elt tg iter ifs scope gpos it := ⟨_, rfl⟩
    have J4' : Inv X pins σ H4 s4 := by rw [hs4, hH4]; exact J4
    have Z0 : Inv Z [] (wipe σ (own.map (·.2))) H4 { s2 with heap := h'.push go, gens := s2.gens.push fr, toks := tk + 1 + 1 + 1 } := by
      rw [hZ, hs4, hH4, hce]
      exact gx_start (A := X.A.in1.in1.over (gxCode elt tg iter ifs scope gpos it (genEnv scope (cloFrom X.env.cells scope.names []) h3.objs.size code builtinsNs X.env)) []) (a := h'.objs.size) (go := go) (h5 := h'.push go) (g5 := s2.gens.push fr) (t5 := tk + 1 + 1 + 1) (code := code) J4 hN ok nocell rm.hd (gx_frames J4.ok.frames) f3 (hns.push _) (kp5 go) at5 (by show h3.objs.size < _; omega) (fun v z => by rw [goD] at z; cases z) bare5
    rw [← hH4] at w0
    refine ⟨s2.gens.size, m0 + 1, Z, wipe σ (own.map (·.2)), by rw [hZ]; rfl, by rw [hZ]; rfl, isG _ at5, Z0.nolimit, fun {σ' H' s'} IZ => ?_, ⟨fr, Array.getElem?_push_size .., ?_⟩, fun s' H' os bare un hok => ?_⟩
    · refine isG _ (IZ.pin (h'.objs.size, go) (List.mem_append_left _ ?_)).1
      rw [hZ]
      exact List.mem_cons_self
    · rw [← hst, show Z.prog = X.prog by rw [hZ]; rfl, show Z.w = X.w by rw [hZ]; rfl, ← hce]
      refine ⟨rfl, seg_gx0 (H := H4) hZ (fun p hp z => ?_) (by rw [hce]; exact hco) T (by rw [hZ, hce]; exact hg _ _ _ _ _ _ _ _ _ rm) (by rw [hZ, hce]; exact ht _ _ _ _ _ _ _ _ _ rm) (by rw [hZ, hce]; exact he _ _ _ _ _ _ _ _ _ rm) turn (Nat.lt_succ_self _) w0 (inv_sh Z0 rfl rfl (allBare_setGen (by show AllBare (s2.gens.push _); rw [hce, hst]; exact bare5) rfl)) ?_ fun b hb => by rw [hH4]; exact nf b hb⟩
      · rw [List.mem_singleton.mp hp] at z
        have z1 := (f3 _ z).2
        have z2 : h'.objs.size < h3.objs.size := z1
        omega
      · exact T.keep _ _ _ st2 fun b hb o eo => kp5 go b o (keep3 b o (fpP b hb) eo)
    · refine J4'.call' (ch := fp) ?_ ?_ ?_ bare fun b hb => ?_
      · rw [os, hZ]
        rfl
      · rw [hZ] at un
        exact un
      · rw [hZ] at hok
        exact hok
      · have z := (f3 b hb).1
        exact ⟨z.2.2.2.1, z.2.1, z.2.2.2.2.1, z.2.2.2.2.2⟩
  cases hf : codeAmong gpos ps.toList with
  | none =>
    refine wpAny_genexprCodeX hcode (cd.code hPs tro) (cd.tab hPs) hf fun c' h' tk hx hge hlt hco' _ htab' _ => ?_
    obtain ⟨o1, us, y1, y2, y3, y4, y5, y6, y7, y8, _, _, _, _, _, _, _, _, _, htr, _⟩ := hco'
    exact cont _ h' tk _ hx (Nat.le_trans hge (Nat.le_of_lt hlt)) htab'.2 ⟨_, rfl⟩ htr
  | some cv =>
    refine wpAny_genexprCode_hit hcode (cd.code hPs tro) hf ?_
    exact cont cv s2.heap s2.toks ps (Heap.ExtBut.refl _ _) (Nat.le_refl _) hPs ⟨#[], by simp⟩ tro
end
section
variable {X : Cx} {c P : Addr} {elt tg iter : Expr} {ifs : List Expr} {scope : Scope} {own : List (Str × Nat)} {p pos gpos : Pos} {wi : TI} {g : TG} {tt : TT} {te : TE} {k : Nat}
theorem pe_allG (hN : X.N.Nodup) (hr : Room (k + 1) X.A) (hg : Gl X "all") (hm : X.mg "all" = none) (hb : bootBuiltins "all" = some (.builtin "all")) (TB : LamX.TabB X.base X.mg c P) (hcode : X.env.code = .ref c) (ok : BlkOk X.N X.env.scope scope own) (nocell : ∀ y ∈ scope.names, y.2 ≠ .cell) (hco : scope.isCoroutine = false) (dot : scope.names.lookup (".0" : Str) = some NameKind.local)
    (hi : PI X tg iter wi)
    (pg : ∀ (A : Around) (s : Shared) (H : Hp) (cl : List (Str × Addr)) (C : Addr) (code : Value) (bi : Addr) (fp : List Addr) (pn : List (Addr × Obj)), Room k A → PG (gxCx X A s H (genEnv scope cl C code bi X.env) fp pn) tg g)
    (pt : ∀ (A : Around) (s : Shared) (H : Hp) (cl : List (Str × Addr)) (C : Addr) (code : Value) (bi : Addr) (fp : List Addr) (pn : List (Addr × Obj)), Room k A → PTs (gxCx X A s H (genEnv scope cl C code bi X.env) fp pn) ifs tt)
    (pe : ∀ (A : Around) (s : Shared) (H : Hp) (cl : List (Str × Addr)) (C : Addr) (code : Value) (bi : Addr) (fp : List Addr) (pn : List (Addr × Obj)), Room k A → PE (gxCx X A s H (genEnv scope cl C code bi X.env) fp pn) elt te)
    (hs : ∀ v, genFold iter X.env v = pure v)
    (he : starEach [.GeneratorExp elt [⟨tg, iter, ifs, 0⟩] scope gpos] X.env = (false, eval (.GeneratorExp elt [⟨tg, iter, ifs, 0⟩] scope gpos) X.env) :: starEach [] X.env := by rfl) :
    PE X (.Call (.Name "all" p) [.GeneratorExp elt [⟨tg, iter, ifs, 0⟩] scope gpos] [] pos) (tQuant P wi g tt te (own.map (·.2)) true) := by
  refine ⟨fun pins s σ H Q I h => ?_⟩
  refine wpAny_Call_Name_kw (ld_blt I hg hm hb ?_)
  refine PyProof.Rows.callWith_builtin1 ?_ he (by rfl)
  rw [he]
  show wpAny _ _ (spliced ((false, eval (.GeneratorExp elt [⟨tg, iter, ifs, 0⟩] scope gpos) X.env) :: backTo pos (starEach [] X.env))) _ _ s
  refine Calls.spliced_cons (gx_eval hN hr TB hcode ok nocell hco dot hi pg pt pe hs I h fun a s5 hR => ?_)
  obtain ⟨gi, m, Z, σ0, e1, e2, isG, nl, isG', goes, back⟩ := hR
  refine Calls.spliced_nil ?_
  refine call_function_tree F.kind_all F.plain_all F.entry_all (F.args_all1 _) ?_
  unfold Builtin.«all»
  refine wpAny_bind ?_
  show wpAny _ _ (pure (Value.ref a)) _ _ s5
  refine wpAny_pure (wpAny_bind (wpAny_pyIter_gen isG (wpAny_pure ⟨plainId_quiet F.plain_all_loop _, ?_⟩)))
  rw [← e1, ← e2]
  exact gx_all hr.hd (by have := hr.dp; omega) isG' (fun s' H' o1 o2 o3 o4 q => ⟨.bl true, H', back s' H' o1 o2 o3 o4, rfl, q⟩) (fun s' H' o1 o2 o3 o4 q => ⟨.bl false, H', back s' H' o1 o2 o3 o4, rfl, q⟩) m s5 isG nl goes
theorem pe_anyG (hN : X.N.Nodup) (hr : Room (k + 1) X.A) (hg : Gl X "any") (hm : X.mg "any" = none) (hb : bootBuiltins "any" = some (.builtin "any")) (TB : LamX.TabB X.base X.mg c P) (hcode : X.env.code = .ref c) (ok : BlkOk X.N X.env.scope scope own) (nocell : ∀ y ∈ scope.names, y.2 ≠ .cell) (hco : scope.isCoroutine = false) (dot : scope.names.lookup (".0" : Str) = some NameKind.local)
    (hi : PI X tg iter wi)
    (pg : ∀ (A : Around) (s : Shared) (H : Hp) (cl : List (Str × Addr)) (C : Addr) (code : Value) (bi : Addr) (fp : List Addr) (pn : List (Addr × Obj)), Room k A → PG (gxCx X A s H (genEnv scope cl C code bi X.env) fp pn) tg g)
    (pt : ∀ (A : Around) (s : Shared) (H : Hp) (cl : List (Str × Addr)) (C : Addr) (code : Value) (bi : Addr) (fp : List Addr) (pn : List (Addr × Obj)), Room k A → PTs (gxCx X A s H (genEnv scope cl C code bi X.env) fp pn) ifs tt)
    (pe : ∀ (A : Around) (s : Shared) (H : Hp) (cl : List (Str × Addr)) (C : Addr) (code : Value) (bi : Addr) (fp : List Addr) (pn : List (Addr × Obj)), Room k A → PE (gxCx X A s H (genEnv scope cl C code bi X.env) fp pn) elt te)
    (hs : ∀ v, genFold iter X.env v = pure v)
    (he : starEach [.GeneratorExp elt [⟨tg, iter, ifs, 0⟩] scope gpos] X.env = (false, eval (.GeneratorExp elt [⟨tg, iter, ifs, 0⟩] scope gpos) X.env) :: starEach [] X.env := by rfl) :
    PE X (.Call (.Name "any" p) [.GeneratorExp elt [⟨tg, iter, ifs, 0⟩] scope gpos] [] pos) (tQuant P wi g tt te (own.map (·.2)) false) := by
  refine ⟨fun pins s σ H Q I h => ?_⟩
  refine wpAny_Call_Name_kw (ld_blt I hg hm hb ?_)
  refine PyProof.Rows.callWith_builtin1 ?_ he (by rfl)
  rw [he]
  show wpAny _ _ (spliced ((false, eval (.GeneratorExp elt [⟨tg, iter, ifs, 0⟩] scope gpos) X.env) :: backTo pos (starEach [] X.env))) _ _ s
  refine Calls.spliced_cons (gx_eval hN hr TB hcode ok nocell hco dot hi pg pt pe hs I h fun a s5 hR => ?_)
  obtain ⟨gi, m, Z, σ0, e1, e2, isG, nl, isG', goes, back⟩ := hR
  refine Calls.spliced_nil ?_
  refine call_function_tree F.kind_any F.plain_any F.entry_any (F.args_any1 _) ?_
  unfold Builtin.«any»
  refine wpAny_bind ?_
  show wpAny _ _ (pure (Value.ref a)) _ _ s5
  refine wpAny_pure (wpAny_bind (wpAny_pyIter_gen isG (wpAny_pure ⟨plainId_quiet F.plain_any_loop _, ?_⟩)))
  rw [← e1, ← e2]
  exact gx_any hr.hd (by have := hr.dp; omega) isG' (fun s' H' o1 o2 o3 o4 q => ⟨.bl false, H', back s' H' o1 o2 o3 o4, rfl, q⟩) (fun s' H' o1 o2 o3 o4 q => ⟨.bl true, H', back s' H' o1 o2 o3 o4, rfl, q⟩) m s5 isG nl goes
end
/-! charts -/
def ptsFrom (many : Int) : Int → List PyData → Bool
  | _, [] => true
  | least, .int i :: r => withinD least (many - 1) (.int i) && ptsFrom many (i + 1) r
  | _, _ :: _ => false
def pointsD (many : Int) : PyData → Bool
  | .tuple ds => ptsFrom many 0 ds
  | _ => false
def chartD : PyData → Bool
  | .tuple ds => ds.all (pointsD ds.length)
  | _ => false
def TabsG (PT : List Addr) (H : Hp) : Prop := ∀ P ∈ PT, GxR.TabG H P
theorem TabsG.same {PT : List Addr} {H H' : Hp} (t : TabsG PT H) (s : Same H H') : TabsG PT H' := fun P hP => by
  obtain ⟨ps, h, ok⟩ := t P hP
  exact ⟨ps, s _ _ h, ok⟩
theorem tabbed_ext {P : Addr} {H H' : Hp} (t : GxR.TabG H P) (b : GxR.Tabbed P H H') : LamX.ExtN H H' := fun c o h n => by
  by_cases e : c = P
  · subst e
    obtain ⟨ps, h', _⟩ := t
    rw [h] at h'
    cases h'
    exact absurd rfl (n ps)
  · rw [b.2 c e]
    exact h
theorem TabsG.tabbed {PT : List Addr} {P : Addr} {H H' : Hp} (t : TabsG PT H) (b : GxR.Tabbed P H H') : TabsG PT H' := fun Q hQ => by
  by_cases e : Q = P
  · rw [e]
    exact b.1
  · obtain ⟨ps, h, ok⟩ := t Q hQ
    exact ⟨ps, by rw [b.2 Q e]; exact h, ok⟩
/-- a generator over a tuple that the element leaves as it is -/
theorem gx_tup {K : PySem.W.Frag} {a : Addr} {xs : List V} {g : TG} {tt : TT} {te : TE} {vs : List Nat} {σ0 : L2.St} {e : Bool} {Qe Qn : Hp → Prop} {H : Hp} (Pv : Nat → Hp → Prop) (h0 : Pv 0 H) (hl : ∀ i H, i ≤ xs.length → Pv i H → SqT K H a xs)
    (hs : ∀ i x H, xs[i]? = some x → Pv i H → g x σ0 H fun σ2 H2 => wipe σ2 vs = σ0 ∧ tt σ2 H2 fun b H3 => if b = true then te σ2 H3 fun y H4 => ∃ c, y = .bl c ∧ (c = e → Pv (i + 1) H4) ∧ (c ≠ e → Qn H4) else Pv (i + 1) H3) (hd : ∀ H, Pv xs.length H → Qe H) :
    ∃ W : Nat → Nat → Hp → Prop, (∃ m, W 0 m H) ∧ gxTurn (Itt K a) g tt te vs σ0 e Qe Qn W := by
  refine ⟨fun i m H => m = xs.length - i ∧ i ≤ xs.length ∧ Pv i H, ⟨xs.length, by simp, Nat.zero_le _, h0⟩, ?_⟩
  rintro i m H ⟨rfl, hi, p⟩
  have q := hl i H hi p
  by_cases hlt : i < xs.length
  · refine .inr ⟨⟨xs, xs[i], q, by simp [hlt]⟩, Pv (i + 1), fun H' p' => ⟨xs.length - (i + 1), by omega, rfl, hlt, p'⟩, fun x H' y => ?_⟩
    obtain ⟨e, y⟩ := y
    subst e
    exact hs i x _ (y xs q) p
  · have e : i = xs.length := by omega
    subst e
    exact .inl ⟨⟨xs, q, Nat.le_refl _⟩, hd H p⟩
theorem sqT_ext {K : PySem.W.Frag} {H H' : Hp} (e : LamX.ExtN H H') {a : Addr} {xs : List V} (h : SqT K H a xs) : SqT K H' a xs := by
  rcases h with (z | ⟨o, z⟩) | z
  · exact .inl (.inl (e _ _ z fun ps q => by cases q))
  · exact .inl (.inr ⟨o, e _ _ z fun ps q => by cases q⟩)
  · exact .inr z
theorem yesG {σ : L2.St} {H : Hp} {R : Bool → Hp → Prop} (h : R true H) : tYes σ H R := h
theorem all_take {α : Type} {p : α → Bool} {l : List α} {i : Nat} {x : α} (h : l[i]? = some x) : (l.take (i + 1)).all p = ((l.take i).all p && p x) := by
  have hi : i < l.length := by
    obtain ⟨q, _⟩ := List.getElem?_eq_some_iff.mp h
    exact q
  rw [List.take_add_one, h]
  simp [List.all_append]
theorem pts_drop {many least : Int} {ds : List PyData} {i : Nat} {d : PyData} (h : ds[i]? = some d) : ds.drop i = d :: ds.drop (i + 1) := by
  obtain ⟨q, e⟩ := List.getElem?_eq_some_iff.mp h
  rw [List.drop_eq_getElem_cons q, e]
section
variable {P : Program} {w : World} {K : PySem.W.Frag} {mg : Str → Option Value} {base : Heap} {f : Addr} {fd : FuncData}
def spPoints (K : PySem.W.Frag) : Sp := fun vs H Q _ => ∃ (x : V) (d : PyData) (many : Int), vs = [x, .int many] ∧ Dp K H x d ∧ Q (.bl (pointsD many d)) H
theorem scPoints : FnScope ["thing", "many", "least", "point"] ["thing", "many"] (defScope sPoints) := ⟨rfl, rfl, rfl, by decide +kernel, rfl, by decide +kernel, by decide +kernel⟩
theorem ok_points {k : Nat} (F : Fun K "are_points" "are_points" sPoints f fd) (T : Free mg) (cW : Cal P w K mg base "is_within" k ["thing", "least", "most"] (spWithin K)) : FnOk P w K mg base CX0 (k + 1) f fd ["thing", "many"] (spPoints K) := by
  refine F.ok scPoints (fun vs H Q E h => ?_) (fun cdv A outer s H vs Q E hr h => ?_)
  · obtain ⟨x, d, m, rfl, _⟩ := h
    rfl
  obtain ⟨x, d, m, rfl, hx, q⟩ := h
  refine ⟨_, pss_cons (ps_if (pt_not (pt_val (pe_callB call_isi rfl T.isi (by decide +kernel) (pa_cons (pv 0) (pa_cons (pe_bltn (v := .ty "tuple") rfl T.tuple (by decide +kernel) rfl) pa_nil))))) (pss_one (ps_ret pe_bl)) pss_nil)
    (pss_cons (ps_set (i := 2) scPoints.nd rfl (.inl rfl) pe_int)
    (pss_cons (ps_for PassesOwn.never rfl (pi_tup (pv 0)) (pg_name (i := 3) scPoints.nd rfl (.inl rfl))
      (pss_cons (ps_if (pt_not (pt_val (pe_cal cW hr rfl (pa_cons (pv 3) (pa_cons (pv 2) (pa_cons (pe_op op_sub (pv 1) pe_int) pa_nil)))))) (pss_one (ps_ret pe_bl)) pss_nil)
      (pss_one (ps_set (i := 2) scPoints.nd rfl (.inl rfl) (pe_op op_add (pv 3) pe_int)))))
    (pss_one (ps_ret pe_bl)))), ?_⟩
  refine ⟨_, rfl, x, _, _, _, _, rfl, .ty "tuple", ty_of hx, kit_tuple d, _, rfl, ?_⟩
  cases ht : tupleD d with
  | false =>
    refine ifT rfl ?_
    have e : pointsD m d = false := by cases d <;> first | rfl | cases ht
    rw [e] at q
    exact q
  | true =>
    obtain ⟨ds, rfl⟩ : ∃ ds, d = .tuple ds := by
      cases d <;> first | exact ⟨_, rfl⟩ | cases ht
    refine ifF rfl ?_
    have q : Q (.bl (ptsFrom m 0 ds)) H := q
    cases hx with
    | @tup a xs _ ht ha =>
      have lx := dpAll_len ha
      refine ⟨_, rfl, a, rfl, ⟨xs, ht⟩, ?_⟩
      refine for_tup (xs := xs) (fun i σ H' => ∃ (least : Int) (o3 : Option V), ptsFrom m 0 ds = ptsFrom m least (ds.drop i) ∧ σ = [some (.ref a), some (.int m), some (.int least), o3] ∧ H' = H)
        ⟨0, none, rfl, rfl, rfl⟩ (fun i σ H' _ h => by obtain ⟨_, _, _, _, rfl⟩ := h; exact ht) (fun i x σ H' hxi h => ?_) (fun σ H' h => ?_)
      · obtain ⟨least, o3, hp, rfl, rfl⟩ := h
        obtain ⟨d, hd, hdx⟩ := dpAll_get' ha hxi
        rw [pts_drop (many := 0) (least := 0) hd] at hp
        refine ⟨_, rfl, _, rfl, _, rfl, _, _, rfl, rfl, x, d, least, m - 1, rfl, hdx, _, rfl, ?_⟩
        cases hw : withinD least (m - 1) d with
        | false =>
          refine ifT rfl ?_
          have e : ptsFrom m 0 ds = false := by
            rw [hp]
            cases d <;> first | rfl | (unfold ptsFrom; rw [hw]; rfl)
          rw [e] at q
          exact q
        | true =>
          refine ifF rfl ?_
          cases d with
          | int n =>
            cases hdx
            refine ⟨_, rfl, _, _, rfl, rfl, n + 1, _, ?_, rfl, rfl⟩
            rw [hp]
            show (withinD least (m - 1) (.int n) && _) = _
            rw [hw, Bool.true_and]
          | none => cases hw
          | bool _ => cases hw
          | str _ => cases hw
          | list _ => cases hw
          | tuple _ => cases hw
          | dict _ => cases hw
      · obtain ⟨least, o3, hp, rfl, rfl⟩ := h
        rw [lx, List.drop_length] at hp
        rw [hp] at q
        exact q
abbrev rLen (K : PySem.W.Frag) : List V → Hp → VK → Prop := fun xs H Q => ∃ p ys, xs = [.ref p] ∧ (SqL K H p ys ∨ SqT K H p ys) ∧ Q (.int ys.length) H
def spIsChart (K : PySem.W.Frag) (PT : List Addr) : Sp := fun vs H Q _ => ∃ (x : V) (d : PyData), vs = [x] ∧ Dp K H x d ∧ TabsG PT H ∧ ∀ H', LamX.ExtN H H' → TabsG PT H' → Q (.bl (chartD d)) H'
theorem scIsChart : FnScope ["thing", "nexts"] ["thing"] (defScope sIsChart) := ⟨rfl, rfl, rfl, by decide +kernel, rfl, by decide +kernel, by decide +kernel⟩
theorem ok_isChart {k : Nat} {c Pc : Addr} {PT : List Addr} (F : Fun K "is_chart" "is_chart" sIsChart f fd) (hc : fd.code = .ref c) (TB : LamX.TabB base mg c Pc) (hPT : Pc ∈ PT) (T : Free mg) (hA : mg "all" = none) (cP : Cal P w K mg base "are_points" k ["thing", "many"] (spPoints K)) : FnOk P w K mg base CX0 (k + 2) f fd ["thing"] (spIsChart K PT) := by
  refine okC F hc scIsChart (fun vs H Q E h => ?_) (fun A outer s H vs Q E hr h => ?_)
  · obtain ⟨x, d, rfl, _⟩ := h
    rfl
  obtain ⟨x, d, rfl, hx, tb, q⟩ := h
  refine ⟨_, pss_one (ps_ret (pe_and (pe_callB call_isi rfl T.isi (by decide +kernel) (pa_cons (pv 0) (pa_cons (pe_bltn (v := .ty "tuple") rfl T.tuple (by decide +kernel) rfl) pa_nil)))
    (pe_one (pe_allG (own := [("nexts", 1)]) (wi := iTup K (tVar 0)) (g := gName 1) (tt := tYes) (te := tCall (spPoints K) [] E0 (tCons (tVar 1) (tCons (tCB (rLen K) (tCons (tVar 0) tNil)) tNil))) scIsChart.nd hr rfl hA (by decide +kernel) TB rfl
      (blkOk_by (own := [("nexts", 1)]) (N := ["thing", "nexts"]) (sc := defScope sIsChart) (by decide +kernel)) (by decide +kernel) rfl rfl (pi_tup (pv 0))
      (fun _ _ _ _ _ _ _ _ _ _ => pg_name (i := 1) scIsChart.nd rfl (Or.inl rfl)) (fun _ _ _ _ _ _ _ _ _ _ => pts_nil)
      (fun _ _ _ _ _ _ _ _ _ hr' => pe_cal cP hr' rfl (pa_cons (pv 1) (pa_cons (pe_callB call_len_seq rfl T.len PySem.boot_len (pa_cons (pv 0) pa_nil)) pa_nil))) (fun _ => rfl))))), ?_⟩
  refine ⟨_, rfl, x, _, _, _, _, rfl, .ty "tuple", ty_of hx, kit_tuple d, _, rfl, ?_⟩
  cases ht : tupleD d with
  | false =>
    have e : chartD d = false := by cases d <;> first | rfl | cases ht
    rw [e] at q
    exact ifF rfl (q H (LamX.ExtN.refl _) tb)
  | true =>
    obtain ⟨ds, rfl⟩ : ∃ ds, d = .tuple ds := by
      cases d <;> first | exact ⟨_, rfl⟩ | cases ht
    have q : ∀ H', LamX.ExtN H H' → TabsG PT H' → Q (.bl (ds.all (pointsD ds.length))) H' := q
    cases hx with
    | @tup a xs _ at_ each =>
      have lx := dpAll_len each
      refine ifT rfl ⟨_, rfl, a, rfl, ⟨xs, at_⟩, tb Pc hPT, fun H2 b2 => ?_⟩
      have e2 := tabbed_ext (tb Pc hPT) b2
      refine gx_tup (xs := xs) (fun i H' => LamX.ExtN H H' ∧ TabsG PT H' ∧ (ds.take i).all (pointsD ds.length) = true) ⟨e2, tb.tabbed b2, rfl⟩ (fun i H' _ h => ?_) (fun i y H' hy h => ?_) (fun H' h => ?_)
      · exact sqT_ext h.1 at_
      · obtain ⟨e3, t3, all3⟩ := h
        obtain ⟨d, hd, hdy⟩ := dpAll_get' each hy
        refine ⟨rfl, yesG ⟨_, rfl, _, rfl, a, xs, rfl, .inr (sqT_ext e3 at_), y, d, _, rfl, dp_ext e3 _ _ hdy, _, rfl, fun c => ⟨e3, t3, ?_⟩, fun c => ?_⟩⟩
        · rw [lx] at c
          rw [all_take hd, all3, c]
          rfl
        · rw [lx] at c
          have e : ds.all (pointsD ds.length) = false := by
            cases z : ds.all (pointsD ds.length) with
            | false => rfl
            | true => exact absurd (List.all_eq_true.mp z d (List.mem_of_getElem? hd)) c
          have r := q H' e3 t3
          rw [e] at r
          exact r
      · obtain ⟨e3, t3, all3⟩ := h
        rw [lx, List.take_length] at all3
        have r := q H' e3 t3
        rw [all3] at r
        exact r
end
/-! what is written down, laid anew -/
def dif (H H' : Hp) : Hp := fun b => match H b with
  | none => H' b
  | some _ => none
theorem dif_at {H H' : Hp} {p : Addr} {o : HO} (h : H p = none) (h' : H' p = some o) : dif H H' p = some o := by
  unfold dif
  rw [h]
  exact h'
theorem dif_some {H H' : Hp} {p : Addr} {o : HO} (h : dif H H' p = some o) : H p = none ∧ H' p = some o := by
  unfold dif at h
  cases e : H p with
  | none =>
    rw [e] at h
    exact ⟨rfl, h⟩
  | some u =>
    rw [e] at h
    cases h
theorem dif_l {H H1 H2 : Hp} (s : Same H1 H2) : Same (dif H H1) (dif H H2) := fun b o h => by
  obtain ⟨h1, h2⟩ := dif_some h
  exact dif_at h1 (s _ _ h2)
theorem dif_r {H H1 H2 : Hp} (s : Same H H1) : Same (dif H1 H2) (dif H H2) := fun b o h => by
  obtain ⟨h1, h2⟩ := dif_some h
  exact dif_at (s.free h1) h2
theorem dif_in {H H' : Hp} : Same (dif H H') H' := fun b o h => (dif_some h).2
theorem dp_same {K : PySem.W.Frag} {H H' : Hp} (s : Same H H') {d : PyData} {v : V} (h : Dp K H v d) : Dp K H' v d := dp_ext (ext_same s) d v h
theorem dps_same {K : PySem.W.Frag} {H H' : Hp} (s : Same H H') {ds : List PyData} {vs : List V} (h : DpAll K H vs ds) : DpAll K H' vs ds := dp_exts (ext_same s) ds vs h
def tLit (K : PySem.W.Frag) (d : PyData) : TE := fun _ H Q => ∀ v H', Same H H' → Dp K (dif H H') v d → Q v H'
def tLits (K : PySem.W.Frag) (ds : List PyData) : TA := fun _ H Q => ∀ vs H', Same H H' → DpAll K (dif H H') vs ds → Q vs H'
theorem pe_imp {X : Cx} {e : Expr} {t t' : TE} (h : PE X e t) (w : ∀ σ H Q, t' σ H Q → t σ H Q) : PE X e t' := ⟨fun pins s σ H Q I q => h.run pins s σ H Q I (w _ _ _ q)⟩
theorem pa_imp {X : Cx} {es : List Expr} {t t' : TA} (h : PA X es t) (w : ∀ σ H Q, t' σ H Q → t σ H Q) : PA X es t' := ⟨fun pos pins s σ H Q I q => h.run pos pins s σ H Q I (w _ _ _ q)⟩
section
variable {X : Cx}
theorem lits_nil : PA X [] (tLits X.K []) := pa_imp pa_nil fun σ H Q q => q [] H (Same.refl _) .nil
theorem lits_cons {e : Expr} {es : List Expr} {d : PyData} {ds : List PyData} (h : PE X e (tLit X.K d)) (hs : PA X es (tLits X.K ds)) (hst : starEach (e :: es) X.env = (false, eval e X.env) :: starEach es X.env := by rfl) : PA X (e :: es) (tLits X.K (d :: ds)) :=
  pa_imp (pa_cons h hs hst) fun σ H Q q v H1 s1 d1 vs H2 s2 d2 => q (v :: vs) H2 (s1.trans s2) (.cons (dp_same (dif_l s2) d1) (dps_same (dif_r s1) d2))
theorem lit_int {i : Int} {j : Nat} {pos : Pos} : PE X (.Constant (.int i) j pos) (tLit X.K (.int i)) := pe_imp pe_int fun σ H Q q => q _ H (Same.refl _) (.int _)
theorem lit_str {x : Str} {j : Nat} {pos : Pos} : PE X (.Constant (.str x) j pos) (tLit X.K (.str x)) := pe_imp pe_str fun σ H Q q => q _ H (Same.refl _) (.str _)
theorem lit_bl {b : Bool} {j : Nat} {pos : Pos} : PE X (.Constant (.bool b) j pos) (tLit X.K (.bool b)) := pe_imp pe_bl fun σ H Q q => q _ H (Same.refl _) (.bl _)
theorem lit_non {j : Nat} {pos : Pos} : PE X (.Constant .none j pos) (tLit X.K .none) := pe_imp pe_non fun σ H Q q => q _ H (Same.refl _) .non
theorem lit_neg {e : Expr} {i : Int} {pos : Pos} (h : PE X e (tC (.int i))) : PE X (.UnaryOp .USub e pos) (tLit X.K (.int (-i))) := pe_imp (pe_un un_neg h) fun σ H Q q => ⟨i, rfl, q _ H (Same.refl _) (.int _)⟩
theorem lit_tup {es : List Expr} {ds : List PyData} {x1 : Nat} {pos : Pos} (h : PA X es (tLits X.K ds)) (hl : ds.length ≤ 1000) : PE X (.Tuple es x1 pos) (tLit X.K (.tuple ds)) :=
  pe_imp (pe_tup h) fun σ H Q q vs H1 s1 d1 => ⟨small (by rw [dpAll_len d1]; exact hl), fun p hp => q _ _ (s1.trans (same_new hp _)) (.tup (SqT.of (dif_at (s1.free hp) upd_same)) (dps_same (dif_l (same_new hp _)) d1))⟩
theorem lit_lst {es : List Expr} {ds : List PyData} {pos : Pos} (h : PA X es (tLits X.K ds)) (hl : ds.length ≤ 1000) : PE X (.List es pos) (tLit X.K (.list ds)) :=
  pe_imp (pe_lst h) fun σ H Q q vs H1 s1 d1 => ⟨small (by rw [dpAll_len d1]; exact hl), fun p hp => q _ _ (s1.trans (same_new hp _)) (.lst (SqL.of (dif_at (s1.free hp) upd_same)) (dps_same (dif_l (same_new hp _)) d1))⟩
theorem lit_dict0 {pos : Pos} : PE X (.Dict [] [] pos) (tLit X.K (.dict (dictD []))) := pe_imp pe_dnewK fun σ H Q q p hp => q _ _ (same_new hp _) (.dct (ms := []) (dif_at hp upd_same))
theorem lit_dict1 {i k : Int} {j1 j2 : Nat} {p1 p2 pos : Pos} : PE X (.Dict [some (.Constant (.int i) j1 p1)] [.Constant (.int k) j2 p2] pos) (tLit X.K (.dict (dictD [(i, k)]))) :=
  pe_imp (pe_disp (pps_cons pe_int pe_int pps_nil) rfl rfl (by simp) (by show 1 ≤ 15; decide)) fun σ H Q q p hp => ⟨upd_same, [(Sum.inl i, V.int k)], rfl, by show 1 ≤ 15; decide, by
    rw [upd_upd]
    exact q _ _ (same_new hp _) (.dct (ms := [(i, k)]) (dif_at hp upd_same))⟩
end
section
variable {X : Cx}
theorem lit_big {j1 j2 : Nat} {p1 p2 pos : Pos} : PE X (.BinOp (.Constant (.int 10) j1 p1) .Pow (.Constant (.int 29) j2 p2) pos) (tLit X.K (.int (10 ^ 29))) := pe_imp (pe_op op_pow pe_int pe_int) fun σ H Q q => ⟨_, _, rfl, rfl, ⟨by decide, by decide, by decide⟩, q _ H (Same.refl _) (.int _)⟩
theorem lit_low {j0 j1 j2 : Nat} {p0 p1 p2 p3 pos : Pos} : PE X (.BinOp (.Constant (.int 0) j0 p0) .Sub (.BinOp (.Constant (.int 10) j1 p1) .Pow (.Constant (.int 29) j2 p2) p3) pos) (tLit X.K (.int (0 - 10 ^ 29))) := pe_imp (pe_op op_sub pe_int (pe_op op_pow pe_int pe_int)) fun σ H Q q => ⟨_, _, rfl, rfl, ⟨by decide, by decide, by decide⟩, _, _, rfl, rfl, q _ H (Same.refl _) (.int _)⟩
end
/-! odd things -/
def odd0 : List PyData := [.none, .bool true, .bool false, .int 0, .int 1, .int (-1), .int (10 ^ 29), .str "", .str "a", .str "G", .str "tie", .tuple [], .list [], .dict (dictD []), .tuple [.int 0], .list [.int 0], .tuple [.none]]
def odd1 : List PyData := [.tuple [.tuple []], .str "actor"]
def odd2 : List PyData := [.str "show", .dict (dictD [(0, 1)]), .tuple [.str "tie", .int 0], .tuple [.int 0, .int 1]]
/-- all but the state's list -/
def mn (st : Addr) (H : Hp) : Hp := fun b => if b = st then none else H b
theorem mn_at {st p : Addr} {H : Hp} {o : HO} (n : p ≠ st) (h : H p = some o) : mn st H p = some o := by
  unfold mn
  rw [if_neg n]
  exact h
theorem mn_some {st p : Addr} {H : Hp} {o : HO} (h : mn st H p = some o) : p ≠ st ∧ H p = some o := by
  unfold mn at h
  by_cases e : p = st
  · rw [if_pos e] at h
    cases h
  · rw [if_neg e] at h
    exact ⟨e, h⟩
theorem mn_kp {st : Addr} {H H' : Hp} (k : Kp st H H') : Same (mn st H) (mn st H') := fun b o h => by
  obtain ⟨n, h⟩ := mn_some h
  exact mn_at n (k b o n h)
theorem mn_in {st : Addr} {H : Hp} : Same (mn st H) H := fun b o h => (mn_some h).2
theorem mn_dif {st : Addr} {H H' : Hp} (s : ∃ l, H st = some l) : Same (dif H H') (mn st H') := fun b o h => by
  obtain ⟨h1, h2⟩ := dif_some h
  obtain ⟨l, hl⟩ := s
  exact mn_at (ne_of_none hl h1).symm h2
section
variable {P : Program} {w : World} {K : PySem.W.Frag} {mg : Str → Option Value} {base : Heap} {f : Addr} {fd : FuncData}
def spOdd (K : PySem.W.Frag) : Sp := fun vs H Q _ => ∃ (st : Addr), vs = [.ref st] ∧ StAt H st ∧ ∀ v d H', Mv st H H' → Dp K (mn st H') v d → d ∈ odd0 ++ odd1 ++ odd2 → Q v H'
theorem scOdd : FnScope ["_law_state_here", "_law_some"] ["_law_state_here"] (defScope sOdd) := ⟨rfl, rfl, rfl, by decide +kernel, rfl, by decide +kernel, by decide +kernel⟩
theorem ok_odd {k : Nat} (F : Fun K "_law_odd" "_law_odd" sOdd f fd) (T : Free mg) (cC : Cal P w K mg base "_law_choice" k ["_law_state_here", "_law_many"] spChoice) : FnOk P w K mg base CX0 (k + 1) f fd ["_law_state_here"] (spOdd K) := by
  refine F.ok scOdd (fun vs H Q E h => ?_) (fun cdv A outer s H vs Q E hr h => ?_)
  · obtain ⟨st, rfl, _⟩ := h
    rfl
  obtain ⟨st, rfl, sa, q⟩ := h
  refine ⟨_, pss_cons (ps_set (i := 1) scOdd.nd rfl (.inl rfl) (pe_lst (lits_cons lit_non (lits_cons lit_bl (lits_cons lit_bl (lits_cons lit_int (lits_cons lit_int (lits_cons (lit_neg pe_int) (lits_cons lit_big (lits_cons lit_str (lits_cons lit_str (lits_cons lit_str (lits_cons lit_str (lits_cons (lit_tup lits_nil (by decide)) (lits_cons (lit_lst lits_nil (by decide)) (lits_cons lit_dict0 (lits_cons (lit_tup (lits_cons lit_int lits_nil) (by decide)) (lits_cons (lit_lst (lits_cons lit_int lits_nil) (by decide)) (lits_cons (lit_tup (lits_cons lit_non lits_nil) (by decide)) lits_nil)))))))))))))))))))
    (pss_cons (ps_set (i := 1) scOdd.nd rfl (.inl rfl) (pe_op op_cat (pv 1) (pe_lst (lits_cons (lit_tup (lits_cons (lit_tup lits_nil (by decide)) lits_nil) (by decide)) (lits_cons lit_str lits_nil)))))
    (pss_one (ps_ret (pe_ix ix_list (pe_op op_cat (pv 1) (pe_lst (lits_cons lit_str (lits_cons lit_dict1 (lits_cons (lit_tup (lits_cons lit_str (lits_cons lit_int lits_nil)) (by decide)) (lits_cons (lit_tup (lits_cons lit_int (lits_cons lit_int lits_nil)) (by decide)) lits_nil)))))) (pe_cal cC hr rfl (pa_cons (pv 0) (pa_cons pe_int pa_nil))) (fun _ _ => rfl))))), ?_⟩
  have some_st := sa.some
  have stx : ∃ l, H st = some l := by
    obtain ⟨l, h⟩ := some_st
    exact ⟨_, h⟩
  intro v0 H0 s0 d0
  have l0 := dpAll_len d0
  refine ⟨small (by rw [l0]; decide), fun p0 h0 => ?_⟩
  have n0 := same_new h0 (.lst v0)
  refine ⟨_, rfl, fun v1 H1 s1 d1 => ?_⟩
  have l1 := dpAll_len d1
  refine ⟨small (by rw [l1]; decide), fun p1 h1 => ?_⟩
  have n1 := same_new h1 (.lst v1)
  refine ⟨p0, p1, v0, v1, rfl, rfl, n1 _ _ (s1 _ _ upd_same), upd_same, small (by rw [l0, l1]; decide), fun p2 h2 => ?_⟩
  have n2 := same_new h2 (.lst (v0 ++ v1))
  refine ⟨_, rfl, fun v3 H3 s3 d3 => ?_⟩
  have l3 := dpAll_len d3
  refine ⟨small (by rw [l3]; decide), fun p3 h3 => ?_⟩
  have n3 := same_new h3 (.lst v3)
  refine ⟨p2, p3, v0 ++ v1, v3, rfl, rfl, n3 _ _ (s3 _ _ upd_same), upd_same, small (by rw [List.length_append, l0, l1, l3]; decide), fun p4 h4 => ?_⟩
  have n4 := same_new h4 (.lst (v0 ++ v1 ++ v3))
  have sA := s0.trans n0
  have sB := sA.trans (s1.trans (n1.trans n2))
  have sC := sB.trans (s3.trans (n3.trans n4))
  have all : DpAll K (dif H (upd (upd H3 p3 (.lst v3)) p4 (.lst (v0 ++ v1 ++ v3)))) (v0 ++ v1 ++ v3) (odd0 ++ odd1 ++ odd2) :=
    dpAll_append (dps_same ((dif_r sB).trans (dif_l (n3.trans n4))) d3) (dpAll_append (dps_same ((dif_r sA).trans (dif_l (n1.trans (n2.trans (s3.trans (n3.trans n4)))))) d1) (dps_same (dif_l (n0.trans (s1.trans (n1.trans (n2.trans (s3.trans (n3.trans n4))))))) d0))
  have len := dpAll_len all
  refine ⟨_, rfl, st, 23, rfl, sa.same sC, by decide, by decide, fun r H5 r0 r1 mv => ?_⟩
  have len' : (v0 ++ v1 ++ v3).length = 23 := len
  have np4 : p4 ≠ st := (sa.same (sB.trans (s3.trans n3))).ne h4
  have hr5 : r.toNat < (v0 ++ v1 ++ v3).length := by omega
  have hx := List.getElem?_eq_getElem hr5
  obtain ⟨d, hd, hdp⟩ := dpAll_get' all hx
  refine ⟨p4, _, r, _, rfl, rfl, SqL.of (mv.kp _ _ np4 upd_same), atI_at r0 hx, q _ d H5 ⟨(Kp.of_same sC).trans mv.kp, mv.sa⟩ (dp_same ((mn_dif stx).trans (mn_kp mv.kp)) hdp) (List.mem_of_getElem? hd)⟩
end
/-! a tuple against the empty one, a list against the empty one -/
section
variable {X : Cx}
def rNeE (K : PySem.W.Frag) : R2 := fun x y H Q => ∃ a b xs, x = .ref a ∧ y = .ref b ∧ SqT K H a xs ∧ SqT K H b [] ∧ Q (.bl (!xs.isEmpty)) H
theorem op_neE (hu : X.A.units + 64 < cLine) : OpR X (compareOp .NotEq) (rNeE X.K) := by
  intro pins s σ H x y v u Q I rx ry h
  obtain ⟨a, b, xs, rfl, rfl, ha, hb, q⟩ := h
  cases rx
  cases ry
  obtain ⟨its, r1, ⟨o1, g1, c1, n1, d1⟩, _⟩ := I.tuple ha
  obtain ⟨its2, r2, ⟨o2, g2, c2, n2, d2⟩, _⟩ := I.tuple hb
  cases r2
  refine SeqAt.RcNeAt.tuples (e := fun _ => true) ⟨o1, g1, c1, n1, d1⟩ ⟨o2, g2, c2, n2, d2⟩ (by omega) (fun j _ h2 => absurd h2 (by simp)) X.prog X.w _ _ ⟨.bl (!xs.isEmpty), H, I, ?_, q⟩
  have l := r1.length
  cases xs with
  | nil =>
    cases r1
    rfl
  | cons z zs =>
    cases r1 with
    | cons _ _ => rfl
def rNeLE (K : PySem.W.Frag) : R2 := fun x y H Q => ∃ a b xs, x = .ref a ∧ y = .ref b ∧ SqL K H a xs ∧ SqL K H b [] ∧ Q (.bl (!xs.isEmpty)) H
theorem op_neLE (hu : X.A.units + 64 < cLine) : OpR X (compareOp .NotEq) (rNeLE X.K) := by
  intro pins s σ H x y v u Q I rx ry h
  obtain ⟨a, b, xs, rfl, rfl, ha, hb, q⟩ := h
  cases rx
  cases ry
  obtain ⟨its, r1, ⟨o1, n1, g1, c1, _, d1⟩, _⟩ := I.list ha
  obtain ⟨its2, r2, ⟨o2, n2, g2, c2, _, d2⟩, _⟩ := I.list hb
  cases r2
  cases xs with
  | nil =>
    cases r1
    exact SeqAt.RcNeAt.lists (e := fun _ => true) ⟨o1, g1, c1, n1, d1⟩ ⟨o2, g2, c2, n2, d2⟩ rfl (by omega) (fun j _ h2 => absurd h2 (by simp)) X.prog X.w _ _ ⟨.bl false, H, I, rfl, q⟩
  | cons z zs =>
    cases r1 with
    | cons _ _ => exact SeqAt.RcNeAt.lists_lengths ⟨o1, g1, c1, n1, d1⟩ ⟨o2, g2, c2, n2, d2⟩ (by simp) (by omega) X.prog X.w _ _ ⟨.bl true, H, I, rfl, q⟩
end
/-! t[::-1] -/
section
open PySem.Spec PyProof.Rows
theorem fm_congr {α β : Type} {f g : α → Option β} : ∀ {l : List α}, (∀ k ∈ l, f k = g k) → l.filterMap f = l.filterMap g
  | [], _ => rfl
  | x :: r, h => by rw [List.filterMap_cons, List.filterMap_cons, h x List.mem_cons_self, fm_congr fun k hk => h k (List.mem_cons_of_mem _ hk)]
theorem rev_pick (xs : Array Value) : ((List.range xs.size).filterMap fun (k : Nat) => xs[(((xs.size : Int) - 1) + (k : Int) * (-1)).toNat]?) = xs.toList.reverse := by
  have e : ∀ k ∈ List.range xs.size, xs[(((xs.size : Int) - 1) + (k : Int) * (-1)).toNat]? = some (xs.toList.reverse.getD k .none) := fun k hk => by
    have hk : k < xs.size := List.mem_range.mp hk
    have e1 : (((xs.size : Int) - 1) + (k : Int) * (-1)).toNat = xs.size - 1 - k := by omega
    have h2 : k < xs.toList.reverse.length := by simpa using hk
    rw [e1, List.getD_eq_getElem?_getD, List.getElem?_eq_getElem h2, List.getElem_reverse, Array.getElem?_eq_getElem (by omega)]
    simp
  rw [fm_congr e]
  refine List.ext_getElem? fun i => ?_
  rw [show (fun k => some (xs.toList.reverse.getD k Value.none)) = (some ∘ fun k => xs.toList.reverse.getD k Value.none) from rfl, List.filterMap_eq_map, List.getElem?_map]
  by_cases hi : i < xs.size
  · have h2 : i < xs.toList.reverse.length := by simpa using hi
    rw [List.getElem?_range hi, List.getElem?_eq_getElem h2]
    simp [List.getD_eq_getElem?_getD, List.getElem?_eq_getElem h2]
  · rw [List.getElem?_eq_none (by simpa using hi), List.getElem?_eq_none (by simpa using hi)]
    rfl
variable {prog : Program} {w : World} {A : Around} {E : Value → Shared → Prop} {s : Shared}
theorem getItem_tuple_rev {t sl : Addr} {items : Array Value} {u : Tok} {Q : Value → Shared → Prop} (ht : IsTup s.heap t items) (hs : s.heap.IsSliceOf sl .none .none (.int (-1) u))
    (h : Q (.ref s.heap.objs.size) { s with heap := s.heap.push { cls := .type "tuple", data := .seq items.toList.reverse.toArray } })
    (hsz : items.size ≤ sizeLine) : wpAny (model prog w) A (getItem (.ref t) (.ref sl)) Q E s := by
  have htake : sizeOk (.seq items.toList.reverse.toArray) := by
    show items.toList.reverse.toArray.size ≤ sizeLine
    rw [List.size_toArray, List.length_reverse, Array.length_toList]
    exact hsz
  obtain ⟨so, so1, so2, so3⟩ := id hs
  have slot := PyProof.Rows.slot_tuple_getitem
  have tt := ht.typeIs
  unfold getItem; (try with_reducible refine wpAny_holding ?_); (first | refine wpAny_bind (wpAny_pure ?_) | skip); refine wpAny_bind (wpAny_sequenceKey tt (by decide) ?_)
  refine wpAny_bind (wpAny_callSpecial?_slot (name := Str.ofString "__getitem__") tt slot (wpAny_call_entry slot tt entry_tuple_getitem ?_ (args_tuple_getitem _ _)))
  show wpAny _ _ (Builtin.Tuple.tupleItemsOf (.ref t) >>= _) _ _ s; refine wpAny_bind (tupleItemsOf_ ht (wpAny_bind (wpAny_typeOf ⟨so, so1, so2⟩ ?_))); rw [if_pos (by decide)]
  have places : Builtin.Slice.slicePlaces ((items.size : Int) - 1) (-1) (-1) = items.size := by
    unfold Builtin.Slice.slicePlaces
    rw [if_neg (by decide)]
    by_cases c : (items.size : Int) - 1 > -1
    · rw [if_pos c]
      show (((items.size : Int) - 1 - -1 - 1) / 1 + 1).toNat = _
      rw [Int.ediv_one]
      omega
    · rw [if_neg c]
      omega
  have applied : ∀ {Q : Int × Int × Nat → Shared → Prop}, Q ((items.size : Int) - 1, -1, items.size) s → wpAny (model prog w) A.in1 (Builtin.Slice.sliceApplied (.ref sl) (pure (items.size : Int))) Q E s := fun {Q} h => by
    unfold Builtin.Slice.sliceApplied Builtin.Slice.sliceFields
    refine wpAny_bind (wpAny_bind (wpAny_field so1 so3 (x := .none) rfl (wpAny_bind (wpAny_field so1 so3 (x := .none) rfl (wpAny_bind (wpAny_field so1 so3 (x := .int (-1) u) rfl (wpAny_pure ?_)))))))
    refine wpAny_bind (slicePart_int ?_)
    show wpAny _ _ (if ((-1 : Int) == 0) = true then _ else _) _ _ s
    rw [if_neg (by decide)]
    refine wpAny_bind (slicePart_none (wpAny_bind (slicePart_none (wpAny_bind (wpAny_pure ?_)))))
    show wpAny _ _ (pure ((items.size : Int) - 1, (-1 : Int), Builtin.Slice.slicePlaces ((items.size : Int) - 1) (-1) (-1))) _ _ s
    rw [places]
    exact wpAny_pure h
  refine wpAny_bind (applied ?_)
  show wpAny _ _ (if ((items.size : Int) - 1 == 0 && (-1 : Int) == 1 && items.size == items.size) = true then _ else _) _ _ s
  rw [if_neg (by simp), rev_pick]
  refine wpAny_bind (m := Builtin.Tuple.tupleExact _) (wpAny_newObj_type (wpAny_pure ⟨_, rfl, wpAny_pure h⟩) htake)
end
section
open PySem.Spec PyProof.Rows
def tRev (K : PySem.W.Frag) (te : TE) : TE := fun σ H Q => te σ H fun x H1 => ∃ a xs, x = .ref a ∧ SqT K H1 a xs ∧ ∀ p, H1 p = none → Q (.ref p) (upd H1 p (.tup xs.reverse))
theorem pe_rev {X : Cx} {e : Expr} {te : TE} {j : Nat} {p1 p2 p3 pos : Pos} (he : PE X e te) : PE X (.Subscript e (.Slice none none (some (.UnaryOp .USub (.Constant (.int 1) j p1) p2)) p3) pos) (tRev X.K te) := by
  refine ⟨fun pins s σ H Q I h => ?_⟩
  refine Subscript_ (thn (he.run pins s σ H _ I h) fun v s1 ⟨x, H1, I1, r1, q1⟩ => ?_)
  obtain ⟨a, xs, rfl, hx, q⟩ := q1
  cases r1
  refine wpAny_Slice ?_
  rw [evalPart_none, evalPart_some]
  refine wpAny_pure (wpAny_pure ?_)
  refine thn ((pe_un (X := X) un_neg (pe_int (X := X) (i := 1) (j := j) (pos := p1))).run pins s1 σ H1 (fun v H' => v = .int (-1) ∧ H' = H1) I1 ⟨1, rfl, rfl, rfl⟩) fun u s2 ⟨z, H2, I2, r2, e1, e2⟩ => ?_
  subst e1 e2
  obtain ⟨t, rfl⟩ := r2
  have I4 : Inv X pins σ H2 { s2 with heap := s2.heap.push { cls := .type "slice", data := .fields #[.none, .none, .int (-1) t] } } := I2.kept (t' := s2.toks) fun b ob q => Heap.get?_push_of_some _ q
  obtain ⟨its, r, ht, hz⟩ := I4.tuple hx
  have hlen : its.toArray.size = xs.length := by rw [List.size_toArray]; exact r.length.symm
  refine tail_any (ops := [.ref a, .ref s2.heap.objs.size]) ht.typeIs PyProof.Rows.slot_tuple_getitem.lookup ?_ (by with_unfolding_all rfl)
  refine getItem_tuple_rev ht (Heap.IsSliceOf.new ..) ?_ (by rw [hlen]; exact hz)
  refine ⟨.ref _, _, I4.laid (t' := s2.toks) (o := .tup xs.reverse) (fun b ob q => Heap.get?_push_of_some _ q) (Nat.le_refl _) ?_, rfl, q _ (I4.hok.fresh (Nat.le_refl _))⟩
  exact ⟨by rw [List.length_reverse]; exact hz, _, r.reverse, IsTup.new _ _⟩
end
/-! tuples cut and put together, the tokens of the empty and the whole ones told alike -/
section
variable {K : PySem.W.Frag}
theorem catA_run {H : Hp} {a b : Addr} {xs ys : List V} {Q : VK} (ha : SqT K H a xs) (hb : SqT K H b ys) (hz : xs.length + ys.length ≤ 1000) (q : ∀ r H', Same H H' → SqT K H' r (xs ++ ys) → Q (.ref r) H') : rCatA K (.ref a) (.ref b) H Q := by
  refine ⟨a, b, xs, ys, rfl, rfl, ha, hb, small hz, fun e => ?_, fun _ e => ?_, fun _ _ p hp => q p _ (same_new hp _) (SqT.of upd_same)⟩
  · subst e
    exact q b H (Same.refl _) hb
  · subst e
    exact q a H (Same.refl _) (by rw [List.append_nil]; exact ha)
theorem slA_run {H : Hp} {a : Addr} {xs : List V} {lo hi : Option Int} {Q : VK} (ha : SqT K H a xs) (q : ∀ r H', Same H H' → SqT K H' r (cutV xs lo hi) → Q (.ref r) H') : rSlA K (.ref a) lo hi H Q := by
  refine ⟨a, xs, rfl, ha, fun wh => ?_, fun _ p hp => q p _ (same_new hp _) (SqT.of upd_same)⟩
  refine q a H (Same.refl _) ?_
  unfold cutV
  rw [wh.1, wh.2, Nat.sub_zero, List.drop_zero, List.take_length]
  exact ha
theorem cut_to {xs : List V} {b : Int} (h0 : 0 ≤ b) (h1 : b ≤ xs.length) : cutV xs none (some b) = xs.take b.toNat := by
  obtain ⟨n, rfl⟩ : ∃ n : Nat, b = n := ⟨b.toNat, by omega⟩
  unfold cutV
  rw [HT.sIx_none, HT.sIx_nat, List.drop_zero, Nat.sub_zero, Nat.min_eq_left (by omega)]
  rfl
theorem cut_from {xs : List V} {b : Int} (h0 : 0 ≤ b) (h1 : b ≤ xs.length) : cutV xs (some b) none = xs.drop b.toNat := by
  obtain ⟨n, rfl⟩ : ∃ n : Nat, b = n := ⟨b.toNat, by omega⟩
  unfold cutV
  rw [HT.sIx_none, HT.sIx_nat, Nat.min_eq_left (by omega)]
  have e : xs.length - n = (xs.drop n).length := by rw [List.length_drop]
  rw [e, List.take_length]
  rfl
theorem set_split {α : Type} : ∀ (xs : List α) (b : Nat) (v : α), b < xs.length → xs.take b ++ [v] ++ xs.drop (b + 1) = xs.set b v
  | x :: r, 0, v, _ => rfl
  | x :: r, b + 1, v, h => by
    have ih := set_split r b v (by simpa using h)
    simp only [List.take_succ_cons, List.cons_append, List.drop_succ_cons, List.set_cons_succ]
    rw [ih]
theorem dpAll_set {H : Hp} {v : V} {d : PyData} (h : Dp K H v d) : ∀ {xs : List V} {ds : List PyData} (i : Nat), DpAll K H xs ds → DpAll K H (xs.set i v) (ds.set i d)
  | _, _, _, .nil => .nil
  | _, _, 0, .cons _ t => .cons h t
  | _, _, i + 1, .cons a t => .cons a (dpAll_set h i t)
end
section
theorem depth_all {k : Nat} : ∀ {l : List PyData}, (∀ z ∈ l, z.depth ≤ k) → PyData.depthAll l ≤ k
  | [], _ => by simp only [PyData.depthAll]; exact Nat.zero_le _
  | u :: v, h => by
    have h1 := h u List.mem_cons_self
    have h2 := depth_all (l := v) fun z hz => h z (List.mem_cons_of_mem _ hz)
    simp only [PyData.depthAll]
    omega
theorem short_all {B : Nat} : ∀ {l : List PyData}, (∀ z ∈ l, z.leavesShort B = true) → PyData.leavesShortAll B l = true
  | [], _ => by simp only [PyData.leavesShortAll]
  | u :: v, h => by
    simp only [PyData.leavesShortAll, Bool.and_eq_true]
    exact ⟨h u List.mem_cons_self, short_all fun z hz => h z (List.mem_cons_of_mem _ hz)⟩
theorem show_all : ∀ {l : List PyData}, (∀ z ∈ l, z.showable = true) → PyData.showableAll l = true
  | [], _ => by simp only [PyData.showableAll]
  | u :: v, h => by
    simp only [PyData.showableAll, Bool.and_eq_true]
    exact ⟨h u List.mem_cons_self, show_all fun z hz => h z (List.mem_cons_of_mem _ hz)⟩
theorem bulk_app : ∀ (a b : List PyData), PyData.bulkAll (a ++ b) = PyData.bulkAll a + PyData.bulkAll b
  | [], b => by simp [PyData.bulkAll]
  | x :: a, b => by
    simp only [List.cons_append, PyData.bulkAll]
    rw [bulk_app a b]
    omega
theorem bulk_set : ∀ {l : List PyData} {i : Nat} {e e' : PyData}, l[i]? = some e → PyData.bulkAll (l.set i e') + e.bulk = PyData.bulkAll l + e'.bulk
  | x :: l, 0, e, e', h => by
    cases h
    simp only [List.set_cons_zero, PyData.bulkAll]
    omega
  | x :: l, i + 1, e, e', h => by
    have := bulk_set (l := l) (i := i) (e := e) (e' := e') h
    simp only [List.set_cons_succ, PyData.bulkAll]
    omega
theorem bulk_cut (l : List PyData) (i : Nat) : PyData.bulkAll (l.take i) + PyData.bulkAll (l.drop i) = PyData.bulkAll l := by
  rw [← bulk_app, List.take_append_drop]
theorem bulk_drop (l : List PyData) (i : Nat) : PyData.bulkAll (l.drop i) ≤ PyData.bulkAll l := by
  have := bulk_cut l i
  omega
theorem sqT_mn {K : PySem.W.Frag} {H : Hp} {st r : Addr} {xs : List V} (sa : StAt H st) (h : SqT K H r xs) : SqT K (mn st H) r xs := by
  obtain ⟨l, hl⟩ := sa.some
  rcases h with (h | ⟨o, h⟩) | h
  · exact .inl (.inl (mn_at (fun e => by rw [e, hl] at h; cases h) h))
  · exact .inl (.inr ⟨o, mn_at (fun e => by rw [e, hl] at h; cases h) h⟩)
  · exact .inr h
theorem sqT_same {K : PySem.W.Frag} {H H' : Hp} {r : Addr} {xs : List V} (s : Same H H') (h : SqT K H r xs) : SqT K H' r xs := sqT_kt (KT.of_same s) h
theorem dpAll_take {K : PySem.W.Frag} {H : Hp} : ∀ {vs : List V} {ds : List PyData} (i : Nat), DpAll K H vs ds → DpAll K H (vs.take i) (ds.take i)
  | _, _, 0, _ => by simp only [List.take_zero]; exact .nil
  | _, _, i + 1, .nil => .nil
  | _, _, i + 1, .cons a t => by simp only [List.take_succ_cons]; exact .cons a (dpAll_take i t)
theorem dpAll_drop {K : PySem.W.Frag} {H : Hp} : ∀ {vs : List V} {ds : List PyData} (i : Nat), DpAll K H vs ds → DpAll K H (vs.drop i) (ds.drop i)
  | _, _, 0, h => by simp only [List.drop_zero]; exact h
  | _, _, i + 1, .nil => .nil
  | _, _, i + 1, .cons a t => by simp only [List.drop_succ_cons]; exact dpAll_drop i t
theorem cut_from0 {xs : List V} {b : Int} (h0 : 0 ≤ b) : cutV xs (some b) none = xs.drop b.toNat := by
  by_cases h1 : b ≤ xs.length
  · exact cut_from h0 h1
  · obtain ⟨n, rfl⟩ : ∃ n : Nat, b = n := ⟨b.toNat, by omega⟩
    unfold cutV
    rw [HT.sIx_none, HT.sIx_nat, Nat.min_eq_right (by omega), Nat.sub_self, List.take_zero]
    exact (List.drop_eq_nil_of_le (by omega)).symm
theorem bulk_mem : ∀ {l : List PyData} {x : PyData}, x ∈ l → x.bulk + 1 ≤ PyData.bulkAll l
  | u :: v, x, h => by
    simp only [PyData.bulkAll]
    rcases List.mem_cons.mp h with rfl | h
    · omega
    · have := bulk_mem h
      omega
theorem noP {σ : L2.St} {H : Hp} {Q : Option Int → Hp → Prop} (h : Q none H) : tNoPart σ H Q := h
theorem pick_dp {K : PySem.W.Frag} {H : Hp} {vs : List V} {ds : List PyData} {r : Int} (h : DpAll K H vs ds) (r0 : 0 ≤ r) (r1 : r < ds.length) : ∃ v d, atI vs r = some v ∧ Dp K H v d ∧ d ∈ ds := by
  have hl := dpAll_len h
  have hr : r.toNat < vs.length := by omega
  obtain ⟨d, hd, hdp⟩ := dpAll_get' h (List.getElem?_eq_getElem hr)
  exact ⟨_, d, atI_at r0 (List.getElem?_eq_getElem hr), hdp, List.mem_of_getElem? hd⟩
theorem pss_imp {X : Cx} {sts : List Stmt} {t t' : TS} (h : PSs X sts t) (w : ∀ D σ H, t' D σ H → t D σ H) : PSs X sts t' := ⟨fun pins s σ H D I q => h.run pins s σ H D I (w _ _ _ q)⟩
def strD : PyData → Bool
  | .str _ => true
  | _ => false
theorem kit_str {K : PySem.W.Frag} (d : PyData) : PySem.W.kitOne K (.type (kindD d)) (.type "str") = some (strD d) := by
  cases d with
  | none => exact kit_ty (show kitB "NoneType" "str" = some false by decide +kernel)
  | bool _ => exact kit_ty (show kitB "bool" "str" = some false by decide +kernel)
  | int _ => exact kit_ty (show kitB "int" "str" = some false by decide +kernel)
  | str _ => exact kit_ty (show kitB "str" "str" = some true by decide +kernel)
  | list _ => exact kit_ty (show kitB "list" "str" = some false by decide +kernel)
  | tuple _ => exact kit_ty (show kitB "tuple" "str" = some false by decide +kernel)
  | dict _ => exact kit_ty (show kitB "dict" "str" = some false by decide +kernel)
end
section
variable {P : Program} {w : World} {K : PySem.W.Frag} {mg : Str → Option Value} {base : Heap} {f : Addr} {fd : FuncData}
theorem scLWhole : FnScope ["_law_thing"] ["_law_thing"] (defScope sLWhole) := ⟨rfl, rfl, rfl, by decide +kernel, rfl, by decide +kernel, by decide +kernel⟩
theorem ok_lwhole {k : Nat} (F : Fun K "_law_whole" "_law_whole" sLWhole f fd) (T : Free mg) : FnOk P w K mg base CX0 (k + 1) f fd ["_law_thing"] (spWhole K) := by
  refine F.ok scLWhole (fun vs H Q E h => ?_) (fun cdv A outer s H vs Q E hr h => ?_)
  · obtain ⟨x, d, rfl, _⟩ := h
    rfl
  obtain ⟨x, d, rfl, hx, q⟩ := h
  refine ⟨_, pss_one (ps_ret (pe_and (pe_callB call_isi rfl T.isi (by decide +kernel) (pa_cons (pv 0) (pa_cons (pe_bltn (v := .ty "int") rfl T.int (by decide +kernel) rfl) pa_nil)))
    (pe_one (pe_not (pe_callB call_isi rfl T.isi (by decide +kernel) (pa_cons (pv 0) (pa_cons (pe_bltn (v := .ty "bool") rfl T.bool (by decide +kernel) rfl) pa_nil))))))), ?_⟩
  have ht := ty_of hx
  refine ⟨_, rfl, x, _, _, _, _, rfl, .ty "int", ht, kit_int d, _, rfl, ?_⟩
  cases d with
  | int i => exact ifT rfl ⟨_, rfl, _, _, _, _, _, rfl, .ty "bool", ht, kit_bool _, _, rfl, q⟩
  | bool b => exact ifT rfl ⟨_, rfl, _, _, _, _, _, rfl, .ty "bool", ht, kit_bool _, _, rfl, q⟩
  | none => exact ifF rfl q
  | str _ => exact ifF rfl q
  | list _ => exact ifF rfl q
  | tuple _ => exact ifF rfl q
  | dict _ => exact ifF rfl q
end
/-! data that may be shown, however it is bent -/
inductive Bd (c wd : Nat) : PyData → Prop
  | non : Bd c wd .none
  | bl {t : Bool} : Bd c wd (.bool t)
  | int {i : Int} (h : i.natAbs < c) : Bd c wd (.int i)
  | str {x : Str} (h : ∀ z ∈ x.cps.toList, z < 128) : Bd c wd (.str x)
  | lst {es : List PyData} (len : es.length ≤ wd) (each : ∀ z ∈ es, Bd c wd z) : Bd c wd (.list es)
  | tup {es : List PyData} (len : es.length ≤ wd) (each : ∀ z ∈ es, Bd c wd z) : Bd c wd (.tuple es)
  | dct {kvs : List (PyData × PyData)} (h1 : (PyData.dict kvs).showable = true) (h2 : (PyData.dict kvs).leavesShort 40 = true) : Bd c wd (.dict kvs)
theorem Bd.mono {c c' wd wd' : Nat} (h : c ≤ c') (h' : wd ≤ wd') {d : PyData} (b : Bd c wd d) : Bd c' wd' d := by
  induction b with
  | non => exact .non
  | bl => exact .bl
  | int q => exact .int (Nat.lt_of_lt_of_le q h)
  | str q => exact .str q
  | lst l _ ih => exact .lst (Nat.le_trans l h') ih
  | tup l _ ih => exact .tup (Nat.le_trans l h') ih
  | dct a b => exact .dct a b
theorem Bd.shw {c wd : Nat} (hc : c ≤ 10 ^ 35) {d : PyData} (b : Bd c wd d) : d.showable = true := by
  induction b with
  | non => simp only [PyData.showable]
  | bl => simp only [PyData.showable]
  | @int i q =>
    simp only [PyData.showable, decide_eq_true_eq]
    by_cases z : i.natAbs = 0
    · rw [z]
      decide
    · exact Nat.lt_of_lt_of_le ((Nat.log2_lt z).mpr (Nat.lt_of_lt_of_le (Nat.lt_of_lt_of_le q hc) (show 10 ^ 35 ≤ 2 ^ 120 by decide))) (by decide)
  | str q => simp only [PyData.showable]
  | lst _ _ ih => simp only [PyData.showable]; exact show_all ih
  | tup _ _ ih => simp only [PyData.showable]; exact show_all ih
  | dct a b => exact a
theorem Bd.sho {c wd : Nat} (hc : c ≤ 10 ^ 35) {d : PyData} (b : Bd c wd d) : d.leavesShort 40 = true := by
  induction b with
  | non => simp only [PyData.leavesShort]
  | bl => simp only [PyData.leavesShort]
  | @int i q =>
    simp only [PyData.leavesShort, decide_eq_true_eq]
    have e := PySem.int_text_length_le10 (k := 35) (by decide) (Nat.lt_of_lt_of_le q hc)
    show (Str.ofString (toString i)).length ≤ 40
    rw [ofString_length]
    exact Nat.le_trans e (by decide)
  | str q =>
    simp only [PyData.leavesShort, List.all_eq_true, decide_eq_true_eq]
    intro z hz
    exact Nat.lt_of_lt_of_le (q z hz) (by decide)
  | lst _ _ ih => simp only [PyData.leavesShort]; exact short_all ih
  | tup _ _ ih => simp only [PyData.leavesShort]; exact short_all ih
  | dct a b => exact b
def bdQ (c wd : Nat) : Nat → PyData → Bool
  | 0, _ => false
  | n + 1, .tuple es => (decide (es.length ≤ wd) && es.all (bdQ c wd n))
  | n + 1, .list es => (decide (es.length ≤ wd) && es.all (bdQ c wd n))
  | _ + 1, .int i => decide (i.natAbs < c)
  | _ + 1, .str x => x.cps.toList.all fun z => decide (z < 128)
  | _ + 1, .dict kvs => (PyData.dict kvs).showable && (PyData.dict kvs).leavesShort 40
  | _ + 1, .none => true
  | _ + 1, .bool _ => true
theorem bdQ_ok {c wd : Nat} : ∀ (n : Nat) (d : PyData), bdQ c wd n d = true → Bd c wd d
  | 0, _, h => by cases h
  | n + 1, .tuple es, h => by
    have h : (decide (es.length ≤ wd) && es.all (bdQ c wd n)) = true := h
    rw [Bool.and_eq_true] at h
    exact .tup (of_decide_eq_true h.1) fun z hz => bdQ_ok n z (List.all_eq_true.mp h.2 z hz)
  | n + 1, .list es, h => by
    have h : (decide (es.length ≤ wd) && es.all (bdQ c wd n)) = true := h
    rw [Bool.and_eq_true] at h
    exact .lst (of_decide_eq_true h.1) fun z hz => bdQ_ok n z (List.all_eq_true.mp h.2 z hz)
  | n + 1, .int i, h => .int (of_decide_eq_true h)
  | n + 1, .str x, h => .str fun z hz => of_decide_eq_true (List.all_eq_true.mp h z hz)
  | n + 1, .dict kvs, h => by
    have h : ((PyData.dict kvs).showable && (PyData.dict kvs).leavesShort 40) = true := h
    rw [Bool.and_eq_true] at h
    exact .dct h.1 h.2
  | n + 1, .none, _ => .non
  | n + 1, .bool _, _ => .bl
/-- what one bending makes of it -/
structure Bn (c wd : Nat) (d d' : PyData) : Prop where
  bd : Bd (c + 10000) (wd + 1) d'
  blk : d'.bulk ≤ 2 * d.bulk + 20
  dep : d'.depth ≤ d.depth + 3
def oddQ (o : PyData) : Bool := bdQ (10 ^ 29 + 1) 2 3 o && decide (o.bulk ≤ 12) && decide (o.depth ≤ 3)
theorem odd_all : (odd0 ++ odd1 ++ odd2).all oddQ = true := by decide +kernel
theorem odd_is {o : PyData} (h : o ∈ odd0 ++ odd1 ++ odd2) : Bd (10 ^ 29 + 1) 2 o ∧ o.bulk ≤ 12 ∧ o.depth ≤ 3 := by
  have := List.all_eq_true.mp odd_all o h
  unfold oddQ at this
  simp only [Bool.and_eq_true, decide_eq_true_eq] at this
  exact ⟨bdQ_ok _ _ this.1.1, this.1.2, this.2⟩
theorem odd_bn {c wd : Nat} (hc : 10 ^ 29 + 1 ≤ c) (hw : 2 ≤ wd) {d o : PyData} (h : o ∈ odd0 ++ odd1 ++ odd2) : Bn c wd d o := by
  obtain ⟨a, b, e⟩ := odd_is h
  exact ⟨a.mono (by omega) (by omega), by omega, by omega⟩
theorem bulk_tup (l : List PyData) : (PyData.tuple l).bulk = PyData.bulkAll l := by simp only [PyData.bulk]
theorem bulk_lst (l : List PyData) : (PyData.list l).bulk = PyData.bulkAll l := by simp only [PyData.bulk]
theorem depth_tup (l : List PyData) : (PyData.tuple l).depth = 1 + PyData.depthAll l := by simp only [PyData.depth]; omega
theorem depth_lst (l : List PyData) : (PyData.list l).depth = 1 + PyData.depthAll l := by simp only [PyData.depth]; omega
theorem depth_mem : ∀ {l : List PyData} {z : PyData}, z ∈ l → z.depth ≤ PyData.depthAll l
  | u :: v, z, h => by
    simp only [PyData.depthAll]
    rcases List.mem_cons.mp h with rfl | h
    · omega
    · have := depth_mem h
      omega
theorem len_bulk : ∀ (l : List PyData), l.length ≤ PyData.bulkAll l
  | [] => by simp [PyData.bulkAll]
  | u :: v => by
    have := len_bulk v
    simp only [PyData.bulkAll, List.length_cons]
    omega
theorem bulk_rev : ∀ (l : List PyData), PyData.bulkAll l.reverse = PyData.bulkAll l
  | [] => rfl
  | u :: v => by
    rw [List.reverse_cons, bulk_app, bulk_rev v]
    simp only [PyData.bulkAll]
    omega
/-- a tuple of things of the old one -/
theorem bn_tup {c wd : Nat} {ds l : List PyData} (hd : Bd c wd (.tuple ds)) (hl : l.length ≤ wd + 1) (hm : ∀ z ∈ l, z ∈ ds ∨ z = .int 0 ∨ z = .tuple ds) (hc : 0 < c) (hb : PyData.bulkAll l ≤ 2 * PyData.bulkAll ds + 20) : Bn c wd (.tuple ds) (.tuple l) := by
  have each : ∀ z ∈ ds, Bd c wd z := by cases hd with | tup _ e => exact e
  have len : ds.length ≤ wd := by cases hd with | tup l _ => exact l
  refine ⟨.tup hl fun z hz => ?_, by rw [bulk_tup, bulk_tup]; exact hb, ?_⟩
  · rcases hm z hz with q | rfl | rfl
    · exact (each z q).mono (by omega) (by omega)
    · exact .int (by show 0 < _; omega)
    · exact hd.mono (by omega) (by omega)
  · rw [depth_tup, depth_tup]
    have : PyData.depthAll l ≤ PyData.depthAll ds + 1 := depth_all fun z hz => by
      rcases hm z hz with q | rfl | rfl
      · have := depth_mem q
        omega
      · simp only [PyData.depth]
        omega
      · rw [depth_tup]
        omega
    omega
theorem bn_lst {c wd : Nat} {ds : List PyData} (hd : Bd c wd (.tuple ds)) : Bn c wd (.tuple ds) (.list ds) := by
  have each : ∀ z ∈ ds, Bd c wd z := by cases hd with | tup _ e => exact e
  have len : ds.length ≤ wd := by cases hd with | tup l _ => exact l
  exact ⟨.lst (by omega) fun z hz => (each z hz).mono (by omega) (by omega), by rw [bulk_tup, bulk_lst]; omega, by rw [depth_tup, depth_lst]; omega⟩
theorem bn_set {c wd : Nat} {ds : List PyData} {i : Nat} {e e' : PyData} (hd : Bd c wd (.tuple ds)) (hi : ds[i]? = some e) (h : Bn c wd e e') : Bn c wd (.tuple ds) (.tuple (ds.set i e')) := by
  have each : ∀ z ∈ ds, Bd c wd z := by cases hd with | tup _ e => exact e
  have len : ds.length ≤ wd := by cases hd with | tup l _ => exact l
  have hm := List.mem_of_getElem? hi
  refine ⟨.tup (by rw [List.length_set]; omega) fun z hz => ?_, ?_, ?_⟩
  · rcases List.mem_or_eq_of_mem_set hz with q | q
    · exact (each z q).mono (by omega) (by omega)
    · rw [q]
      exact h.bd
  · rw [bulk_tup, bulk_tup]
    have b1 := bulk_set (e' := e') hi
    have b2 := bulk_mem hm
    have b3 := h.blk
    omega
  · rw [depth_tup, depth_tup]
    have dm := depth_mem hm
    have : PyData.depthAll (ds.set i e') ≤ PyData.depthAll ds + 3 := depth_all fun z hz => by
      rcases List.mem_or_eq_of_mem_set hz with q | q
      · have := depth_mem q
        omega
      · rw [q]
        have := h.dep
        omega
    omega
theorem bn_int {c wd : Nat} {i k : Int} (h : Bd c wd (.int i)) (hk : k.natAbs < 10000) : Bn c wd (.int i) (.int (i + k)) := by
  cases h with
  | int h => exact ⟨.int (by omega), by simp only [PyData.bulk]; omega, by simp only [PyData.depth]; omega⟩
theorem bn_str {c wd : Nat} {x y : Str} (h : ∀ z ∈ y.cps.toList, z < 128) (hl : y.cps.size ≤ x.cps.size + 4) : Bn c wd (.str x) (.str y) := ⟨.str h, by simp only [PyData.bulk]; omega, by simp only [PyData.depth]; omega⟩
theorem asc_app {x y : Str} (h : ∀ z ∈ x.cps.toList, z < 128) (h' : ∀ z ∈ y.cps.toList, z < 128) : ∀ z ∈ (x ++ y).cps.toList, z < 128 := fun z hz => by
  have e : (x ++ y).cps = x.cps ++ y.cps := rfl
  rw [e, Array.toList_append] at hz
  rcases List.mem_append.mp hz with q | q
  · exact h z q
  · exact h' z q
theorem asc_cut {x : Str} {lo hi : Option Int} (h : ∀ z ∈ x.cps.toList, z < 128) : ∀ z ∈ (cutS x lo hi).cps.toList, z < 128 := fun z hz => by
  have hz : z ∈ (x.cps.toList.drop (HT.sIx x.length 0 lo)).take (HT.sIx x.length x.length hi - HT.sIx x.length 0 lo) := by simpa [cutS] using hz
  exact h z (List.mem_of_mem_drop (List.mem_of_mem_take hz))
theorem asc_up {x : Str} (h : ∀ z ∈ x.cps.toList, z < 128) : (∀ z ∈ (Txt.upper x).cps.toList, z < 128) ∧ (Txt.upper x).cps.size = x.cps.size := by
  rw [PyProof.Rows.upper_ascii h]
  refine ⟨fun z hz => ?_, by simp⟩
  have hz : z ∈ x.cps.toList.map PyProof.Rows.up1 := by simpa using hz
  obtain ⟨c, hc, rfl⟩ := List.mem_map.mp hz
  have := h c hc
  unfold PyProof.Rows.up1
  split <;> omega
theorem big {n : Nat} (h : n ≤ 1000000) : n ≤ sizeLine := Nat.le_trans h (by decide)
section
variable {K : PySem.W.Frag}
theorem catB_run {H : Hp} {a b : Addr} {xs ys : List V} {Q : VK} (ha : SqT K H a xs) (hb : SqT K H b ys) (hz : xs.length + ys.length ≤ 1000000) (q : ∀ r H', Same H H' → SqT K H' r (xs ++ ys) → Q (.ref r) H') : rCatA K (.ref a) (.ref b) H Q := by
  refine ⟨a, b, xs, ys, rfl, rfl, ha, hb, big hz, fun e => ?_, fun _ e => ?_, fun _ _ p hp => q p _ (same_new hp _) (SqT.of upd_same)⟩
  · subst e
    exact q b H (Same.refl _) hb
  · subst e
    exact q a H (Same.refl _) (by rw [List.append_nil]; exact ha)
theorem dpAll_rev {H : Hp} : ∀ {vs : List V} {ds : List PyData}, DpAll K H vs ds → DpAll K H vs.reverse ds.reverse
  | _, _, .nil => .nil
  | _, _, .cons a t => by rw [List.reverse_cons, List.reverse_cons]; exact dpAll_snoc a (dpAll_rev t)
def cutD (ds : List PyData) (lo hi : Option Int) : List PyData := (ds.drop (HT.sIx ds.length 0 lo)).take (HT.sIx ds.length ds.length hi - HT.sIx ds.length 0 lo)
theorem dpAll_cut {H : Hp} {vs : List V} {ds : List PyData} (h : DpAll K H vs ds) (lo hi : Option Int) : DpAll K H (cutV vs lo hi) (cutD ds lo hi) := by
  unfold cutV cutD
  rw [dpAll_len h]
  exact dpAll_take _ (dpAll_drop _ h)
theorem cutD_mem {ds : List PyData} {lo hi : Option Int} {z : PyData} (h : z ∈ cutD ds lo hi) : z ∈ ds := List.mem_of_mem_drop (List.mem_of_mem_take h)
theorem cutD_len (ds : List PyData) (lo hi : Option Int) : (cutD ds lo hi).length ≤ ds.length := by
  unfold cutD
  rw [List.length_take, List.length_drop]
  omega
theorem last_len (ds : List PyData) : (cutD ds (some (-1)) none).length ≤ 1 := by
  unfold cutD
  rw [List.length_take, List.length_drop, HT.sIx_none]
  have e : HT.sIx ds.length 0 (some (-1)) = ds.length - 1 := by
    show (if (-1 : Int) < 0 then ((-1 : Int) + (ds.length : Int)).toNat else min (-1 : Int).toNat ds.length) = _
    rw [if_pos (by decide)]
    omega
  rw [e]
  omega
theorem cutD_bulk (ds : List PyData) (lo hi : Option Int) : PyData.bulkAll (cutD ds lo hi) ≤ PyData.bulkAll ds := by
  unfold cutD
  have a := bulk_cut (ds.drop (HT.sIx ds.length 0 lo)) (HT.sIx ds.length ds.length hi - HT.sIx ds.length 0 lo)
  have b := bulk_drop ds (HT.sIx ds.length 0 lo)
  omega
end
theorem Mv.trans {st : Addr} {H H1 H2 : Hp} (a : Mv st H H1) (b : Mv st H1 H2) : Mv st H H2 := ⟨a.kp.trans b.kp, b.sa⟩
/-! _law_bent -/
def spBent (K : PySem.W.Frag) (c wd n : Nat) : Sp := fun vs H Q _ => ∃ (st : Addr) (x : V) (d : PyData), vs = [.ref st, x] ∧ StAt H st ∧ Dp K (mn st H) x d ∧ Bd c wd d ∧ d.depth ≤ n ∧ d.bulk ≤ 100000 ∧ ∀ v d' H', Mv st H H' → Dp K (mn st H') v d' → Bn c wd d d' → Q v H'
def spBentS (K : PySem.W.Frag) (c wd n : Nat) : Sp := fun vs H Q E => ∃ m, n = m + 1 ∧ spBent K c wd m vs H Q E
def tBent (K : PySem.W.Frag) (c wd : Nat) : TS := fun D σ H => ∃ (st : Addr) (x : V) (d : PyData) (o2 o3 o4 : Option V), σ = [some (.ref st), some x, o2, o3, o4] ∧ StAt H st ∧ Dp K (mn st H) x d ∧ Bd c wd d ∧ d.bulk ≤ 100000 ∧
  ∀ v d' H', Mv st H H' → Dp K (mn st H') v d' → Bn c wd d d' → D.rt v H'
def tBentT (K : PySem.W.Frag) (c wd : Nat) : TS := fun D σ H => ∃ (st : Addr) (x : V) (d : PyData) (way : Int) (o2 o4 : Option V), σ = [some (.ref st), some x, o2, some (.int way), o4] ∧ 0 ≤ way ∧ StAt H st ∧ Dp K (mn st H) x d ∧ Bd c wd d ∧ d.bulk ≤ 100000 ∧
  ∀ v d' H', Mv st H H' → Dp K (mn st H') v d' → Bn c wd d d' → D.rt v H'
section
variable {P : Program} {w : World} {K : PySem.W.Frag} {mg : Str → Option Value} {base : Heap} {f : Addr} {fd : FuncData}
theorem scBent : FnScope ["_law_state_here", "_law_thing", "_law_at", "_law_way", "_law_more"] ["_law_state_here", "_law_thing"] (defScope sBent) := ⟨rfl, rfl, rfl, by decide +kernel, rfl, by decide +kernel, by decide +kernel⟩
theorem ok_bent {k c wd n : Nat} (hc : 10 ^ 29 + 1 ≤ c) (hwd : 2 ≤ wd) (F : Fun K "_law_bent" "_law_bent" sBent f fd) (T : Free mg) (hS : mg "str" = none) (cC : Cal P w K mg base "_law_choice" k ["_law_state_here", "_law_many"] spChoice) (cW : Cal P w K mg base "_law_whole" k ["_law_thing"] (spWhole K))
    (cO : Cal P w K mg base "_law_odd" k ["_law_state_here"] (spOdd K)) (cB : Cal P w K mg base "_law_bent" k ["_law_state_here", "_law_thing"] (spBentS K c wd n)) : FnOk P w K mg base CX0 (k + 1) f fd ["_law_state_here", "_law_thing"] (spBent K c wd n) := by
  refine F.ok scBent (fun vs H Q E h => ?_) (fun cdv A outer s H vs Q E hr h => ?_)
  · obtain ⟨st, x, d, rfl, _⟩ := h
    rfl
  obtain ⟨st, x, d, rfl, sa, hx, hd, hn, hb, q⟩ := h
  refine ⟨_, pss_cons (ps_if (PW.pt (pw_and (pt_val (pe_callB call_isi rfl T.isi (by decide +kernel) (pa_cons (pv 1) (pa_cons (pe_bltn (v := .ty "tuple") rfl T.tuple (by decide +kernel) rfl) pa_nil))))
      (pw_and (pt_cmpR (op_neE hr.units) (pv 1) (pe_tup pa_nil) (nomark _)) (pw_and1 (pt_cmpR op_gt (pe_cal cC hr rfl (pa_cons (pv 0) (pa_cons pe_int pa_nil))) pe_int (nomark _))))))
      (pss_cons (ps_set (i := 2) scBent.nd rfl (.inl rfl) (pe_cal cC hr rfl (pa_cons (pv 0) (pa_cons (pe_callB call_len_seq rfl T.len PySem.boot_len (pa_cons (pv 1) pa_nil)) pa_nil))))
      (pss_one (ps_ret (pe_op op_catA (pe_op op_catA (pe_slice sl_tupA (pv 1) po_none (po_some (pv 2))) (pe_tup (pa_cons (pe_cal cB hr rfl (pa_cons (pv 0) (pa_cons (pe_ix ix_tup (pv 1) (pv 2) (fun _ _ => rfl)) pa_nil))) pa_nil)))
        (pe_slice sl_tupA (pv 1) (po_some (pe_op op_add (pv 2) pe_int)) po_none))))) pss_nil)
    (pss_imp (t' := tBent K c wd) (pss_cons (ps_set (i := 3) scBent.nd rfl (.inl rfl) (pe_cal cC hr rfl (pa_cons (pv 0) (pa_cons pe_int pa_nil))))
      (pss_cons (ps_if (PW.pt (pw_and (pt_val (pe_callB call_isi rfl T.isi (by decide +kernel) (pa_cons (pv 1) (pa_cons (pe_bltn (v := .ty "tuple") rfl T.tuple (by decide +kernel) rfl) pa_nil)))) (pw_and1 (pt_cmpR op_lt (pv 3) pe_int (nomark _)))))
        (pss_cons (ps_set (i := 4) scBent.nd rfl (.inl rfl) (pe_lst (pa_cons (pe_op op_catA (pv 1) (pe_slice sl_tupA (pv 1) (po_some (pe_un un_neg pe_int)) po_none)) (pa_cons (pe_slice sl_tupA (pv 1) po_none (po_some (pe_un un_neg pe_int)))
          (pa_cons (pe_slice sl_tupA (pv 1) (po_some pe_int) po_none) (pa_cons (pe_rev (pv 1)) (pa_cons (pe_callTy call_list_of rfl T.list (by decide +kernel) (pa_cons (pv 1) pa_nil)) (pa_cons (pe_op op_catA (pv 1) (pe_tup (pa_cons pe_int pa_nil))) pa_nil))))))))
        (pss_cons (ps_expr (pe_bm PySem.F.plainAttrs_list PySem.F.slot_list_append PySem.F.type_list_append mt_append (pv 4) (pa_cons (pe_op op_catA (pv 1) (pe_tup (pa_cons (pv 1) pa_nil))) pa_nil)))
        (pss_one (ps_ret (pe_ix ix_list (pv 4) (pv 3) (fun _ _ => rfl)))))) pss_nil)
      (pss_imp (t' := tBentT K c wd) (pss_cons (ps_if (PW.pt (pw_and (pt_val (pe_cal cW hr rfl (pa_cons (pv 1) pa_nil))) (pw_and1 (pt_cmpR op_lt (pv 3) pe_int (nomark _)))))
        (pss_one (ps_ret (pe_op op_add (pv 1) (pe_ix ix_list (pe_lst (pa_cons pe_int (pa_cons (pe_un un_neg pe_int) (pa_cons pe_int (pa_cons pe_int (pa_cons (pe_un un_neg pe_int) (pa_cons pe_int pa_nil))))))) (pv 3) (fun _ _ => rfl))))) pss_nil)
      (pss_imp (t' := tBentT K c wd) (pss_cons (ps_if (PW.pt (pw_and (pt_val (pe_callB call_isi rfl T.isi (by decide +kernel) (pa_cons (pv 1) (pa_cons (pe_bltn (v := .ty "str") rfl hS (by decide +kernel) rfl) pa_nil)))) (pw_and1 (pt_cmpR op_lt (pv 3) pe_int (nomark _)))))
        (pss_one (ps_ret (pe_ix ix_list (pe_lst (pa_cons (pe_op op_add_str (pv 1) pe_str) (pa_cons (pe_slice sl_str (pv 1) po_none (po_some (pe_un un_neg pe_int))) (pa_cons (pe_upper (pv 1)) (pa_cons (pe_op op_add_str pe_str (pv 1)) (pa_cons (pe_op op_add_str (pv 1) pe_str) (pa_cons pe_str pa_nil))))))) (pv 3) (fun _ _ => rfl)))) pss_nil)
      (pss_one (ps_ret (pe_cal cO hr rfl (pa_cons (pv 0) pa_nil))))) ?texts))
      ?tail)))
      ?base), ?_⟩
  case texts =>
    clear hx hd hn hb q sa
    intro D σ H ⟨st, x, d, way, o2, o4, hσ, w0, sa, hx, hd, hb, q⟩
    subst hσ
    have hxH := dp_same mn_in hx
    have oddly : spOdd K [.ref st] H D.rt E0 := ⟨st, rfl, sa, fun v d' H' mv hdp hm => q v d' H' mv hdp (odd_bn hc hwd hm)⟩
    refine ⟨_, rfl, x, _, _, _, _, rfl, .ty "str", ty_of hxH, kit_str d, _, rfl, ?_⟩
    cases ht : strD d with
    | false => exact ifF rfl (ifF rfl ⟨_, rfl, oddly⟩)
    | true =>
      refine ifT rfl ⟨_, rfl, _, _, rfl, rfl, _, rfl, ite2 (fun cw => ?_) (fun cw => ⟨_, rfl, oddly⟩)⟩
      have w6 : way < 6 := of_decide_eq_true cw
      obtain ⟨z, rfl⟩ : ∃ z, d = .str z := by
        cases d <;> first | exact ⟨_, rfl⟩ | cases ht
      cases hx
      have asc : ∀ a ∈ z.cps.toList, a < 128 := by cases hd with | str h => exact h
      have hz : z.length ≤ 100000 := by
        have e : (PyData.str z).bulk = z.cps.size := by simp only [PyData.bulk]
        rw [e] at hb
        exact hb
      have l1 : ∀ y : Str, y.length ≤ 1 → z.length + y.length ≤ sizeLine := fun y hy => big (by omega)
      refine ⟨_, rfl, _, _, rfl, rfl, l1 _ (by decide), _, rfl, _, rfl, _, rfl, _, rfl, big (by omega), _, rfl, ⟨_, rfl⟩, _, rfl, rfl, by omega, _, rfl, _, _, rfl, rfl, (by rw [Nat.add_comm]; exact l1 _ (by decide)), _, rfl, _, _, rfl, rfl, l1 _ (by decide), small (by show 6 ≤ 1000; decide), fun p hp => ?_⟩
      have s1 := same_new hp (.lst [.str (z ++ "a"), .str (cutS z none (some (-1))), .str (Txt.upper z), .str ("G" ++ z), .str (z ++ " "), .str "send"])
      have up := asc_up asc
      have all : ∀ v ∈ [V.str (z ++ "a"), .str (cutS z none (some (-1))), .str (Txt.upper z), .str ("G" ++ z), .str (z ++ " "), .str "send"], ∃ y : Str, v = .str y ∧ Bn c wd (.str z) (.str y) := fun v hv => by
        simp only [List.mem_cons, List.not_mem_nil, or_false] at hv
        rcases hv with rfl | rfl | rfl | rfl | rfl | rfl
        · exact ⟨_, rfl, bn_str (asc_app asc (by decide)) (by show (z.cps ++ _).size ≤ _; rw [Array.size_append]; exact Nat.add_le_add_left (by decide) _)⟩
        · exact ⟨_, rfl, bn_str (asc_cut asc) (Nat.le_trans (cutS_length z _ _) (Nat.le_add_right _ _))⟩
        · exact ⟨_, rfl, bn_str up.1 (by rw [up.2]; omega)⟩
        · exact ⟨_, rfl, bn_str (asc_app (by decide) asc) (by show (_ ++ z.cps).size ≤ _; rw [Array.size_append, Nat.add_comm]; exact Nat.add_le_add_left (by decide) _)⟩
        · exact ⟨_, rfl, bn_str (asc_app asc (by decide)) (by show (z.cps ++ _).size ≤ _; rw [Array.size_append]; exact Nat.add_le_add_left (by decide) _)⟩
        · exact ⟨_, rfl, bn_str (by decide) (by show 4 ≤ _; omega)⟩
      have hlt : way.toNat < 6 := by omega
      obtain ⟨v, hv⟩ : ∃ v, ([V.str (z ++ "a"), .str (cutS z none (some (-1))), .str (Txt.upper z), .str ("G" ++ z), .str (z ++ " "), .str "send"])[way.toNat]? = some v := ⟨_, List.getElem?_eq_getElem hlt⟩
      obtain ⟨y, rfl, hy⟩ := all v (List.mem_of_getElem? hv)
      exact ⟨_, rfl, p, _, way, _, rfl, rfl, SqL.of upd_same, atI_at w0 hv, q _ _ _ ⟨Kp.of_same s1, sa.same s1⟩ (.str y) hy⟩
  case tail =>
    clear hx hd hn hb q sa
    intro D σ H ⟨st, x, d, way, o2, o4, hσ, w0, sa, hx, hd, hb, q⟩
    subst hσ
    have hxH := dp_same mn_in hx
    refine ⟨_, rfl, x, d, rfl, hxH, _, rfl, ?_⟩
    cases hw : wholeD d with
    | false => exact ifF rfl (ifF rfl ⟨st, x, d, way, o2, o4, rfl, w0, sa, hx, hd, hb, q⟩)
    | true =>
      refine ifT rfl ⟨_, rfl, _, _, rfl, rfl, _, rfl, ite2 (fun cw => ?_) (fun cw => ⟨st, x, d, way, o2, o4, rfl, w0, sa, hx, hd, hb, q⟩)⟩
      have w6 : way < 6 := of_decide_eq_true cw
      obtain ⟨i, rfl⟩ : ∃ i, d = .int i := by
        cases d <;> first | exact ⟨_, rfl⟩ | cases hw
      cases hx
      refine ⟨_, rfl, _, rfl, _, rfl, small (by show 6 ≤ 1000; decide), fun p hp => ?_⟩
      have s1 := same_new hp (.lst [.int 1, .int (-1), .int 2, .int 9999, .int (-9999), .int 5])
      have hlt : way.toNat < 6 := by omega
      obtain ⟨v, hv⟩ : ∃ v, ([V.int 1, .int (-1), .int 2, .int 9999, .int (-9999), .int 5])[way.toNat]? = some v := ⟨_, List.getElem?_eq_getElem hlt⟩
      have all : ∀ v ∈ [V.int 1, .int (-1), .int 2, .int 9999, .int (-9999), .int 5], ∃ k : Int, v = .int k ∧ k.natAbs < 10000 := fun v hv => by
        simp only [List.mem_cons, List.not_mem_nil, or_false] at hv
        rcases hv with rfl | rfl | rfl | rfl | rfl | rfl <;> exact ⟨_, rfl, by decide⟩
      obtain ⟨j, rfl, hj⟩ := all v (List.mem_of_getElem? hv)
      exact ⟨_, rfl, p, _, way, _, rfl, rfl, SqL.of upd_same, atI_at w0 hv, _, _, rfl, rfl, q _ _ _ ⟨Kp.of_same s1, sa.same s1⟩ (.int _) (bn_int hd hj)⟩
  case base =>
    clear hx hd hn hb q sa
    intro D σ H ⟨st, x, d, o2, o3, o4, hσ, sa, hx, hd, hb, q⟩
    subst hσ
    refine ⟨_, rfl, st, 9, rfl, sa, by decide, by decide, fun way H1 w0 w1 mv => ?_⟩
    have m1 := mn_kp mv.kp
    have hx1 := dp_same m1 hx
    have go : ∀ v d' H', Mv st H1 H' → Dp K (mn st H') v d' → Bn c wd d d' → D.rt v H' := fun v d' H' mv' => q v d' H' (mv.trans mv')
    refine ⟨_, rfl, x, _, _, _, _, rfl, .ty "tuple", ty_of (dp_same mn_in hx1), kit_tuple d, _, rfl, ?_⟩
    cases ht : tupleD d with
    | false => exact ifF rfl (ifF rfl ⟨st, x, d, way, o2, o4, rfl, w0, mv.sa, hx1, hd, hb, go⟩)
    | true =>
      refine ifT rfl ⟨_, rfl, _, _, rfl, rfl, _, rfl, ite2 (fun cw => ?_) (fun cw => ⟨st, x, d, way, o2, o4, rfl, w0, mv.sa, hx1, hd, hb, go⟩)⟩
      have w7 : way < 7 := of_decide_eq_true cw
      obtain ⟨ds, rfl⟩ : ∃ ds, d = .tuple ds := by
        cases d <;> first | exact ⟨_, rfl⟩ | cases ht
      have hx1' := hx1
      cases hx1 with
      | @tup a xs _ at1 each1 =>
        have lx := dpAll_len each1
        rw [bulk_tup] at hb
        have lb := len_bulk ds
        have l5 : xs.length ≤ 100000 := by omega
        have cl := fun lo hi => Nat.le_trans (cutV_length xs lo hi) l5
        have a1 := sqT_same mn_in at1
        refine ⟨_, rfl, _, rfl, _, rfl, _, rfl, noP (slA_run a1 fun r2 H2 s2 h2 => catB_run (sqT_same s2 a1) h2 (by have := cl (some (-1)) none; omega) fun r3 H3 s3 h3 => ?_)⟩
        have t3 := s2.trans s3
        have a3 := sqT_same t3 a1
        refine ⟨_, rfl, _, rfl, _, rfl, slA_run a3 fun r4 H4 s4 h4 => ⟨_, rfl, _, rfl, noP (slA_run (sqT_same s4 a3) fun r5 H5 s5 h5 => ?_)⟩⟩
        have t5 := t3.trans (s4.trans s5)
        have a5 := sqT_same t5 a1
        refine ⟨_, rfl, a, xs, rfl, a5, fun p6 f6 => ?_⟩
        have n6 := same_new f6 (.tup xs.reverse)
        have t6 := t5.trans n6
        refine ⟨_, rfl, a, xs, rfl, .inr (sqT_same t6 a1), fun p7 f7 => ?_⟩
        have n7 := same_new f7 (.lst xs)
        have t7 := t6.trans n7
        refine ⟨_, rfl, small (by show 1 ≤ 1000; decide), fun p8 f8 => ?_⟩
        have n8 := same_new f8 (.tup [.int 0])
        have t8 := t7.trans n8
        refine catB_run (sqT_same t8 a1) (SqT.of upd_same) (by show _ + 1 ≤ _; omega) fun r9 H9 s9 h9 => ?_
        have t9 := t8.trans s9
        refine ⟨small (by show 6 ≤ 1000; decide), fun p10 f10 => ?_⟩
        have n10 := same_new f10 (.lst [.ref r3, .ref r4, .ref r5, .ref p6, .ref p7, .ref r9])
        have t10 := t9.trans n10
        -- the seventh
        refine ⟨_, rfl, .inl ⟨rfl, _, SqL.of upd_same⟩, ?_⟩
        refine ⟨_, rfl, _, rfl, small (by show 1 ≤ 1000; decide), fun p11 f11 => ?_⟩
        have n11 := same_new f11 (.tup [.ref a])
        have t11 := t10.trans n11
        refine catB_run (sqT_same t11 a1) (SqT.of upd_same) (by show _ + 1 ≤ _; omega) fun r12 H12 s12 h12 => ?_
        have t12 := t11.trans s12
        have h10 : H12 p10 = some (.lst [.ref r3, .ref r4, .ref r5, .ref p6, .ref p7, .ref r9]) := (n11.trans s12) _ _ upd_same
        refine ⟨p10, _, _, rfl, rfl, h10, Nat.lt_of_lt_of_le (show 6 < 1000 by decide) (small (Nat.le_refl _)), ?_⟩
        have free10 : H1 p10 = none := t9.free f10
        have np10 : p10 ≠ st := (mv.sa.same t9).ne f10
        have kpf : Kp st H1 (upd H12 p10 (.lst ([.ref r3, .ref r4, .ref r5, .ref p6, .ref p7, .ref r9] ++ [.ref r12]))) := (Kp.of_same t12).upd free10
        have saf : StAt (upd H12 p10 (.lst ([.ref r3, .ref r4, .ref r5, .ref p6, .ref p7, .ref r9] ++ [.ref r12]))) st := (mv.sa.same t12).upd np10
        have kt12 := KT.upd (l' := [.ref r3, .ref r4, .ref r5, .ref p6, .ref p7, .ref r9] ++ [.ref r12]) h10
        generalize hHf : upd H12 p10 (.lst ([.ref r3, .ref r4, .ref r5, .ref p6, .ref p7, .ref r9] ++ [.ref r12])) = Hf at kpf saf kt12
        have fp10 : Hf p10 = some (.lst ([.ref r3, .ref r4, .ref r5, .ref p6, .ref p7, .ref r9] ++ [.ref r12])) := by rw [← hHf]; exact upd_same
        have u9 := n10.trans (n11.trans s12)
        have u7 := n8.trans (s9.trans u9)
        have u5 := n6.trans (n7.trans u7)
        have up : ∀ {Hx : Hp} {r : Addr} {ys : List V}, Same Hx H12 → SqT K Hx r ys → SqT K (mn st Hf) r ys := fun sx h => sqT_mn saf (sqT_kt ((KT.of_same sx).trans kt12) h)
        have eachf := dps_same (mn_kp kpf) each1
        have atf := sqT_same (mn_kp kpf) at1
        have np7 : p7 ≠ p10 := ne_of_none ((n8.trans s9) _ _ upd_same) f10
        have h7 : Hf p7 = some (.lst xs) := by
          rw [← hHf, upd_ne np7]
          exact u7 _ _ upd_same
        have ns7 : p7 ≠ st := (mv.sa.same t6).ne f7
        have all7 : DpAll K (mn st Hf) ([.ref r3, .ref r4, .ref r5, .ref p6, .ref p7, .ref r9] ++ [.ref r12]) [.tuple (ds ++ cutD ds (some (-1)) none), .tuple (cutD ds none (some (-1))), .tuple (cutD ds (some 1) none), .tuple ds.reverse, .list ds, .tuple (ds ++ [.int 0]), .tuple (ds ++ [.tuple ds])] :=
          .cons (.tup (up (s4.trans (s5.trans u5)) h3) (dpAll_append (dpAll_cut eachf _ _) eachf))
          (.cons (.tup (up (s5.trans u5) h4) (dpAll_cut eachf _ _))
          (.cons (.tup (up u5 h5) (dpAll_cut eachf _ _))
          (.cons (.tup (up (n7.trans u7) (SqT.of upd_same)) (dpAll_rev eachf))
          (.cons (.lst (SqL.of (mn_at ns7 h7)) eachf)
          (.cons (.tup (up u9 h9) (dpAll_snoc (.int 0) eachf))
          (.cons (.tup (up (Same.refl _) h12) (dpAll_snoc (.tup atf eachf) eachf)) .nil))))))
        obtain ⟨v, d', hat, hdp, hm⟩ := pick_dp all7 w0 (by show way < 7; exact w7)
        refine ⟨_, rfl, _, rfl, p10, _, way, v, rfl, rfl, SqL.of fp10, hat, go v d' Hf ⟨kpf, saf⟩ hdp ?_⟩
        have lwd : ds.length ≤ wd := by cases hd with | tup l _ => exact l
        have c0 : 0 < c := Nat.lt_of_lt_of_le (by decide) hc
        simp only [List.mem_cons, List.not_mem_nil, or_false] at hm
        rcases hm with rfl | rfl | rfl | rfl | rfl | rfl | rfl
        · exact bn_tup hd (by have := last_len ds; rw [List.length_append]; omega) (fun z hz => .inl ((List.mem_append.mp hz).elim id cutD_mem)) c0 (by rw [bulk_app]; have := cutD_bulk ds (some (-1)) none; omega)
        · exact bn_tup hd (by have := cutD_len ds none (some (-1)); omega) (fun z hz => .inl (cutD_mem hz)) c0 (by have := cutD_bulk ds none (some (-1)); omega)
        · exact bn_tup hd (by have := cutD_len ds (some 1) none; omega) (fun z hz => .inl (cutD_mem hz)) c0 (by have := cutD_bulk ds (some 1) none; omega)
        · exact bn_tup hd (by rw [List.length_reverse]; omega) (fun z hz => .inl (List.mem_reverse.mp hz)) c0 (by rw [bulk_rev]; omega)
        · exact bn_lst hd
        · exact bn_tup hd (by rw [List.length_append]; show _ + 1 ≤ _; omega) (fun z hz => (List.mem_append.mp hz).elim .inl fun y => .inr (.inl (List.mem_singleton.mp y))) c0 (by rw [bulk_app]; simp only [PyData.bulkAll, PyData.bulk]; omega)
        · exact bn_tup hd (by rw [List.length_append]; show _ + 1 ≤ _; omega) (fun z hz => (List.mem_append.mp hz).elim .inl fun y => .inr (.inr (List.mem_singleton.mp y))) c0 (by rw [bulk_app]; simp only [PyData.bulkAll, PyData.bulk]; omega)
  refine ⟨_, rfl, x, _, _, _, _, rfl, .ty "tuple", ty_of (dp_same mn_in hx), kit_tuple d, _, rfl, ?_⟩
  cases ht : tupleD d with
  | false => exact ifF rfl (ifF rfl ⟨st, x, d, _, _, _, rfl, sa, hx, hd, hb, q⟩)
  | true =>
    obtain ⟨ds, rfl⟩ : ∃ ds, d = .tuple ds := by
      cases d <;> first | exact ⟨_, rfl⟩ | cases ht
    cases hx with
    | @tup a xs _ at0 each0 =>
    have lx := dpAll_len each0
    refine ifT rfl ⟨_, rfl, small (by show 0 ≤ 1000; decide), fun p1 h1 => ?_⟩
    have s1 := same_new h1 (.tup [])
    have sa1 := sa.same s1
    have m1 := mn_kp (Kp.of_same (st := st) s1)
    have mv1 : Mv st H _ := ⟨Kp.of_same s1, sa1⟩
    have at1 := sqT_same m1 at0
    have each1 := dps_same m1 each0
    refine ⟨a, p1, xs, rfl, rfl, sqT_same mn_in at1, SqT.of upd_same, _, rfl, ?_⟩
    have rest : ∀ {H2 : Hp} {o2 o3 o4 : Option V}, Mv st H H2 → tBent K c wd { nx := fun _ H' => Q .non H', rt := Q } [some (.ref st), some (.ref a), o2, o3, o4] H2 := fun {H2 o2 o3 o4} mv2 =>
      ⟨st, .ref a, .tuple ds, o2, o3, o4, rfl, mv2.sa, .tup (sqT_same (mn_kp mv2.kp) at0) (dps_same (mn_kp mv2.kp) each0), hd, hb, fun v d' H' mv3 => q v d' H' (mv2.trans mv3)⟩
    cases xs with
    | nil => exact ifF rfl (ifF rfl (rest mv1))
    | cons y0 ys0 =>
      generalize hxs : y0 :: ys0 = xs at at0 each0 at1 each1 lx rest
      have lp : 0 < xs.length := by rw [← hxs]; simp
      refine ifT (by rw [← hxs]; rfl) ⟨_, rfl, st, 5, rfl, sa1, by decide, by decide, fun r2 H2 r20 r21 mv2 => ⟨_, _, rfl, rfl, _, rfl, ite2 (fun c2 => ?_) (fun c2 => rest (mv1.trans mv2))⟩⟩
      have mvA := mv1.trans mv2
      have m2 := mn_kp mvA.kp
      have at2 := sqT_same m2 at0
      have each2 := dps_same m2 each0
      rw [bulk_tup] at hb
      have lb := len_bulk ds
      have l5 : xs.length ≤ 100000 := by omega
      have cl := fun lo hi => Nat.le_trans (cutV_length xs lo hi) l5
      refine ⟨_, rfl, _, rfl, a, xs, rfl, .inr (sqT_same mn_in at2), st, _, rfl, mv2.sa, by omega, by omega, fun r H3 r0 r1 mv3 => ?_⟩
      have m3 := mn_kp mv3.kp
      have at3 := sqT_same m3 at2
      refine ⟨_, rfl, _, rfl, _, rfl, slA_run (sqT_same mn_in at3) fun r4 H4 s4 h4 => ?_⟩
      have k4 := mn_kp (Kp.of_same (st := st) s4)
      have at4 := sqT_same k4 at3
      have each4 := dps_same (m3.trans k4) each2
      have sa4 := mv3.sa.same s4
      have hi : r.toNat < ds.length := by omega
      have hget := List.getElem?_eq_getElem hi
      obtain ⟨y, hy, hdy⟩ := dpAll_get each4 hget
      have hmem := List.getElem_mem hi
      have hde : Bd c wd ds[r.toNat] := by cases hd with | tup _ e => exact e _ hmem
      obtain ⟨m, rfl⟩ : ∃ m, n = m + 1 := ⟨n - 1, by rw [depth_tup] at hn; omega⟩
      have hdep : ds[r.toNat].depth ≤ m := by
        have := depth_mem hmem
        rw [depth_tup] at hn
        omega
      have hblk : ds[r.toNat].bulk ≤ 100000 := by
        have := bulk_mem hmem
        omega
      refine ⟨_, rfl, _, rfl, _, rfl, a, xs, r, y, rfl, rfl, sqT_same mn_in at4, atI_at r0 hy, m, rfl, st, y, ds[r.toNat], rfl, sa4, hdy, hde, hdep, hblk, fun v d' H5 mv5 hdp hbn => ⟨small (by show 1 ≤ 1000; decide), fun p6 h6 => ?_⟩⟩
      have k5 := mn_kp mv5.kp
      have h4m := sqT_same mn_in (sqT_same k5 (sqT_mn sa4 h4))
      have n6 := same_new h6 (.tup [v])
      refine catB_run (sqT_same n6 h4m) (SqT.of upd_same) (by have := cl none (some r); show _ + 1 ≤ 1000000; omega) fun r7 H7 s7 h7 => ?_
      have at7 := sqT_same (n6.trans s7) (sqT_same mn_in (sqT_same k5 at4))
      refine ⟨_, rfl, _, rfl, _, _, rfl, rfl, _, rfl, noP (slA_run at7 fun r8 H8 s8 h8 => ?_)⟩
      refine catB_run (sqT_same s8 h7) h8 (by have := cl none (some r); have := cl (some (r + 1)) none; rw [List.length_append]; show _ + 1 + _ ≤ 1000000; omega) fun r9 H9 s9 h9 => ?_
      rw [cut_to r0 (by omega), cut_from0 (by omega), show (r + 1).toNat = r.toNat + 1 by omega, set_split xs r.toNat v (by omega)] at h9
      have t9 := n6.trans (s7.trans (s8.trans s9))
      have k9 := mn_kp (Kp.of_same (st := st) t9)
      have sa9 := mv5.sa.same t9
      exact q _ (.tuple (ds.set r.toNat d')) H9 ⟨(mvA.kp.trans mv3.kp).trans ((Kp.of_same s4).trans (mv5.kp.trans (Kp.of_same t9))), sa9⟩ (.tup (sqT_mn sa9 h9) (dpAll_set (dp_same k9 hdp) _ (dps_same (k5.trans k9) each4))) (bn_set hd hget hbn)
end
section
variable {P : Program} {w : World} {K : PySem.W.Frag} {mg : Str → Option Value} {base : Heap} {f : Addr} {fd : FuncData}
theorem no_bent {k c wd : Nat} : FnOk P w K mg base CX0 k f fd ["_law_state_here", "_law_thing"] (spBentS K c wd 0) := ⟨(fun vs H Q E h => by obtain ⟨m, e, _⟩ := h; cases e), fun A outer s H args us vs Q E hr he hb hv h => by obtain ⟨m, e, _⟩ := h; cases e⟩
theorem all_bent {k c wd : Nat} (hc : 10 ^ 29 + 1 ≤ c) (hwd : 2 ≤ wd) (F : Fun K "_law_bent" "_law_bent" sBent f fd) (hm : mg "_law_bent" = some (.ref f)) (hb : Binds K fd ["_law_state_here", "_law_thing"] []) (T : Free mg) (hS : mg "str" = none) (cC : Cal P w K mg base "_law_choice" k ["_law_state_here", "_law_many"] spChoice) (cW : Cal P w K mg base "_law_whole" k ["_law_thing"] (spWhole K)) (cO : Cal P w K mg base "_law_odd" k ["_law_state_here"] (spOdd K)) :
    ∀ n, FnOk P w K mg base CX0 (k + n + 1) f fd ["_law_state_here", "_law_thing"] (spBent K c wd n)
  | 0 => ok_bent hc hwd F T hS cC cW cO ⟨f, fd, no_bent, hm, F.kp, hb⟩
  | n + 1 => by
    have ih := all_bent hc hwd F hm hb T hS cC cW cO n
    exact ok_bent (k := k + (n + 1)) hc hwd F T hS (cC.mono (by omega)) (cW.mono (by omega)) (cO.mono (by omega)) ⟨f, fd, ih.imp (fun vs H Q E z => by obtain ⟨m, e, z⟩ := z; cases e; exact z), hm, F.kp, hb⟩
end
/-! _law_chart -/
def ChOk (most : Int) (d : PyData) : Prop := ∃ rows : List (List Int), d = .tuple (rows.map fun ns => .tuple (ns.map .int)) ∧ (rows.length : Int) ≤ most ∧ ∀ ns ∈ rows, ns.length ≤ rows.length ∧ (∀ i ∈ ns, 0 ≤ i ∧ i < rows.length) ∧ ptsFrom rows.length 0 (ns.map .int) = true
theorem pts_snoc {many j : Int} : ∀ (ns : List Int) (least : Int), (∀ n ∈ ns, n < j) → least ≤ j → j < many → ptsFrom many least (ns.map .int) = true → ptsFrom many least ((ns ++ [j]).map .int) = true
  | [], least, _, h1, h2, _ => by
    show (withinD least (many - 1) (.int j) && true) = true
    simp only [withinD, Bool.and_true, Bool.and_eq_true, decide_eq_true_eq]
    omega
  | i :: r, least, hn, h1, h2, h => by
    have h : (withinD least (many - 1) (.int i) && ptsFrom many (i + 1) (r.map .int)) = true := h
    rw [Bool.and_eq_true] at h
    show (withinD least (many - 1) (.int i) && ptsFrom many (i + 1) ((r ++ [j]).map .int)) = true
    rw [h.1, pts_snoc r (i + 1) (fun n hm => hn n (List.mem_cons_of_mem _ hm)) (by have := hn i List.mem_cons_self; omega) h2 h.2]
    rfl
theorem kt_mn {H : Hp} {st : Addr} (sa : StAt H st) : KT H (mn st H) := fun b u h n => mn_at (fun e => by
  obtain ⟨l, hl⟩ := sa.some
  rw [e, hl] at h
  cases h
  exact n _ rfl) h
theorem tupO_ints : ∀ ns : List Int, tupOnlyAll (ns.map .int) = true
  | [] => rfl
  | n :: r => by
    show (tupOnly (.int n) && tupOnlyAll (r.map .int)) = true
    rw [tupO_ints r]
    rfl
def rowsD (rows : List (List Int)) : List PyData := rows.map fun ns => .tuple (ns.map .int)
theorem tupO_rows : ∀ rows : List (List Int), tupOnlyAll (rowsD rows) = true
  | [] => rfl
  | r :: rs => by
    show (tupOnly (.tuple (r.map .int)) && tupOnlyAll (rowsD rs)) = true
    rw [tupO_rows rs, show tupOnly (.tuple (r.map .int)) = tupOnlyAll (r.map .int) by simp only [tupOnly], tupO_ints]
    rfl
theorem dp_ints {K : PySem.W.Frag} {H : Hp} : ∀ ns : List Int, DpAll K H (ns.map V.int) (ns.map PyData.int)
  | [] => .nil
  | n :: r => .cons (.int n) (dp_ints r)
theorem rows_snoc (rows : List (List Int)) (ns : List Int) : rowsD (rows ++ [ns]) = rowsD rows ++ [.tuple (ns.map .int)] := by
  unfold rowsD
  rw [List.map_append]
  rfl
section
variable {P : Program} {w : World} {K : PySem.W.Frag} {mg : Str → Option Value} {base : Heap} {f : Addr} {fd : FuncData}
def spChartG (K : PySem.W.Frag) : Sp := fun vs H Q _ => ∃ (st : Addr) (most : Int), vs = [.ref st, .int most] ∧ StAt H st ∧ 0 ≤ most ∧ most ≤ 100 ∧ ∀ v d H', Mv st H H' → Dp K (mn st H') v d → ChOk most d → Q v H'
abbrev rTupOf (K : PySem.W.Frag) : List V → Hp → VK → Prop := fun xs H Q => ∃ p ys, xs = [.ref p] ∧ ((SqL K H p ys ∧ ∀ l, H l = none → Q (.ref l) (upd H l (.tup ys))) ∨ (SqT K H p ys ∧ Q (.ref p) H))
abbrev scP : Scope := { kind := .function, names := [(".0", .local), ("_law_point", .local), ("tuple", .globalImplicit), ("range", .globalImplicit), ("_law_many", .free), ("_law_share", .free), ("_law_state_here", .free)], isGenerator := false, isCoroutine := false }
theorem scChart : FnScope ["_law_state_here", "_law_most", "_law_many", "_law_share", "_law_to", "_law_point"] ["_law_state_here", "_law_most"] (defScope sChart) := ⟨rfl, rfl, rfl, by decide +kernel, rfl, by decide +kernel, by decide +kernel⟩
theorem ok_chart {k : Nat} (F : Fun K "_law_chart" "_law_chart" sChart f fd) (T : Free mg) (cC : Cal P w K mg base "_law_choice" k ["_law_state_here", "_law_many"] spChoice) : FnOk P w K mg base CX0 (k + 1) f fd ["_law_state_here", "_law_most"] (spChartG K) := by
  refine F.ok scChart (fun vs H Q E h => ?_) (fun cdv A outer s H vs Q E hr h => ?_)
  · obtain ⟨st, most, rfl, _⟩ := h
    rfl
  obtain ⟨st, most, rfl, sa, m0, m1, q⟩ := h
  refine ⟨_, pss_cons (ps_asg (pe_tup (pa_cons (pe_cal cC hr rfl (pa_cons (pv 0) (pa_cons (pe_op op_add (pv 1) pe_int) pa_nil))) (pa_cons (pe_ix ix_list (pe_lst (pa_cons pe_int (pa_cons pe_int (pa_cons pe_int (pa_cons pe_int pa_nil))))) (pe_cal cC hr rfl (pa_cons (pv 0) (pa_cons pe_int pa_nil))) (fun _ _ => rfl)) pa_nil)))
      (pg_tup rfl (pgs_cons (pg_name (i := 2) scChart.nd rfl (.inr rfl)) (pgs_cons (pg_name (i := 3) scChart.nd rfl (.inr rfl)) pgs_nil))))
    (pss_one (ps_ret (pe_callTy call_tuple_of rfl T.tuple (by decide +kernel) (pa_cons
      (pe_lc (own := [("_law_point", 5)]) (g := gName 5) (tt := tYes) (te := tCB (rTupOf K) (tCons (tLc (iRng1 (tCons (tVar 2) tNil)) (gName 4) (tTest (tOp (rI0 fun i j => .bl (decide (i < j))) (tCall spChoice [] E0 (tCons (tVar 0) (tCons (tC (.int 8)) tNil))) (tVar 3))) (tVar 4) [4]) tNil)) rfl scChart.nd (pi_range1 rfl T.range (pa_cons (pv 2) pa_nil))
        (blkOk_by (own := [("_law_point", 5)]) (N := ["_law_state_here", "_law_most", "_law_many", "_law_share", "_law_to", "_law_point"]) (sc := defScope sChart) (by decide +kernel))
        (fun _ _ _ _ _ => pg_name (i := 5) scChart.nd rfl (Or.inl rfl)) (fun _ _ _ _ _ => pts_nil)
        (fun _ _ _ _ _ => pe_callTy call_tuple_of rfl T.tuple (by decide +kernel) (pa_cons
          (pe_lc (own := [("_law_to", 4)]) (g := gName 4) (tt := tTest (tOp (rI0 fun i j => .bl (decide (i < j))) (tCall spChoice [] E0 (tCons (tVar 0) (tCons (tC (.int 8)) tNil))) (tVar 3))) (te := tVar 4) rfl scChart.nd (pi_range1 rfl T.range (pa_cons (pv 2) pa_nil))
            (blkOk_by (own := [("_law_to", 4)]) (N := ["_law_state_here", "_law_most", "_law_many", "_law_share", "_law_to", "_law_point"]) (sc := relS scP (defScope sChart)) (by decide +kernel))
            (fun _ _ _ _ _ => pg_name (i := 4) scChart.nd rfl (Or.inl rfl))
            (fun _ _ _ _ _ => pts_one (pt_cmpR op_lt (pe_cal cC hr rfl (pa_cons (pv 0) (pa_cons pe_int pa_nil))) (pv 3) (nomark _)))
            (fun _ _ _ _ _ => pv 4)) pa_nil))) pa_nil)))), ?_⟩
  refine ⟨_, rfl, _, rfl, _, _, rfl, rfl, st, _, rfl, sa, by omega, by omega, fun many H1 n0 n1 mv1 => ?_⟩
  refine ⟨small (by show 4 ≤ 1000; decide), fun p2 h2 => ⟨_, rfl, st, 4, rfl, mv1.sa.same (same_new h2 _), by decide, by decide, fun r H3 r0 r1 mv3 => ?_⟩⟩
  have np2 : p2 ≠ st := mv1.sa.ne h2
  obtain ⟨share, hat⟩ : ∃ e : Int, atI [V.int 1, .int 2, .int 4, .int 7] r = some (.int e) := by
    have hr4 : r.toNat < 4 := by omega
    obtain ⟨v, hv⟩ : ∃ v, ([V.int 1, .int 2, .int 4, .int 7])[r.toNat]? = some v := ⟨_, List.getElem?_eq_getElem hr4⟩
    have all : ∀ v ∈ [V.int 1, .int 2, .int 4, .int 7], ∃ k : Int, v = .int k := fun v hv => by
      simp only [List.mem_cons, List.not_mem_nil, or_false] at hv
      rcases hv with rfl | rfl | rfl | rfl <;> exact ⟨_, rfl⟩
    obtain ⟨e, rfl⟩ := all v (List.mem_of_getElem? hv)
    exact ⟨e, atI_at r0 hv⟩
  refine ⟨p2, _, r, _, rfl, rfl, SqL.of (mv3.kp _ _ np2 upd_same), hat, small (by show 2 ≤ 1000; decide), fun p4 h4 => ⟨p4, _, rfl, SqT.of upd_same, rfl, _, _, rfl, _, _, rfl, rfl, ?_⟩⟩
  have mv4 : Mv st H (upd H3 p4 (.tup [.int many, .int share])) := ⟨(mv1.kp.trans ((Kp.of_same (same_new h2 _)).trans mv3.kp)).trans (Kp.of_same (same_new h4 _)), mv3.sa.same (same_new h4 _)⟩
  generalize upd H3 p4 (.tup [.int many, .int share]) = H4 at mv4
  refine ⟨_, rfl, many, rfl, by omega, by omega, fun D hD => ?_⟩
  have nD : D ≠ st := mv4.sa.ne hD
  have hD0 : H D = none := mv4.kp.free nD hD
  refine lc_range (lo := 0) (n := many.toNat) (fun i H5 => Mv st H H5 ∧ ∃ (vs : List V) (rows : List (List Int)), H5 D = some (.lst vs) ∧ rows.length = i ∧ DpAll K H5 vs (rowsD rows) ∧ ∀ ns ∈ rows, ns.length ≤ many.toNat ∧ (∀ i ∈ ns, 0 ≤ i ∧ i < many) ∧ ptsFrom many 0 (ns.map .int) = true)
    ⟨⟨mv4.kp.upd hD0, mv4.sa.upd nD⟩, [], [], upd_same, rfl, .nil, fun ns h => by cases h⟩ (fun i H5 hi h => ?_) (fun H5 h => ?_)
  · obtain ⟨mv5, vs, rows, h5, lr, dr, ok⟩ := h
    refine ⟨rfl, yesG ⟨_, rfl, many, rfl, by omega, by omega, fun E hE => ?_⟩⟩
    have nE : E ≠ st := mv5.sa.ne hE
    have nED : E ≠ D := fun z => by rw [z, h5] at hE; cases hE
    have lrv := dpAll_len dr
    refine lc_range (lo := 0) (n := many.toNat) (fun j H6 => Kp st H5 H6 ∧ StAt H6 st ∧ ∃ ns : List Int, H6 E = some (.lst (ns.map V.int)) ∧ ns.length ≤ j ∧ (∀ i ∈ ns, 0 ≤ i ∧ i < (j : Int)) ∧ ptsFrom many 0 (ns.map .int) = true)
      ⟨(Kp.of_same (same_new hE _)), mv5.sa.upd nE, [], upd_same, Nat.le_refl _, (fun i h => by cases h), rfl⟩ (fun j H6 hj h => ?_) (fun H6 h => ?_)
    · obtain ⟨kp6, sa6, ns, h6, ln, bn, pn⟩ := h
      refine ⟨rfl, _, rfl, st, 8, rfl, sa6, by decide, by decide, fun r7 H7 _ _ mv7 => ⟨_, rfl, _, _, rfl, rfl, _, rfl, ?_⟩⟩
      have h7 : H7 E = some (.lst (ns.map V.int)) := mv7.kp _ _ nE h6
      have kp7 := kp6.trans mv7.kp
      refine ite2 (fun c => ⟨_, rfl, _, h7, Nat.lt_of_lt_of_le (show _ < 1000 by rw [List.length_map]; omega) (small (Nat.le_refl _)), ?_⟩) (fun c => ⟨kp7, mv7.sa, ns, h7, by omega, fun i hi => by have := bn i hi; omega, pn⟩)
      refine ⟨kp7.upd hE, mv7.sa.upd nE, ns ++ [0 + (j : Int)], ?_, by rw [List.length_append]; show _ + 1 ≤ _; omega, fun i hi => ?_, pts_snoc ns 0 (fun n hn => by have := bn n hn; omega) (by omega) (by omega) pn⟩
      · rw [upd_same, List.map_append]
        rfl
      · rcases List.mem_append.mp hi with hi | hi
        · have := bn i hi
          omega
        · rw [List.mem_singleton.mp hi]
          omega
    · obtain ⟨kp6, sa6, ns, h6, ln, bn, pn⟩ := h
      refine ⟨E, _, rfl, .inl ⟨SqL.of h6, fun l hl => ?_⟩⟩
      have h6D : H6 D = some (.lst vs) := kp6 _ _ nD h5
      have nl := same_new hl (.tup (ns.map V.int))
      have kt : KT H5 (upd H6 l (.tup (ns.map V.int))) := (kp6.kt mv5.sa).trans (KT.of_same nl)
      have nlD : l ≠ D := fun z => by rw [z, h6D] at hl; cases hl
      refine ⟨vs, nl _ _ h6D, Nat.lt_of_lt_of_le (show _ < 1000 by rw [lrv]; unfold rowsD; rw [List.length_map]; omega) (small (Nat.le_refl _)), ⟨(mv5.kp.trans (kp6.trans (Kp.of_same nl))).upd hD0, (sa6.same nl).upd nD⟩, vs ++ [.ref l], rows ++ [ns], upd_same, by rw [List.length_append, lr]; rfl, ?_, fun z hz => ?_⟩
      · have d1 := dpAll_kt (kt.trans (KT.upd (l' := vs ++ [.ref l]) (nl _ _ h6D))) _ _ (tupO_rows rows) dr
        rw [rows_snoc]
        refine dpAll_snoc (.tup (SqT.of ?_) (dp_ints ns)) d1
        rw [upd_ne nlD, upd_same]
      · rcases List.mem_append.mp hz with hz | hz
        · exact ok z hz
        · rw [List.mem_singleton.mp hz]
          exact ⟨ln, fun i hi => by have := bn i hi; omega, pn⟩
  · obtain ⟨mv5, vs, rows, h5, lr, dr, ok⟩ := h
    refine ⟨D, _, rfl, .inl ⟨SqL.of h5, fun l hl => ?_⟩⟩
    have nl := same_new hl (.tup vs)
    have sa6 := mv5.sa.same nl
    have lm : (rows.length : Int) = many := by omega
    refine q _ (.tuple (rowsD rows)) _ ⟨mv5.kp.trans (Kp.of_same nl), sa6⟩ (.tup (sqT_mn sa6 (SqT.of upd_same)) (dpAll_kt ((KT.of_same nl).trans (kt_mn sa6)) _ _ (tupO_rows rows) dr)) ⟨rows, rfl, by omega, fun ns hn => ?_⟩
    obtain ⟨a, b, c⟩ := ok ns hn
    rw [lm]
    exact ⟨by omega, b, c⟩
end
/-! set(t), t a tuple of ints -/
section
open PySem.Spec PyProof.Rows
variable {X : Cx}
def rSetTI (K : PySem.W.Frag) (w : World) : List V → Hp → VK → Prop := fun xs H Q => ∃ (a : Addr) (ns : List Int), xs = [.ref a] ∧ SqT K H a (ns.map V.int) ∧ ns.length < 60 ∧ ∀ (p : Addr) (c : Nat), c ≤ ns.length → H p = none → Q (.ref p) (upd H p (SetO w p (fun j => decide (j ∈ ns)) c))
theorem cr_setTI (hc : X.calm = true) : CallR X (.type "set") (rSetTI X.K X.w) := by
  intro pins s σ H vs us Q I r h
  obtain ⟨a, ns, rfl, ha, hl, q⟩ := h
  rw [Vals.ref1 r]
  obtain ⟨its, rv, ⟨o1, g1, c1, n1, d1⟩, hz⟩ := I.tuple ha
  refine call_set_tupI ns (I.ok.hd hc) ⟨o1, g1, c1, n1, d1⟩ (by simpa using intsAre_of rv) (by unfold scanBound; omega) fun h' tk c R hc' hk => ?_
  exact ⟨.ref _, _, I.laid (t' := tk) (o := SetO X.w s.heap.objs.size (fun j => decide (j ∈ ns)) c) hk (Nat.le_refl _) (setO_new R), rfl, q _ c hc' (I.hok.fresh (Nat.le_refl _))⟩
end
/-! _law_is_chart -/
theorem eqv_ints : ∀ (ns ms : List Int), PyData.eqv (.list (ns.map .int)) (.list (ms.map .int)) = decide (ns = ms)
  | [], [] => by simp [PyData.eqv, PyData.eqvAll]
  | [], m :: ms => by simp [PyData.eqv, PyData.eqvAll]
  | n :: ns, [] => by simp [PyData.eqv, PyData.eqvAll]
  | n :: ns, m :: ms => by
    have ih := eqv_ints ns ms
    simp only [PyData.eqv] at ih
    simp only [List.map_cons, PyData.eqv, PyData.eqvAll, ih, List.cons.injEq]
    by_cases h : n = m <;> simp [h]
theorem shaped_ints (ns : List Int) : SeqAt.shaped (.list (ns.map .int)) = true := by
  show ((PyData.list (ns.map .int)).canLay0 && decide ((PyData.list (ns.map .int)).depth ≤ 64)) = true
  have h1 : ∀ ns : List Int, PyData.canLayAll0 (ns.map .int) = true := fun ns => by
    induction ns with
    | nil => simp [PyData.canLayAll0]
    | cons n r ih => simp [PyData.canLayAll0, PyData.canLay0, ih]
  have h2 : PyData.depthAll (ns.map .int) ≤ 0 := depth_all fun z hz => by
    obtain ⟨n, _, rfl⟩ := List.mem_map.mp hz
    simp [PyData.depth]
  rw [Bool.and_eq_true]
  exact ⟨by simp only [PyData.canLay0]; exact h1 ns, decide_eq_true (by rw [depth_lst]; omega)⟩
/-- strictly increasing -/
theorem sorted_same {ns ms : List Int} (hs : ms.Pairwise (· < ·)) (hm : ∀ k, k ∈ ms ↔ decide (k ∈ ns) = true) : decide (ns = ms) = decide (ns.Pairwise (· < ·)) := by
  by_cases h : ns = ms
  · rw [decide_eq_true h, h, decide_eq_true hs]
  · rw [decide_eq_false h]
    refine (decide_eq_false fun hp => h ?_).symm
    have ex : ∀ k, k ∈ ns ↔ k ∈ ms := fun k => by rw [hm k, decide_eq_true_eq]
    clear h hm
    induction ns generalizing ms with
    | nil =>
      cases ms with
      | nil => rfl
      | cons m r => exact absurd ((ex m).mpr List.mem_cons_self) (by simp)
    | cons n r ih =>
      cases ms with
      | nil => exact absurd ((ex n).mp List.mem_cons_self) (by simp)
      | cons m t =>
        obtain ⟨a1, a2⟩ := List.pairwise_cons.mp hp
        obtain ⟨b1, b2⟩ := List.pairwise_cons.mp hs
        have e : n = m := by
          have h1 := (ex n).mp List.mem_cons_self
          have h2 := (ex m).mpr List.mem_cons_self
          rcases List.mem_cons.mp h1 with h1 | h1
          · exact h1
          · rcases List.mem_cons.mp h2 with h2 | h2
            · exact h2.symm
            · have := a1 m h2
              have := b1 n h1
              omega
        subst e
        rw [ih b2 a2 fun k => ⟨fun hk => ?_, fun hk => ?_⟩]
        · rcases List.mem_cons.mp ((ex k).mp (List.mem_cons_of_mem _ hk)) with z | z
          · have := a1 k hk
            omega
          · exact z
        · rcases List.mem_cons.mp ((ex k).mpr (List.mem_cons_of_mem _ hk)) with z | z
          · have := b1 k hk
            omega
          · exact z
/-- points, told as the law tells them -/
theorem pts_law {many : Int} : ∀ (ns : List Int) (least : Int), ptsFrom many least (ns.map .int) = true ↔ (ns.Pairwise (· < ·) ∧ ∀ n ∈ ns, least ≤ n ∧ n < many)
  | [], least => by simp [ptsFrom]
  | n :: r, least => by
    show (withinD least (many - 1) (.int n) && ptsFrom many (n + 1) (r.map .int)) = true ↔ _
    rw [Bool.and_eq_true, pts_law r (n + 1), List.pairwise_cons]
    simp only [withinD, Bool.and_eq_true, decide_eq_true_eq]
    constructor
    · rintro ⟨⟨h1, h2⟩, h3, h4⟩
      refine ⟨⟨fun a ha => by have := h4 a ha; omega, h3⟩, fun a ha => ?_⟩
      rcases List.mem_cons.mp ha with rfl | ha
      · omega
      · have := h4 a ha
        omega
    · rintro ⟨⟨h1, h2⟩, h3⟩
      have := h3 n List.mem_cons_self
      exact ⟨⟨by omega, by omega⟩, h2, fun a ha => by have := h1 a ha; have := h3 a (List.mem_cons_of_mem _ ha); omega⟩
theorem pts_not {many : Int} : ∀ (ds : List PyData) (least : Int), (∃ d ∈ ds, wholeD d = false) → ptsFrom many least ds = false
  | [], _, h => by obtain ⟨d, hd, _⟩ := h; cases hd
  | d :: r, least, h => by
    cases d with
    | int i =>
      show (withinD least (many - 1) (.int i) && ptsFrom many (i + 1) r) = false
      rw [pts_not r (i + 1) ?_, Bool.and_false]
      obtain ⟨d, hd, hw⟩ := h
      rcases List.mem_cons.mp hd with rfl | hd
      · cases hw
      · exact ⟨d, hd, hw⟩
    | none => rfl
    | bool _ => rfl
    | str _ => rfl
    | list _ => rfl
    | tuple _ => rfl
    | dict _ => rfl
theorem whole_ints : ∀ (ds : List PyData), (∀ d ∈ ds, wholeD d = true) → ∃ ns : List Int, ds = ns.map .int
  | [], _ => ⟨[], rfl⟩
  | d :: r, h => by
    obtain ⟨ns, e⟩ := whole_ints r fun z hz => h z (List.mem_cons_of_mem _ hz)
    have hw := h d List.mem_cons_self
    cases d with
    | int i => exact ⟨i :: ns, by rw [e]; rfl⟩
    | none => cases hw
    | bool _ => cases hw
    | str _ => cases hw
    | list _ => cases hw
    | tuple _ => cases hw
    | dict _ => cases hw
theorem ints_dp {K : PySem.W.Frag} {H : Hp} : ∀ (ns : List Int) (ys : List V), DpAll K H ys (ns.map .int) → ys = ns.map V.int
  | [], ys, h => by cases h; rfl
  | n :: r, ys, h => by
    cases h with
    | cons h1 h2 =>
      cases h1
      rw [ints_dp r _ h2]
      rfl
section
variable {P : Program} {w : World} {K : PySem.W.Frag} {mg : Str → Option Value} {base : Heap} {f : Addr} {fd : FuncData}
def spLChart (K : PySem.W.Frag) : Sp := fun vs H Q _ => ∃ (x : V) (d : PyData) (c wd : Nat), vs = [x] ∧ Dp K H x d ∧ Bd c wd d ∧ wd < 60 ∧ ∀ H', Same H H' → Q (.bl (chartD d)) H'
theorem scLChart : FnScope ["_law_thing", "_law_nexts", "_law_one"] ["_law_thing"] (defScope sLIsChart) := ⟨rfl, rfl, rfl, by decide +kernel, rfl, by decide +kernel, by decide +kernel⟩
theorem ok_lchart {k : Nat} (F : Fun K "_law_is_chart" "_law_is_chart" sLIsChart f fd) (T : Free mg) (hS : mg "set" = none) (hO : mg "sorted" = none) (cW : Cal P w K mg base "_law_whole" k ["_law_thing"] (spWhole K)) : FnOk P w K mg base CX0 (k + 1) f fd ["_law_thing"] (spLChart K) := by
  refine F.ok scLChart (fun vs H Q E h => ?_) (fun cdv A outer s H vs Q E hr h => ?_)
  · obtain ⟨x, d, c, wd, rfl, _⟩ := h
    rfl
  obtain ⟨x, d, c, wd, rfl, hx, hd, hw, q⟩ := h
  refine ⟨_, pss_cons (ps_if (pt_not (pt_val (pe_callB call_isi rfl T.isi (by decide +kernel) (pa_cons (pv 0) (pa_cons (pe_bltn (v := .ty "tuple") rfl T.tuple (by decide +kernel) rfl) pa_nil))))) (pss_one (ps_ret pe_bl)) pss_nil)
    (pss_cons (ps_for PassesOwn.never rfl (pi_tup (pv 0)) (pg_name (i := 1) scLChart.nd rfl (.inl rfl))
      (pss_cons (ps_if (PW.pt (pw_or (pt_not (pt_val (pe_callB call_isi rfl T.isi (by decide +kernel) (pa_cons (pv 1) (pa_cons (pe_bltn (v := .ty "tuple") rfl T.tuple (by decide +kernel) rfl) pa_nil)))))
          (pw_or1 (pt_cmpR (op_neLE hr.units) (pe_lc (own := [("_law_one", 2)]) (g := gName 2) (tt := tNot (tB (tCall (spWhole K) [] E0 (tCons (tVar 2) tNil)))) (te := tVar 2) rfl scLChart.nd (pi_tup (pv 1))
            (blkOk_by (own := [("_law_one", 2)]) (N := ["_law_thing", "_law_nexts", "_law_one"]) (sc := defScope sLIsChart) (by decide +kernel))
            (fun _ _ _ _ _ => pg_name (i := 2) scLChart.nd rfl (Or.inl rfl)) (fun _ _ _ _ _ => pts_one (pt_not (pt_val (pe_cal cW hr rfl (pa_cons (pv 2) pa_nil))))) (fun _ _ _ _ _ => pv 2)) (pe_lst pa_nil) (nomark _)))))
        (pss_one (ps_ret pe_bl)) pss_nil)
      (pss_one (ps_if (PW.pt (pw_or (pt_cmpR (op_neD hr.units) (pe_callTy call_list_of rfl T.list (by decide +kernel) (pa_cons (pv 1) pa_nil)) (pe_callB (cr_sortedSet rfl) rfl hO (by decide +kernel) (pa_cons (pe_callTy (cr_setTI rfl) rfl hS (by decide +kernel) (pa_cons (pv 1) pa_nil)) pa_nil)) (nomark _))
          (pw_or1 (pt_cmpR (op_neLE hr.units) (pe_lc (own := [("_law_one", 2)]) (g := gName 2) (tt := tNot (tTest (tChain (rI0 fun i j => .bl (decide (i ≤ j))) (rI0 fun i j => .bl (decide (i < j))) (tC (.int 0)) (tVar 2) (tCB (rLen K) (tCons (tVar 0) tNil))))) (te := tVar 2) rfl scLChart.nd (pi_tup (pv 1))
            (blkOk_by (own := [("_law_one", 2)]) (N := ["_law_thing", "_law_nexts", "_law_one"]) (sc := defScope sLIsChart) (by decide +kernel))
            (fun _ _ _ _ _ => pg_name (i := 2) scLChart.nd rfl (Or.inl rfl)) (fun _ _ _ _ _ => pts_one (pt_not (pt_chain op_le op_lt pe_int (pv 2) (pe_callB call_len_seq rfl T.len PySem.boot_len (pa_cons (pv 0) pa_nil))))) (fun _ _ _ _ _ => pv 2)) (pe_lst pa_nil) (nomark _)))))
        (pss_one (ps_ret pe_bl)) pss_nil))))
    (pss_one (ps_ret pe_bl))), ?_⟩
  refine ⟨_, rfl, x, _, _, _, _, rfl, .ty "tuple", ty_of hx, kit_tuple d, _, rfl, ?_⟩
  cases ht : tupleD d with
  | false =>
    have e : chartD d = false := by cases d <;> first | rfl | cases ht
    rw [e] at q
    exact ifT rfl (q H (Same.refl _))
  | true =>
    obtain ⟨ds, rfl⟩ : ∃ ds, d = .tuple ds := by
      cases d <;> first | exact ⟨_, rfl⟩ | cases ht
    have q : ∀ H', Same H H' → Q (.bl (ds.all (pointsD ds.length))) H' := q
    have eachB : ∀ z ∈ ds, Bd c wd z := by cases hd with | tup _ e => exact e
    cases hx with
    | @tup a xs _ at_ each =>
      have lx := dpAll_len each
      refine ifF rfl ⟨_, rfl, a, rfl, ⟨xs, at_⟩, ?_⟩
      refine for_tup (xs := xs) (fun i σ H' => ∃ (o1 o2 : Option V), σ = [some (.ref a), o1, o2] ∧ Same H H' ∧ (ds.take i).all (pointsD ds.length) = true)
        ⟨none, none, rfl, Same.refl _, rfl⟩ (fun i σ H' _ h => by obtain ⟨_, _, _, sm, _⟩ := h; exact sqT_same sm at_) (fun i x σ H' hxi h => ?_) (fun σ H' h => ?_)
      · obtain ⟨o1, o2, rfl, sm, all⟩ := h
        obtain ⟨d, hdi, hdx⟩ := dpAll_get' each hxi
        have no : pointsD ds.length d = false → ∀ H'', Same H' H'' → Q (.bl false) H'' := fun e H'' s' => by
          have r := q H'' (sm.trans s')
          have e' : ds.all (pointsD ds.length) = false := by
            cases z : ds.all (pointsD ds.length) with
            | false => rfl
            | true =>
              have := List.all_eq_true.mp z d (List.mem_of_getElem? hdi)
              rw [e] at this
              cases this
          rw [e'] at r
          exact r
        refine ⟨_, rfl, x, _, _, _, _, rfl, .ty "tuple", ty_of (dp_same sm hdx), kit_tuple d, _, rfl, ?_⟩
        cases htd : tupleD d with
        | false => exact ifT rfl (ifT rfl (no (by cases d <;> first | rfl | cases htd) _ (Same.refl _)))
        | true =>
          obtain ⟨es, rfl⟩ : ∃ es, d = .tuple es := by
            cases d <;> first | exact ⟨_, rfl⟩ | cases htd
          have no : ptsFrom ds.length 0 es = false → ∀ H'', Same H' H'' → Q (.bl false) H'' := no
          have lw : es.length ≤ wd := by
            have := eachB _ (List.mem_of_getElem? hdi)
            cases this with | tup l _ => exact l
          cases hdx with
          | @tup b ys _ atb eachb =>
            have ly := dpAll_len eachb
            have atb' := sqT_same sm atb
            refine ifF rfl ⟨_, rfl, b, rfl, ⟨ys, atb'⟩, fun D hD => ?_⟩
            refine lc_tup (xs := ys) (fun j H2 => Same H' H2 ∧ ∃ zs : List V, H2 D = some (.lst zs) ∧ zs.length ≤ j ∧ zs.isEmpty = (es.take j).all wholeD) ⟨same_new hD _, [], upd_same, Nat.le_refl _, rfl⟩
              (fun j H2 _ h => sqT_same h.1 atb') (fun j y H2 hy h => ?_) (fun H2 h => ?_)
            · obtain ⟨s2, zs, hz, lz, ez⟩ := h
              obtain ⟨e, hei, hey⟩ := dpAll_get' eachb hy
              have hj : j < ys.length := (List.getElem?_eq_some_iff.mp hy).1
              refine ⟨rfl, _, rfl, y, e, rfl, dp_same (sm.trans s2) hey, _, rfl, ?_⟩
              cases hw' : wholeD e with
              | true => exact ifF rfl ⟨s2, zs, hz, by omega, by rw [all_take hei, hw', Bool.and_true]; exact ez⟩
              | false =>
                refine ifT rfl ⟨_, rfl, zs, hz, Nat.lt_of_lt_of_le (show zs.length < 1000 by omega) (small (Nat.le_refl _)), ?_, zs ++ [y], upd_same, by rw [List.length_append]; show _ + 1 ≤ _; omega, ?_⟩
                · exact fun b' o hb' => by rw [upd_ne (ne_of_none hb' hD)]; exact s2 b' o hb'
                · rw [all_take hei, hw', Bool.and_false]
                  cases zs <;> rfl
            · obtain ⟨s2, zs, hz, lz, ez⟩ := h
              refine ⟨small (by show 0 ≤ 1000; decide), fun p3 h3 => ?_⟩
              have n3 := same_new h3 (.lst [])
              have s3 := s2.trans n3
              refine ⟨D, p3, zs, rfl, rfl, SqL.of (n3 _ _ hz), SqL.of upd_same, _, rfl, ?_⟩
              rw [ly, List.take_length] at ez
              rw [ez]
              cases hall : es.all wholeD with
              | false =>
                refine ifT rfl (no (pts_not es 0 ?_) _ s3)
                obtain ⟨e, he, hne⟩ := List.all_eq_false.mp hall
                exact ⟨e, he, by simpa using hne⟩
              | true =>
                obtain ⟨ns, rfl⟩ := whole_ints es fun z hz' => List.all_eq_true.mp hall z hz'
                have ey : ys = ns.map V.int := ints_dp ns ys eachb
                subst ey
                have ln : ns.length ≤ wd := by rw [List.length_map] at lw; exact lw
                refine ifF rfl ⟨_, rfl, b, _, rfl, .inr (sqT_same s3 atb'), fun p4 h4 => ?_⟩
                have n4 := same_new h4 (.lst (ns.map V.int))
                have s4 := s3.trans n4
                refine ⟨_, rfl, b, ns, rfl, sqT_same s4 atb', by omega, fun p5 c5 hc5 h5 => ?_⟩
                have n5 := same_new h5 (SetO w p5 (fun j => decide (j ∈ ns)) c5)
                have s5 := s4.trans n5
                refine ⟨p5, _, c5, rfl, upd_same, by omega, fun ms p6 srt mem _ h6 => ?_⟩
                have n6 := same_new h6 (.lst (ms.map V.int))
                have s6 := s5.trans n6
                refine ⟨.list (ns.map .int), .list (ms.map .int), .lst (SqL.of ((n5.trans n6) _ _ upd_same)) (dp_ints ns), .lst (SqL.of upd_same) (dp_ints ms), shaped_ints ns, shaped_ints ms, _, rfl, ?_⟩
                rw [eqv_ints, sorted_same srt mem]
                by_cases hp : ns.Pairwise (· < ·)
                · rw [decide_eq_true hp]
                  refine ifF rfl ⟨_, rfl, b, rfl, ⟨_, sqT_same s6 atb'⟩, fun D2 hD2 => ?_⟩
                  have at6 := sqT_same s6 atb'
                  refine lc_tup (xs := ns.map V.int) (fun j H7 => Same _ H7 ∧ ∃ zs : List V, H7 D2 = some (.lst zs) ∧ zs.length ≤ j ∧ zs.isEmpty = (ns.take j).all fun n => decide (0 ≤ n) && decide (n < ds.length)) ⟨same_new hD2 _, [], upd_same, Nat.le_refl _, rfl⟩
                    (fun j H7 _ h => sqT_same h.1 at6) (fun j y H7 hy h => ?_) (fun H7 h => ?_)
                  · obtain ⟨s7, zs2, hz2, lz2, ez2⟩ := h
                    have hj : j < (ns.map V.int).length := (List.getElem?_eq_some_iff.mp hy).1
                    rw [List.length_map] at hj
                    obtain ⟨n, hn, rfl⟩ : ∃ n, ns[j]? = some n ∧ V.int n = y := by
                      rw [List.getElem?_map, List.getElem?_eq_getElem hj] at hy
                      exact ⟨ns[j], List.getElem?_eq_getElem hj, Option.some.inj hy⟩
                    have keep : (decide (0 ≤ n) && decide (n < (ds.length : Int))) = true → (Same _ H7 ∧ ∃ zs : List V, H7 D2 = some (.lst zs) ∧ zs.length ≤ j + 1 ∧ zs.isEmpty = (ns.take (j + 1)).all fun n => decide (0 ≤ n) && decide (n < ds.length)) := fun e => ⟨s7, zs2, hz2, by omega, by rw [all_take hn, e, Bool.and_true]; exact ez2⟩
                    have more : (decide (0 ≤ n) && decide (n < (ds.length : Int))) = false → ∃ acc, H7 D2 = some (.lst acc) ∧ acc.length < sizeLine ∧ (Same _ (upd H7 D2 (.lst (acc ++ [V.int n]))) ∧ ∃ zs : List V, (upd H7 D2 (.lst (acc ++ [V.int n]))) D2 = some (.lst zs) ∧ zs.length ≤ j + 1 ∧ zs.isEmpty = (ns.take (j + 1)).all fun n => decide (0 ≤ n) && decide (n < ds.length)) := fun e => by
                      refine ⟨zs2, hz2, Nat.lt_of_lt_of_le (show zs2.length < 1000 by omega) (small (Nat.le_refl _)), fun b' o hb' => by rw [upd_ne (ne_of_none hb' hD2)]; exact s7 b' o hb', zs2 ++ [V.int n], upd_same, by rw [List.length_append]; show _ + 1 ≤ _; omega, ?_⟩
                      rw [all_take hn, e, Bool.and_false]
                      cases zs2 <;> rfl
                    refine ⟨rfl, _, rfl, _, _, rfl, rfl, _, rfl, ?_⟩
                    by_cases c1 : 0 ≤ n
                    · refine ifT (decide_eq_true c1) ⟨_, rfl, a, xs, rfl, .inr (sqT_same (sm.trans (s6.trans s7)) at_), _, _, rfl, rfl, _, rfl, ?_⟩
                      rw [lx]
                      by_cases c2 : n < (ds.length : Int)
                      · refine ifF ?_ (keep ?_)
                        · rw [decide_eq_true c2]; rfl
                        · rw [decide_eq_true c1, decide_eq_true c2]; rfl
                      · refine ifT ?_ ⟨_, rfl, more ?_⟩
                        · rw [decide_eq_false c2]; rfl
                        · rw [decide_eq_false c2, Bool.and_false]
                    · refine ifF (decide_eq_false c1) ⟨_, rfl, ifT rfl ⟨_, rfl, more ?_⟩⟩
                      rw [decide_eq_false c1, Bool.false_and]
                  · obtain ⟨s7, zs2, hz2, lz2, ez2⟩ := h
                    refine ⟨small (by show 0 ≤ 1000; decide), fun p8 h8 => ?_⟩
                    have n8 := same_new h8 (.lst [])
                    refine ⟨D2, p8, zs2, rfl, rfl, SqL.of (n8 _ _ hz2), SqL.of upd_same, _, rfl, ?_⟩
                    rw [List.length_map, List.take_length] at ez2
                    rw [ez2]
                    have s8 := s6.trans (s7.trans n8)
                    cases hin : ns.all fun n => decide (0 ≤ n) && decide (n < (ds.length : Int)) with
                    | false =>
                      refine ifT rfl (no ?_ _ s8)
                      cases z : ptsFrom (ds.length : Int) 0 (ns.map .int) with
                      | false => rfl
                      | true =>
                        obtain ⟨n, hn, hne⟩ := List.all_eq_false.mp hin
                        have := ((pts_law ns 0).mp z).2 n hn
                        simp only [Bool.and_eq_true, decide_eq_true_eq] at hne
                        exact absurd this hne
                    | true =>
                      refine ifF rfl ⟨_, _, rfl, sm.trans s8, ?_⟩
                      rw [all_take hdi, all, Bool.true_and]
                      refine (pts_law ns 0).mpr ⟨hp, fun n hn => ?_⟩
                      have := List.all_eq_true.mp hin n hn
                      simpa only [Bool.and_eq_true, decide_eq_true_eq] using this
                · rw [decide_eq_false hp]
                  refine ifT rfl (ifT rfl (no ?_ _ s6))
                  cases z : ptsFrom (ds.length : Int) 0 (ns.map .int) with
                  | false => rfl
                  | true => exact absurd ((pts_law ns 0).mp z).1 hp
      · obtain ⟨o1, o2, rfl, sm, all⟩ := h
        rw [lx, List.take_length] at all
        have r := q H' sm
        rw [all] at r
        exact r
end
/-- the script, which nobody writes -/
def ScrOk (K : PySem.W.Frag) (H : Hp) (a : Addr) (xs : List V) : Prop := (∃ o, H a = some (.frz o (.lst xs))) ∨
  ∃ (o : Obj) (its : Array Value) (n : Nat), K.lookup a = some o ∧ o.cls = .type "list" ∧ o.dict = none ∧ o.data = .seq its n ∧ its.size ≤ sizeLine ∧ Vals xs its.toList
theorem ScrOk.kt {K : PySem.W.Frag} {H H' : Hp} {a : Addr} {xs : List V} (h : ScrOk K H a xs) (k : KT H H') : ScrOk K H' a xs := by
  rcases h with ⟨o, z⟩ | z
  · exact .inl ⟨o, k _ _ z (fun l q => by cases q)⟩
  · exact .inr z
theorem ScrOk.sq {K : PySem.W.Frag} {H : Hp} {a : Addr} {xs : List V} (h : ScrOk K H a xs) : SqL K H a xs := by
  rcases h with h | h
  · exact .inl (.inr h)
  · exact .inr h
/-! repr, where sys.modules stands in the base: no list and no dict of the law's is it -/
section
variable {X : Cx} {pins : List (Addr × Obj)} {σ : L2.St} {H : Hp} {s : Shared}
def SysB (base : Heap) : Prop := ∃ mm, base.Ns sysModules mm
theorem list_ne_sys (I : Inv X pins σ H s) (hs : SysB X.base) {r : Addr} {us : List V} (h : SqL X.K H r us) : r ≠ sysModules := by
  obtain ⟨mm, o0, es, ep, e0, d0, _⟩ := hs
  have hn := (I.bs _ _ e0).2
  intro e
  rw [e] at h
  rcases h with (z | ⟨o, z⟩) | ⟨o, its, n, hk, hc, hdn, hd, _⟩
  · rw [hn] at z
    cases z
  · rw [hn] at z
    cases z
  · have z := I.mod.kin _ _ hk
    rw [e0] at z
    cases z
    rw [d0] at hd
    cases hd
mutual
theorem Dp.rdS (I : Inv X pins σ H s) (hs : SysB X.base) : ∀ (d : PyData) (v : V) (u : Value), Dp X.K H v d → RelV v u → ∃ as, Reads s.heap u d as ∧ sysModules ∉ as
  | .none, v, u, h, r => by cases h; cases r; exact ⟨_, .none, fun z => nomatch z⟩
  | .bool b, v, u, h, r => by cases h; cases r; exact ⟨_, .bool b, fun z => nomatch z⟩
  | .int i, v, u, h, r => by cases h; obtain ⟨t, rfl⟩ := r; exact ⟨_, .int i t, fun z => nomatch z⟩
  | .str x, v, u, h, r => by cases h; obtain ⟨t, rfl⟩ := r; exact ⟨_, .str x t, fun z => nomatch z⟩
  | .list es, v, u, h, r => by
    cases h with
    | lst at_ each =>
      cases r
      have ne := list_ne_sys I hs at_
      obtain ⟨its, rv, ⟨o, n, ho, hc, _, hd⟩, _⟩ := I.list at_
      obtain ⟨as, hr, hn⟩ := Dp.rdsS I hs es _ its each rv
      refine ⟨_, .list ho hc hd hr, fun z => ?_⟩
      rcases List.mem_cons.mp z with z | z
      · exact ne z.symm
      · exact hn z
  | .tuple es, v, u, h, r => by
    cases h with
    | tup at_ each =>
      cases r
      obtain ⟨its, rv, ⟨o, ho, hc, n, hd⟩, _⟩ := I.tuple at_
      obtain ⟨as, hr, hn⟩ := Dp.rdsS I hs es _ its each rv
      exact ⟨_, .tuple ho hc hd hr, hn⟩
  | .dict kvs, v, u, h, r => by
    cases h with
    | dct at_ =>
      cases r
      obtain ⟨_, _, _, _, _, _, ns, rd⟩ := dct_reads I at_
      exact ⟨_, rd, fun z => by
        have z : sysModules ∈ [_] := z
        exact ns (List.mem_singleton.mp z).symm⟩
theorem Dp.rdsS (I : Inv X pins σ H s) (hs : SysB X.base) : ∀ (ds : List PyData) (vs : List V) (us : List Value), DpAll X.K H vs ds → Vals vs us → ∃ as, ReadsAll s.heap us ds as ∧ sysModules ∉ as
  | [], vs, us, h, r => by cases h; cases r; exact ⟨_, .nil, fun z => nomatch z⟩
  | d :: ds, vs, us, h, r => by
    cases h with
    | cons one more =>
      cases r with
      | cons r1 r2 =>
        obtain ⟨as, q1, n1⟩ := Dp.rdS I hs d _ _ one r1
        obtain ⟨bs, q2, n2⟩ := Dp.rdsS I hs ds _ _ more r2
        refine ⟨_, .cons q1 q2, fun hm => ?_⟩
        rcases List.mem_append.mp hm with hm | hm
        · exact n1 hm
        · exact n2 hm
end
end
theorem call_reprS {X : Cx} (hs : SysB X.base) (hg : X.A.guards = some []) (hu : X.A.units + 80 < cLine) : CallR X (.builtin "repr") (fun xs H Q => ∃ (a : Addr) (d : PyData), xs = [.ref a] ∧ Dp X.K H (.ref a) d ∧ d.showable = true ∧ d.depth ≤ 64 ∧ d.shown.length ≤ sizeLine ∧ Q (.str d.shown) H) := by
  intro pins s σ H xs us Q I r h
  obtain ⟨a, d, rfl, hd, h1, h3, h4, q⟩ := h
  obtain ⟨u, rfl, ru⟩ := vals1 r
  cases ru
  obtain ⟨as, hr, hn⟩ := Dp.rdS I hs d (.ref a) (.ref a) hd rfl
  exact repr_of_reads' hr h1 (fun _ => hn) hg (by omega) (fun _ _ e => e) (fun h' u tk hk => ⟨.str d.shown, H, I.kept hk, ⟨u, rfl⟩, q⟩) h4
theorem call_reprA {X : Cx} (hs : SysB X.base) (hg : X.A.guards = some []) (hu : X.A.units + 80 < cLine) : CallR X (.builtin "repr") (fun xs H Q => ∃ (v : V) (d : PyData), xs = [v] ∧ Dp X.K H v d ∧ d.showable = true ∧ d.depth ≤ 64 ∧ d.shown.length ≤ sizeLine ∧ Q (.str d.shown) H) := by
  intro pins s σ H xs us Q I r h
  obtain ⟨v, d, rfl, hd, h1, h3, h4, q⟩ := h
  have refs : ∀ a : Addr, v = .ref a → wpAny (model X.prog X.w) X.A (call (.builtin "repr") us) (EP X pins σ Q) X.xe s := fun a e => by
    subst e
    exact call_reprS hs hg hu pins s σ H _ us Q I r ⟨a, d, rfl, hd, h1, h3, h4, q⟩
  cases hd with
  | non =>
    obtain ⟨u, rfl, ru⟩ := vals1 r
    cases ru
    exact PySem.P.repr_of_none ⟨.str _, H, I.tok _, ⟨_, rfl⟩, q⟩
  | bl b =>
    obtain ⟨u, rfl, ru⟩ := vals1 r
    cases ru
    exact PySem.P.repr_of_bool ⟨.str _, H, I.tok _, ⟨_, rfl⟩, by simpa only [PyData.shown] using q⟩
  | int i =>
    obtain ⟨u, rfl, t, rfl⟩ := vals1 r
    exact PySem.P.repr_of_int (of_decide_eq_true (by simpa only [PyData.showable] using h1)) ⟨.str _, H, I.tok _, ⟨_, rfl⟩, by simpa only [PyData.shown] using q⟩
  | str x =>
    obtain ⟨u, rfl, t, rfl⟩ := vals1 r
    exact PySem.P.repr_of_str ⟨.str _, H, I.tok _, ⟨_, rfl⟩, by simpa only [PyData.shown] using q⟩ (by simpa only [PyData.shown] using h4)
  | lst _ _ => exact refs _ rfl
  | tup _ _ => exact refs _ rfl
  | dct _ => exact refs _ rfl
/-! the end of a law whose defs hold lambdas: the tables of their code are tracked, too -/
section
open PySem.Spec PyProof.Rows LamX
theorem run_law2 {P : Program} {w : World} {K : PySem.W.Frag} {mg : Str → Option Value} {base : Heap} {fa a : Addr} {fd : FuncData} {st : Stmt} {N : List Str} {k : Nat} {s : Shared} {H : Hp} {nm par : Str}
    (F : Fun K nm nm st fa fd) (S : FnScope N [par] (defScope st)) (room : Room (k + 1) callerA) (at0 : Env0 P w K mg base callerA [] s H) (bd : BindsTo s fd ⟨[.ref a], []⟩ [(par, .ref a)])
    (body : ∀ cdv, fd.code = cdv → Room k (callerA.deeper (envOfC nm (defScope st) s.heap.objs.size fa cdv)) →
      ∃ t, PSs (cxOf CX0 P w K mg base N nm (defScope st) fa cdv callerA [] s H E0).nox (defBody st) t ∧ t { nx := fun _ _ => False, rt := fun v _ => v = .bl true } (L2.start N [.ref a]) H) :
    codeAny (model P w) callerA (.call (.ref fa) ⟨[.ref a], []⟩) (CR CX0 [] P w H s (fun v _ => v = .bl true) E0) s := by
  obtain ⟨oc, od, kV, doc, pm, an, cdv, ct, osl, rfl, found, code⟩ := F.ex
  have kin : K.In s.heap := at0.mod.kin.keeps fun b o e => (at0.bs b o e).1
  have unl : s.heap.NoLimit := at0.mod.nolimit.keeps fun b o e => (at0.bs b o e).1
  have kinds : ∀ y ∈ [(par, Value.ref a)], (defScope st).names.lookup y.1 = some .local ∨ ((defScope st).names.lookup y.1 = some .cell ∧ ((cellsFrom (s.heap.objs.size + 1) (defScope st).names []).lookup y.1).isSome = true) := by
    intro y hy
    rcases List.mem_cons.mp hy with rfl | hy
    · rcases S.par par List.mem_cons_self with q | q
      · exact .inl q
      · exact .inr ⟨q, PySem.W.cellsFrom_some _ _ _ (.inl q)⟩
    · cases hy
  refine codeAny_call_function room.depth (kin _ _ found) rfl S.co S.gen rfl (PySem.W.codeRec_of kin code) (bd _ _ _ _ ?_)
  refine wpAny_newFunctionEnv_cells S.kind kinds fun env he s1 ic => ?_
  subst he
  refine ⟨unl.keeps ic.toInCall.keep, codeAny_func ?_⟩
  obtain ⟨t, ht, hq⟩ := body cdv rfl (room.deeper _)
  have start_ok := inv_start (CX := CX0) (E := E0) (us := [.ref a]) (vs := [.ref a]) S room.hd at0 rfl (.cons rfl .nil) ic
  refine wpAny_mono (ht.nox.run [] s1 _ H _ start_ok hq) (fun fl s' out => ?_) fun e s' out => out
  cases fl with
  | ret u =>
    obtain ⟨v, σ', H', J, rv, q⟩ := out
    exact ⟨v, H', J.os, J.bare, J.base, J.hok, rv, q⟩
  | next =>
    obtain ⟨_, _, _, q⟩ := out
    exact q.elim
  | brk =>
    obtain ⟨_, _, _, q⟩ := out
    exact q.elim
  | cont =>
    obtain ⟨_, _, _, q⟩ := out
    exact q.elim
/-- what the module's head leaves of tables -/
structure TabsAt (K : PySem.W.Frag) (mg : Str → Option Value) (h : Heap) (cs : List (Addr × Addr)) : Prop where
  empty : ∀ p ∈ cs, h.get? p.2 = some { cls := .none, data := .fields #[] }
  out : ∀ p ∈ cs, K.lookup p.2 = none
  heads : ∀ p ∈ cs, PySem.W.CodeHd h p.1 p.2
  sys : SysB h
  blt : ∃ (bm : Addr) (ob : Obj), mg "__builtins__" = some (.ref bm) ∧ bm ≠ builtinsNs ∧ h.get? bm = some ob ∧ ob.cls = .type "module" ∧ ob.dict = some builtinsNs ∧ ob.data = .plain
theorem law_endT {P : Program} {w : World} {K : PySem.W.Frag} {mg mb : Str → Option Value} {fa a : Addr} {cs : List (Addr × Addr)} {fd : FuncData} {st : Stmt} {N : List Str} {k : Nat} {s : Shared} {nm par : Str} {vs : List Value} {ns : List Int}
    (kin : K.In s.heap) (gl : s.heap.Ns mainGlobals mg) (bl : s.heap.Ns builtinsNs mb) (blb : ∀ x : Str, x ≠ "__name__" → mb x = bootBuiltins x) (unl : s.heap.NoLimit) (gens : s.gens = #[]) (TA : TabsAt K mg s.heap cs)
    (ha : s.heap.get? a = some { cls := .type "list", data := .seq vs.toArray }) (hi : IntsAre vs ns) (hl : ns.length ≤ sizeLine) (room : Room (k + 1) callerA)
    (F : Fun K nm nm st fa fd) (S : FnScope N [par] (defScope st)) (bd : ∀ (s : Shared) (u : Value), BindsTo s fd ⟨[u], []⟩ [(par, u)])
    (body : ∀ (base : Heap), K.In base → base.Ns mainGlobals mg → SysB base → (∀ p ∈ cs, TabB base mg p.1 p.2) → ∀ (H : Hp) cdv, fd.code = cdv → (∀ p ∈ cs, H p.2 = some (.tbl #[])) → ScrOk K H a (ns.map V.int) → Room k (callerA.deeper (envOfC nm (defScope st) s.heap.objs.size fa cdv)) →
      ∃ t, PSs (cxOf CX0 P w K mg base N nm (defScope st) fa cdv callerA [] s H E0).nox (defBody st) t ∧ t { nx := fun _ _ => False, rt := fun v _ => v = .bl true } (L2.start N [.ref a]) H) :
    codeAny (model P w) callerA (.call (.ref fa) ⟨[.ref a], []⟩) (fun r s' => r = .ok (.ret (.bool true)) ∧ OldK s.heap s'.heap ∧ s'.os = s.os ∧ AllBare s'.gens) s := by
  have vals := vals_ints hi
  have len := hi.length
  have no_tab : ∀ p ∈ cs, p.2 ≠ a := fun p hp z => by
    have e := TA.empty p hp
    rw [z, ha] at e
    have e : Data.seq vs.toArray _ = Data.fields #[] := congrArg Obj.data (Option.some.inj e)
    cases e
  -- whatever of the script is tracked
  have main : ∀ H : Hp, (∀ p ∈ cs, H p.2 = some (.tbl #[])) → ScrOk K H a (ns.map V.int) → HOk P w H s.heap →
      (∀ b u, H b = some u → (b = a ∧ K.lookup a = none ∧ ∃ o xs, u = .frz o (.lst xs)) ∨ ∃ p ∈ cs, b = p.2) →
      codeAny (model P w) callerA (.call (.ref fa) ⟨[.ref a], []⟩) (fun r s' => r = .ok (.ret (.bool true)) ∧ OldK s.heap s'.heap ∧ s'.os = s.os ∧ AllBare s'.gens) s := by
    intro H tabs scr hok alone
    have off : ∀ {b : Addr} {o : Obj}, s.heap.get? b = some o → (∀ us n, o.data ≠ .seq us n) → o.data ≠ .fields #[] → H b = none := by
      intro b o e n1 n2
      cases q : H b with
      | none => rfl
      | some u =>
        rcases alone b u q with ⟨rfl, _⟩ | ⟨p, hp, rfl⟩
        · rw [ha] at e
          cases e
          exact absurd rfl (n1 _ _)
        · rw [TA.empty p hp] at e
          cases e
          exact absurd rfl n2
    have spaces : ∀ {b : Addr} {m : Str → Option Value}, s.heap.Ns b m → (hidT s.heap H).Ns b m := by
      intro b m ⟨o, es, ep, e, d, r⟩
      refine ⟨o, es, ep, hidT_get e (off e (fun us n z => ?_) fun z => ?_), d, r⟩
      · rw [d] at z
        cases z
      · rw [d] at z
        cases z
    have kinB : K.In (hidT s.heap H) := by
      intro b o e
      refine hidT_get (kin b o e) ?_
      cases q : H b with
      | none => rfl
      | some u =>
        rcases alone b u q with ⟨rfl, z, _⟩ | ⟨p, hp, rfl⟩
        · rw [z] at e
          cases e
        · rw [TA.out p hp] at e
          cases e
    have TB : ∀ p ∈ cs, TabB (hidT s.heap H) mg p.1 p.2 := by
      intro p hp
      constructor
      · obtain ⟨o, us, x1, x2, x3, x4, x5, x6, x7, e, y1, y2, y3, y4⟩ := TA.heads p hp
        refine ⟨o, us, x1, x2, x3, x4, x5, x6, x7, hidT_get e (off e (fun vs n z => ?_) fun z => ?_), y1, y2, y3, y4⟩
        · rw [y2] at z
          cases z
        · rw [y2] at z
          cases z
          simp at y3
      · obtain ⟨bm, ob, g1, g2, g3, g4, g5, g6⟩ := TA.blt
        refine ⟨bm, ob, g1, g2, fun z => ?_, fun z => ?_, hidT_get g3 (off g3 (fun vs n z => ?_) fun z => ?_), g4, g5, g6⟩
        · obtain ⟨o, es, ep, e, d, _⟩ := gl
          rw [z, e] at g3
          cases g3
          rw [d] at g6
          cases g6
        · rw [z, TA.empty p hp] at g3
          cases g3
          cases g6
        · rw [g6] at z
          cases z
        · rw [g6] at z
          cases z
      · intro z
        obtain ⟨o, es, ep, e, d, _⟩ := gl
        rw [z, TA.empty p hp] at e
        cases e
        cases d
    obtain ⟨mc, un1, un2⟩ := unl
    have md : Mod K mg (hidT s.heap H) := ⟨kinB, spaces gl, ⟨mb, spaces bl, blb⟩, ⟨mc, spaces un1, un2⟩⟩
    have at0 : Env0 P w K mg (hidT s.heap H) callerA [] s H := by
      refine ⟨rfl, md, fun b o e => of_hidT e, Nat.le_of_eq (hidT_size _ _), trivial, fun b hb => ?_, hok, .of_eq gens⟩
      cases (show b ∈ ([] : List Addr) from hb)
    refine codeAny_mono (run_law2 F S room at0 (bd s (.ref a)) fun cdv hc hr => body _ kinB (spaces gl) (let ⟨mm, z⟩ := TA.sys; ⟨mm, spaces z⟩) TB H cdv hc tabs scr hr) fun r s' res => ?_
    match r, res with
    | .error e, res => exact (show False from res).elim
    | .ok .next, res => exact (show False from res).elim
    | .ok .brk, res => exact (show False from res).elim
    | .ok .cont, res => exact (show False from res).elim
    | .ok (.ret u), res =>
      obtain ⟨v, H', os, bare, un, hok', rv, q⟩ := res
      obtain rfl : v = .bl true := q
      obtain rfl : u = Value.bool true := rv
      have stays : ∀ b o, (∀ p ∈ cs, b ≠ p.2) → s.heap.get? b = some o → s'.heap.get? b = some o := by
        intro b o nb e
        cases q : H b with
        | none =>
          refine un.keep b o e q (fun z => ?_) (by simp)
          cases (show b ∈ ([] : List Addr) from z)
        | some u =>
          rcases alone b u q with ⟨_, _, ob, xs, rfl⟩ | ⟨p, hp, z⟩
          · obtain ⟨e1, _⟩ := hok b _ q
            obtain ⟨e2, _⟩ := hok' b _ (un.frzs b ob _ q)
            rw [e] at e1
            cases e1
            exact e2
          · exact absurd z (nb p hp)
      have grows : ∀ p ∈ cs, ∃ more : Array Value, s'.heap.get? p.2 = some { cls := .none, data := .fields more } := by
        intro p hp
        obtain ⟨more, z⟩ := un.tbls p.2 #[] (tabs p hp)
        exact ⟨_, hok' p.2 _ z⟩
      refine ⟨rfl, ⟨fun b o e => ?_, fun b o e => ?_⟩, os, bare⟩
      · by_cases nb : ∀ p ∈ cs, b ≠ p.2
        · exact .inl (stays b o nb e)
        · obtain ⟨p, hp, z⟩ : ∃ p ∈ cs, b = p.2 := by
            refine Classical.byContradiction fun no => nb fun p hp z => no ⟨p, hp, z⟩
          subst z
          obtain ⟨more, hm⟩ := grows p hp
          have e0 := TA.empty p hp
          rw [e0] at e
          cases e
          refine .inr (.inl ⟨((TA.heads p hp).tab (ps := #[]) e0).isCodeTable, rfl, #[], more, rfl, ?_⟩)
          rw [Array.empty_append]
          exact hm
      · by_cases nb : ∀ p ∈ cs, b ≠ p.2
        · exact ⟨o, stays b o nb e⟩
        · obtain ⟨p, hp, z⟩ : ∃ p ∈ cs, b = p.2 := by
            refine Classical.byContradiction fun no => nb fun p hp z => no ⟨p, hp, z⟩
          subst z
          obtain ⟨more, hm⟩ := grows p hp
          exact ⟨_, hm⟩
  -- the tables, and the script where it isn't written
  let tb : Addr → Bool := fun b => cs.any fun p => decide (b = p.2)
  have tb_in : ∀ {b}, tb b = true → ∃ p ∈ cs, b = p.2 := fun {b} z => by
    obtain ⟨p, hp, e⟩ := List.any_eq_true.mp z
    exact ⟨p, hp, of_decide_eq_true e⟩
  have in_tb : ∀ p ∈ cs, tb p.2 = true := fun p hp => List.any_eq_true.mpr ⟨p, hp, decide_eq_true rfl⟩
  cases hk : K.lookup a with
  | some o =>
    have e := kin a o hk
    rw [ha] at e
    cases e
    refine main (fun b => if tb b = true then some (.tbl #[]) else none) (fun p hp => if_pos (in_tb p hp)) (.inr ⟨_, vs.toArray, _, hk, rfl, rfl, rfl, by rw [List.size_toArray, len]; exact hl, by simpa using vals⟩) (fun b u z => ?_) (fun b u z => ?_)
    · by_cases c : tb b = true
      · obtain ⟨p, hp, rfl⟩ := tb_in c
        have z := (if_pos c).symm.trans z
        cases z
        exact TA.empty p hp
      · have z := (if_neg c).symm.trans z
        cases z
    · by_cases c : tb b = true
      · exact .inr (tb_in c)
      · have z := (if_neg c).symm.trans z
        cases z
  | none =>
    refine main (fun b => if b = a then some (.frz { cls := .type "list", data := .seq vs.toArray } (.lst (ns.map V.int))) else if tb b = true then some (.tbl #[]) else none) (fun p hp => (if_neg (no_tab p hp)).trans (if_pos (in_tb p hp))) (.inl ⟨_, if_pos rfl⟩) (fun b u z => ?_) (fun b u z => ?_)
    · by_cases c0 : b = a
      · have z := (if_pos c0).symm.trans z
        cases z
        rw [c0]
        exact ⟨ha, by rw [List.length_map]; exact hl, vs, _, vals, ha⟩
      · have z := (if_neg c0).symm.trans z
        by_cases c : tb b = true
        · obtain ⟨p, hp, rfl⟩ := tb_in c
          have z := (if_pos c).symm.trans z
          cases z
          exact TA.empty p hp
        · have z := (if_neg c).symm.trans z
          cases z
    · by_cases c0 : b = a
      · have z := (if_pos c0).symm.trans z
        exact .inl ⟨c0, hk, _, _, (Option.some.inj z).symm⟩
      · have z := (if_neg c0).symm.trans z
        by_cases c : tb b = true
        · exact .inr (tb_in c)
        · have z := (if_neg c).symm.trans z
          cases z
end
section
open PySem.Spec PyProof.Rows LamX
theorem mn_ext {st : Addr} {H H' : Hp} (e : ExtN H H') : ExtN (mn st H) (mn st H') := fun b o h n => by
  obtain ⟨n1, h1⟩ := mn_some h
  exact mn_at n1 (e b o h1 n)
theorem st_ext {st : Addr} {H H' : Hp} (h : StAt H st) (e : ExtN H H') : StAt H' st := by
  obtain ⟨x, y, z, h, ok⟩ := h
  exact ⟨x, y, z, e _ _ h (fun ps q => by cases q), ok⟩
theorem scr_ext {K : PySem.W.Frag} {H H' : Hp} {a : Addr} {xs : List V} (h : ScrOk K H a xs) (e : ExtN H H') : ScrOk K H' a xs := by
  rcases h with ⟨o, z⟩ | z
  · exact .inl ⟨o, e _ _ z (fun ps q => by cases q)⟩
  · exact .inr z
end
theorem bulk_all {k : Nat} : ∀ {l : List PyData}, (∀ z ∈ l, z.bulk ≤ k) → PyData.bulkAll l ≤ (k + 1) * l.length
  | [], _ => by simp only [PyData.bulkAll]; exact Nat.zero_le _
  | u :: v, h => by
    have h1 := h u List.mem_cons_self
    have h2 := bulk_all (l := v) fun z hz => h z (List.mem_cons_of_mem _ hz)
    simp only [PyData.bulkAll, List.length_cons]
    rw [Nat.mul_add]
    omega

/-! the law -/
section
open PySem.Spec PyProof.Rows LamX
theorem TabsG.kp {PT : List Addr} {H H' : Hp} {st : Addr} (t : TabsG PT H) (sa : StAt H st) (k : Kp st H H') : TabsG PT H' := fun P hP => by
  obtain ⟨l, hl⟩ := sa.some
  obtain ⟨ps, h1, h2⟩ := t P hP
  exact ⟨ps, k _ _ (fun z => by rw [z, hl] at h1; cases h1) h1, h2⟩
abbrev c01 : Nat := 10 ^ 29 + 1
structure ThOk (z : PyData) : Prop where
  bd : Bd (c01 + 30000) 15 z
  blk : z.bulk ≤ 2000
  dep : z.depth ≤ 12
theorem ThOk.of {c wd : Nat} {z : PyData} (b : Bd c wd z) (h1 : c ≤ c01 + 30000) (h2 : wd ≤ 15) (h3 : z.bulk ≤ 2000) (h4 : z.depth ≤ 12) : ThOk z := ⟨b.mono h1 h2, h3, h4⟩
theorem ThOk.len {z : PyData} (h : ThOk z) : z.showable = true ∧ z.depth ≤ 64 ∧ z.shown.length ≤ sizeLine := by
  have l := PyData.shown_le_bulk 40 (by decide) z (h.bd.sho (by decide))
  have b := h.blk
  exact ⟨h.bd.shw (by decide), Nat.le_trans h.dep (by decide), big (by omega)⟩
theorem lit_ok {z : PyData} (h : (bdQ c01 2 3 z && decide (z.bulk ≤ 20) && decide (z.depth ≤ 3)) = true) : ThOk z := by
  simp only [Bool.and_eq_true, decide_eq_true_eq] at h
  exact ThOk.of (bdQ_ok _ _ h.1.1) (by decide) (by decide) (by omega) (by omega)
theorem bool_len (b : Bool) : (PyData.shown (.bool b)).length ≤ sizeLine := by cases b <;> exact small (by decide)
theorem chart_is {d : PyData} (h : ChOk 12 d) : Bd c01 12 d ∧ d.bulk ≤ 156 ∧ d.depth ≤ 2 ∧ chartD d = true := by
  obtain ⟨rows, rfl, lr, ok⟩ := h
  have l12 : rows.length ≤ 12 := by omega
  refine ⟨.tup (by rw [List.length_map]; exact l12) fun z hz => ?_, ?_, ?_, ?_⟩
  · obtain ⟨ns, hn, rfl⟩ := List.mem_map.mp hz
    obtain ⟨a, b, c⟩ := ok ns hn
    refine .tup (by rw [List.length_map]; omega) fun y hy => ?_
    obtain ⟨i, hi, rfl⟩ := List.mem_map.mp hy
    have := b i hi
    exact .int (Nat.lt_of_lt_of_le (show i.natAbs < 12 by omega) (by decide))
  · rw [bulk_tup]
    have := bulk_all (k := 12) (l := rows.map fun ns => PyData.tuple (ns.map .int)) fun z hz => by
      obtain ⟨ns, hn, rfl⟩ := List.mem_map.mp hz
      obtain ⟨a, b, c⟩ := ok ns hn
      rw [bulk_tup]
      have h0 := bulk_all (k := 0) (l := ns.map PyData.int) fun y hy => by
        obtain ⟨i, _, rfl⟩ := List.mem_map.mp hy
        simp [PyData.bulk]
      rw [List.length_map] at h0
      omega
    rw [List.length_map] at this
    omega
  · rw [depth_tup]
    have := depth_all (k := 1) (l := rows.map fun ns => PyData.tuple (ns.map .int)) fun z hz => by
      obtain ⟨ns, hn, rfl⟩ := List.mem_map.mp hz
      rw [depth_tup]
      have h0 := depth_all (k := 0) (l := ns.map PyData.int) fun y hy => by
        obtain ⟨i, _, rfl⟩ := List.mem_map.mp hy
        simp [PyData.depth]
      omega
    omega
  · show (rows.map fun ns => PyData.tuple (ns.map .int)).all (pointsD _) = true
    refine List.all_eq_true.mpr fun z hz => ?_
    obtain ⟨ns, hn, rfl⟩ := List.mem_map.mp hz
    obtain ⟨a, b, c⟩ := ok ns hn
    rw [List.length_map]
    exact c
abbrev NLaw : List Str := ["_law_script", "_law_k", "_law_state_here", "_law_turn", "_law_chart_here", "_law_things", "_law_lap", "_law_thing", "_law_kept"]
theorem scLaw : FnScope NLaw ["_law_script"] (defScope sLaw) := ⟨rfl, rfl, rfl, by decide +kernel, rfl, by decide +kernel, by decide +kernel⟩
structure Law01 (P : Program) (w : World) (K : PySem.W.Frag) (mg : Str → Option Value) (base : Heap) (PT : List Addr) (k : Nat) : Prop where
  cSt : Cal P w K mg base "_law_state" k ["_law_script", "_law_k"] (spState K)
  cCh : Cal P w K mg base "_law_chart" k ["_law_state_here", "_law_most"] (spChartG K)
  cI : Cal P w K mg base "is_chart" k ["thing"] (spIsChart K PT)
  cL : Cal P w K mg base "_law_is_chart" k ["_law_thing"] (spLChart K)
  cO : Cal P w K mg base "_law_odd" k ["_law_state_here"] (spOdd K)
  cB0 : Cal P w K mg base "_law_bent" k ["_law_state_here", "_law_thing"] (spBent K c01 12 2)
  cB1 : Cal P w K mg base "_law_bent" k ["_law_state_here", "_law_thing"] (spBent K (c01 + 10000) 13 5)
  cB2 : Cal P w K mg base "_law_bent" k ["_law_state_here", "_law_thing"] (spBent K (c01 + 20000) 14 8)
/-- what stands while things are brought together -/
structure TIv (K : PySem.W.Frag) (PT : List Addr) (a : Addr) (xs : List V) (st : Addr) (cv : V) (d : PyData) (p : Addr) (vs : List V) (ds : List PyData) (H : Hp) : Prop where
  scr : ScrOk K H a xs
  sa : StAt H st
  cd : Dp K (mn st H) cv d
  tb : TabsG PT H
  at_ : H p = some (.lst vs)
  ne : p ≠ st
  all : DpAll K (mn st H) vs ds
  ok : ∀ z ∈ ds, ThOk z
variable {P : Program} {w : World} {K : PySem.W.Frag} {mg : Str → Option Value} {base : Heap} {f c : Addr} {fd : FuncData} {PT : List Addr}
theorem TIv.mv {a st p : Addr} {xs vs : List V} {cv : V} {d : PyData} {ds : List PyData} {H H' : Hp} (h : TIv K PT a xs st cv d p vs ds H) (m : Mv st H H') : TIv K PT a xs st cv d p vs ds H' :=
  ⟨h.scr.kt (m.kp.kt h.sa), m.sa, dp_same (mn_kp m.kp) h.cd, h.tb.kp h.sa m.kp, m.kp _ _ h.ne h.at_, h.ne, dps_same (mn_kp m.kp) h.all, h.ok⟩
theorem law_body {k : Nat} {cdv : Value} {s : Shared} {H : Hp} {a : Addr} {ns : List Int} (T : Free mg) (sys : SysB base) (scr : ScrOk K H a (ns.map V.int)) (h63 : ns.length ≤ 63) (tbs : TabsG PT H)
    (hr : Room k (callerA.deeper (envOfC "law" (defScope sLaw) s.heap.objs.size f cdv))) (L : Law01 P w K mg base PT k) :
    ∃ t, PSs (cxOf CX0 P w K mg base NLaw "law" (defScope sLaw) f cdv callerA [] s H E0).nox (defBody sLaw) t ∧ t { nx := fun _ _ => False, rt := fun v _ => v = .bl true } (L2.start NLaw [.ref a]) H := by
  have hu : (callerA.deeper (envOfC "law" (defScope sLaw) s.heap.objs.size f cdv)).units + 80 < cLine := by
    have := hr.un
    omega
  refine ⟨_, pss_cons (ps_for PassesOwn.never rfl (pi_range1 rfl T.range (pa_cons (pe_callB (call_max2 rfl) rfl T.max (by decide +kernel) (pa_cons pe_int (pa_cons (pe_callB (call_min2 rfl) rfl T.min (by decide +kernel)
        (pa_cons (pe_callB call_len_seq rfl T.len PySem.boot_len (pa_cons (pv 0) pa_nil)) (pa_cons pe_int pa_nil))) pa_nil))) pa_nil)) (pg_name (i := 1) scLaw.nd rfl (.inl rfl))
    (pss_cons (ps_set (i := 2) scLaw.nd rfl (.inl rfl) (pe_cal L.cSt hr rfl (pa_cons (pv 0) (pa_cons (pv 1) pa_nil))))
    (pss_one (ps_for PassesOwn.never rfl (pi_range1 rfl T.range (pa_cons pe_int pa_nil)) (pg_name (i := 3) scLaw.nd rfl (.inl rfl))
      (pss_cons (ps_set (i := 4) scLaw.nd rfl (.inl rfl) (pe_cal L.cCh hr rfl (pa_cons (pv 2) (pa_cons pe_int pa_nil))))
      (pss_cons (ps_if (pt_cmpR op_isnot_bl (pe_cal L.cI hr rfl (pa_cons (pv 4) pa_nil)) pe_bl (nomark _)) (pss_one (ps_ret pe_bl)) pss_nil)
      (pss_cons (ps_set (i := 5) scLaw.nd rfl (.inl rfl) (pe_lst (pa_cons (pe_callTy call_list_of rfl T.list (by decide +kernel) (pa_cons (pv 4) pa_nil)) (pa_cons (pe_op op_catA (pv 4) (pe_tup (pa_cons (pv 4) pa_nil)))
        (pa_cons (lit_tup (lits_cons lit_int lits_nil) (by decide)) (pa_cons (pe_tup (pa_cons (pe_callB call_len_seq rfl T.len PySem.boot_len (pa_cons (pv 4) pa_nil)) pa_nil)) (pa_cons (pe_cal L.cO hr rfl (pa_cons (pv 2) pa_nil))
        (pa_cons (lit_tup (lits_cons (lit_tup (lits_cons lit_int (lits_cons lit_int lits_nil)) (by decide)) lits_nil) (by decide)) pa_nil))))))))
      (pss_cons (ps_set (i := 5) scLaw.nd rfl (.inl rfl) (pe_op op_cat (pv 5) (pe_lst (lits_cons (lit_tup (lits_cons (lit_tup (lits_cons lit_bl lits_nil) (by decide)) lits_nil) (by decide)) (lits_cons (lit_tup (lits_cons (lit_tup (lits_cons lit_int lits_nil) (by decide)) lits_nil) (by decide)) lits_nil)))))
      (pss_cons (ps_for PassesOwn.never rfl (pi_range1 rfl T.range (pa_cons pe_int pa_nil)) (pg_name (i := 6) scLaw.nd rfl (.inl rfl))
        (pss_cons (ps_set (i := 7) scLaw.nd rfl (.inl rfl) (pe_cal L.cB0 hr rfl (pa_cons (pv 2) (pa_cons (pv 4) pa_nil))))
        (pss_one (ps_set (i := 5) scLaw.nd rfl (.inl rfl) (pe_op op_cat (pv 5) (pe_lst (pa_cons (pv 7) (pa_cons (pe_cal L.cB1 hr rfl (pa_cons (pv 2) (pa_cons (pv 7) pa_nil))) (pa_cons (pe_cal L.cB2 hr rfl (pa_cons (pv 2) (pa_cons (pe_cal L.cB1 hr rfl (pa_cons (pv 2) (pa_cons (pv 7) pa_nil))) pa_nil))) pa_nil)))))))))
      (pss_one (ps_for PassesOwn.never rfl (pi_list (pv 5)) (pg_name (i := 7) scLaw.nd rfl (.inl rfl))
        (pss_cons (ps_set (i := 8) scLaw.nd rfl (.inl rfl) (pe_callB (call_reprA sys rfl hu) rfl T.repr (by decide +kernel) (pa_cons (pv 7) pa_nil)))
        (pss_one (ps_if (PW.pt (pw_or (pt_cmpR op_ne (pe_callB (call_reprA sys rfl hu) rfl T.repr (by decide +kernel) (pa_cons (pe_cal L.cI hr rfl (pa_cons (pv 7) pa_nil)) pa_nil)) (pe_callB (call_reprA sys rfl hu) rfl T.repr (by decide +kernel) (pa_cons (pe_cal L.cL hr rfl (pa_cons (pv 7) pa_nil)) pa_nil)) (nomark _))
          (pw_or1 (pt_cmpR op_ne (pe_callB (call_reprA sys rfl hu) rfl T.repr (by decide +kernel) (pa_cons (pv 7) pa_nil)) (pv 8) (nomark _))))) (pss_one (ps_ret pe_bl)) pss_nil))))))))))))))
    (pss_one (ps_ret pe_bl)), ?_⟩
  have ll : (ns.map V.int).length = ns.length := List.length_map _
  have hm : 0 ≤ (if (if (6 : Int) < ((ns.map V.int).length : Int) then 6 else ((ns.map V.int).length : Int)) > 1 then (if (6 : Int) < ((ns.map V.int).length : Int) then 6 else ((ns.map V.int).length : Int)) else 1) ∧
      (if (if (6 : Int) < ((ns.map V.int).length : Int) then 6 else ((ns.map V.int).length : Int)) > 1 then (if (6 : Int) < ((ns.map V.int).length : Int) then 6 else ((ns.map V.int).length : Int)) else 1) ≤ 6 := by
    split <;> split <;> omega
  refine ⟨_, rfl, a, _, rfl, .inl scr.sq, _, _, rfl, _, _, rfl, _, rfl, by omega, by omega, ?_⟩
  refine for_range (lo := 0) (fun i σ H' => ∃ o1 o2 o3 o4 o5 o6 o7 o8, σ = [some (.ref a), o1, o2, o3, o4, o5, o6, o7, o8] ∧ ScrOk K H' a (ns.map V.int) ∧ TabsG PT H') ⟨_, _, _, _, _, _, _, _, rfl, scr, tbs⟩ (fun i σ H' hi h => ?_) (fun σ H' h => rfl)
  obtain ⟨o1, o2, o3, o4, o5, o6, o7, o8, rfl, sc, tb'⟩ := h
  refine ⟨_, rfl, _, rfl, a, ns, 0 + (i : Int), rfl, sc.sq, by omega, fun st x y z hst ok => ?_⟩
  have s0 := same_new hst (.lst [.int x, .int y, .int z])
  have sa0 : StAt (upd H' st (.lst [.int x, .int y, .int z])) st := ⟨x, y, z, upd_same, ok⟩
  have sc0 := scr_ext sc (ext_same s0)
  have tb0 := tb'.same s0
  generalize upd H' st (.lst [.int x, .int y, .int z]) = H0 at sa0 sc0 tb0
  clear s0
  refine ⟨4, rfl, by decide, by decide, ?_⟩
  refine for_range (lo := 0) (n := 4) (fun j σ H' => ∃ o3 o4 o5 o6 o7 o8, σ = [some (.ref a), some (.int (0 + (i : Int))), some (.ref st), o3, o4, o5, o6, o7, o8] ∧ ScrOk K H' a (ns.map V.int) ∧ StAt H' st ∧ TabsG PT H') ⟨_, _, _, _, _, _, rfl, sc0, sa0, tb0⟩ (fun j σ H1 hj h => ?_) (fun σ H1 h => ?_)
  · obtain ⟨o3, o4, o5, o6, o7, o8, rfl, sc1, sa1, tb1⟩ := h
    refine ⟨_, rfl, st, 12, rfl, sa1, by decide, by decide, fun cv d H2 mv2 hd2 ok2 => ?_⟩
    obtain ⟨bd, blk, dep, isC⟩ := chart_is ok2
    have sc2 := sc1.kt (mv2.kp.kt sa1)
    have tb2 := tb1.kp sa1 mv2.kp
    have sa2 := mv2.sa
    refine ⟨_, rfl, cv, d, rfl, dp_same mn_in hd2, tb2, fun H3 e3 tb3 => ?_⟩
    rw [isC]
    refine ⟨_, _, rfl, rfl, _, rfl, ifF rfl ?_⟩
    have hd3 := dp_ext (mn_ext (st := st) e3) _ _ hd2
    have sc3 := scr_ext sc2 e3
    have sa3 := st_ext sa2 e3
    obtain ⟨ds, rfl⟩ : ∃ ds, d = .tuple ds := by
      obtain ⟨rows, e, _⟩ := ok2
      exact ⟨_, e⟩
    have bdl : ds.length ≤ 12 := by cases bd with | tup l _ => exact l
    have bde : ∀ z ∈ ds, Bd c01 12 z := by cases bd with | tup _ e => exact e
    rw [bulk_tup] at blk
    rw [depth_tup] at dep
    cases hd3 with
    | @tup ca xs _ at3 each3 =>
    have lx := dpAll_len each3
    have a3 := sqT_same mn_in at3
    refine ⟨_, rfl, ca, xs, rfl, .inr a3, fun p4 f4 => ?_⟩
    have n4 := same_new f4 (.lst xs)
    refine ⟨_, rfl, _, rfl, small (by show 1 ≤ 1000; decide), fun p5 f5 => catB_run (sqT_same (n4.trans (same_new f5 _)) a3) (SqT.of upd_same) (by show _ + 1 ≤ _; omega) fun r6 H6 s6 h6 => ?_⟩
    have n5 := same_new f5 (.tup [.ref ca])
    have t6 := n4.trans (n5.trans s6)
    refine fun v7 H7 s7 d7 => ?_
    refine ⟨_, rfl, ca, xs, rfl, .inr (sqT_same (t6.trans s7) a3), small (by show 1 ≤ 1000; decide), fun p8 f8 => ?_⟩
    have n8 := same_new f8 (.tup [.int (xs.length : Int)])
    have t8 := t6.trans (s7.trans n8)
    have sa8 := sa3.same t8
    have h8 : SqT K (upd H7 p8 (.tup [.int (xs.length : Int)])) p8 [.int (xs.length : Int)] := SqT.of upd_same
    have u4 : Same _ (upd H7 p8 (.tup [.int (xs.length : Int)])) := n5.trans (s6.trans (s7.trans n8))
    generalize upd H7 p8 (.tup [.int (xs.length : Int)]) = H8 at n8 t8 sa8 h8 u4
    refine ⟨_, rfl, st, rfl, sa8, fun v9 d9 H9 mv9 hd9 hm9 => ?_⟩
    refine fun v10 H10 s10 d10 => ?_
    refine ⟨small (by show 6 ≤ 1000; decide), fun p11 f11 => ?_⟩
    have n11 := same_new f11 (.lst [.ref p4, .ref r6, v7, .ref p8, v9, v10])
    refine ⟨_, rfl, fun vs12 H12 s12 d12 => ?_⟩
    have l12 := dpAll_len d12
    refine ⟨small (by rw [l12]; decide), fun p13 f13 => ?_⟩
    have n13 := same_new f13 (.lst vs12)
    refine ⟨p11, p13, _, _, rfl, rfl, n13 _ _ (s12 _ _ upd_same), upd_same, small (by rw [l12]; show 6 + 2 ≤ 1000; decide), fun p14 f14 => ?_⟩
    have n14 := same_new f14 (.lst ([.ref p4, .ref r6, v7, .ref p8, v9, v10] ++ vs12))
    have t14 := s10.trans (n11.trans (s12.trans (n13.trans n14)))
    have sa14 := mv9.sa.same t14
    have np14 : p14 ≠ st := (mv9.sa.same (s10.trans (n11.trans (s12.trans n13)))).ne f14
    have at14 : (upd (upd H12 p13 (.lst vs12)) p14 (.lst ([.ref p4, .ref r6, v7, .ref p8, v9, v10] ++ vs12))) p14 = some (.lst ([.ref p4, .ref r6, v7, .ref p8, v9, v10] ++ vs12)) := upd_same
    have u12 := n13.trans n14
    generalize upd (upd H12 p13 (.lst vs12)) p14 (.lst ([.ref p4, .ref r6, v7, .ref p8, v9, v10] ++ vs12)) = H14 at n14 t14 sa14 at14 u12
    have kp8 : Kp st H8 H14 := mv9.kp.trans (Kp.of_same t14)
    have kpA : Kp st H3 H14 := (Kp.of_same t8).trans kp8
    have m14 := mn_kp (Kp.of_same (st := st) t14)
    have eachF := dps_same (mn_kp kpA) each3
    have atF := sqT_same (mn_kp kpA) at3
    have np4 : p4 ≠ st := sa3.ne f4
    have stl : ∀ {Hx : Hp}, StAt Hx st → ∃ l, Hx st = some l := fun h => by
      obtain ⟨l, e⟩ := h.some
      exact ⟨_, e⟩
    have up : ∀ {Hx : Hp} {r : Addr} {ys : List V}, Same Hx H8 → SqT K Hx r ys → SqT K (mn st H14) r ys := fun sx h => sqT_mn sa14 (sqT_kt ((KT.of_same sx).trans (kp8.kt sa8)) h)
    have all14 : DpAll K (mn st H14) ([.ref p4, .ref r6, v7, .ref p8, v9, v10] ++ vs12) ([.list ds, .tuple (ds ++ [.tuple ds]), .tuple [.int 0], .tuple [.int (xs.length : Int)], d9, .tuple [.tuple [.int 0, .int 0]]] ++ [.tuple [.tuple [.bool true]], .tuple [.tuple [.int 1]]]) :=
      dpAll_append (dps_same ((mn_dif (stl (mv9.sa.same (s10.trans n11)))).trans (mn_kp (Kp.of_same u12))) d12)
        (.cons (.lst (SqL.of (mn_at np4 (kp8 _ _ np4 (u4 _ _ upd_same)))) eachF)
        (.cons (.tup (up (s7.trans n8) h6) (dpAll_snoc (.tup atF eachF) eachF))
        (.cons (dp_same ((mn_dif (stl (sa3.same t6))).trans (mn_kp ((Kp.of_same n8).trans kp8))) d7)
        (.cons (.tup (up (Same.refl _) h8) (.cons (.int _) .nil))
        (.cons (dp_same m14 hd9)
        (.cons (dp_same ((mn_dif (stl mv9.sa)).trans (mn_kp (Kp.of_same (n11.trans (s12.trans u12))))) d10) .nil))))))
    have ok14 : ∀ z ∈ ([.list ds, .tuple (ds ++ [.tuple ds]), .tuple [.int 0], .tuple [.int (xs.length : Int)], d9, .tuple [.tuple [.int 0, .int 0]]] ++ [.tuple [.tuple [.bool true]], .tuple [.tuple [.int 1]]] : List PyData), ThOk z := fun z hz => by
      simp only [List.mem_append, List.mem_cons, List.not_mem_nil, or_false] at hz
      rcases hz with (rfl | rfl | rfl | rfl | rfl | rfl) | rfl | rfl
      · exact ThOk.of (.lst bdl bde) (by decide) (by decide) (by rw [bulk_lst]; omega) (by rw [depth_lst]; omega)
      · have b := bn_tup bd (l := ds ++ [.tuple ds]) (by rw [List.length_append]; show _ + 1 ≤ _; omega) (fun z hz => (List.mem_append.mp hz).elim .inl fun y => .inr (.inr (List.mem_singleton.mp y))) (by decide) (by rw [bulk_app]; simp only [PyData.bulkAll, PyData.bulk]; omega)
        have b2 := b.blk
        have b3 := b.dep
        rw [bulk_tup ds] at b2
        rw [depth_tup ds] at b3
        exact ThOk.of b.bd (by decide) (by decide) (by omega) (by omega)
      · exact lit_ok (by decide +kernel)
      · refine ThOk.of (c := c01) (wd := 1) (.tup (by show 1 ≤ 1; decide) fun z hz => ?_) (by decide) (by decide) (by simp [PyData.bulk, PyData.bulkAll]) (by simp [PyData.depth, PyData.depthAll])
        rw [List.mem_singleton.mp hz]
        exact .int (Nat.lt_of_lt_of_le (show ((xs.length : Int)).natAbs < 13 by omega) (by decide))
      · obtain ⟨q1, q2, q3⟩ := odd_is hm9
        exact ThOk.of q1 (by decide) (by decide) (by omega) (by omega)
      · exact lit_ok (by decide +kernel)
      · exact lit_ok (by decide +kernel)
      · exact lit_ok (by decide +kernel)
    have tiv : TIv K PT a (ns.map V.int) st (.ref ca) (.tuple ds) p14 _ _ H14 := ⟨sc3.kt (kpA.kt sa3), sa14, .tup atF eachF, tb3.kp sa3 kpA, at14, np14, all14, ok14⟩
    refine ⟨5, rfl, by decide, by decide, ?_⟩
    refine for_range (lo := 0) (n := 5) (fun l σ H' => ∃ p vs ds' o6 o7 o8, σ = [some (.ref a), some (.int (0 + (i : Int))), some (.ref st), some (.int (0 + (j : Int))), some (.ref ca), some (.ref p), o6, o7, o8] ∧ vs.length ≤ 8 + 3 * l ∧ TIv K PT a (ns.map V.int) st (.ref ca) (.tuple ds) p vs ds' H')
      ⟨p14, _, _, _, _, _, rfl, (by rw [List.length_append, l12]; exact Nat.le_refl _), tiv⟩ (fun l σ H' hl h => ?_) (fun σ H' h => ?_)
    · obtain ⟨p, vs, ds', o6, o7, o8, rfl, lv, tv⟩ := h
      have bl0 : (PyData.tuple ds).bulk ≤ 156 := by rw [bulk_tup]; exact blk
      have dp0 : (PyData.tuple ds).depth ≤ 2 := by rw [depth_tup]; exact dep
      refine ⟨_, rfl, _, rfl, st, .ref ca, .tuple ds, rfl, tv.sa, tv.cd, bd, dp0, by omega, fun w1 e1 G1 m1 hw1 b1 => ?_⟩
      have tv1 := tv.mv m1
      have k1 := b1.blk
      have k1' := b1.dep
      refine ⟨_, rfl, _, rfl, _, rfl, _, rfl, st, w1, e1, rfl, tv1.sa, hw1, b1.bd, by omega, by omega, fun w2 e2 G2 m2 hw2 b2 => ?_⟩
      have tv2 := tv1.mv m2
      have k2 := b2.blk
      have k2' := b2.dep
      refine ⟨_, rfl, _, rfl, _, rfl, st, w1, e1, rfl, tv2.sa, dp_same (mn_kp m2.kp) hw1, b1.bd, by omega, by omega, fun w3 e3 G3 m3 hw3 b3 => ?_⟩
      have tv3 := tv2.mv m3
      have k3 := b3.blk
      have k3' := b3.dep
      refine ⟨st, w3, e3, rfl, tv3.sa, hw3, b3.bd, by omega, by omega, fun w4 e4 G4 m4 hw4 b4 => ?_⟩
      have tv4 := tv3.mv m4
      have k4 := b4.blk
      have k4' := b4.dep
      refine ⟨small (by show 3 ≤ 1000; decide), fun p5 f5 => ?_⟩
      have q5 := same_new f5 (.lst [w1, w2, w4])
      refine ⟨p, p5, vs, [w1, w2, w4], rfl, rfl, q5 _ _ tv4.at_, upd_same, small (by show _ + 3 ≤ _; omega), fun p6 f6 => ?_⟩
      have q6 := same_new f6 (.lst (vs ++ [w1, w2, w4]))
      have q56 := q5.trans q6
      have np6 : p6 ≠ st := (tv4.sa.same q5).ne f6
      have tv6 := tv4.mv ⟨Kp.of_same q56, tv4.sa.same q56⟩
      have mm := mn_kp (Kp.of_same (st := st) q56)
      refine ⟨p6, vs ++ [w1, w2, w4], ds' ++ [e1, e2, e4], _, _, _, rfl, by rw [List.length_append]; show _ + 3 ≤ _; omega, ⟨tv6.scr, tv6.sa, tv6.cd, tv6.tb, upd_same, np6, dpAll_append (.cons (dp_same ((mn_kp m2.kp).trans ((mn_kp m3.kp).trans ((mn_kp m4.kp).trans mm))) hw1) (.cons (dp_same ((mn_kp m3.kp).trans ((mn_kp m4.kp).trans mm)) hw2) (.cons (dp_same mm hw4) .nil))) tv6.all, fun z hz => ?_⟩⟩
      rcases List.mem_append.mp hz with hz | hz
      · exact tv6.ok z hz
      · simp only [List.mem_cons, List.not_mem_nil, or_false] at hz
        rcases hz with rfl | rfl | rfl
        · exact ThOk.of b1.bd (by decide) (by decide) (by omega) (by omega)
        · exact ThOk.of b2.bd (by decide) (by decide) (by omega) (by omega)
        · exact ThOk.of b4.bd (by decide) (by decide) (by omega) (by omega)
    · obtain ⟨p, vs, ds', o6, o7, o8, rfl, lv, tv⟩ := h
      refine ⟨_, rfl, p, rfl, ⟨vs, SqL.of tv.at_⟩, ?_⟩
      refine for_list (xs := vs) (fun l σ G => ∃ o7 o8, σ = [some (.ref a), some (.int (0 + (i : Int))), some (.ref st), some (.int (0 + (j : Int))), some (.ref ca), some (.ref p), o6, o7, o8] ∧ ExtN H' G ∧ TabsG PT G)
        ⟨_, _, rfl, ExtN.refl _, tv.tb⟩ (fun l σ G _ h => by obtain ⟨_, _, _, e, _⟩ := h; exact SqL.of (ext_lst e tv.at_)) (fun l v σ G hv h => ?_) (fun σ G h => ?_)
      · obtain ⟨o7, o8, rfl, eG, tG⟩ := h
        obtain ⟨d, hd, hdv⟩ := dpAll_get' tv.all hv
        have th := tv.ok d (List.mem_of_getElem? hd)
        obtain ⟨t1, t2, t3⟩ := th.len
        have hv1 : Dp K G v d := dp_ext eG _ _ (dp_same mn_in hdv)
        refine ⟨_, rfl, v, d, rfl, hv1, t1, t2, t3, ?_⟩
        refine ⟨_, rfl, v, d, rfl, hv1, tG, fun G2 e2 tG2 => ?_⟩
        have hv2 := dp_ext e2 _ _ hv1
        refine ⟨.bl (chartD d), .bool (chartD d), rfl, .bl _, by simp only [PyData.showable], by simp [PyData.depth], bool_len _, ?_⟩
        refine ⟨_, rfl, v, d, _, _, rfl, hv2, th.bd, by decide, fun G3 s3 => ?_⟩
        have hv3 := dp_same s3 hv2
        refine ⟨.bl (chartD d), .bool (chartD d), rfl, .bl _, by simp only [PyData.showable], by simp [PyData.depth], bool_len _, rfl, _, rfl, ?_⟩
        refine ifF (by rw [decide_eq_true rfl]; rfl) ⟨_, rfl, v, d, rfl, hv3, t1, t2, t3, _, rfl, rfl, _, rfl, ifF (by rw [decide_eq_true rfl]; rfl) ?_⟩
        exact ⟨_, _, rfl, eG.trans (e2.trans (ext_same s3)), tG2.same s3⟩
      · obtain ⟨o7, o8, rfl, eG, tG⟩ := h
        exact ⟨_, _, _, _, _, _, rfl, scr_ext tv.scr eG, st_ext tv.sa eG, tG⟩
  · obtain ⟨o3, o4, o5, o6, o7, o8, rfl, sc1, sa1, tb1⟩ := h
    exact ⟨_, _, _, _, _, _, _, _, rfl, sc1, tb1⟩
end
/-- a def of the text that stands under its name -/
structure Std0 (K : PySem.W.Frag) (mg : Str → Option Value) (x : Str) (st : Stmt) (f : Addr) (fd : FuncData) : Prop where
  fn : Fun K x x st f fd
  nm : mg x = some (.ref f)
structure Std (K : PySem.W.Frag) (mg : Str → Option Value) (x : Str) (st : Stmt) (ps : List Str) (f : Addr) (fd : FuncData) : Prop where
  fn : Fun K x x st f fd
  nm : mg x = some (.ref f)
  bi : Binds K fd ps []
theorem Std.cal {P : Program} {w : World} {K : PySem.W.Frag} {mg : Str → Option Value} {base : Heap} {x : Str} {st : Stmt} {ps : List Str} {f : Addr} {fd : FuncData} {k j : Nat} {sp : Sp} (D : Std K mg x st ps f fd) (F : FnOk P w K mg base CX0 k f fd ps sp) (h : k ≤ j := by omega) : Cal P w K mg base x j ps sp :=
  ⟨f, fd, F.mono h, D.nm, D.fn.kp, D.bi⟩
section
open PySem.Spec PyProof.Rows LamX
theorem all_cals {P : Program} {w : World} {K : PySem.W.Frag} {mg : Str → Option Value} {base : Heap} {PW cW : Addr} (T : Free mg) (hStr : mg "str" = none) (hAll : mg "all" = none) (hSet : mg "set" = none) (hSo : mg "sorted" = none)
    {f0 : Addr} {d0 : FuncData} (D0 : Std K mg "is_whole" sWhole ["thing"] f0 d0) {f1 : Addr} {d1 : FuncData} (D1 : Std K mg "is_within" sWithin ["thing", "least", "most"] f1 d1) {f2 : Addr} {d2 : FuncData} (D2 : Std K mg "are_points" sPoints ["thing", "many"] f2 d2) {f3 : Addr} {d3 : FuncData} (D3 : Std K mg "is_chart" sIsChart ["thing"] f3 d3) {f4 : Addr} {d4 : FuncData} (D4 : Std K mg "_law_cell_at" sCell ["_law_script", "_law_k"] f4 d4) {f5 : Addr} {d5 : FuncData} (D5 : Std K mg "_law_state" sState ["_law_script", "_law_k"] f5 d5) {f6 : Addr} {d6 : FuncData} (D6 : Std K mg "_law_choice" sChoice ["_law_state_here", "_law_many"] f6 d6) {f7 : Addr} {d7 : FuncData} (D7 : Std K mg "_law_whole" sLWhole ["_law_thing"] f7 d7) {f8 : Addr} {d8 : FuncData} (D8 : Std K mg "_law_odd" sOdd ["_law_state_here"] f8 d8) {f9 : Addr} {d9 : FuncData} (D9 : Std K mg "_law_bent" sBent ["_law_state_here", "_law_thing"] f9 d9) {f10 : Addr} {d10 : FuncData} (D10 : Std K mg "_law_chart" sChart ["_law_state_here", "_law_most"] f10 d10) {f11 : Addr} {d11 : FuncData} (D11 : Std K mg "_law_is_chart" sLIsChart ["_law_thing"] f11 d11)
    (cdW : d3.code = .ref cW) (TB : LamX.TabB base mg cW PW) : Law01 P w K mg base [PW] 11 := by
  have cW := D0.cal (j := 1) (ok_whole (P := P) (w := w) (base := base) (k := 0) D0.fn T)
  have cWi := D1.cal (j := 2) (ok_within D1.fn cW)
  have cPo := D2.cal (j := 3) (ok_points D2.fn T cWi)
  have cCh := D6.cal (j := 1) (ok_choice (P := P) (w := w) (base := base) (mg := mg) (k := 0) D6.fn)
  have cCe := D4.cal (j := 1) (ok_cell (P := P) (w := w) (base := base) (k := 0) D4.fn T)
  have cLw := D7.cal (j := 1) (ok_lwhole (P := P) (w := w) (base := base) (k := 0) D7.fn T)
  have cOd := D8.cal (j := 2) (ok_odd D8.fn T cCh)
  exact {
    cSt := D5.cal (ok_state D5.fn T cCe)
    cCh := D10.cal (ok_chart D10.fn T cCh)
    cI := D3.cal (ok_isChart D3.fn cdW TB List.mem_cons_self T hAll cPo)
    cL := D11.cal (ok_lchart D11.fn T hSet hSo cLw)
    cO := cOd.mono (by omega)
    cB0 := D9.cal (all_bent (k := 2) (c := c01) (wd := 12) (by decide) (by decide) D9.fn D9.nm D9.bi T hStr (cCh.mono (by omega)) (cLw.mono (by omega)) cOd 2)
    cB1 := D9.cal (all_bent (k := 2) (c := (c01 + 10000)) (wd := 13) (by decide) (by decide) D9.fn D9.nm D9.bi T hStr (cCh.mono (by omega)) (cLw.mono (by omega)) cOd 5)
    cB2 := D9.cal (all_bent (k := 2) (c := (c01 + 20000)) (wd := 14) (by decide) (by decide) D9.fn D9.nm D9.bi T hStr (cCh.mono (by omega)) (cLw.mono (by omega)) cOd 8) }
/-- what the top leaves -/
def Left01 (K : PySem.W.Frag) (mg : Str → Option Value) (fa : Addr) : Prop := ∃ (fd dW : FuncData) (fW cW PW : Addr) (oT : Obj) (vT : Array Value), Fun K "law" "law" sLaw fa fd ∧ (∀ (s : Shared) (v : Value), BindsTo s fd ⟨[v], []⟩ [("_law_script", v)]) ∧ Free mg ∧
  mg "is_chart" = some (.ref fW) ∧ Fun K "is_chart" "is_chart" sIsChart fW dW ∧ dW.code = .ref cW ∧ K.lookup cW = some oT ∧ oT.data = .fields vT ∧ vT[11]? = some (.ref PW) ∧ K.lookup PW = none ∧
  ∀ (P : Program) (w : World) (base : Heap), LamX.TabB base mg cW PW → Law01 P w K mg base [PW] 11
set_option maxHeartbeats 8000000 in
theorem all_mk {K : PySem.W.Frag} {h : Heap} {mg : Str → Option Value} {fa : Addr} (X : K.In h) (G : h.Ns mainGlobals mg) (hfa : mg "law" = some (.ref fa))
    {f0 : Addr} {od0 an0 : Option Addr} {sl0 : Array (Option Value)} {oc0 kV0 dc0 pm0 ct0 : Value} {cd0 : Value}
    (a0 : PySem.W.nsIn K mainGlobals "is_whole" = some (some (.ref f0))) (l0 : K.lookup f0 = some ⟨oc0, od0, .func (PySem.W.fnOf "is_whole" "is_whole" (defArgs sWhole) (defBody sWhole) (defScope sWhole) .none kV0 dc0 pm0 an0 cd0 ct0), sl0⟩) (c0 : PySem.W.codeIn K cd0 "is_whole" = true) (k0 : PySem.W.keepIn K (.ref f0) = true)
    {f1 : Addr} {od1 an1 : Option Addr} {sl1 : Array (Option Value)} {oc1 kV1 dc1 pm1 ct1 : Value} {cd1 : Value}
    (a1 : PySem.W.nsIn K mainGlobals "is_within" = some (some (.ref f1))) (l1 : K.lookup f1 = some ⟨oc1, od1, .func (PySem.W.fnOf "is_within" "is_within" (defArgs sWithin) (defBody sWithin) (defScope sWithin) .none kV1 dc1 pm1 an1 cd1 ct1), sl1⟩) (c1 : PySem.W.codeIn K cd1 "is_within" = true) (k1 : PySem.W.keepIn K (.ref f1) = true)
    {f2 : Addr} {od2 an2 : Option Addr} {sl2 : Array (Option Value)} {oc2 kV2 dc2 pm2 ct2 : Value} {cd2 : Value}
    (a2 : PySem.W.nsIn K mainGlobals "are_points" = some (some (.ref f2))) (l2 : K.lookup f2 = some ⟨oc2, od2, .func (PySem.W.fnOf "are_points" "are_points" (defArgs sPoints) (defBody sPoints) (defScope sPoints) .none kV2 dc2 pm2 an2 cd2 ct2), sl2⟩) (c2 : PySem.W.codeIn K cd2 "are_points" = true) (k2 : PySem.W.keepIn K (.ref f2) = true)
    {f3 : Addr} {od3 an3 : Option Addr} {sl3 : Array (Option Value)} {oc3 kV3 dc3 pm3 ct3 : Value} {cc3 : Addr}
    (a3 : PySem.W.nsIn K mainGlobals "is_chart" = some (some (.ref f3))) (l3 : K.lookup f3 = some ⟨oc3, od3, .func (PySem.W.fnOf "is_chart" "is_chart" (defArgs sIsChart) (defBody sIsChart) (defScope sIsChart) .none kV3 dc3 pm3 an3 (.ref cc3) ct3), sl3⟩) (c3 : PySem.W.codeIn K (.ref cc3) "is_chart" = true) (k3 : PySem.W.keepIn K (.ref f3) = true)
    {f4 : Addr} {od4 an4 : Option Addr} {sl4 : Array (Option Value)} {oc4 kV4 dc4 pm4 ct4 : Value} {cd4 : Value}
    (a4 : PySem.W.nsIn K mainGlobals "_law_cell_at" = some (some (.ref f4))) (l4 : K.lookup f4 = some ⟨oc4, od4, .func (PySem.W.fnOf "_law_cell_at" "_law_cell_at" (defArgs sCell) (defBody sCell) (defScope sCell) .none kV4 dc4 pm4 an4 cd4 ct4), sl4⟩) (c4 : PySem.W.codeIn K cd4 "_law_cell_at" = true) (k4 : PySem.W.keepIn K (.ref f4) = true)
    {f5 : Addr} {od5 an5 : Option Addr} {sl5 : Array (Option Value)} {oc5 kV5 dc5 pm5 ct5 : Value} {cd5 : Value}
    (a5 : PySem.W.nsIn K mainGlobals "_law_state" = some (some (.ref f5))) (l5 : K.lookup f5 = some ⟨oc5, od5, .func (PySem.W.fnOf "_law_state" "_law_state" (defArgs sState) (defBody sState) (defScope sState) .none kV5 dc5 pm5 an5 cd5 ct5), sl5⟩) (c5 : PySem.W.codeIn K cd5 "_law_state" = true) (k5 : PySem.W.keepIn K (.ref f5) = true)
    {f6 : Addr} {od6 an6 : Option Addr} {sl6 : Array (Option Value)} {oc6 kV6 dc6 pm6 ct6 : Value} {cd6 : Value}
    (a6 : PySem.W.nsIn K mainGlobals "_law_choice" = some (some (.ref f6))) (l6 : K.lookup f6 = some ⟨oc6, od6, .func (PySem.W.fnOf "_law_choice" "_law_choice" (defArgs sChoice) (defBody sChoice) (defScope sChoice) .none kV6 dc6 pm6 an6 cd6 ct6), sl6⟩) (c6 : PySem.W.codeIn K cd6 "_law_choice" = true) (k6 : PySem.W.keepIn K (.ref f6) = true)
    {f7 : Addr} {od7 an7 : Option Addr} {sl7 : Array (Option Value)} {oc7 kV7 dc7 pm7 ct7 : Value} {cd7 : Value}
    (a7 : PySem.W.nsIn K mainGlobals "_law_whole" = some (some (.ref f7))) (l7 : K.lookup f7 = some ⟨oc7, od7, .func (PySem.W.fnOf "_law_whole" "_law_whole" (defArgs sLWhole) (defBody sLWhole) (defScope sLWhole) .none kV7 dc7 pm7 an7 cd7 ct7), sl7⟩) (c7 : PySem.W.codeIn K cd7 "_law_whole" = true) (k7 : PySem.W.keepIn K (.ref f7) = true)
    {f8 : Addr} {od8 an8 : Option Addr} {sl8 : Array (Option Value)} {oc8 kV8 dc8 pm8 ct8 : Value} {cd8 : Value}
    (a8 : PySem.W.nsIn K mainGlobals "_law_odd" = some (some (.ref f8))) (l8 : K.lookup f8 = some ⟨oc8, od8, .func (PySem.W.fnOf "_law_odd" "_law_odd" (defArgs sOdd) (defBody sOdd) (defScope sOdd) .none kV8 dc8 pm8 an8 cd8 ct8), sl8⟩) (c8 : PySem.W.codeIn K cd8 "_law_odd" = true) (k8 : PySem.W.keepIn K (.ref f8) = true)
    {f9 : Addr} {od9 an9 : Option Addr} {sl9 : Array (Option Value)} {oc9 kV9 dc9 pm9 ct9 : Value} {cd9 : Value}
    (a9 : PySem.W.nsIn K mainGlobals "_law_bent" = some (some (.ref f9))) (l9 : K.lookup f9 = some ⟨oc9, od9, .func (PySem.W.fnOf "_law_bent" "_law_bent" (defArgs sBent) (defBody sBent) (defScope sBent) .none kV9 dc9 pm9 an9 cd9 ct9), sl9⟩) (c9 : PySem.W.codeIn K cd9 "_law_bent" = true) (k9 : PySem.W.keepIn K (.ref f9) = true)
    {f10 : Addr} {od10 an10 : Option Addr} {sl10 : Array (Option Value)} {oc10 kV10 dc10 pm10 ct10 : Value} {cd10 : Value}
    (a10 : PySem.W.nsIn K mainGlobals "_law_chart" = some (some (.ref f10))) (l10 : K.lookup f10 = some ⟨oc10, od10, .func (PySem.W.fnOf "_law_chart" "_law_chart" (defArgs sChart) (defBody sChart) (defScope sChart) .none kV10 dc10 pm10 an10 cd10 ct10), sl10⟩) (c10 : PySem.W.codeIn K cd10 "_law_chart" = true) (k10 : PySem.W.keepIn K (.ref f10) = true)
    {f11 : Addr} {od11 an11 : Option Addr} {sl11 : Array (Option Value)} {oc11 kV11 dc11 pm11 ct11 : Value} {cd11 : Value}
    (a11 : PySem.W.nsIn K mainGlobals "_law_is_chart" = some (some (.ref f11))) (l11 : K.lookup f11 = some ⟨oc11, od11, .func (PySem.W.fnOf "_law_is_chart" "_law_is_chart" (defArgs sLIsChart) (defBody sLIsChart) (defScope sLIsChart) .none kV11 dc11 pm11 an11 cd11 ct11), sl11⟩) (c11 : PySem.W.codeIn K cd11 "_law_is_chart" = true) (k11 : PySem.W.keepIn K (.ref f11) = true)
    {f12 : Addr} {od12 an12 : Option Addr} {sl12 : Array (Option Value)} {oc12 kV12 dc12 pm12 ct12 : Value} {cd12 : Value}
    (a12 : PySem.W.nsIn K mainGlobals "law" = some (some (.ref f12))) (l12 : K.lookup f12 = some ⟨oc12, od12, .func (PySem.W.fnOf "law" "law" (defArgs sLaw) (defBody sLaw) (defScope sLaw) .none kV12 dc12 pm12 an12 cd12 ct12), sl12⟩) (c12 : PySem.W.codeIn K cd12 "law" = true) (k12 : PySem.W.keepIn K (.ref f12) = true)
    (z0 : PySem.W.nsIn K mainGlobals "isinstance" = some none)
    (z1 : PySem.W.nsIn K mainGlobals "int" = some none)
    (z2 : PySem.W.nsIn K mainGlobals "bool" = some none)
    (z3 : PySem.W.nsIn K mainGlobals "tuple" = some none)
    (z4 : PySem.W.nsIn K mainGlobals "len" = some none)
    (z5 : PySem.W.nsIn K mainGlobals "range" = some none)
    (z6 : PySem.W.nsIn K mainGlobals "min" = some none)
    (z7 : PySem.W.nsIn K mainGlobals "max" = some none)
    (z8 : PySem.W.nsIn K mainGlobals "sum" = some none)
    (z9 : PySem.W.nsIn K mainGlobals "list" = some none)
    (z10 : PySem.W.nsIn K mainGlobals "repr" = some none)
    (z11 : PySem.W.nsIn K mainGlobals "str" = some none)
    (z12 : PySem.W.nsIn K mainGlobals "all" = some none)
    (z13 : PySem.W.nsIn K mainGlobals "set" = some none)
    (z14 : PySem.W.nsIn K mainGlobals "sorted" = some none)
    {oTW : Option Addr} {vTW : Array Value} {sTW : Array (Option Value)} {PW : Addr} (lkW : K.lookup cc3 = some ⟨.type "code", oTW, .fields vTW, sTW⟩) (pW : vTW[11]? = some (.ref PW)) (noW : K.lookup PW = none) :
    Left01 K mg fa := by
  have e := hfa.symm.trans (PySem.W.mg_of X G a12)
  cases e
  have T : Free mg := ⟨PySem.W.mg_none_of X G z0, PySem.W.mg_none_of X G z1, PySem.W.mg_none_of X G z2, PySem.W.mg_none_of X G z3, PySem.W.mg_none_of X G z4, PySem.W.mg_none_of X G z5, PySem.W.mg_none_of X G z6, PySem.W.mg_none_of X G z7, PySem.W.mg_none_of X G z8, PySem.W.mg_none_of X G z9, PySem.W.mg_none_of X G z10⟩
  have F0 := fun_mk (st := sWhole) l0 c0 k0
  have S0 : Std K mg "is_whole" sWhole ["thing"] f0 _ := ⟨F0, PySem.W.mg_of X G a0, F0.binds (ps := ["thing"]) fun _ _ _ _ _ _ us hl => match us, hl with | [_], _ => rfl⟩
  have F1 := fun_mk (st := sWithin) l1 c1 k1
  have S1 : Std K mg "is_within" sWithin ["thing", "least", "most"] f1 _ := ⟨F1, PySem.W.mg_of X G a1, F1.binds (ps := ["thing", "least", "most"]) fun _ _ _ _ _ _ us hl => match us, hl with | [_, _, _], _ => rfl⟩
  have F2 := fun_mk (st := sPoints) l2 c2 k2
  have S2 : Std K mg "are_points" sPoints ["thing", "many"] f2 _ := ⟨F2, PySem.W.mg_of X G a2, F2.binds (ps := ["thing", "many"]) fun _ _ _ _ _ _ us hl => match us, hl with | [_, _], _ => rfl⟩
  have F3 := fun_mk (st := sIsChart) l3 c3 k3
  have S3 : Std K mg "is_chart" sIsChart ["thing"] f3 _ := ⟨F3, PySem.W.mg_of X G a3, F3.binds (ps := ["thing"]) fun _ _ _ _ _ _ us hl => match us, hl with | [_], _ => rfl⟩
  have F4 := fun_mk (st := sCell) l4 c4 k4
  have S4 : Std K mg "_law_cell_at" sCell ["_law_script", "_law_k"] f4 _ := ⟨F4, PySem.W.mg_of X G a4, F4.binds (ps := ["_law_script", "_law_k"]) fun _ _ _ _ _ _ us hl => match us, hl with | [_, _], _ => rfl⟩
  have F5 := fun_mk (st := sState) l5 c5 k5
  have S5 : Std K mg "_law_state" sState ["_law_script", "_law_k"] f5 _ := ⟨F5, PySem.W.mg_of X G a5, F5.binds (ps := ["_law_script", "_law_k"]) fun _ _ _ _ _ _ us hl => match us, hl with | [_, _], _ => rfl⟩
  have F6 := fun_mk (st := sChoice) l6 c6 k6
  have S6 : Std K mg "_law_choice" sChoice ["_law_state_here", "_law_many"] f6 _ := ⟨F6, PySem.W.mg_of X G a6, F6.binds (ps := ["_law_state_here", "_law_many"]) fun _ _ _ _ _ _ us hl => match us, hl with | [_, _], _ => rfl⟩
  have F7 := fun_mk (st := sLWhole) l7 c7 k7
  have S7 : Std K mg "_law_whole" sLWhole ["_law_thing"] f7 _ := ⟨F7, PySem.W.mg_of X G a7, F7.binds (ps := ["_law_thing"]) fun _ _ _ _ _ _ us hl => match us, hl with | [_], _ => rfl⟩
  have F8 := fun_mk (st := sOdd) l8 c8 k8
  have S8 : Std K mg "_law_odd" sOdd ["_law_state_here"] f8 _ := ⟨F8, PySem.W.mg_of X G a8, F8.binds (ps := ["_law_state_here"]) fun _ _ _ _ _ _ us hl => match us, hl with | [_], _ => rfl⟩
  have F9 := fun_mk (st := sBent) l9 c9 k9
  have S9 : Std K mg "_law_bent" sBent ["_law_state_here", "_law_thing"] f9 _ := ⟨F9, PySem.W.mg_of X G a9, F9.binds (ps := ["_law_state_here", "_law_thing"]) fun _ _ _ _ _ _ us hl => match us, hl with | [_, _], _ => rfl⟩
  have F10 := fun_mk (st := sChart) l10 c10 k10
  have S10 : Std K mg "_law_chart" sChart ["_law_state_here", "_law_most"] f10 _ := ⟨F10, PySem.W.mg_of X G a10, F10.binds (ps := ["_law_state_here", "_law_most"]) fun _ _ _ _ _ _ us hl => match us, hl with | [_, _], _ => rfl⟩
  have F11 := fun_mk (st := sLIsChart) l11 c11 k11
  have S11 : Std K mg "_law_is_chart" sLIsChart ["_law_thing"] f11 _ := ⟨F11, PySem.W.mg_of X G a11, F11.binds (ps := ["_law_thing"]) fun _ _ _ _ _ _ us hl => match us, hl with | [_], _ => rfl⟩
  have F12 := fun_mk (st := sLaw) l12 c12 k12
  exact ⟨_, _, _, _, _, _, _, F12, fun s v => .of_eq rfl, T, PySem.W.mg_of X G a3, F3, rfl, lkW, rfl, pW, noW, fun P w base TB =>
    all_cals T (PySem.W.mg_none_of X G z11) (PySem.W.mg_none_of X G z12) (PySem.W.mg_none_of X G z13) (PySem.W.mg_none_of X G z14) S0 S1 S2 S3 S4 S5 S6 S7 S8 S9 S10 S11 rfl TB⟩
theorem tab_of {q : Program} {loose : List Str} {mean : ExcName → Option Value} {mg mb : Str → Option Value} {h : Heap} (T : Top q loose mean mg mb h) {x : Str} (hx : (recsOf q).any (fun d => d.name == x) = true) {K : PySem.W.Frag} (KX : K.In h) {st : Stmt} {f c Pt : Addr} {fd : FuncData} (F : Fun K x x st f fd) (hm : mg x = some (.ref f)) (hc : fd.code = .ref c)
    {oT : Obj} {vT : Array Value} (lk : K.lookup c = some oT) (hd : oT.data = .fields vT) (hp : vT[11]? = some (.ref Pt)) : h.get? Pt = some { cls := .none, data := .fields #[] } ∧ PySem.W.CodeHd h c Pt := by
  obtain ⟨d, hdm, e⟩ := List.any_eq_true.mp hx
  have e : d.name = x := eq_of_beq e
  obtain ⟨a, o, fd', c', P', m1, g1, d1, c1, isC, tab⟩ := T.tab d hdm
  rw [e, hm] at m1
  cases m1
  obtain ⟨oc, od, kV, doc, pm, an, cdv, ct, osl, rfl, found, code⟩ := F.ex
  have g2 := KX _ _ found
  rw [g1] at g2
  cases g2
  cases d1
  have hc : cdv = .ref c := hc
  have c1 : cdv = .ref c' := c1
  rw [hc] at c1
  cases c1
  obtain ⟨⟨o2, vs2, e1, e2, e3, e4⟩, e5⟩ := id tab
  have g3 := KX _ _ lk
  rw [e1] at g3
  cases g3
  rw [e3] at hd
  cases hd
  rw [e4] at hp
  cases hp
  exact ⟨e5, PySem.W.CodeHd.of isC tab⟩
theorem walk {l : PySem.W.OpenLaw} {q : Program} {loose : List Str} {XP : (Str → Option Value) → Heap → Prop} {YP : World → Heap → Prop} {d : DefRec} {K : Params → PySem.W.Frag} (hn : l.most = some 63) (hdf : d.params.defaults = []) (hnm : d.name = "law") (hi : importsNone q = true) (hw : (recsOf q).any (fun d => d.name == ("is_chart" : Str)) = true)
    (hY : ∀ (w : World) (h : Heap), YP w h → (K w.params).In h)
    (F : ∀ (w : World) (mg : Str → Option Value) (fa : Addr) (h : Heap), (K w.params).In h → h.Ns mainGlobals mg → mg d.name = some (.ref fa) → Left01 (K w.params) mg fa) :
    PySem.W.WalkO q loose XP YP l.row.toRowW d [] (fun f vs => PySem.call f vs) := by
  refine Att.attach_call hn hdf fun w s0 s1 mg mb fa o pm cd doc a vs ns G Y ho hd hcd hmg hobj hints hlen hg => ?_
  have KX := hY w _ Y
  obtain ⟨fd, dW, fW, cW, PW, oT, vT, FL, bd, T, mW, FW, codeW, lk1, d1, p1, n1, cals⟩ := F w mg fa _ KX G.T.g hmg
  obtain ⟨t1, t2⟩ := tab_of G.T hw KX FW mW codeW lk1 d1 p1
  obtain ⟨mm, sy, _⟩ := (G.T.seer hi).mods
  refine law_endT (k := 11) (cs := [(cW, PW)]) KX G.T.g G.T.b G.T.builtins G.T.nolimit hg ⟨fun p hp => ?_, fun p hp => ?_, fun p hp => ?_, ⟨mm, sy⟩, G.T.bmain⟩ hobj hints (small (by omega)) ⟨rfl, by decide, by decide⟩ FL scLaw bd fun base _ _ sb TB H cdv hc tabs scr hr => ?_
  · rw [List.mem_singleton.mp hp]; exact t1
  · rw [List.mem_singleton.mp hp]; exact n1
  · rw [List.mem_singleton.mp hp]; exact t2
  · have tW := TB _ (List.mem_cons_self)
    refine law_body (k := 11) T sb scr hlen (fun p hp => ?_) hr (cals l.prog w base tW)
    rw [List.mem_singleton.mp hp]
    exact ⟨#[], tabs _ (List.mem_cons_self), trivial⟩
end
end Gw
open PySem PySem.W PyProof.Rows
set_option maxRecDepth 100000 in
set_option maxHeartbeats 0 in
theorem PySem.Challenge.cw_giveway_k01_charts_looked_at_holds : PySem.Challenge.rw_giveway_k01_charts_looked_at.Holds := by
  w_on; o_law; k_head; (case hw => w_witness2)
  k_fill
  refine Gw.walk (l := PySem.Challenge.rw_giveway_k01_charts_looked_at) rfl rfl rfl (by decide +kernel) (by decide +kernel) (fun w h Y => PySem.W.kIn_of Y) ?F
  case F =>
    intro w mg fa h KX G hmg
    refine' Gw.all_mk KX G hmg ?a0 ?l0 ?c0 ?k0 ?a1 ?l1 ?c1 ?k1 ?a2 ?l2 ?c2 ?k2 ?a3 ?l3 ?c3 ?k3 ?a4 ?l4 ?c4 ?k4 ?a5 ?l5 ?c5 ?k5 ?a6 ?l6 ?c6 ?k6 ?a7 ?l7 ?c7 ?k7 ?a8 ?l8 ?c8 ?k8 ?a9 ?l9 ?c9 ?k9 ?a10 ?l10 ?c10 ?k10 ?a11 ?l11 ?c11 ?k11 ?a12 ?l12 ?c12 ?k12 ?z0 ?z1 ?z2 ?z3 ?z4 ?z5 ?z6 ?z7 ?z8 ?z9 ?z10 ?z11 ?z12 ?z13 ?z14 ?lkW ?pW ?noW
    (case a0 => k_is)
    (case l0 => k_is)
    (case c0 => k_is)
    (case k0 => k_is)
    (case a1 => k_is)
    (case l1 => k_is)
    (case c1 => k_is)
    (case k1 => k_is)
    (case a2 => k_is)
    (case l2 => k_is)
    (case c2 => k_is)
    (case k2 => k_is)
    (case a3 => k_is)
    (case l3 => k_is)
    (case c3 => k_is)
    (case k3 => k_is)
    (case a4 => k_is)
    (case l4 => k_is)
    (case c4 => k_is)
    (case k4 => k_is)
    (case a5 => k_is)
    (case l5 => k_is)
    (case c5 => k_is)
    (case k5 => k_is)
    (case a6 => k_is)
    (case l6 => k_is)
    (case c6 => k_is)
    (case k6 => k_is)
    (case a7 => k_is)
    (case l7 => k_is)
    (case c7 => k_is)
    (case k7 => k_is)
    (case a8 => k_is)
    (case l8 => k_is)
    (case c8 => k_is)
    (case k8 => k_is)
    (case a9 => k_is)
    (case l9 => k_is)
    (case c9 => k_is)
    (case k9 => k_is)
    (case a10 => k_is)
    (case l10 => k_is)
    (case c10 => k_is)
    (case k10 => k_is)
    (case a11 => k_is)
    (case l11 => k_is)
    (case c11 => k_is)
    (case k11 => k_is)
    (case a12 => k_is)
    (case l12 => k_is)
    (case c12 => k_is)
    (case k12 => k_is)
    (case z0 => k_is)
    (case z1 => k_is)
    (case z2 => k_is)
    (case z3 => k_is)
    (case z4 => k_is)
    (case z5 => k_is)
    (case z6 => k_is)
    (case z7 => k_is)
    (case z8 => k_is)
    (case z9 => k_is)
    (case z10 => k_is)
    (case z11 => k_is)
    (case z12 => k_is)
    (case z13 => k_is)
    (case z14 => k_is)
    (case lkW => k_is)
    (case pW => rfl)
    (case noW => first | rfl | k_is)
