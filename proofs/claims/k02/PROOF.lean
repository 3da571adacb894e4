import PyProof.Rows.All
import Wide.All
import OpenK.AllK
import Wide.FinOn
import HandS.ForMost
import HandS.IsInst
import HandS.Defaults
import HandS.Conv
import HandS.TupAny
import KE.DataMinMax
import HandS.ForExc
import HandS.Lambda
import HandS.ExcIs
import HandS.Dict
import HandS.EndTab
import PyProof.FactsAll.dict
import HandS.GenList
import HandS.AnyAll
import HandS.RaiseMore
import HandS.List
import HandS.Codes
import HandS.DictComp
import HandS.DictTup
import HandS.SetFor
import HandS.Strs
import HandS.Style
import HandS.TupLe
import HandS.Ends
import KE.RegKIsAll
import PySem.Challenge.RW_giveway_k02_ways_and_bars_by_anybody
set_option Elab.async false
set_option linter.all false
set_option maxRecDepth 100000
namespace Gw
open PySem L2
def top (i : Nat) : Stmt := PySem.Challenge.pw_giveway_k02_ways_and_bars_by_anybody.main.body.getD i (.Pass ⟨0, 0, 0, 0⟩)
abbrev sWhole : Stmt := top 5
abbrev sWithin : Stmt := top 6
abbrev sPoints : Stmt := top 8
abbrev sIsChart : Stmt := top 9
abbrev sCheckCh : Stmt := top 10
abbrev sCheckCase : Stmt := top 11
abbrev sIsWalk : Stmt := top 12
abbrev sIsWay : Stmt := top 13
abbrev sIsBar : Stmt := top 14
abbrev sCell : Stmt := top 16
abbrev sState : Stmt := top 17
abbrev sChoice : Stmt := top 18
abbrev sLWhole : Stmt := top 19
abbrev sOdd : Stmt := top 20
abbrev sBent : Stmt := top 21
abbrev sChart : Stmt := top 22
abbrev sSomeP : Stmt := top 23
abbrev sLIsWay : Stmt := top 24
abbrev sLIsBar : Stmt := top 25
abbrev sWalk : Stmt := top 26
abbrev sClosed : Stmt := top 27
abbrev sLaw : Stmt := top 28
/-! data, dicts of whole numbers among it -/
def dictK (ms : List (Int × Int)) : List (Key × V) := ms.map fun m => (Sum.inl m.1, V.int m.2)
def dictD (ms : List (Int × Int)) : List (PyData × PyData) := ms.map fun m => (PyData.int m.1, PyData.int m.2)
mutual
inductive Dp (K : PySem.W.Frag) (Hh : Hp) : V → PyData → Prop
  | non : Dp K Hh .non .none
  | bl (t : Bool) : Dp K Hh (.bl t) (.bool t)
  | int (n : Int) : Dp K Hh (.int n) (.int n)
  | str (t : Str) : Dp K Hh (.str t) (.str t)
  | lst {r : Addr} {us : List V} {es : List PyData} (at_ : SqL K Hh r us) (each : DpAll K Hh us es) : Dp K Hh (.ref r) (.list es)
  | tup {r : Addr} {us : List V} {es : List PyData} (at_ : SqT K Hh r us) (each : DpAll K Hh us es) : Dp K Hh (.ref r) (.tuple es)
  | dct {r : Addr} {ms : List (Int × Int)} (at_ : Hh r = some (.dK (dictK ms))) : Dp K Hh (.ref r) (.dict (dictD ms))
inductive DpAll (K : PySem.W.Frag) (Hh : Hp) : List V → List PyData → Prop
  | nil : DpAll K Hh [] []
  | cons {u : V} {us : List V} {e : PyData} {es : List PyData} (one : Dp K Hh u e) (more : DpAll K Hh us es) : DpAll K Hh (u :: us) (e :: es)
end
/-! no list is in it -/
mutual
def noL : PyData → Bool
  | .list _ => false
  | .tuple es => noLs es
  | _ => true
def noLs : List PyData → Bool
  | [] => true
  | e :: es => noL e && noLs es
end
theorem reads_dict {Pg : Program} {wd : World} {h : Heap} : ∀ (ms : List (Int × Int)) (vs : List (Key × Value)) (es : List DictEntry), KV (dictK ms) vs → Pairs (mixKind Pg wd) es vs →
    ReadsAll h (es.map fun e => e.key) ((dictD ms).map fun p => p.1) [] ∧ ReadsAll h (es.map fun e => e.val) ((dictD ms).map fun p => p.2) []
  | [], vs, es, kv, pr => by
    cases kv
    cases pr
    exact ⟨.nil, .nil⟩
  | m :: ms, vs, es, kv, pr => by
    cases kv with
    | cons h1 h2 =>
      cases pr with
      | cons p1 p2 p3 =>
        obtain ⟨q1, q2⟩ := reads_dict (h := h) ms _ _ h2 p3
        obtain ⟨e1, e2⟩ := h1
        rw [← e1] at p1
        have p1 : keyIs (Sum.inl m.1) _ = true := p1
        rcases keyIs_shape p1 with ⟨i, t, z1, z2⟩ | ⟨x, t, z1, z2⟩
        · cases z1
          obtain ⟨t2, e2⟩ := e2
          refine ⟨?_, ?_⟩
          · refine (show ReadsAll h (_ :: _) (PyData.int m.1 :: _) ([] ++ []) from ?_)
            dsimp only
            rw [z2]
            exact .cons (.int _ _) q1
          · refine (show ReadsAll h (_ :: _) (PyData.int m.2 :: _) ([] ++ []) from ?_)
            dsimp only
            rw [p2, e2]
            exact .cons (.int _ _) q2
        · cases z1
section
variable {X : Cx} {pins : List (Addr × Obj)} {σ : L2.St} {H : Hp} {s : Shared}
theorem dct_reads (I : Inv X pins σ H s) {r : Addr} {ms : List (Int × Int)} (h : H r = some (.dK (dictK ms))) : ∃ o es n, s.heap.get? r = some o ∧ o.ExactDict ∧ o.data = .dict es n ∧ r ≠ sysModules ∧ Reads s.heap (.ref r) (.dict (dictD ms)) (r :: [] ++ []) := by
  obtain ⟨_, ns, vs, kv, o, es, ep, g, ex, dd, _, pr, _⟩ := I.hok r _ h
  obtain ⟨q1, q2⟩ := reads_dict ms vs es.toList kv pr
  exact ⟨o, es, ep, g, ex, dd, beq_eq_false_iff_ne.mp ns, .dict g ex.1 dd q1 q2⟩
mutual
theorem Dp.rd (I : Inv X pins σ H s) : ∀ (d : PyData) (v : V) (u : Value), Dp X.K H v d → RelV v u → ∃ as, Reads s.heap u d as ∧ (noL d = true → sysModules ∉ as)
  | .none, v, u, h, r => by cases h; cases r; exact ⟨_, .none, fun _ z => nomatch z⟩
  | .bool b, v, u, h, r => by cases h; cases r; exact ⟨_, .bool b, fun _ z => nomatch z⟩
  | .int i, v, u, h, r => by cases h; obtain ⟨t, rfl⟩ := r; exact ⟨_, .int i t, fun _ z => nomatch z⟩
  | .str x, v, u, h, r => by cases h; obtain ⟨t, rfl⟩ := r; exact ⟨_, .str x t, fun _ z => nomatch z⟩
  | .list es, v, u, h, r => by
    cases h with
    | lst at_ each =>
      cases r
      obtain ⟨its, rv, ⟨o, n, ho, hc, _, hd⟩, _⟩ := I.list at_
      obtain ⟨as, hr, _⟩ := Dp.rds I es _ its each rv
      exact ⟨_, .list ho hc hd hr, fun z => by simp [noL] at z⟩
  | .tuple es, v, u, h, r => by
    cases h with
    | tup at_ each =>
      cases r
      obtain ⟨its, rv, ⟨o, ho, hc, n, hd⟩, _⟩ := I.tuple at_
      obtain ⟨as, hr, hn⟩ := Dp.rds I es _ its each rv
      exact ⟨_, .tuple ho hc hd hr, fun z => hn (by simpa only [noL] using z)⟩
  | .dict kvs, v, u, h, r => by
    cases h with
    | dct at_ =>
      cases r
      obtain ⟨_, _, _, _, _, _, ns, rd⟩ := dct_reads I at_
      exact ⟨_, rd, fun _ z => by
        have z : sysModules ∈ [_] := z
        exact ns (List.mem_singleton.mp z).symm⟩
theorem Dp.rds (I : Inv X pins σ H s) : ∀ (ds : List PyData) (vs : List V) (us : List Value), DpAll X.K H vs ds → Vals vs us → ∃ as, ReadsAll s.heap us ds as ∧ (noLs ds = true → sysModules ∉ as)
  | [], vs, us, h, r => by cases h; cases r; exact ⟨_, .nil, fun _ z => nomatch z⟩
  | d :: ds, vs, us, h, r => by
    cases h with
    | cons one more =>
      cases r with
      | cons r1 r2 =>
        obtain ⟨as, q1, n1⟩ := Dp.rd I d _ _ one r1
        obtain ⟨bs, q2, n2⟩ := Dp.rds I ds _ _ more r2
        refine ⟨_, .cons q1 q2, fun z => ?_⟩
        have z' : noL d = true ∧ noLs ds = true := by simpa [noLs] using z
        intro hm
        rcases List.mem_append.mp hm with hm | hm
        · exact n1 z'.1 hm
        · exact n2 z'.2 hm
end
end
/-! a dict against a text -/
section
open PySem.SeqAt
theorem dict_declines (l : Addr) (es : Array DictEntry) (n : Nat) (b : Str) (u : Tok) :
    Meets (Builtin.«dict.__eq__» ⟨[.ref l, .str b u], []⟩) (fun _ R s => s.heap.get? l = some { cls := .type "dict", data := .dict es n } ∧ R (.ok (.ret .notImplemented)) s) :=
  .of_wp fun prog w A R s h => by obtain ⟨hp, g, d, tk, os⟩ := s; obtain ⟨hl, h⟩ := h; have f1 := F.sub_str_dict; wp_walk using AutoSeq1.wpAny_loadPart' hl; exact ⟨_, rfl, h⟩
theorem str_declines_dict (b : Str) (u : Tok) (l : Addr) (es : Array DictEntry) (n : Nat) :
    Meets (Builtin.«str.__eq__» ⟨[.str b u, .ref l], []⟩) (fun _ R s => s.heap.get? l = some { cls := .type "dict", data := .dict es n } ∧ R (.ok (.ret .notImplemented)) s) :=
  .of_wp fun prog w A R s h => by obtain ⟨hp, g, d, tk, os⟩ := s; obtain ⟨hl, h⟩ := h; wp_walk using AutoSeq1.wpAny_loadPart' hl, wpAny_load hl; exact ⟨_, rfl, h⟩
theorem rc_dict_str {A : Around} {s : Shared} {l : Addr} {es : Array DictEntry} {n : Nat} (b : Str) (u : Tok) (ho : s.heap.get? l = some { cls := .type "dict", data := .dict es n }) (hu : A.units < cLine) : RcAt A s (.ref l) (.str b u) false := fun prog w E Q h =>
  rc_eq_decline_or (k := false) ⟨_, ho, rfl⟩ (typeIs_str s b u) (by decide) F.sub_str_dict F.slot_dict_eq F.slot_str_eq_refl
    (fun _ hq => call_meets F.slot_dict_eq ⟨_, ho, rfl⟩ F.entry_dict_eq (F.args_dict_eq_2 _ _) (dict_declines l es n b u) ⟨ho, hq⟩)
    (fun _ hq => call_meets F.slot_str_eq_refl (typeIs_str s b u) F.entry_str_eq (F.args_str_eq_2 _ _) (str_declines_dict b u l es n) ⟨ho, hq⟩)
    (fun _ hq => wpAny_of_eq (rfl : isSame (.ref l) (.str b u) = pure false) hq) (.inr hu) h
end
def OkL (_ : PyData) : Prop := True
def OkR (e : PyData) : Prop := ∃ t, e = .str t
theorem okL_mem {ds : List PyData} {d : PyData} (h : OkL (.tuple ds)) (hm : d ∈ ds) : OkL d := trivial
theorem okR_tie : OkR (.str "tie") := ⟨_, rfl⟩
/-- whatever it is against a text -/
def rEqT (K : PySem.W.Frag) : R2 := fun x y H Q => ∃ d e, Dp K H x d ∧ Dp K H y e ∧ OkL d ∧ OkR e ∧ Q (.bl (PyData.eqv d e)) H
theorem op_eqT {X : Cx} (hu : X.A.units + 64 < cLine) : OpR X (compareOp .Eq) (rEqT X.K) := by
  intro pins s σ H x y v u Q I rx ry h
  obtain ⟨d, e, hd, he, _, ⟨t, rfl⟩, q⟩ := h
  cases he
  obtain ⟨tk, rfl⟩ := ry
  have fin : ∀ b, PyData.eqv d (.str t) = b → SeqAt.RcAt X.A s v (.str t tk) b → wpAny (model X.prog X.w) X.A (compareOp .Eq v (.str t tk)) (EP X pins σ Q) X.xe s := fun b e rc => by
    refine rc X.prog X.w _ _ ⟨.bl b, H, I, rfl, ?_⟩
    rw [← e]
    exact q
  have hu' : X.A.units < cLine := by omega
  cases hd with
  | non => cases rx; exact fin false (by simp [PyData.eqv]) (SeqAt.RcAt.none_str _ _)
  | bl b => cases rx; exact fin false (by simp [PyData.eqv]) (SeqAt.RcAt.bool_str _ _ _)
  | int i => obtain ⟨k, rfl⟩ := rx; exact fin false (by simp [PyData.eqv]) (SeqAt.RcAt.int_str _ _ _ _)
  | str z => obtain ⟨k, rfl⟩ := rx; exact fin (z == t) (by simp [PyData.eqv]) (SeqAt.RcAt.str_str _ _ _ _)
  | lst at_ each =>
    cases rx
    obtain ⟨its, rv, ⟨o, n, ho, hc, _, hd⟩, _⟩ := I.list at_
    exact fin false (by simp [PyData.eqv]) (SeqAt.RcAt.list_str _ _ ⟨o, ho, hc, n, hd⟩ hu')
  | tup at_ each =>
    cases rx
    obtain ⟨its, rv, ⟨o, ho, hc, n, hd⟩, _⟩ := I.tuple at_
    exact fin false (by simp [PyData.eqv]) (SeqAt.RcAt.tuple_str _ _ ⟨o, ho, hc, n, hd⟩ hu')
  | dct at_ =>
    cases rx
    obtain ⟨⟨oc, od, oda, osl⟩, es, n, g, ⟨e1, e2, e3⟩, e4, _, _⟩ := dct_reads I at_
    dsimp only at e1 e2 e3 e4
    subst e1 e2 e3 e4
    exact fin false (by simp [PyData.eqv]) (rc_dict_str _ _ g hu')
/-- data without dicts against such -/
def rNeD (K : PySem.W.Frag) : R2 := fun x y Hh Q => ∃ d e, Dp K Hh x d ∧ Dp K Hh y e ∧ SeqAt.shaped d = true ∧ SeqAt.shaped e = true ∧ Q (.bl (!PyData.eqv d e)) Hh
theorem op_neD {X : Cx} (hu : X.A.units + 64 < cLine) : OpR X (compareOp .NotEq) (rNeD X.K) := by
  intro pins s σ Hh x y v u Q I rx ry h
  obtain ⟨d, e, hd, he, sd, se, q⟩ := h
  obtain ⟨as, r1, _⟩ := Dp.rd I d x v hd rx
  obtain ⟨bs, r2, _⟩ := Dp.rd I e y u he ry
  exact SeqAt.compareNe_shaped r1 r2 sd se hu ⟨.bl _, Hh, I, rfl, q⟩
/-! repr -/
theorem call_reprD {X : Cx} (hg : X.A.guards = some []) (hu : X.A.units + 80 < cLine) : CallR X (.builtin "repr") (fun xs H Q => ∃ (a : Addr) (d : PyData), xs = [.ref a] ∧ Dp X.K H (.ref a) d ∧ d.showable = true ∧ (d.hasDict = true → noL d = true) ∧ d.depth ≤ 64 ∧ d.shown.length ≤ sizeLine ∧ Q (.str d.shown) H) := by
  intro pins s σ H xs us Q I r h
  obtain ⟨a, d, rfl, hd, h1, h2, h3, h4, q⟩ := h
  obtain ⟨u, rfl, ru⟩ := vals1 r
  cases ru
  obtain ⟨as, hr, hn⟩ := Dp.rd I d (.ref a) (.ref a) hd rfl
  exact repr_of_reads' hr h1 (fun z => hn (h2 z)) hg (by omega) (fun _ _ e => e) (fun h' u tk hk => ⟨.str d.shown, H, I.kept hk, ⟨u, rfl⟩, q⟩) h4
/-- the names that the module leaves to the built-ins -/
structure Free (mg : Str → Option Value) : Prop where
  isi : mg "isinstance" = none
  int : mg "int" = none
  bool : mg "bool" = none
  tuple : mg "tuple" = none
  len : mg "len" = none
  range : mg "range" = none
  min : mg "min" = none
  max : mg "max" = none
  sum : mg "sum" = none
  list : mg "list" = none
  repr : mg "repr" = none
/-- a def that stands under its name and keeps a promise -/
def Cal (P : Program) (w : World) (K : PySem.W.Frag) (mg : Str → Option Value) (base : Heap) (x : Str) (k : Nat) (ps : List Str) (sp : Sp) : Prop :=
  ∃ (f : Addr) (fd : FuncData), FnOk P w K mg base CX0 k f fd ps sp ∧ mg x = some (.ref f) ∧ PySem.W.keepIn K (.ref f) = true ∧ Binds K fd ps []
theorem Cal.mono {P : Program} {w : World} {K : PySem.W.Frag} {mg : Str → Option Value} {base : Heap} {x : Str} {j k : Nat} {ps : List Str} {sp : Sp} (C : Cal P w K mg base x j ps sp) (h : j ≤ k) : Cal P w K mg base x k ps sp := by
  obtain ⟨f, fd, F, r⟩ := C
  exact ⟨f, fd, F.mono h, r⟩
theorem pe_cal {X : Cx} {x : Str} {p pos : Pos} {e : Expr} {es : List Expr} {t : TA} {k : Nat} {ps : List Str} {sp : Sp} (C : Cal X.prog X.w X.K X.mg X.base x k ps sp) (hr : Room k X.A) (hg : Gl X x) (ha : PA X (e :: es) t)
    (hdb : (x == ("__debug__" : Str)) = false := by decide) (he : starEach (e :: es) X.env = (false, eval e X.env) :: starEach es X.env := by rfl) (hpl : ((backTo pos (starEach es X.env)).any fun x => x.fst) = false := by rfl) :
    PE X (.Call (.Name x p) (e :: es) [] pos) (tCall sp [] E0 t) := by
  obtain ⟨f, fd, F, hm, hk, hb⟩ := C
  exact pe_call F hr hg hm hk hb .nil pass0 ha hdb he hpl
/-! the kinds of data -/
def kindD : PyData → String
  | .none => "NoneType"
  | .bool _ => "bool"
  | .int _ => "int"
  | .str _ => "str"
  | .list _ => "list"
  | .tuple _ => "tuple"
  | .dict _ => "dict"
theorem ty_lst {K : PySem.W.Frag} {H : Hp} {a : Addr} {xs : List V} (h : SqL K H a xs) : TyX K H (.ref a) (.type "list") := by
  rcases h with (h | ⟨o, h⟩) | ⟨o, its, n, hk, hc, _⟩
  · exact .base (.lst h)
  · exact .base (.frz h)
  · exact .kList hk hc
theorem ty_tup {K : PySem.W.Frag} {H : Hp} {a : Addr} {xs : List V} (h : SqT K H a xs) : TyX K H (.ref a) (.type "tuple") := by
  rcases h with (h | ⟨o, h⟩) | ⟨o, its, n, hk, hc, _⟩
  · exact .base (.tup h)
  · exact .fTuple h
  · exact .kTuple hk hc
theorem ty_of {K : PySem.W.Frag} {H : Hp} {x : V} {d : PyData} (h : Dp K H x d) : TyX K H x (.type (kindD d)) := by
  cases h with
  | non => exact .base .non
  | bl b => exact .base (.bl b)
  | int i => exact .base (.int i)
  | str s => exact .base (.str s)
  | lst h _ => exact ty_lst h
  | dct h => exact .base (.dK h)
  | tup h _ => exact ty_tup h
def intD : PyData → Bool
  | .int _ => true
  | .bool _ => true
  | _ => false
def boolD : PyData → Bool
  | .bool _ => true
  | _ => false
def tupleD : PyData → Bool
  | .tuple _ => true
  | _ => false
theorem kit_int {K : PySem.W.Frag} (d : PyData) : PySem.W.kitOne K (.type (kindD d)) (.type "int") = some (intD d) := by
  cases d with
  | none => exact kit_ty (show kitB "NoneType" "int" = some false by decide +kernel)
  | bool _ => exact kit_ty (show kitB "bool" "int" = some true by decide +kernel)
  | int _ => exact kit_ty (show kitB "int" "int" = some true by decide +kernel)
  | str _ => exact kit_ty (show kitB "str" "int" = some false by decide +kernel)
  | list _ => exact kit_ty (show kitB "list" "int" = some false by decide +kernel)
  | tuple _ => exact kit_ty (show kitB "tuple" "int" = some false by decide +kernel)
  | dict _ => exact kit_ty (show kitB "dict" "int" = some false by decide +kernel)
theorem kit_bool {K : PySem.W.Frag} (d : PyData) : PySem.W.kitOne K (.type (kindD d)) (.type "bool") = some (boolD d) := by
  cases d with
  | none => exact kit_ty (show kitB "NoneType" "bool" = some false by decide +kernel)
  | bool _ => exact kit_ty (show kitB "bool" "bool" = some true by decide +kernel)
  | int _ => exact kit_ty (show kitB "int" "bool" = some false by decide +kernel)
  | str _ => exact kit_ty (show kitB "str" "bool" = some false by decide +kernel)
  | list _ => exact kit_ty (show kitB "list" "bool" = some false by decide +kernel)
  | tuple _ => exact kit_ty (show kitB "tuple" "bool" = some false by decide +kernel)
  | dict _ => exact kit_ty (show kitB "dict" "bool" = some false by decide +kernel)
theorem kit_tuple {K : PySem.W.Frag} (d : PyData) : PySem.W.kitOne K (.type (kindD d)) (.type "tuple") = some (tupleD d) := by
  cases d with
  | none => exact kit_ty (show kitB "NoneType" "tuple" = some false by decide +kernel)
  | bool _ => exact kit_ty (show kitB "bool" "tuple" = some false by decide +kernel)
  | int _ => exact kit_ty (show kitB "int" "tuple" = some false by decide +kernel)
  | str _ => exact kit_ty (show kitB "str" "tuple" = some false by decide +kernel)
  | list _ => exact kit_ty (show kitB "list" "tuple" = some false by decide +kernel)
  | tuple _ => exact kit_ty (show kitB "tuple" "tuple" = some true by decide +kernel)
  | dict _ => exact kit_ty (show kitB "dict" "tuple" = some false by decide +kernel)
theorem ifT {c : Bool} {A B : Prop} (e : c = true) (h : A) : if c = true then A else B := by rw [if_pos e]; exact h
theorem ifF {c : Bool} {A B : Prop} (e : c = false) (h : B) : if c = true then A else B := by rw [if_neg (by rw [e]; decide)]; exact h
def wholeD : PyData → Bool
  | .int _ => true
  | _ => false
def withinD (lo hi : Int) : PyData → Bool
  | .int i => decide (lo ≤ i) && decide (i ≤ hi)
  | _ => false
def tupD (lo hi : Int) : PyData → Bool
  | .tuple xs => decide (lo ≤ (xs.length : Int)) && decide ((xs.length : Int) ≤ hi)
  | _ => false
theorem dpAll_len {K : PySem.W.Frag} {H : Hp} : ∀ {xs : List V} {ds : List PyData}, DpAll K H xs ds → xs.length = ds.length
  | _, _, .nil => rfl
  | _, _, .cons _ t => by rw [List.length_cons, List.length_cons, dpAll_len t]
theorem dpAll_get {K : PySem.W.Frag} {H : Hp} : ∀ {xs : List V} {ds : List PyData} {i : Nat} {d : PyData}, DpAll K H xs ds → ds[i]? = some d → ∃ x, xs[i]? = some x ∧ Dp K H x d
  | _, _, 0, _, .cons h _, e => by cases e; exact ⟨_, rfl, h⟩
  | _, _, i + 1, _, .cons _ t, e => dpAll_get (i := i) t e
  | _, _, _, _, .nil, e => by cases e
theorem dpAll_get' {K : PySem.W.Frag} {H : Hp} : ∀ {xs : List V} {ds : List PyData} {i : Nat} {x : V}, DpAll K H xs ds → xs[i]? = some x → ∃ d, ds[i]? = some d ∧ Dp K H x d
  | _, _, 0, _, .cons h _, e => by cases e; exact ⟨_, rfl, h⟩
  | _, _, i + 1, _, .cons _ t, e => dpAll_get' (i := i) t e
  | _, _, _, _, .nil, e => by cases e
section
variable {P : Program} {w : World} {K : PySem.W.Frag} {mg : Str → Option Value} {base : Heap} {f : Addr} {fd : FuncData}
def spWhole (K : PySem.W.Frag) : Sp := fun vs H Q _ => ∃ (x : V) (d : PyData), vs = [x] ∧ Dp K H x d ∧ Q (.bl (wholeD d)) H
theorem scWhole : FnScope ["thing"] ["thing"] (defScope sWhole) := ⟨rfl, rfl, rfl, by decide +kernel, rfl, by decide +kernel, by decide +kernel⟩
theorem ok_whole {k : Nat} (F : Fun K "is_whole" "is_whole" sWhole f fd) (T : Free mg) : FnOk P w K mg base CX0 (k + 1) f fd ["thing"] (spWhole K) := by
  refine F.ok scWhole (fun vs H Q E h => ?_) (fun cdv A outer s H vs Q E hr h => ?_)
  · obtain ⟨x, d, rfl, _⟩ := h
    rfl
  obtain ⟨x, d, rfl, hx, q⟩ := h
  refine ⟨_, pss_one (ps_ret (pe_and (pe_callB call_isi rfl T.isi (by decide +kernel) (pa_cons (pv 0) (pa_cons (pe_bltn (v := .ty "int") rfl T.int (by decide +kernel) rfl) pa_nil)))
    (pe_one (pe_not (pe_callB call_isi rfl T.isi (by decide +kernel) (pa_cons (pv 0) (pa_cons (pe_bltn (v := .ty "bool") rfl T.bool (by decide +kernel) rfl) pa_nil))))))), ?_⟩
  have ht := ty_of hx
  refine ⟨_, rfl, x, _, _, _, _, rfl, .ty "int", ht, kit_int d, _, rfl, ?_⟩
  cases d with
  | int i => exact ifT rfl ⟨_, rfl, _, _, _, _, _, rfl, .ty "bool", ht, kit_bool _, _, rfl, q⟩
  | bool b => exact ifT rfl ⟨_, rfl, _, _, _, _, _, rfl, .ty "bool", ht, kit_bool _, _, rfl, q⟩
  | none => exact ifF rfl q
  | str _ => exact ifF rfl q
  | list _ => exact ifF rfl q
  | tuple _ => exact ifF rfl q
  | dict _ => exact ifF rfl q
/-! is_within -/
def spWithin (K : PySem.W.Frag) : Sp := fun vs H Q _ => ∃ (x : V) (d : PyData) (lo hi : Int), vs = [x, .int lo, .int hi] ∧ Dp K H x d ∧ Q (.bl (withinD lo hi d)) H
theorem scWithin : FnScope ["thing", "least", "most"] ["thing", "least", "most"] (defScope sWithin) := ⟨rfl, rfl, rfl, by decide +kernel, rfl, by decide +kernel, by decide +kernel⟩
theorem ok_within {k : Nat} (F : Fun K "is_within" "is_within" sWithin f fd) (cW : Cal P w K mg base "is_whole" k ["thing"] (spWhole K)) : FnOk P w K mg base CX0 (k + 1) f fd ["thing", "least", "most"] (spWithin K) := by
  refine F.ok scWithin (fun vs H Q E h => ?_) (fun cdv A outer s H vs Q E hr h => ?_)
  · obtain ⟨x, d, lo, hi, rfl, _⟩ := h
    rfl
  obtain ⟨x, d, lo, hi, rfl, hx, q⟩ := h
  refine ⟨_, pss_one (ps_ret (pe_and (pe_cal cW hr rfl (pa_cons (pv 0) pa_nil)) (pe_one (pe_chain op_le op_le (pv 1) (pv 0) (pv 2))))), ?_⟩
  refine ⟨_, rfl, x, d, rfl, hx, _, rfl, ?_⟩
  cases d with
  | int i =>
    cases hx
    refine ifT rfl ⟨_, rfl, _, rfl, _, _, rfl, rfl, _, rfl, ?_⟩
    have e : withinD lo hi (.int i) = (decide (lo ≤ i) && decide (i ≤ hi)) := rfl
    rw [e] at q
    by_cases c : lo ≤ i
    · refine ifT (decide_eq_true c) ⟨_, rfl, _, _, rfl, rfl, ?_⟩
      rw [decide_eq_true c, Bool.true_and] at q
      exact q
    · refine ifF (decide_eq_false c) ?_
      rw [decide_eq_false c, Bool.false_and] at q
      exact q
  | bool b => exact ifF rfl q
  | none => exact ifF rfl q
  | str _ => exact ifF rfl q
  | list _ => exact ifF rfl q
  | tuple _ => exact ifF rfl q
  | dict _ => exact ifF rfl q
/-! is_tuple -/
end
theorem atI_at {α : Type} {xs : List α} {i : Int} {v : α} (h0 : 0 ≤ i) (h : xs[i.toNat]? = some v) : atI xs i = some v := by
  have q := atI_nat h
  rw [show ((i.toNat : Nat) : Int) = i by omega] at q
  exact q
/-! heaps: what stands, but for the state's list -/
def StOk (x y z : Int) : Prop := 0 ≤ x ∧ 0 ≤ y ∧ y < 4294967296
def StAt (H : Hp) (st : Addr) : Prop := ∃ x y z, H st = some (.lst [.int x, .int y, .int z]) ∧ StOk x y z
def Kp (st : Addr) (H H' : Hp) : Prop := ∀ b u, b ≠ st → H b = some u → H' b = some u
structure Mv (st : Addr) (H H' : Hp) : Prop where
  kp : Kp st H H'
  sa : StAt H' st
/-- what is no list stands -/
def KT (H H' : Hp) : Prop := ∀ b u, H b = some u → (∀ l, u ≠ .lst l) → H' b = some u
theorem Kp.refl (st : Addr) (H : Hp) : Kp st H H := fun _ _ _ h => h
theorem Kp.trans {st : Addr} {H H1 H2 : Hp} (a : Kp st H H1) (b : Kp st H1 H2) : Kp st H H2 := fun c u n h => b c u n (a c u n h)
theorem Kp.of_same {st : Addr} {H H' : Hp} (a : Same H H') : Kp st H H' := fun c u _ h => a c u h
theorem KT.refl (H : Hp) : KT H H := fun _ _ h _ => h
theorem KT.trans {H H1 H2 : Hp} (a : KT H H1) (b : KT H1 H2) : KT H H2 := fun c u h n => b c u (a c u h n) n
theorem KT.of_same {H H' : Hp} (a : Same H H') : KT H H' := fun c u h _ => a c u h
theorem Kp.kt {st : Addr} {H H' : Hp} (k : Kp st H H') (s : StAt H st) : KT H H' := fun b u h n => k b u (fun e => by
  obtain ⟨x, y, z, hs, _⟩ := s
  rw [e, hs] at h
  cases h
  exact n _ rfl) h
theorem KT.upd {H : Hp} {p : Addr} {l l' : List V} (h : H p = some (.lst l)) : KT H (upd H p (.lst l')) := fun b u hb n => by
  by_cases e : b = p
  · subst e
    rw [h] at hb
    cases hb
    exact absurd rfl (n l)
  · rw [upd_ne e]
    exact hb
theorem same_new {H : Hp} {p : Addr} (h : H p = none) (o : HO) : Same H (upd H p o) := fun b u q => by rw [upd_ne (ne_of_none q h)]; exact q
theorem Kp.upd {st : Addr} {H0 H : Hp} {p : Addr} {o : HO} (k : Kp st H0 H) (h : H0 p = none) : Kp st H0 (upd H p o) := fun b u n hb => by
  rw [upd_ne (ne_of_none hb h)]
  exact k b u n hb
theorem Kp.free {st : Addr} {H H' : Hp} (k : Kp st H H') {p : Addr} (n : p ≠ st) (h : H' p = none) : H p = none := by
  cases e : H p with
  | none => rfl
  | some u =>
    rw [k p u n e] at h
    cases h
theorem StAt.some {H : Hp} {st : Addr} (s : StAt H st) : ∃ l, H st = some (.lst l) := by
  obtain ⟨x, y, z, h, _⟩ := s
  exact ⟨_, h⟩
theorem StAt.ne {H : Hp} {st p : Addr} (s : StAt H st) (h : H p = none) : p ≠ st := fun e => by
  obtain ⟨l, hs⟩ := s.some
  rw [e, hs] at h
  cases h
theorem StAt.same {H H' : Hp} {st : Addr} (s : StAt H st) (k : Same H H') : StAt H' st := by
  obtain ⟨x, y, z, h, ok⟩ := s
  exact ⟨x, y, z, k _ _ h, ok⟩
theorem StAt.upd {H : Hp} {st p : Addr} {o : HO} (s : StAt H st) (n : p ≠ st) : StAt (upd H p o) st := by
  obtain ⟨x, y, z, h, ok⟩ := s
  exact ⟨x, y, z, by rw [upd_ne n.symm]; exact h, ok⟩
/-! data that is tuples, ints and texts alone -/
mutual
def tupOnly : PyData → Bool
  | .int _ | .str _ => true
  | .tuple xs => tupOnlyAll xs
  | _ => false
def tupOnlyAll : List PyData → Bool
  | [] => true
  | x :: r => tupOnly x && tupOnlyAll r
end
theorem sqT_kt {K : PySem.W.Frag} {H H' : Hp} {a : Addr} {xs : List V} (k : KT H H') (h : SqT K H a xs) : SqT K H' a xs := by
  rcases h with (h | ⟨o, h⟩) | h
  · exact .inl (.inl (k _ _ h (fun l z => by cases z)))
  · exact .inl (.inr ⟨o, k _ _ h (fun l z => by cases z)⟩)
  · exact .inr h
mutual
theorem dp_kt {K : PySem.W.Frag} {H H' : Hp} (k : KT H H') : ∀ (d : PyData) (v : V), tupOnly d = true → Dp K H v d → Dp K H' v d
  | .int i, v, _, h => by cases h; exact .int i
  | .str x, v, _, h => by cases h; exact .str x
  | .tuple ds, v, t, h => by
    cases h with
    | tup hs ha => exact .tup (sqT_kt k hs) (dpAll_kt k ds _ (by simpa only [tupOnly] using t) ha)
  | .none, v, t, h => by simp [tupOnly] at t
  | .bool _, v, t, h => by simp [tupOnly] at t
  | .list _, v, t, h => by simp [tupOnly] at t
  | .dict _, v, t, h => by simp [tupOnly] at t
theorem dpAll_kt {K : PySem.W.Frag} {H H' : Hp} (k : KT H H') : ∀ (ds : List PyData) (vs : List V), tupOnlyAll ds = true → DpAll K H vs ds → DpAll K H' vs ds
  | [], vs, _, h => by cases h; exact .nil
  | d :: ds, vs, t, h => by
    simp only [tupOnlyAll, Bool.and_eq_true] at t
    cases h with
    | cons h1 h2 => exact .cons (dp_kt k d _ t.1 h1) (dpAll_kt k ds _ t.2 h2)
end
theorem dpAll_snoc {K : PySem.W.Frag} {H : Hp} {v : V} {d : PyData} (h : Dp K H v d) : ∀ {vs : List V} {ds : List PyData}, DpAll K H vs ds → DpAll K H (vs ++ [v]) (ds ++ [d])
  | _, _, .nil => .cons h .nil
  | _, _, .cons a t => .cons a (dpAll_snoc h t)
theorem dpAll_append {K : PySem.W.Frag} {H : Hp} {ws : List V} {es : List PyData} (h : DpAll K H ws es) : ∀ {vs : List V} {ds : List PyData}, DpAll K H vs ds → DpAll K H (vs ++ ws) (ds ++ es)
  | _, _, .nil => h
  | _, _, .cons a t => .cons a (dpAll_append h t)
theorem tupOnly_snoc : ∀ {ds : List PyData} {d : PyData}, tupOnlyAll ds = true → tupOnly d = true → tupOnlyAll (ds ++ [d]) = true
  | [], d, _, h => by simp [tupOnlyAll, h]
  | x :: r, d, t, h => by
    simp only [tupOnlyAll, Bool.and_eq_true, List.cons_append] at *
    exact ⟨t.1, tupOnly_snoc t.2 h⟩
theorem small {n : Nat} (h : n ≤ 1000) : n ≤ sizeLine := Nat.le_of_lt (small1000 h)
section
variable {P : Program} {w : World} {K : PySem.W.Frag} {mg : Str → Option Value} {base : Heap} {f : Addr} {fd : FuncData}
/-! _law_cell_at -/
def spCell (K : PySem.W.Frag) : Sp := fun vs H Q _ => ∃ (a : Addr) (ns : List Int) (i : Int), vs = [.ref a, .int i] ∧ SqL K H a (ns.map V.int) ∧ 0 ≤ i ∧ ∀ n : Int, Q (.int n) H
theorem scCell : FnScope ["_law_script", "_law_k"] ["_law_script", "_law_k"] (defScope sCell) := ⟨rfl, rfl, rfl, by decide +kernel, rfl, by decide +kernel, by decide +kernel⟩
theorem ok_cell {k : Nat} (F : Fun K "_law_cell_at" "_law_cell_at" sCell f fd) (T : Free mg) : FnOk P w K mg base CX0 (k + 1) f fd ["_law_script", "_law_k"] (spCell K) := by
  refine F.ok scCell (fun vs H Q E h => ?_) (fun cdv A outer s H vs Q E hr h => ?_)
  · obtain ⟨a, ns, i, rfl, _⟩ := h
    rfl
  obtain ⟨a, ns, i, rfl, hs, h0, q⟩ := h
  refine ⟨_, pss_cons (ps_if (pt_cmpR op_lt (pv 1) (pe_callB call_len_seq rfl T.len PySem.boot_len (pa_cons (pv 0) pa_nil)) (nomark _)) (pss_one (ps_ret (pe_ix ix_list (pv 0) (pv 1) (fun _ _ => rfl)))) pss_nil) (pss_one (ps_ret pe_int)), ?_⟩
  refine ⟨_, rfl, _, rfl, a, _, rfl, .inl hs, _, _, rfl, rfl, _, rfl, ?_⟩
  refine ite2 (fun c => ?_) (fun c => q 0)
  have c : i < (((ns.map V.int).length : Nat) : Int) := of_decide_eq_true c
  have hk : i.toNat < ns.length := by rw [List.length_map] at c; omega
  exact ⟨_, rfl, _, rfl, a, _, i, .int ns[i.toNat], rfl, rfl, hs, atI_at h0 (by rw [List.getElem?_map, List.getElem?_eq_getElem hk] <;> rfl), q _⟩
/-! _law_state -/
def spState (K : PySem.W.Frag) : Sp := fun vs H Q _ => ∃ (a : Addr) (ns : List Int) (i : Int), vs = [.ref a, .int i] ∧ SqL K H a (ns.map V.int) ∧ 0 ≤ i ∧ ∀ p x y z, H p = none → StOk x y z → Q (.ref p) (upd H p (.lst [.int x, .int y, .int z]))
theorem scState : FnScope ["_law_script", "_law_k", "_law_cell"] ["_law_script", "_law_k"] (defScope sState) := ⟨rfl, rfl, rfl, by decide +kernel, rfl, by decide +kernel, by decide +kernel⟩
theorem ok_state {k : Nat} (F : Fun K "_law_state" "_law_state" sState f fd) (T : Free mg) (cC : Cal P w K mg base "_law_cell_at" k ["_law_script", "_law_k"] (spCell K)) : FnOk P w K mg base CX0 (k + 1) f fd ["_law_script", "_law_k"] (spState K) := by
  refine F.ok scState (fun vs H Q E h => ?_) (fun cdv A outer s H vs Q E hr h => ?_)
  · obtain ⟨a, ns, i, rfl, _⟩ := h
    rfl
  obtain ⟨a, ns, i, rfl, hs, h0, q⟩ := h
  refine ⟨_, pss_cons (ps_set (i := 2) scState.nd rfl (.inl rfl) (pe_cal cC hr rfl (pa_cons (pv 0) (pa_cons (pv 1) pa_nil))))
    (pss_one (ps_ret (pe_lst (pa_cons (pe_callB (call_max2 rfl) rfl T.max (by decide +kernel) (pa_cons pe_int (pa_cons (pe_op op_sub (pv 2) (pe_op op_pow pe_int pe_int)) pa_nil)))
      (pa_cons (pe_op op_add (pe_op op_mod (pv 2) pe_int) pe_int) (pa_cons pe_int pa_nil)))))), ?_⟩
  refine ⟨_, rfl, _, rfl, a, ns, i, rfl, hs, h0, fun n => ?_⟩
  refine ⟨_, rfl, _, _, rfl, rfl, ⟨by decide, by decide, by decide⟩, _, _, rfl, rfl, _, _, rfl, ?_⟩
  refine ⟨_, rfl, _, _, rfl, rfl, (by show (0 : Int) < 2147483629; decide), _, _, rfl, rfl, small (by show 3 ≤ 1000; decide), fun p hp => ?_⟩
  refine q p _ _ _ hp ⟨?_, ?_, ?_⟩
  · split <;> omega
  · have := Int.emod_nonneg n (show (2147483629 : Int) ≠ 0 by decide)
    omega
  · have := Int.emod_lt_of_pos n (show (0 : Int) < 2147483629 by decide)
    omega
/-! _law_choice -/
def spChoice : Sp := fun vs H Q _ => ∃ (st : Addr) (many : Int), vs = [.ref st, .int many] ∧ StAt H st ∧ 0 < many ∧ many < 1000000 ∧ ∀ r H', 0 ≤ r → r < many → Mv st H H' → Q (.int r) H'
theorem scChoice : FnScope ["_law_state_here", "_law_many", "_law_found", "_law_mixed"] ["_law_state_here", "_law_many"] (defScope sChoice) := ⟨rfl, rfl, rfl, by decide +kernel, rfl, by decide +kernel, by decide +kernel⟩
theorem mv_upd {H : Hp} {st : Addr} {x y z : Int} (ok : StOk x y z) : Mv st H (upd H st (.lst [.int x, .int y, .int z])) :=
  ⟨fun b u n h => by rw [upd_ne n]; exact h, ⟨x, y, z, upd_same, ok⟩⟩
theorem ok_choice {k : Nat} (F : Fun K "_law_choice" "_law_choice" sChoice f fd) : FnOk P w K mg base CX0 (k + 1) f fd ["_law_state_here", "_law_many"] spChoice := by
  refine F.ok scChoice (fun vs H Q E h => ?_) (fun cdv A outer s H vs Q E hr h => ?_)
  · obtain ⟨st, many, rfl, _⟩ := h
    rfl
  obtain ⟨st, many, rfl, ⟨x, y, z, hst, hx, hy, hy2⟩, h0, hm, q⟩ := h
  refine ⟨_, pss_cons (ps_if (pt_cmpR op_gt (pe_ix ix_list (pv 0) pe_int (fun _ _ => rfl)) pe_int (nomark _))
      (pss_cons (ps_set (i := 2) scChoice.nd rfl (.inl rfl) (pe_op op_mod (pe_ix ix_list (pv 0) pe_int (fun _ _ => rfl)) (pv 1)))
      (pss_cons (ps_asg (pe_op op_fdiv (pe_ix ix_list (pv 0) pe_int (fun _ _ => rfl)) (pv 1)) (pg_sub (pv 0) pe_int set_list))
      (pss_one (ps_ret (pv 2))))) pss_nil)
    (pss_cons (ps_asg (pe_op op_add (pe_ix ix_list (pv 0) pe_int (fun _ _ => rfl)) pe_int) (pg_sub (pv 0) pe_int set_list))
    (pss_cons (ps_asg (pe_op op_mod (pe_op op_add (pe_op op_add (pe_op op_mul (pe_ix ix_list (pv 0) pe_int (fun _ _ => rfl)) pe_int) pe_int) (pe_ix ix_list (pv 0) pe_int (fun _ _ => rfl))) pe_int) (pg_sub (pv 0) pe_int set_list))
    (pss_cons (ps_set (i := 3) scChoice.nd rfl (.inl rfl) (pe_op op_mod (pe_op op_add (pe_op op_add (pe_op op_mul (pe_ix ix_list (pv 0) pe_int (fun _ _ => rfl)) (pe_ix ix_list (pv 0) pe_int (fun _ _ => rfl))) (pe_op op_mul pe_int (pe_ix ix_list (pv 0) pe_int (fun _ _ => rfl)))) pe_int) pe_int))
    (pss_cons (ps_set (i := 3) scChoice.nd rfl (.inl rfl) (pe_op op_mod (pe_op op_add (pe_op op_mul (pv 3) (pv 3)) (pe_op op_mul pe_int (pv 3))) pe_int))
    (pss_one (ps_ret (pe_op op_mod (pe_op op_fdiv (pv 3) pe_int) (pv 1)))))))), ?_⟩
  have rd : ∀ {H : Hp} {x y z : Int}, H st = some (.lst [.int x, .int y, .int z]) → SqL K H st [.int x, .int y, .int z] := fun h => SqL.of h
  refine ⟨_, rfl, st, _, 0, _, rfl, rfl, rd hst, rfl, _, _, rfl, rfl, _, rfl, ?_⟩
  refine ite2 (fun c => ?_) (fun c => ?_)
  · refine ⟨_, rfl, st, _, 0, _, rfl, rfl, rd hst, rfl, _, rfl, _, _, rfl, rfl, h0, ?_⟩
    refine ⟨_, rfl, st, _, 0, _, rfl, rfl, rd hst, rfl, _, rfl, _, _, rfl, rfl, ⟨h0, by omega⟩, ?_⟩
    refine ⟨_, rfl, st, _, 0, 0, rfl, rfl, hst, rfl, ?_⟩
    refine ⟨_, rfl, q _ _ (Int.emod_nonneg x (by omega)) (Int.emod_lt_of_pos x h0) (mv_upd (x := x / many) (y := y) (z := z) ⟨Int.ediv_nonneg hx (by omega), hy, hy2⟩)⟩
  · refine ⟨_, rfl, st, _, 2, _, rfl, rfl, rd hst, rfl, _, _, rfl, rfl, ?_⟩
    refine ⟨_, rfl, st, _, 2, 2, rfl, rfl, hst, rfl, ?_⟩
    refine ⟨_, rfl, st, _, 1, _, rfl, rfl, rd upd_same, rfl, _, _, rfl, rfl, .inl ⟨by omega, by omega⟩, _, _, rfl, rfl, _, rfl, st, _, 2, _, rfl, rfl, rd upd_same, rfl, _, _, rfl, rfl, _, _, rfl, rfl, (by show (0 : Int) < 2147483647; decide), ?_⟩
    refine ⟨_, rfl, st, _, 1, 1, rfl, rfl, upd_same, rfl, ?_⟩
    rw [upd_upd]
    have b1 := Int.emod_nonneg (y * 48271 + 29 + (z + 1)) (show (2147483647 : Int) ≠ 0 by decide)
    have b2 := Int.emod_lt_of_pos (y * 48271 + 29 + (z + 1)) (show (0 : Int) < 2147483647 by decide)
    generalize hv : (y * 48271 + 29 + (z + 1)) % 2147483647 = v at b1 b2
    show tSeq _ _ _ _ (upd H st (.lst [.int x, .int ((y * 48271 + 29 + (z + 1)) % 2147483647), .int (z + 1)]))
    rw [hv]
    refine ⟨_, rfl, st, _, 1, _, rfl, rfl, rd upd_same, rfl, _, rfl, st, _, 1, _, rfl, rfl, rd upd_same, rfl, _, _, rfl, rfl, .inl ⟨by omega, by omega⟩, _, rfl, st, _, 1, _, rfl, rfl, rd upd_same, rfl, _, _, rfl, rfl, .inl ⟨by decide, by decide⟩, _, _, rfl, rfl, _, _, rfl, rfl, _, _, rfl, rfl, (by show (0 : Int) < 2147483629; decide), ?_⟩
    have c1 := Int.emod_nonneg (v * v + 39373 * v + 7) (show (2147483629 : Int) ≠ 0 by decide)
    have c2 := Int.emod_lt_of_pos (v * v + 39373 * v + 7) (show (0 : Int) < 2147483629 by decide)
    refine ⟨_, rfl, _, rfl, _, _, rfl, rfl, .inl ⟨by omega, by omega⟩, _, rfl, _, _, rfl, rfl, .inl ⟨by decide, by decide⟩, _, _, rfl, rfl, _, _, rfl, rfl, (by show (0 : Int) < 2147483587; decide), ?_⟩
    refine ⟨_, rfl, _, _, rfl, rfl, ⟨by decide, by decide⟩, _, rfl, _, _, rfl, rfl, h0, ?_⟩
    exact q _ _ (Int.emod_nonneg _ (by omega)) (Int.emod_lt_of_pos _ h0) (mv_upd ⟨hx, b1, by omega⟩)
end
section
open PySem.Spec PyProof.Rows LamX
theorem okC {P : Program} {w : World} {K : PySem.W.Frag} {mg : Str → Option Value} {base : Heap} {x qual : Str} {st : Stmt} {f c : Addr} {fd : FuncData} {N ps : List Str} {k : Nat} {sp : Sp} (F : Fun K x qual st f fd) (hc : fd.code = .ref c) (S : FnScope N ps (defScope st)) (len : ∀ vs H Q E, sp vs H Q E → vs.length = ps.length)
    (hbody : ∀ (A : Around) (outer : List Env) (s : Shared) (H : Hp) (vs : List V) (Q : VK) (E : XK), Room k (A.deeper (envOfC qual (defScope st) s.heap.objs.size f (.ref c))) → sp vs H Q E →
      ∃ t, PSs (cxOf CX0 P w K mg base N qual (defScope st) f (.ref c) A outer s H E).nox (defBody st) t ∧ t { nx := fun _ H' => Q .non H', rt := Q } (L2.start N vs) H) : FnOk P w K mg base CX0 (k + 1) f fd ps sp := by
  obtain ⟨oc, od, kV, doc, pm, an, cdv, ct, osl, rfl, lk, hcd⟩ := F.ex
  obtain rfl : cdv = .ref c := hc
  refine fn_of lk hcd S len fun A outer s H vs Q E hr hsp => ?_
  obtain ⟨t, h, q⟩ := hbody A outer s H vs Q E hr hsp
  exact ⟨t, h.nox, q⟩
mutual
theorem dp_ext {K : PySem.W.Frag} {H H' : Hp} (e : ExtN H H') : ∀ (d : PyData) (v : V), Dp K H v d → Dp K H' v d
  | .none, v, h => by cases h; exact .non
  | .bool b, v, h => by cases h; exact .bl b
  | .int i, v, h => by cases h; exact .int i
  | .str x, v, h => by cases h; exact .str x
  | .list es, v, h => by
    cases h with
    | lst at_ each =>
      refine .lst ?_ (dp_exts e es _ each)
      rcases at_ with (z | ⟨o, z⟩) | z
      · exact .inl (.inl (e _ _ z fun ps q => by cases q))
      · exact .inl (.inr ⟨o, e _ _ z fun ps q => by cases q⟩)
      · exact .inr z
  | .tuple es, v, h => by
    cases h with
    | tup at_ each =>
      refine .tup ?_ (dp_exts e es _ each)
      rcases at_ with (z | ⟨o, z⟩) | z
      · exact .inl (.inl (e _ _ z fun ps q => by cases q))
      · exact .inl (.inr ⟨o, e _ _ z fun ps q => by cases q⟩)
      · exact .inr z
  | .dict kvs, v, h => by
    cases h with
    | dct at_ => exact .dct (e _ _ at_ fun ps q => by cases q)
theorem dp_exts {K : PySem.W.Frag} {H H' : Hp} (e : ExtN H H') : ∀ (ds : List PyData) (vs : List V), DpAll K H vs ds → DpAll K H' vs ds
  | [], vs, h => by cases h; exact .nil
  | d :: ds, vs, h => by
    cases h with
    | cons one more => exact .cons (dp_ext e d _ one) (dp_exts e ds _ more)
end
theorem tabs_upd {T : List (Addr × Str)} {H : Hp} {fa : Addr} {l l' : List V} (t : Tabs T H) (h : H fa = some (.lst l)) : Tabs T (upd H fa (.lst l')) := by
  intro p hp
  obtain ⟨ps, h1, h2, h3⟩ := t p hp
  refine ⟨ps, ?_, h2, fun pos cv hc => ?_⟩
  · rw [upd_ne (show p.1 ≠ fa from fun z => by rw [z, h] at h1; cases h1)]
    exact h1
  · obtain ⟨c, e1, e2⟩ := h3 pos cv hc
    refine ⟨c, e1, ?_⟩
    rw [upd_ne (show c ≠ fa from fun z => by rw [z, h] at e2; cases e2)]
    exact e2
theorem ext_upd {H0 H : Hp} {fa : Addr} {o : HO} (e : ExtN H0 H) (h : ∀ u, H0 fa = some u → ∃ ps, u = .tbl ps) : ExtN H0 (upd H fa o) := fun b u hb n => by
  have nb : b ≠ fa := fun z => by
    rw [z] at hb
    obtain ⟨ps, q⟩ := h u hb
    exact n ps q
  rw [upd_ne nb]
  exact e b u hb n
theorem ext_lst {H H' : Hp} {p : Addr} {l : List V} (e : ExtN H H') (h : H p = some (.lst l)) : H' p = some (.lst l) := e _ _ h fun ps q => by cases q
theorem ext_same {H H' : Hp} (s : Same H H') : ExtN H H' := fun b o h _ => s b o h
end
/-! all(.. for ..) and any(.. for ..), whatever is walked, the element may call defs -/
section
open PySem.Spec PyProof.Rows
/-- the generator expression's own frame, woken from the frames of X -/
def gxCx (X : Cx) (A : Around) (s : Shared) (H : Hp) (ce : Env) (fp : List Addr) (pn : List (Addr × Obj)) : Cx where
  prog := X.prog
  w := X.w
  K := X.K
  mg := X.mg
  base := X.base
  A := A
  N := X.N
  s_0 := s
  H_0 := H
  env := ce
  outer := X.stack
  stack := ce :: X.stack
  ex := fp
  fn := fun _ => false
  calm := true
  pn := pn
  xe := fun _ _ => False
theorem inv_sh {X : Cx} {pins : List (Addr × Obj)} {σ : L2.St} {H : Hp} {s s' : Shared} (I : Inv X pins σ H s) (h1 : s'.heap = s.heap) (h2 : s'.os = s.os) (h3 : AllBare s'.gens) : Inv X pins σ H s' :=
  ⟨I.ok, h2.trans I.os, h3, by rw [h1]; exact I.base, by rw [h1]; exact I.loc, by rw [h1]; exact I.cell, I.free, I.freeC, by rw [h1]; exact I.pin, by rw [h1]; exact I.hok, I.len⟩
section
variable {X : Cx} {pins : List (Addr × Obj)} {σ : L2.St} {H : Hp} {s : Shared}
theorem gx_start {A : Around} {scope : Scope} {own : List (Str × Nat)} {fp : List Addr} {code : Value} {a : Addr} {go : Obj} {h5 : Heap} {g5 : Array GenState} {t5 : Nat} {m0 : Str → Option Value}
    (I : Inv X pins σ H s) (hN : X.N.Nodup) (ok : BlkOk X.N X.env.scope scope own) (nocell : ∀ y ∈ scope.names, y.2 ≠ .cell) (hA : A.handled = none)
    (hfr : A.frames = some (genEnv scope (cloFrom X.env.cells scope.names []) s.heap.objs.size code builtinsNs X.env :: X.stack)) (hfp : ∀ b ∈ fp, FpOk X pins H b ∧ b < s.heap.objs.size)
    (hns : h5.Ns s.heap.objs.size m0) (kp : ∀ b o, s.heap.get? b = some o → h5.get? b = some o) (hgo : h5.get? a = some go) (ha : s.heap.objs.size < a) (hgd : ∀ v, go.data ≠ .cell v) (hg : AllBare g5) :
    Inv (gxCx X A s H (genEnv scope (cloFrom X.env.cells scope.names []) s.heap.objs.size code builtinsNs X.env) fp [(a, go)]) [] (wipe σ (own.map (·.2))) H { s with heap := h5, gens := g5, toks := t5 } := by
  have cm : ∀ {y c}, (cloFrom X.env.cells scope.names []).lookup y = some c → X.env.cells.lookup y = some c := fun {y c} e => by
    rcases cloFrom_mem (PySem.mem_of_lookup e) with hm | ⟨h1, h2⟩
    · cases hm
    · have hy : ∃ c1, X.env.cells.lookup y = some c1 := by
        rcases ok.free _ h1 rfl with k | k
        · exact I.ok.has _ (.inl k)
        · exact I.ok.has _ (.inr k)
      obtain ⟨c1, hc⟩ := hy
      have e2 : c = c1 := by
        rw [h2, hc] <;> rfl
      rw [e2]
      exact hc
  have look : ∀ {y}, scope.names.lookup y = some .free → ∃ c, (cloFrom X.env.cells scope.names []).lookup y = some c := fun {y} hl =>
    mem_lookup (cloFrom_has (cells := X.env.cells) (acc := []) (PySem.mem_of_lookup hl : (y, NameKind.free) ∈ scope.names))
  have cellK : ∀ {c : Addr} {v : Option Value}, s.heap.IsCell c v → h5.IsCell c v := fun {c v} ⟨o, ho, hd⟩ => ⟨o, kp _ _ ho, hd⟩
  refine ⟨⟨I.ok.mod, ok.kind, I.ok.glob, rfl, Nat.le_refl _, fun y z c e1 e2 => I.ok.inj y z c (cm e1) (cm e2), fun y hy => ?_, fun y c z _ => ?_, fun _ => hA, hfr, .inr ⟨rfl, rfl⟩, fun b hb => ⟨?_, fun y c e => ?_⟩, I.bs, Nat.le_trans I.ok.bsz I.sz, fun b o e hb => ?_, fun b hb z => ?_, I.stack, I.stkFree⟩,
    rfl, hg, Un.kept kp, ⟨m0, hns, fun i y v e1 e2 e3 => ?_⟩, fun y c e => ?_, I.hok.fresh (Nat.le_refl _), fun y c e => I.freeC y c (cm e), fun p hp => ?_, I.hok.kept kp, ?_⟩
  · have hy : scope.names.lookup y = some .cell ∨ scope.names.lookup y = some .free := hy
    rcases hy with hy | hy
    · exact absurd rfl (nocell _ (PySem.mem_of_lookup hy))
    · exact look hy
  · have z : false = true := z
    cases z
  · exact Nat.ne_of_lt (hfp b hb).2
  · exact (hfp b hb).1.2.2.2.2.1 y c (cm e)
  · rcases (hfp b hb).1.2.2.2.1 with z | z
    · exact I.ok.noex b o e z
    · have h1 : b < X.base.objs.size := Heap.lt_size e
      exact absurd (Nat.lt_of_lt_of_le h1 (Nat.le_trans I.ok.bsz z)) (Nat.lt_irrefl _)
  · rcases List.mem_cons.mp (I.stkSub b z) with z | z
    · exact (hfp b hb).1.2.1 z
    · exact (hfp b hb).1.2.2.1 z
  · obtain ⟨e2, nv⟩ := wipe_some e2
    have e3 : Vis scope y := e3
    rcases e3 with k | k | k
    · rcases ok.own _ (PySem.mem_of_lookup k) (.inl rfl) with z | z
      · obtain ⟨p, hp, ep⟩ := List.mem_map.mp z
        have e4 := ok.ix p hp
        rw [show p.1 = y from ep] at e4
        exact absurd (List.mem_map.mpr ⟨p, hp, nodup_ix hN e4 e1⟩) nv
      · exact absurd (List.mem_of_getElem? e1) z
    · exact absurd rfl (nocell _ (PySem.mem_of_lookup k))
    · obtain ⟨m, hn, hl⟩ := I.loc
      have hvis : Vis X.env.scope y := (ok.free _ (PySem.mem_of_lookup k) rfl).elim (fun k => .inr (.inl k)) (fun k => .inr (.inr k))
      obtain ⟨u, r, q⟩ := hl i y v e1 e2 hvis
      obtain ⟨c2, h2⟩ := look k
      refine ⟨u, r, .inr ⟨.inr k, c2, h2, ?_⟩⟩
      have c1 := cm h2
      rcases q with ⟨k', _⟩ | ⟨_, c3, e', z⟩
      · have k' : X.env.scope.names.lookup y = some .local := k'
        rcases ok.free _ (PySem.mem_of_lookup k) rfl with k2 | k2 <;> rw [show X.env.scope.names.lookup y = _ from k2] at k' <;> cases k'
      · rw [c1] at e'
        cases e'
        exact cellK z
  · obtain ⟨u, z⟩ := I.cell y c (cm e)
    exact ⟨u, cellK z⟩
  · have hp : p ∈ [(a, go)] ++ [] := hp
    rw [List.append_nil] at hp
    rw [List.mem_singleton.mp hp]
    refine ⟨hgo, I.hok.fresh (Nat.le_of_lt ha), Nat.ne_of_gt ha, fun z => ?_, hgd⟩
    rcases List.mem_cons.mp (I.stkSub a z) with z | z
    · have h1 := I.lt
      rw [z] at ha
      exact absurd (Nat.lt_trans ha h1) (Nat.lt_irrefl _)
    · exact I.nofs (Nat.le_of_lt ha) z
  · rw [wipe_length]
    exact I.len
end
/-- what stands where the generator ends, and where it hands out a truth -/
def GxE (Z : Cx) (σ0 : L2.St) (Qe : Hp → Prop) : Nat → Shared → Shared → Prop := fun _ _ s1 => ∃ H, Inv Z [] σ0 H s1 ∧ Qe H
def GxY (Z : Cx) (e : Bool) (Qn : Hp → Prop) : Protocol := fun _ _ v s kap => ∃ (c : Bool) (H : Hp) (σ' : L2.St), v = .bool c ∧ Inv Z [] σ' H s ∧ (c = e → ∀ s' : Shared, s'.heap = s.heap → s'.os = s.os → AllBare s'.gens → kap (.send .none) s') ∧ (c ≠ e → Qn H)
abbrev gxTurn (J : It) (g : TG) (tt : TT) (te : TE) (vs : List Nat) (σ0 : L2.St) (e : Bool) (Qe Qn : Hp → Prop) (W : Nat → Nat → Hp → Prop) : Prop :=
  ∀ i m H, W i m H → (J.stop i H ∧ Qe H) ∨ (J.go i H ∧ ∃ Nx : Hp → Prop, (∀ H', Nx H' → ∃ m', m' < m ∧ W (i + 1) m' H') ∧ ∀ x H', J.yld i H x H' → g x σ0 H' fun σ2 H2 => wipe σ2 vs = σ0 ∧ tt σ2 H2 fun b H3 =>
    if b = true then te σ2 H3 fun y H4 => ∃ c, y = .bl c ∧ (c = e → Nx H4) ∧ (c ≠ e → Qn H4) else Nx H3)
section
variable {X : Cx} {A0 : Around} {s1 : Shared} {H1 : Hp} {ce : Env} {fp : List Addr} {pn : List (Addr × Obj)} {elt tg iter : Expr} {ifs : List Expr} {scope : Scope} {gpos : Pos} {it : Addr} {tn : Nat → Heap → Prop} {J : It} {g : TG} {tt : TT} {te : TE} {vs : List Nat} {σ0 : L2.St} {e : Bool} {Qe Qn : Hp → Prop} {W : Nat → Nat → Hp → Prop}
abbrev gxCode (elt tg iter : Expr) (ifs : List Expr) (scope : Scope) (gpos : Pos) (it : Addr) (ce : Env) : Code := .compLoop (.GeneratorExp elt [⟨tg, iter, ifs, 0⟩] scope gpos) 0 (.ref it) .none ce
abbrev gxZ (X : Cx) (A0 : Around) (s1 : Shared) (H1 : Hp) (ce : Env) (fp : List Addr) (pn : List (Addr × Obj)) (elt tg iter : Expr) (ifs : List Expr) (scope : Scope) (gpos : Pos) (it : Addr) : Cx := gxCx X (A0.over (gxCode elt tg iter ifs scope gpos it ce) []) s1 H1 ce fp pn
theorem gx_fp {Z : Cx} (hZ : Z = gxZ X A0 s1 H1 ce fp pn elt tg iter ifs scope gpos it) (hpn : ∀ p ∈ pn, p.1 ∉ fp) {σ' : L2.St} {H' : Hp} {s' : Shared} (I : Inv Z [] σ' H' s') (hn : ∀ b ∈ fp, H' b = none) : ∀ b ∈ fp, FpOk Z [] H' b := by
  subst hZ
  intro b hb
  refine ⟨hn b hb, (I.ok.exf b hb).1, I.ok.exfs b hb, .inl hb, fun x c e => (I.ok.exf b hb).2 x c e, fun p hp z => ?_⟩
  have hp : p ∈ pn := by
    rcases List.mem_append.mp hp with hp | hp
    · exact hp
    · cases hp
  exact hpn p hp (by rw [z]; exact hb)
theorem seg_gx {Z : Cx} (hZ : Z = gxZ X A0 s1 H1 ce fp pn elt tg iter ifs scope gpos it) (hpn : ∀ p ∈ pn, p.1 ∉ fp) (hco : ce.scope.isCoroutine = false) (T : Turn X.prog X.w X.K tg J fp it tn) (pg : PG Z tg g) (pt : PTs Z ifs tt) (pe : PE Z elt te) (turn : gxTurn J g tt te vs σ0 e Qe Qn W) :
    ∀ (m i n : Nat) (s₀ s : Shared) (H : Hp), m < n → W i m H → Inv Z [] σ0 H s → tn i s.heap → (∀ b ∈ fp, H b = none) →
      Seg (model X.prog X.w) A0 (fun n s₀ r s1 => r = .ok .next ∧ GxE Z σ0 Qe n s₀ s1) (GxY Z e Qn) n s₀ (gxCode elt tg iter ifs scope gpos it ce) ((model X.prog X.w).den (gxCode elt tg iter ifs scope gpos it ce)) [] s := by
  intro m
  induction m using Nat.strongRecOn with
  | ind m ih =>
    intro i n s₀ s H hmn w0 I st nf
    have fpo := gx_fp hZ hpn I nf
    show Seg _ A0 _ _ _ s₀ _ ((compTurn (.GeneratorExp elt [⟨tg, iter, ifs, 0⟩] scope gpos) 0 (.ref it) .none ce).onRaise (leaving ce)) [] s
    rw [compTurn_gen, Sem.onRaise_eq_wrap]
    refine seg_bind_wrap (wpAny_standAt ?_)
    rcases turn i m H w0 with ⟨stop, qe⟩ | ⟨go, Nx, hNx, step⟩
    · have td := T.done Z (by rw [hZ]; rfl) (by rw [hZ]; rfl) (by rw [hZ]; rfl) (by rw [hZ]; rfl) i [] s σ0 H (fun _ _ => False) I fpo st stop
      have hA : Z.A = A0.over (gxCode elt tg iter ifs scope gpos it ce) [] := by rw [hZ]; rfl
      rw [hA] at td
      refine seg_bind_wrap (wpAny_mono td (fun r s2 hr => ?_) fun _ _ z => z.elim)
      obtain ⟨rfl, I2⟩ := hr
      exact seg_end (.ok .next) ⟨rfl, H, I2, qe⟩
    · have hA : Z.A = A0.over (gxCode elt tg iter ifs scope gpos it ce) [] := by rw [hZ]; rfl
      have hE : Z.env = ce := by rw [hZ]; rfl
      have hPr : Z.prog = X.prog := by rw [hZ]; rfl
      have hWd : Z.w = X.w := by rw [hZ]; rfl
      have hXe : Z.xe = fun _ _ => False := by rw [hZ]; rfl
      have ti := T.item Z hPr hWd (by rw [hZ]; rfl) (by rw [hZ]; rfl) i [] s σ0 H (fun _ _ => False) I fpo st go
      rw [hA] at ti
      refine seg_bind_wrap (wpAny_mono ti (fun r s2 hr => ?_) fun _ _ z => z.elim)
      obtain ⟨u, rfl, ti⟩ := hr
      refine seg_bind_wrap (wpAny_mono ti (fun _ s7 h7 => ?_) fun _ _ z => z.elim)
      obtain ⟨x, H7, I7, r7, y7, st7, n7⟩ := h7
      have I7' := I7.pinned (gx_fp hZ hpn I7 n7) (T.obj _ _ st7)
      have ta := pg.run _ s7 _ H7 x u _ I7' r7 (step x H7 y7)
      rw [hPr, hWd, hA, hE, hXe] at ta
      refine seg_bind_wrap (wpAny_mono ta (fun _ s8 h8 => ?_) fun _ _ z => z.elim)
      obtain ⟨σ8, H8, I8, hw8, q8⟩ := h8
      have tt' := pt.run _ s8 σ8 H8 _ I8 q8
      rw [hPr, hWd, hA, hE, hXe] at tt'
      refine seg_bind_wrap (wpAny_mono tt' (fun b s9 h9 => ?_) fun _ _ z => z.elim)
      obtain ⟨H9, I9, q9⟩ := h9
      -- what stands at the next turn
      have next : ∀ {sn s' : Shared} {H' : Hp}, Inv Z ([] ++ pinsAt fp s7.heap) σ8 H' sn → s'.heap = sn.heap → s'.os = sn.os → AllBare s'.gens → Inv Z [] σ0 H' s' ∧ tn (i + 1) s'.heap ∧ ∀ b ∈ fp, H' b = none := fun {sn s' H'} I' e1 e2 e3 => by
        have pin' : ∀ b ∈ fp, ∀ o, s7.heap.get? b = some o → sn.heap.get? b = some o ∧ H' b = none := fun b hb o eo =>
          let z := I'.pin (b, o) (List.mem_append_right _ (List.mem_append_right _ (mem_pinsAt hb eo)))
          ⟨z.1, z.2.1⟩
        have hl : σ0.length = σ8.length := by rw [← hw8, wipe_length]
        have I'' : Inv Z [] σ0 H' sn := (I'.unpinned (pins := [])).weak hl fun j v ev => by
          rw [← hw8] at ev
          exact (wipe_some ev).1
        refine ⟨inv_sh I'' e1 e2 e3, ?_, fun b hb => ?_⟩
        · rw [e1]
          exact T.keep _ _ _ st7 fun b hb o eo => (pin' b hb o eo).1
        · obtain ⟨o, eo, _⟩ := T.obj _ _ st7 b hb
          exact (pin' b hb o eo).2
      cases b with
      | false =>
        simp only [Bool.false_eq_true, if_false] at q9 ⊢
        obtain ⟨m', hm, w'⟩ := hNx _ q9
        obtain ⟨J1, J2, J3⟩ := next I9 rfl rfl I9.bare
        exact seg_again rfl (ih m' hm (i + 1) n s₀ s9 H9 (by omega) w' J1 J2 J3)
      | true =>
        simp only [if_true] at q9 ⊢
        have out : ∀ v, yieldOut ce v = yieldValue v := fun v => by simp only [yieldOut, hco, Bool.false_eq_true, if_false]
        simp only [out]
        rw [Sem.bind_eq_wrap', Sem.bind_eq_wrap']; rw [Sem.wrap_wrap, Sem.wrap_wrap]
        have tel := pe.run _ s9 σ8 H9 _ I9 q9
        rw [hPr, hWd, hA, hE, hXe] at tel
        refine seg_wrap (wpAny_mono tel (fun y s10 h10 => ?_) fun _ _ z => z.elim)
        obtain ⟨yv, H10, I10, r10, cb, rfl, qn, qx⟩ := h10
        obtain rfl : y = Value.bool cb := r10
        obtain ⟨n', rfl⟩ : ∃ n', n = n' + 1 := ⟨n - 1, by omega⟩
        refine seg_at (seg_yield rfl rfl rfl ⟨cb, H10, σ8, rfl, I10.unpinned, fun hc s' e1 e2 e3 => ?_, qx⟩)
        obtain ⟨m', hm, w'⟩ := hNx _ (qn hc)
        obtain ⟨J1, J2, J3⟩ := next I10 e1 e2 e3
        exact seg_again rfl (ih m' hm (i + 1) n' s' s' H10 (by omega) w' J1 J2 J3)
/-- its begin -/
theorem seg_gx0 {Z : Cx} (hZ : Z = gxZ X A0 s1 H1 ce fp pn elt tg iter ifs scope gpos it) (hpn : ∀ p ∈ pn, p.1 ∉ fp) (hco : ce.scope.isCoroutine = false) (T : Turn X.prog X.w X.K tg J fp it tn) (pg : PG Z tg g) (pt : PTs Z ifs tt) (pe : PE Z elt te) (turn : gxTurn J g tt te vs σ0 e Qe Qn W)
    {m n : Nat} {s₀ s : Shared} {H : Hp} (hmn : m < n) (w0 : W 0 m H) (I : Inv Z [] σ0 H s) (st : tn 0 s.heap) (nf : ∀ b ∈ fp, H b = none) :
    Seg (model X.prog X.w) A0 (fun n s₀ r s1 => r = .ok .next ∧ GxE Z σ0 Qe n s₀ s1) (GxY Z e Qn) n s₀ (.compStart (.GeneratorExp elt [⟨tg, iter, ifs, 0⟩] scope gpos) 0 (.ref it) .none ce) ((model X.prog X.w).den (.compStart (.GeneratorExp elt [⟨tg, iter, ifs, 0⟩] scope gpos) 0 (.ref it) .none ce)) [] s := by
  have loop := seg_gx hZ hpn hco T pg pt pe turn m 0 n s₀ s H hmn w0 I st nf
  show Seg _ A0 _ _ _ s₀ _ ((compStart (.GeneratorExp elt [⟨tg, iter, ifs, 0⟩] scope gpos) 0 (.ref it) .none ce).onRaise (leaving ce)) [] s
  unfold compStart
  rw [Sem.onRaise_eq_wrap]
  show Seg _ A0 _ _ _ s₀ _ ((ask >>= _).wrap _ _ _ _) [] s
  refine seg_bind_wrap (wpAny_askSetting ?_)
  split
  · exact seg_again rfl loop
  · refine seg_bind_wrap (wpAny_rule ?_)
    show Seg _ A0 _ _ _ s₀ _ ((standAt iter.pos >>= _).wrap _ _ _ _) [] s
    exact seg_bind_wrap (wpAny_standAt (seg_bind_wrap (T.self _ 0 s _ _ st (seg_again rfl loop))))
end
theorem un_kept {fs ex : List Addr} {H H' : Hp} {h h1 h2 : Heap} (u : Un fs ex H H' h h1) (k : ∀ b o, h1.get? b = some o → h2.get? b = some o) : Un fs ex H H' h h2 := u.trans (Un.kept k)
/-- all, over it -/
theorem gx_all {Z : Cx} {A : Around} {a : Addr} {g : Nat} {σ0 : L2.St} {Qe Qn : Hp → Prop} {R : Result → Shared → Prop} (hh : A.handled = none) (hd : A.depth < recursionLimit) (isG : ∀ {σ' : L2.St} {H' : Hp} {s' : Shared}, Inv Z [] σ' H' s' → s'.heap.IsGen a g)
    (hE : ∀ (s' : Shared) (H' : Hp), s'.os = Z.s_0.os → AllBare s'.gens → Un Z.fs Z.ex Z.H_0 H' Z.s_0.heap s'.heap → HOk Z.prog Z.w H' s'.heap → Qe H' → R (.ok (.ret (.bool true))) s')
    (hN : ∀ (s' : Shared) (H' : Hp), s'.os = Z.s_0.os → AllBare s'.gens → Un Z.fs Z.ex Z.H_0 H' Z.s_0.heap s'.heap → HOk Z.prog Z.w H' s'.heap → Qn H' → R (.ok (.ret (.bool false))) s') :
    ∀ (m : Nat) (s : Shared), s.heap.IsGen a g → s.heap.NoLimit → (∃ gs, s.gens[g]? = some gs ∧ gs.Goes (model Z.prog Z.w) A.in1.in1 (fun n s₀ r s1 => r = .ok .next ∧ GxE Z σ0 Qe n s₀ s1) (GxY Z true Qn) m (.send .none) (s.setGen g .running)) →
      codeAny (model Z.prog Z.w) A (.builtin "all.loop" ⟨[.ref a], []⟩) R s := by
  intro m
  induction m with
  | zero =>
    intro s hg hl ⟨gs, hgs, goes⟩
    refine codeAny_builtin F.entry_all_loop ?_
    rw [Around.under_plainId F.plain_all_loop _]
    show wpAny _ A.in1 (pyNext (.ref a) >>= _) _ _ s
    refine wpAny_bind (wpAny_pyNext_genexpQ (A := A.in1) hh hl hd hg hgs goes (fun v s1 gs' hbare hv => ?_) (fun s1 hp h' hk => ?_))
    · obtain ⟨c, H', σ', rfl, I, more, last⟩ := hv
      have b1 := allBare_setGen (g := g) I.bare hbare
      refine wpAny_bind (wpAny_holding (wpAny_truthy_bool (wpAny_bind (wpAny_letGo ?_))))
      cases c with
      | true => exact False.elim (more rfl s1 rfl rfl I.bare)
      | false =>
        simp only [Bool.false_eq_true, if_false]
        exact wpAny_bind (wpAny_rule (wpAny_pure (hN _ H' I.os b1 I.base I.hok (last (by decide)))))
    · obtain ⟨H', I, q⟩ := hp
      exact wpAny_bind (wpAny_rule (wpAny_pure (hE _ H' I.os (allBare_setGen I.bare rfl) (un_kept I.base hk) (I.hok.kept hk) q)))
  | succ m ih =>
    intro s hg hl ⟨gs, hgs, goes⟩
    have hgl : g < s.gens.size := (Array.getElem?_eq_some_iff.mp hgs).1
    refine codeAny_builtin F.entry_all_loop ?_
    rw [Around.under_plainId F.plain_all_loop _]
    show wpAny _ A.in1 (pyNext (.ref a) >>= _) _ _ s
    refine wpAny_bind (GenW.wpAny_gsz (n := g + 1) hgl (wpAny_pyNext_genexpQ (A := A.in1) hh hl hd hg hgs goes (fun v s1 gs' hbare hv => ?_) (fun s1 hp h' hk => ?_)))
    · intro hsz
      obtain ⟨c, H', σ', rfl, I, more, last⟩ := hv
      have b1 := allBare_setGen (g := g) I.bare hbare
      refine wpAny_bind (wpAny_holding (wpAny_truthy_bool (wpAny_bind (wpAny_letGo ?_))))
      cases c with
      | true =>
        simp only [if_true]
        have hsz1 : g < s1.gens.size := by
          have q : (s1.setGen g gs').gens.size = s1.gens.size := GenW.setGen_size _ _ _
          have hsz' : g + 1 ≤ (s1.setGen g gs').gens.size := hsz
          omega
        refine wpAny_pure ⟨plainId_quiet F.plain_all_loop _, ih (s1.setGen g gs') (isG (s' := s1) I) I.nolimit ⟨gs', setGen_at hsz1, ?_⟩⟩
        exact more rfl _ rfl rfl (allBare_setGen (s := s1.setGen g gs') b1 rfl)
      | false =>
        simp only [Bool.false_eq_true, if_false]
        exact wpAny_bind (wpAny_rule (wpAny_pure (hN _ H' I.os b1 I.base I.hok (last (by decide)))))
    · intro hsz
      obtain ⟨H', I, q⟩ := hp
      exact wpAny_bind (wpAny_rule (wpAny_pure (hE _ H' I.os (allBare_setGen I.bare rfl) (un_kept I.base hk) (I.hok.kept hk) q)))
/-- any, over it -/
theorem gx_any {Z : Cx} {A : Around} {a : Addr} {g : Nat} {σ0 : L2.St} {Qe Qn : Hp → Prop} {R : Result → Shared → Prop} (hh : A.handled = none) (hd : A.depth < recursionLimit) (isG : ∀ {σ' : L2.St} {H' : Hp} {s' : Shared}, Inv Z [] σ' H' s' → s'.heap.IsGen a g)
    (hE : ∀ (s' : Shared) (H' : Hp), s'.os = Z.s_0.os → AllBare s'.gens → Un Z.fs Z.ex Z.H_0 H' Z.s_0.heap s'.heap → HOk Z.prog Z.w H' s'.heap → Qe H' → R (.ok (.ret (.bool false))) s')
    (hN : ∀ (s' : Shared) (H' : Hp), s'.os = Z.s_0.os → AllBare s'.gens → Un Z.fs Z.ex Z.H_0 H' Z.s_0.heap s'.heap → HOk Z.prog Z.w H' s'.heap → Qn H' → R (.ok (.ret (.bool true))) s') :
    ∀ (m : Nat) (s : Shared), s.heap.IsGen a g → s.heap.NoLimit → (∃ gs, s.gens[g]? = some gs ∧ gs.Goes (model Z.prog Z.w) A.in1.in1 (fun n s₀ r s1 => r = .ok .next ∧ GxE Z σ0 Qe n s₀ s1) (GxY Z false Qn) m (.send .none) (s.setGen g .running)) →
      codeAny (model Z.prog Z.w) A (.builtin "any.loop" ⟨[.ref a], []⟩) R s := by
  intro m
  induction m with
  | zero =>
    intro s hg hl ⟨gs, hgs, goes⟩
    refine codeAny_builtin F.entry_any_loop ?_
    rw [Around.under_plainId F.plain_any_loop _]
    show wpAny _ A.in1 (pyNext (.ref a) >>= _) _ _ s
    refine wpAny_bind (wpAny_pyNext_genexpQ (A := A.in1) hh hl hd hg hgs goes (fun v s1 gs' hbare hv => ?_) (fun s1 hp h' hk => ?_))
    · obtain ⟨c, H', σ', rfl, I, more, last⟩ := hv
      have b1 := allBare_setGen (g := g) I.bare hbare
      refine wpAny_bind (wpAny_holding (wpAny_truthy_bool (wpAny_bind (wpAny_letGo ?_))))
      cases c with
      | false => exact False.elim (more rfl s1 rfl rfl I.bare)
      | true =>
        simp only [if_true]
        exact wpAny_bind (wpAny_rule (wpAny_pure (hN _ H' I.os b1 I.base I.hok (last (by decide)))))
    · obtain ⟨H', I, q⟩ := hp
      exact wpAny_bind (wpAny_rule (wpAny_pure (hE _ H' I.os (allBare_setGen I.bare rfl) (un_kept I.base hk) (I.hok.kept hk) q)))
  | succ m ih =>
    intro s hg hl ⟨gs, hgs, goes⟩
    have hgl : g < s.gens.size := (Array.getElem?_eq_some_iff.mp hgs).1
    refine codeAny_builtin F.entry_any_loop ?_
    rw [Around.under_plainId F.plain_any_loop _]
    show wpAny _ A.in1 (pyNext (.ref a) >>= _) _ _ s
    refine wpAny_bind (GenW.wpAny_gsz (n := g + 1) hgl (wpAny_pyNext_genexpQ (A := A.in1) hh hl hd hg hgs goes (fun v s1 gs' hbare hv => ?_) (fun s1 hp h' hk => ?_)))
    · intro hsz
      obtain ⟨c, H', σ', rfl, I, more, last⟩ := hv
      have b1 := allBare_setGen (g := g) I.bare hbare
      refine wpAny_bind (wpAny_holding (wpAny_truthy_bool (wpAny_bind (wpAny_letGo ?_))))
      cases c with
      | false =>
        simp only [Bool.false_eq_true, if_false]
        have hsz1 : g < s1.gens.size := by
          have q : (s1.setGen g gs').gens.size = s1.gens.size := GenW.setGen_size _ _ _
          have hsz' : g + 1 ≤ (s1.setGen g gs').gens.size := hsz
          omega
        refine wpAny_pure ⟨plainId_quiet F.plain_any_loop _, ih (s1.setGen g gs') (isG (s' := s1) I) I.nolimit ⟨gs', setGen_at hsz1, ?_⟩⟩
        exact more rfl _ rfl rfl (allBare_setGen (s := s1.setGen g gs') b1 rfl)
      | true =>
        simp only [if_true]
        exact wpAny_bind (wpAny_rule (wpAny_pure (hN _ H' I.os b1 I.base I.hok (last (by decide)))))
    · intro hsz
      obtain ⟨H', I, q⟩ := hp
      exact wpAny_bind (wpAny_rule (wpAny_pure (hE _ H' I.os (allBare_setGen I.bare rfl) (un_kept I.base hk) (I.hok.kept hk) q)))
/-- the generator stands ready to be walked -/
def GxReady (X : Cx) (pins : List (Addr × Obj)) (σ : L2.St) (e : Bool) (Qe Qn : Hp → Prop) (a : Addr) (s5 : Shared) : Prop :=
  ∃ (g m : Nat) (Z : Cx) (σ0 : L2.St), Z.prog = X.prog ∧ Z.w = X.w ∧ s5.heap.IsGen a g ∧ s5.heap.NoLimit ∧ (∀ {σ' : L2.St} {H' : Hp} {s' : Shared}, Inv Z [] σ' H' s' → s'.heap.IsGen a g) ∧
    (∃ gs, s5.gens[g]? = some gs ∧ gs.Goes (model Z.prog Z.w) X.A.in1.in1 (fun n s₀ r s1 => r = .ok .next ∧ GxE Z σ0 Qe n s₀ s1) (GxY Z e Qn) m (.send .none) (s5.setGen g .running)) ∧
    ∀ (s' : Shared) (H' : Hp), s'.os = Z.s_0.os → AllBare s'.gens → Un Z.fs Z.ex Z.H_0 H' Z.s_0.heap s'.heap → HOk Z.prog Z.w H' s'.heap → Inv X pins σ H' s'
theorem gx_room {A : Around} {k : Nat} {elt tg iter : Expr} {ifs : List Expr} {scope : Scope} {gpos : Pos} {it : Addr} {ce : Env} (r : Room (k + 1) A) : Room k (A.in1.in1.over (gxCode elt tg iter ifs scope gpos it ce) []) :=
  ⟨r.hd, by have := r.dp; show A.depth + 1 + 3 * k + 5 < _; omega, by have := r.un; show A.units + 1 + 1 + 3 + 16 * k + 200 < _; omega⟩
theorem gx_frames {A : Around} {st : List Env} {elt tg iter : Expr} {ifs : List Expr} {scope : Scope} {gpos : Pos} {it : Addr} {ce : Env} (h : A.frames = some st) : (A.in1.in1.over (gxCode elt tg iter ifs scope gpos it ce) []).frames = some (ce :: st) := by
  obtain ⟨hd, d, fr, gs, u⟩ := A
  obtain rfl : fr = some st := h
  rfl
abbrev tQuant (P : Addr) (wi : TI) (g : TG) (tt : TT) (te : TE) (vs : List Nat) (e : Bool) : TE := fun σ H Q => wi σ H fun J H1 => GxR.TabG H1 P ∧ ∀ H2, GxR.Tabbed P H1 H2 → ∃ W : Nat → Nat → Hp → Prop, (∃ m, W 0 m H2) ∧ gxTurn J g tt te vs (wipe σ vs) e (fun H => Q (.bl e) H) (fun H => Q (.bl (!e)) H) W
theorem gx_eval {X : Cx} {pins : List (Addr × Obj)} {σ : L2.St} {H : Hp} {s : Shared} {c P : Addr} {elt tg iter : Expr} {ifs : List Expr} {scope : Scope} {own : List (Str × Nat)} {gpos : Pos} {wi : TI} {g : TG} {tt : TT} {te : TE} {e : Bool} {k : Nat} {Q : VK} {Q' : Value → Shared → Prop}
    (hN : X.N.Nodup) (hr : Room (k + 1) X.A) (TB : LamX.TabB X.base X.mg c P) (hcode : X.env.code = .ref c) (ok : BlkOk X.N X.env.scope scope own) (nocell : ∀ y ∈ scope.names, y.2 ≠ .cell) (hco : scope.isCoroutine = false) (dot : scope.names.lookup (".0" : Str) = some NameKind.local)
    (hi : PI X tg iter wi)
    (hg : ∀ (A : Around) (s : Shared) (H : Hp) (cl : List (Str × Addr)) (C : Addr) (code : Value) (bi : Addr) (fp : List Addr) (pn : List (Addr × Obj)), Room k A → PG (gxCx X A s H (genEnv scope cl C code bi X.env) fp pn) tg g)
    (ht : ∀ (A : Around) (s : Shared) (H : Hp) (cl : List (Str × Addr)) (C : Addr) (code : Value) (bi : Addr) (fp : List Addr) (pn : List (Addr × Obj)), Room k A → PTs (gxCx X A s H (genEnv scope cl C code bi X.env) fp pn) ifs tt)
    (he : ∀ (A : Around) (s : Shared) (H : Hp) (cl : List (Str × Addr)) (C : Addr) (code : Value) (bi : Addr) (fp : List Addr) (pn : List (Addr × Obj)), Room k A → PE (gxCx X A s H (genEnv scope cl C code bi X.env) fp pn) elt te)
    (hs : ∀ v, genFold iter X.env v = pure v) (I : Inv X pins σ H s) (h : tQuant P wi g tt te (own.map (·.2)) e σ H Q)
    (hQ : ∀ a s5, GxReady X pins σ e (fun H => Q (.bl e) H) (fun H => Q (.bl (!e)) H) a s5 → Q' (.ref a) s5) :
    wpAny (model X.prog X.w) X.A (eval (.GeneratorExp elt [⟨tg, iter, ifs, 0⟩] scope gpos) X.env) Q' X.xe s := by
  have hfree : ∀ y ∈ scope.names, y.2 = .free → ∃ c, X.env.cells.lookup y.1 = some c := fun y hy ey => by
    rcases ok.free y hy ey with z | z
    · exact I.ok.has _ (.inl z)
    · exact I.ok.has _ (.inr z)
  refine wpAny_GeneratorExp_make hco (closure_ok hfree) nocell dot ok.kind hr.depth ?_ hs
  refine thn (hi.run pins s σ H _ I h) fun xv s1 hx => thn hx fun itv s2 h2 => ?_
  obtain ⟨it, fp, tn, J, H2, rfl, I2, T, st2, f2, ⟨ps, hP, tro⟩, q⟩ := h2
  refine ⟨I2.nolimit, ?_⟩
  have hPs : s2.heap.get? P = some { cls := .none, data := .fields ps } := I2.hok P _ hP
  have cd : PySem.W.CodeHd s2.heap c P := TB.code.keeps fun b u z => I2.bk b u z
  have szf : ∀ b ∈ fp, b < s2.heap.objs.size := fun b hb => by
    obtain ⟨o, eo, _⟩ := T.obj _ _ st2 b hb
    exact Heap.lt_size eo
  -- behind the code object
  have cont : ∀ (code : Value) (h3 : Heap) (tk : Nat) (ps' : Array Value), Heap.ExtBut P s2.heap h3 → s2.heap.objs.size ≤ h3.objs.size → h3.get? P = some { cls := .none, data := .fields ps' } → (∃ more, ps' = ps ++ more) → TriplesOk ps'.toList →
      wpAny (model X.prog X.w) X.A (builtinsFor X.env.globals X.env.builtins) (fun bi s4 => ∀ h', h'.Ns s4.heap.objs.size (fun y => if y = ".0" then some (.ref it) else none) → Heap.SameBut s4.heap.objs.size (s4.heap.push { cls := .type "frame", data := .dict #[] }) h' →
        Q' (.ref h'.objs.size) { s4 with
          gens := s4.gens.push (.fresh (.compStart (.GeneratorExp elt [⟨tg, iter, ifs, 0⟩] scope gpos) 0 (.ref it) .none (genEnv scope (cloFrom X.env.cells scope.names []) s4.heap.objs.size code bi X.env)))
          toks := s4.toks + 1 + 1 + 1
          heap := h'.push { cls := .type "generator", data := .fields #[.int s4.gens.size 0, .str "<genexpr>" (s4.toks + 1), .str (X.env.qual ++ "<genexpr>") (s4.toks + 1 + 1)] } }) X.xe { s2 with heap := h3, toks := tk } := by
    intro code h3 tk ps' hx hsz hP3 ⟨more, em⟩ tro'
    obtain ⟨bm, ob, e1, e2, e3, e4, e5, e6, e7, e8⟩ := TB.bm
    have keep3 : ∀ b u, b ≠ P → s2.heap.get? b = some u → h3.get? b = some u := fun b u hb z => hx b u hb z
    refine wpAny_builtinsFor (m := X.mg) (by rw [I2.ok.glob]; exact (I2.mod.glob.keeps I2.bk).extBut hx TB.gP) e1 e2 (keep3 _ _ e4 (I2.bk _ _ e5)) e6 e7 e8 ?_
    intro h' hns hsame
    have J4 := GxR.inv_tab (more := more) (h' := h3) (g' := s2.gens) (d' := s2.drawn) (t' := tk) I2 hP keep3 (by rw [← em]; exact hP3) I2.bare
    have tabbed : GxR.Tabbed P H2 (upd H2 P (.tbl (ps ++ more))) := ⟨⟨ps ++ more, upd_same, by rw [← em]; exact tro'⟩, fun b hb => upd_ne hb⟩
    obtain ⟨W, ⟨m0, w0⟩, turn⟩ := q _ tabbed
    have hsz' : h'.objs.size = h3.objs.size + 1 := by rw [hsame.1, Heap.size_push]
    have kp5 : ∀ (go : Obj) b o, h3.get? b = some o → (h'.push go).get? b = some o := fun go b o eo => Heap.get?_push_of_some _ (hsame.extBut b o (Nat.ne_of_lt (Heap.lt_size eo)) (Heap.get?_push_of_some _ eo))
    have fpP : ∀ b ∈ fp, b ≠ P := fun b hb z => by
      have := (f2 b hb).1
      rw [z, hP] at this
      cases this
    have nf : ∀ b ∈ fp, upd H2 P (.tbl (ps ++ more)) b = none := fun b hb => by rw [upd_ne (fpP b hb)]; exact (f2 b hb).1
    have f3 : ∀ b ∈ fp, FpOk X pins (upd H2 P (.tbl (ps ++ more))) b ∧ b < h3.objs.size := fun b hb => ⟨⟨nf b hb, (f2 b hb).2⟩, Nat.lt_of_lt_of_le (szf b hb) hsz⟩
    refine hQ _ _ ?_
    show GxReady X pins σ e _ _ h'.objs.size { s2 with
      gens := s2.gens.push (.fresh (.compStart (.GeneratorExp elt [⟨tg, iter, ifs, 0⟩] scope gpos) 0 (.ref it) .none (genEnv scope (cloFrom X.env.cells scope.names []) h3.objs.size code builtinsNs X.env)))
      toks := tk + 1 + 1 + 1
      heap := h'.push { cls := .type "generator", data := .fields #[.int s2.gens.size 0, .str "<genexpr>" (tk + 1), .str (X.env.qual ++ "<genexpr>") (tk + 1 + 1)] } }
    generalize hgo : ({ cls := .type "generator", data := .fields #[.int s2.gens.size 0, .str "<genexpr>" (tk + 1), .str (X.env.qual ++ "<genexpr>") (tk + 1 + 1)] } : Obj) = go
    have goC : go.cls = .type "generator" := by rw [← hgo]
    have goD : go.data = .fields #[.int s2.gens.size 0, .str "<genexpr>" (tk + 1), .str (X.env.qual ++ "<genexpr>") (tk + 1 + 1)] := by rw [← hgo]
    have goS : go.slots = #[] := by rw [← hgo]
    have at5 : (h'.push go).get? h'.objs.size = some go := by rw [← hgo]; exact Heap.get?_push_size _ rfl
    have isG : ∀ h : Heap, h.get? h'.objs.size = some go → h.IsGen h'.objs.size s2.gens.size := fun h eo => ⟨go, _, _, eo, goC, goD, goS⟩
    generalize hst : GenState.fresh (.compStart (.GeneratorExp elt [⟨tg, iter, ifs, 0⟩] scope gpos) 0 (.ref it) .none (genEnv scope (cloFrom X.env.cells scope.names []) h3.objs.size code builtinsNs X.env)) = fr
    have bare5 : AllBare (s2.gens.push fr) := I2.bare.push (by rw [← hst]; rfl)
    have rm := gx_room (elt := elt) (tg := tg) (iter := iter) (ifs := ifs) (scope := scope) (gpos := gpos) (it := it) (ce := genEnv scope (cloFrom X.env.cells scope.names []) h3.objs.size code builtinsNs X.env) hr
    obtain ⟨ce, hce⟩ : ∃ ce, ce = genEnv scope (cloFrom X.env.cells scope.names []) h3.objs.size code builtinsNs X.env := ⟨_, rfl⟩
    obtain ⟨s4, hs4⟩ : ∃ s4 : Shared, s4 = { s2 with heap := h3, gens := s2.gens, drawn := s2.drawn, toks := tk } := ⟨_, rfl⟩
    obtain ⟨H4, hH4⟩ : ∃ H4, H4 = upd H2 P (.tbl (ps ++ more)) := ⟨_, rfl⟩
    obtain ⟨Z, hZ⟩ : ∃ Z, Z = gxZ X X.A.in1.in1 s4 H4 ce fp [(h'.objs.size, go)] elt tg iter ifs scope gpos it := ⟨_, rfl⟩
    have J4' : Inv X pins σ H4 s4 := by rw [hs4, hH4]; exact J4
    have Z0 : Inv Z [] (wipe σ (own.map (·.2))) H4 { s2 with heap := h'.push go, gens := s2.gens.push fr, toks := tk + 1 + 1 + 1 } := by
      rw [hZ, hs4, hH4, hce]
      exact gx_start (A := X.A.in1.in1.over (gxCode elt tg iter ifs scope gpos it (genEnv scope (cloFrom X.env.cells scope.names []) h3.objs.size code builtinsNs X.env)) []) (a := h'.objs.size) (go := go) (h5 := h'.push go) (g5 := s2.gens.push fr) (t5 := tk + 1 + 1 + 1) (code := code) J4 hN ok nocell rm.hd (gx_frames J4.ok.frames) f3 (hns.push _) (kp5 go) at5 (by show h3.objs.size < _; omega) (fun v z => by rw [goD] at z; cases z) bare5
    rw [← hH4] at w0
    refine ⟨s2.gens.size, m0 + 1, Z, wipe σ (own.map (·.2)), by rw [hZ]; rfl, by rw [hZ]; rfl, isG _ at5, Z0.nolimit, fun {σ' H' s'} IZ => ?_, ⟨fr, Array.getElem?_push_size .., ?_⟩, fun s' H' os bare un hok => ?_⟩
    · refine isG _ (IZ.pin (h'.objs.size, go) (List.mem_append_left _ ?_)).1
      rw [hZ]
      exact List.mem_cons_self
    · rw [← hst, show Z.prog = X.prog by rw [hZ]; rfl, show Z.w = X.w by rw [hZ]; rfl, ← hce]
      refine ⟨rfl, seg_gx0 (H := H4) hZ (fun p hp z => ?_) (by rw [hce]; exact hco) T (by rw [hZ, hce]; exact hg _ _ _ _ _ _ _ _ _ rm) (by rw [hZ, hce]; exact ht _ _ _ _ _ _ _ _ _ rm) (by rw [hZ, hce]; exact he _ _ _ _ _ _ _ _ _ rm) turn (Nat.lt_succ_self _) w0 (inv_sh Z0 rfl rfl (allBare_setGen (by show AllBare (s2.gens.push _); rw [hce, hst]; exact bare5) rfl)) ?_ fun b hb => by rw [hH4]; exact nf b hb⟩
      · rw [List.mem_singleton.mp hp] at z
        have z1 := (f3 _ z).2
        have z2 : h'.objs.size < h3.objs.size := z1
        omega
      · exact T.keep _ _ _ st2 fun b hb o eo => kp5 go b o (keep3 b o (fpP b hb) eo)
    · refine J4'.call' (ch := fp) ?_ ?_ ?_ bare fun b hb => ?_
      · rw [os, hZ]
        rfl
      · rw [hZ] at un
        exact un
      · rw [hZ] at hok
        exact hok
      · have z := (f3 b hb).1
        exact ⟨z.2.2.2.1, z.2.1, z.2.2.2.2.1, z.2.2.2.2.2⟩
  cases hf : codeAmong gpos ps.toList with
  | none =>
    refine wpAny_genexprCodeX hcode (cd.code hPs tro) (cd.tab hPs) hf fun c' h' tk hx hge hlt hco' _ htab' _ => ?_
    obtain ⟨o1, us, y1, y2, y3, y4, y5, y6, y7, y8, _, _, _, _, _, _, _, _, _, htr, _⟩ := hco'
    exact cont _ h' tk _ hx (Nat.le_trans hge (Nat.le_of_lt hlt)) htab'.2 ⟨_, rfl⟩ htr
  | some cv =>
    refine wpAny_genexprCode_hit hcode (cd.code hPs tro) hf ?_
    exact cont cv s2.heap s2.toks ps (Heap.ExtBut.refl _ _) (Nat.le_refl _) hPs ⟨#[], by simp⟩ tro
end
section
variable {X : Cx} {c P : Addr} {elt tg iter : Expr} {ifs : List Expr} {scope : Scope} {own : List (Str × Nat)} {p pos gpos : Pos} {wi : TI} {g : TG} {tt : TT} {te : TE} {k : Nat}
theorem pe_allG (hN : X.N.Nodup) (hr : Room (k + 1) X.A) (hg : Gl X "all") (hm : X.mg "all" = none) (hb : bootBuiltins "all" = some (.builtin "all")) (TB : LamX.TabB X.base X.mg c P) (hcode : X.env.code = .ref c) (ok : BlkOk X.N X.env.scope scope own) (nocell : ∀ y ∈ scope.names, y.2 ≠ .cell) (hco : scope.isCoroutine = false) (dot : scope.names.lookup (".0" : Str) = some NameKind.local)
    (hi : PI X tg iter wi)
    (pg : ∀ (A : Around) (s : Shared) (H : Hp) (cl : List (Str × Addr)) (C : Addr) (code : Value) (bi : Addr) (fp : List Addr) (pn : List (Addr × Obj)), Room k A → PG (gxCx X A s H (genEnv scope cl C code bi X.env) fp pn) tg g)
    (pt : ∀ (A : Around) (s : Shared) (H : Hp) (cl : List (Str × Addr)) (C : Addr) (code : Value) (bi : Addr) (fp : List Addr) (pn : List (Addr × Obj)), Room k A → PTs (gxCx X A s H (genEnv scope cl C code bi X.env) fp pn) ifs tt)
    (pe : ∀ (A : Around) (s : Shared) (H : Hp) (cl : List (Str × Addr)) (C : Addr) (code : Value) (bi : Addr) (fp : List Addr) (pn : List (Addr × Obj)), Room k A → PE (gxCx X A s H (genEnv scope cl C code bi X.env) fp pn) elt te)
    (hs : ∀ v, genFold iter X.env v = pure v)
    (he : starEach [.GeneratorExp elt [⟨tg, iter, ifs, 0⟩] scope gpos] X.env = (false, eval (.GeneratorExp elt [⟨tg, iter, ifs, 0⟩] scope gpos) X.env) :: starEach [] X.env := by rfl) :
    PE X (.Call (.Name "all" p) [.GeneratorExp elt [⟨tg, iter, ifs, 0⟩] scope gpos] [] pos) (tQuant P wi g tt te (own.map (·.2)) true) := by
  refine ⟨fun pins s σ H Q I h => ?_⟩
  refine wpAny_Call_Name_kw (ld_blt I hg hm hb ?_)
  refine PyProof.Rows.callWith_builtin1 ?_ he (by rfl)
  rw [he]
  show wpAny _ _ (spliced ((false, eval (.GeneratorExp elt [⟨tg, iter, ifs, 0⟩] scope gpos) X.env) :: backTo pos (starEach [] X.env))) _ _ s
  refine Calls.spliced_cons (gx_eval hN hr TB hcode ok nocell hco dot hi pg pt pe hs I h fun a s5 hR => ?_)
  obtain ⟨gi, m, Z, σ0, e1, e2, isG, nl, isG', goes, back⟩ := hR
  refine Calls.spliced_nil ?_
  refine call_function_tree F.kind_all F.plain_all F.entry_all (F.args_all1 _) ?_
  unfold Builtin.«all»
  refine wpAny_bind ?_
  show wpAny _ _ (pure (Value.ref a)) _ _ s5
  refine wpAny_pure (wpAny_bind (wpAny_pyIter_gen isG (wpAny_pure ⟨plainId_quiet F.plain_all_loop _, ?_⟩)))
  rw [← e1, ← e2]
  exact gx_all hr.hd (by have := hr.dp; omega) isG' (fun s' H' o1 o2 o3 o4 q => ⟨.bl true, H', back s' H' o1 o2 o3 o4, rfl, q⟩) (fun s' H' o1 o2 o3 o4 q => ⟨.bl false, H', back s' H' o1 o2 o3 o4, rfl, q⟩) m s5 isG nl goes
theorem pe_anyG (hN : X.N.Nodup) (hr : Room (k + 1) X.A) (hg : Gl X "any") (hm : X.mg "any" = none) (hb : bootBuiltins "any" = some (.builtin "any")) (TB : LamX.TabB X.base X.mg c P) (hcode : X.env.code = .ref c) (ok : BlkOk X.N X.env.scope scope own) (nocell : ∀ y ∈ scope.names, y.2 ≠ .cell) (hco : scope.isCoroutine = false) (dot : scope.names.lookup (".0" : Str) = some NameKind.local)
    (hi : PI X tg iter wi)
    (pg : ∀ (A : Around) (s : Shared) (H : Hp) (cl : List (Str × Addr)) (C : Addr) (code : Value) (bi : Addr) (fp : List Addr) (pn : List (Addr × Obj)), Room k A → PG (gxCx X A s H (genEnv scope cl C code bi X.env) fp pn) tg g)
    (pt : ∀ (A : Around) (s : Shared) (H : Hp) (cl : List (Str × Addr)) (C : Addr) (code : Value) (bi : Addr) (fp : List Addr) (pn : List (Addr × Obj)), Room k A → PTs (gxCx X A s H (genEnv scope cl C code bi X.env) fp pn) ifs tt)
    (pe : ∀ (A : Around) (s : Shared) (H : Hp) (cl : List (Str × Addr)) (C : Addr) (code : Value) (bi : Addr) (fp : List Addr) (pn : List (Addr × Obj)), Room k A → PE (gxCx X A s H (genEnv scope cl C code bi X.env) fp pn) elt te)
    (hs : ∀ v, genFold iter X.env v = pure v)
    (he : starEach [.GeneratorExp elt [⟨tg, iter, ifs, 0⟩] scope gpos] X.env = (false, eval (.GeneratorExp elt [⟨tg, iter, ifs, 0⟩] scope gpos) X.env) :: starEach [] X.env := by rfl) :
    PE X (.Call (.Name "any" p) [.GeneratorExp elt [⟨tg, iter, ifs, 0⟩] scope gpos] [] pos) (tQuant P wi g tt te (own.map (·.2)) false) := by
  refine ⟨fun pins s σ H Q I h => ?_⟩
  refine wpAny_Call_Name_kw (ld_blt I hg hm hb ?_)
  refine PyProof.Rows.callWith_builtin1 ?_ he (by rfl)
  rw [he]
  show wpAny _ _ (spliced ((false, eval (.GeneratorExp elt [⟨tg, iter, ifs, 0⟩] scope gpos) X.env) :: backTo pos (starEach [] X.env))) _ _ s
  refine Calls.spliced_cons (gx_eval hN hr TB hcode ok nocell hco dot hi pg pt pe hs I h fun a s5 hR => ?_)
  obtain ⟨gi, m, Z, σ0, e1, e2, isG, nl, isG', goes, back⟩ := hR
  refine Calls.spliced_nil ?_
  refine call_function_tree F.kind_any F.plain_any F.entry_any (F.args_any1 _) ?_
  unfold Builtin.«any»
  refine wpAny_bind ?_
  show wpAny _ _ (pure (Value.ref a)) _ _ s5
  refine wpAny_pure (wpAny_bind (wpAny_pyIter_gen isG (wpAny_pure ⟨plainId_quiet F.plain_any_loop _, ?_⟩)))
  rw [← e1, ← e2]
  exact gx_any hr.hd (by have := hr.dp; omega) isG' (fun s' H' o1 o2 o3 o4 q => ⟨.bl false, H', back s' H' o1 o2 o3 o4, rfl, q⟩) (fun s' H' o1 o2 o3 o4 q => ⟨.bl true, H', back s' H' o1 o2 o3 o4, rfl, q⟩) m s5 isG nl goes
end
/-! charts -/
def ptsFrom (many : Int) : Int → List PyData → Bool
  | _, [] => true
  | least, .int i :: r => withinD least (many - 1) (.int i) && ptsFrom many (i + 1) r
  | _, _ :: _ => false
def pointsD (many : Int) : PyData → Bool
  | .tuple ds => ptsFrom many 0 ds
  | _ => false
def chartD : PyData → Bool
  | .tuple ds => ds.all (pointsD ds.length)
  | _ => false
def TabsG (PT : List Addr) (H : Hp) : Prop := ∀ P ∈ PT, GxR.TabG H P
theorem TabsG.same {PT : List Addr} {H H' : Hp} (t : TabsG PT H) (s : Same H H') : TabsG PT H' := fun P hP => by
  obtain ⟨ps, h, ok⟩ := t P hP
  exact ⟨ps, s _ _ h, ok⟩
theorem tabbed_ext {P : Addr} {H H' : Hp} (t : GxR.TabG H P) (b : GxR.Tabbed P H H') : LamX.ExtN H H' := fun c o h n => by
  by_cases e : c = P
  · subst e
    obtain ⟨ps, h', _⟩ := t
    rw [h] at h'
    cases h'
    exact absurd rfl (n ps)
  · rw [b.2 c e]
    exact h
theorem TabsG.tabbed {PT : List Addr} {P : Addr} {H H' : Hp} (t : TabsG PT H) (b : GxR.Tabbed P H H') : TabsG PT H' := fun Q hQ => by
  by_cases e : Q = P
  · rw [e]
    exact b.1
  · obtain ⟨ps, h, ok⟩ := t Q hQ
    exact ⟨ps, by rw [b.2 Q e]; exact h, ok⟩
/-- a generator over a tuple that the element leaves as it is -/
theorem gx_tup {K : PySem.W.Frag} {a : Addr} {xs : List V} {g : TG} {tt : TT} {te : TE} {vs : List Nat} {σ0 : L2.St} {e : Bool} {Qe Qn : Hp → Prop} {H : Hp} (Pv : Nat → Hp → Prop) (h0 : Pv 0 H) (hl : ∀ i H, i ≤ xs.length → Pv i H → SqT K H a xs)
    (hs : ∀ i x H, xs[i]? = some x → Pv i H → g x σ0 H fun σ2 H2 => wipe σ2 vs = σ0 ∧ tt σ2 H2 fun b H3 => if b = true then te σ2 H3 fun y H4 => ∃ c, y = .bl c ∧ (c = e → Pv (i + 1) H4) ∧ (c ≠ e → Qn H4) else Pv (i + 1) H3) (hd : ∀ H, Pv xs.length H → Qe H) :
    ∃ W : Nat → Nat → Hp → Prop, (∃ m, W 0 m H) ∧ gxTurn (Itt K a) g tt te vs σ0 e Qe Qn W := by
  refine ⟨fun i m H => m = xs.length - i ∧ i ≤ xs.length ∧ Pv i H, ⟨xs.length, by simp, Nat.zero_le _, h0⟩, ?_⟩
  rintro i m H ⟨rfl, hi, p⟩
  have q := hl i H hi p
  by_cases hlt : i < xs.length
  · refine .inr ⟨⟨xs, xs[i], q, by simp [hlt]⟩, Pv (i + 1), fun H' p' => ⟨xs.length - (i + 1), by omega, rfl, hlt, p'⟩, fun x H' y => ?_⟩
    obtain ⟨e, y⟩ := y
    subst e
    exact hs i x _ (y xs q) p
  · have e : i = xs.length := by omega
    subst e
    exact .inl ⟨⟨xs, q, Nat.le_refl _⟩, hd H p⟩
theorem sqT_ext {K : PySem.W.Frag} {H H' : Hp} (e : LamX.ExtN H H') {a : Addr} {xs : List V} (h : SqT K H a xs) : SqT K H' a xs := by
  rcases h with (z | ⟨o, z⟩) | z
  · exact .inl (.inl (e _ _ z fun ps q => by cases q))
  · exact .inl (.inr ⟨o, e _ _ z fun ps q => by cases q⟩)
  · exact .inr z
theorem yesG {σ : L2.St} {H : Hp} {R : Bool → Hp → Prop} (h : R true H) : tYes σ H R := h
theorem all_take {α : Type} {p : α → Bool} {l : List α} {i : Nat} {x : α} (h : l[i]? = some x) : (l.take (i + 1)).all p = ((l.take i).all p && p x) := by
  have hi : i < l.length := by
    obtain ⟨q, _⟩ := List.getElem?_eq_some_iff.mp h
    exact q
  rw [List.take_add_one, h]
  simp [List.all_append]
theorem pts_drop {many least : Int} {ds : List PyData} {i : Nat} {d : PyData} (h : ds[i]? = some d) : ds.drop i = d :: ds.drop (i + 1) := by
  obtain ⟨q, e⟩ := List.getElem?_eq_some_iff.mp h
  rw [List.drop_eq_getElem_cons q, e]
section
variable {P : Program} {w : World} {K : PySem.W.Frag} {mg : Str → Option Value} {base : Heap} {f : Addr} {fd : FuncData}
def spPoints (K : PySem.W.Frag) : Sp := fun vs H Q _ => ∃ (x : V) (d : PyData) (many : Int), vs = [x, .int many] ∧ Dp K H x d ∧ Q (.bl (pointsD many d)) H
theorem scPoints : FnScope ["thing", "many", "least", "point"] ["thing", "many"] (defScope sPoints) := ⟨rfl, rfl, rfl, by decide +kernel, rfl, by decide +kernel, by decide +kernel⟩
theorem ok_points {k : Nat} (F : Fun K "are_points" "are_points" sPoints f fd) (T : Free mg) (cW : Cal P w K mg base "is_within" k ["thing", "least", "most"] (spWithin K)) : FnOk P w K mg base CX0 (k + 1) f fd ["thing", "many"] (spPoints K) := by
  refine F.ok scPoints (fun vs H Q E h => ?_) (fun cdv A outer s H vs Q E hr h => ?_)
  · obtain ⟨x, d, m, rfl, _⟩ := h
    rfl
  obtain ⟨x, d, m, rfl, hx, q⟩ := h
  refine ⟨_, pss_cons (ps_if (pt_not (pt_val (pe_callB call_isi rfl T.isi (by decide +kernel) (pa_cons (pv 0) (pa_cons (pe_bltn (v := .ty "tuple") rfl T.tuple (by decide +kernel) rfl) pa_nil))))) (pss_one (ps_ret pe_bl)) pss_nil)
    (pss_cons (ps_set (i := 2) scPoints.nd rfl (.inl rfl) pe_int)
    (pss_cons (ps_for PassesOwn.never rfl (pi_tup (pv 0)) (pg_name (i := 3) scPoints.nd rfl (.inl rfl))
      (pss_cons (ps_if (pt_not (pt_val (pe_cal cW hr rfl (pa_cons (pv 3) (pa_cons (pv 2) (pa_cons (pe_op op_sub (pv 1) pe_int) pa_nil)))))) (pss_one (ps_ret pe_bl)) pss_nil)
      (pss_one (ps_set (i := 2) scPoints.nd rfl (.inl rfl) (pe_op op_add (pv 3) pe_int)))))
    (pss_one (ps_ret pe_bl)))), ?_⟩
  refine ⟨_, rfl, x, _, _, _, _, rfl, .ty "tuple", ty_of hx, kit_tuple d, _, rfl, ?_⟩
  cases ht : tupleD d with
  | false =>
    refine ifT rfl ?_
    have e : pointsD m d = false := by cases d <;> first | rfl | cases ht
    rw [e] at q
    exact q
  | true =>
    obtain ⟨ds, rfl⟩ : ∃ ds, d = .tuple ds := by
      cases d <;> first | exact ⟨_, rfl⟩ | cases ht
    refine ifF rfl ?_
    have q : Q (.bl (ptsFrom m 0 ds)) H := q
    cases hx with
    | @tup a xs _ ht ha =>
      have lx := dpAll_len ha
      refine ⟨_, rfl, a, rfl, ⟨xs, ht⟩, ?_⟩
      refine for_tup (xs := xs) (fun i σ H' => ∃ (least : Int) (o3 : Option V), ptsFrom m 0 ds = ptsFrom m least (ds.drop i) ∧ σ = [some (.ref a), some (.int m), some (.int least), o3] ∧ H' = H)
        ⟨0, none, rfl, rfl, rfl⟩ (fun i σ H' _ h => by obtain ⟨_, _, _, _, rfl⟩ := h; exact ht) (fun i x σ H' hxi h => ?_) (fun σ H' h => ?_)
      · obtain ⟨least, o3, hp, rfl, rfl⟩ := h
        obtain ⟨d, hd, hdx⟩ := dpAll_get' ha hxi
        rw [pts_drop (many := 0) (least := 0) hd] at hp
        refine ⟨_, rfl, _, rfl, _, rfl, _, _, rfl, rfl, x, d, least, m - 1, rfl, hdx, _, rfl, ?_⟩
        cases hw : withinD least (m - 1) d with
        | false =>
          refine ifT rfl ?_
          have e : ptsFrom m 0 ds = false := by
            rw [hp]
            cases d <;> first | rfl | (unfold ptsFrom; rw [hw]; rfl)
          rw [e] at q
          exact q
        | true =>
          refine ifF rfl ?_
          cases d with
          | int n =>
            cases hdx
            refine ⟨_, rfl, _, _, rfl, rfl, n + 1, _, ?_, rfl, rfl⟩
            rw [hp]
            show (withinD least (m - 1) (.int n) && _) = _
            rw [hw, Bool.true_and]
          | none => cases hw
          | bool _ => cases hw
          | str _ => cases hw
          | list _ => cases hw
          | tuple _ => cases hw
          | dict _ => cases hw
      · obtain ⟨least, o3, hp, rfl, rfl⟩ := h
        rw [lx, List.drop_length] at hp
        rw [hp] at q
        exact q
abbrev rLen (K : PySem.W.Frag) : List V → Hp → VK → Prop := fun xs H Q => ∃ p ys, xs = [.ref p] ∧ (SqL K H p ys ∨ SqT K H p ys) ∧ Q (.int ys.length) H
def spIsChart (K : PySem.W.Frag) (PT : List Addr) : Sp := fun vs H Q _ => ∃ (x : V) (d : PyData), vs = [x] ∧ Dp K H x d ∧ TabsG PT H ∧ ∀ H', LamX.ExtN H H' → TabsG PT H' → Q (.bl (chartD d)) H'
theorem scIsChart : FnScope ["thing", "nexts"] ["thing"] (defScope sIsChart) := ⟨rfl, rfl, rfl, by decide +kernel, rfl, by decide +kernel, by decide +kernel⟩
theorem ok_isChart {k : Nat} {c Pc : Addr} {PT : List Addr} (F : Fun K "is_chart" "is_chart" sIsChart f fd) (hc : fd.code = .ref c) (TB : LamX.TabB base mg c Pc) (hPT : Pc ∈ PT) (T : Free mg) (hA : mg "all" = none) (cP : Cal P w K mg base "are_points" k ["thing", "many"] (spPoints K)) : FnOk P w K mg base CX0 (k + 2) f fd ["thing"] (spIsChart K PT) := by
  refine okC F hc scIsChart (fun vs H Q E h => ?_) (fun A outer s H vs Q E hr h => ?_)
  · obtain ⟨x, d, rfl, _⟩ := h
    rfl
  obtain ⟨x, d, rfl, hx, tb, q⟩ := h
  refine ⟨_, pss_one (ps_ret (pe_and (pe_callB call_isi rfl T.isi (by decide +kernel) (pa_cons (pv 0) (pa_cons (pe_bltn (v := .ty "tuple") rfl T.tuple (by decide +kernel) rfl) pa_nil)))
    (pe_one (pe_allG (own := [("nexts", 1)]) (wi := iTup K (tVar 0)) (g := gName 1) (tt := tYes) (te := tCall (spPoints K) [] E0 (tCons (tVar 1) (tCons (tCB (rLen K) (tCons (tVar 0) tNil)) tNil))) scIsChart.nd hr rfl hA (by decide +kernel) TB rfl
      (blkOk_by (own := [("nexts", 1)]) (N := ["thing", "nexts"]) (sc := defScope sIsChart) (by decide +kernel)) (by decide +kernel) rfl rfl (pi_tup (pv 0))
      (fun _ _ _ _ _ _ _ _ _ _ => pg_name (i := 1) scIsChart.nd rfl (Or.inl rfl)) (fun _ _ _ _ _ _ _ _ _ _ => pts_nil)
      (fun _ _ _ _ _ _ _ _ _ hr' => pe_cal cP hr' rfl (pa_cons (pv 1) (pa_cons (pe_callB call_len_seq rfl T.len PySem.boot_len (pa_cons (pv 0) pa_nil)) pa_nil))) (fun _ => rfl))))), ?_⟩
  refine ⟨_, rfl, x, _, _, _, _, rfl, .ty "tuple", ty_of hx, kit_tuple d, _, rfl, ?_⟩
  cases ht : tupleD d with
  | false =>
    have e : chartD d = false := by cases d <;> first | rfl | cases ht
    rw [e] at q
    exact ifF rfl (q H (LamX.ExtN.refl _) tb)
  | true =>
    obtain ⟨ds, rfl⟩ : ∃ ds, d = .tuple ds := by
      cases d <;> first | exact ⟨_, rfl⟩ | cases ht
    have q : ∀ H', LamX.ExtN H H' → TabsG PT H' → Q (.bl (ds.all (pointsD ds.length))) H' := q
    cases hx with
    | @tup a xs _ at_ each =>
      have lx := dpAll_len each
      refine ifT rfl ⟨_, rfl, a, rfl, ⟨xs, at_⟩, tb Pc hPT, fun H2 b2 => ?_⟩
      have e2 := tabbed_ext (tb Pc hPT) b2
      refine gx_tup (xs := xs) (fun i H' => LamX.ExtN H H' ∧ TabsG PT H' ∧ (ds.take i).all (pointsD ds.length) = true) ⟨e2, tb.tabbed b2, rfl⟩ (fun i H' _ h => ?_) (fun i y H' hy h => ?_) (fun H' h => ?_)
      · exact sqT_ext h.1 at_
      · obtain ⟨e3, t3, all3⟩ := h
        obtain ⟨d, hd, hdy⟩ := dpAll_get' each hy
        refine ⟨rfl, yesG ⟨_, rfl, _, rfl, a, xs, rfl, .inr (sqT_ext e3 at_), y, d, _, rfl, dp_ext e3 _ _ hdy, _, rfl, fun c => ⟨e3, t3, ?_⟩, fun c => ?_⟩⟩
        · rw [lx] at c
          rw [all_take hd, all3, c]
          rfl
        · rw [lx] at c
          have e : ds.all (pointsD ds.length) = false := by
            cases z : ds.all (pointsD ds.length) with
            | false => rfl
            | true => exact absurd (List.all_eq_true.mp z d (List.mem_of_getElem? hd)) c
          have r := q H' e3 t3
          rw [e] at r
          exact r
      · obtain ⟨e3, t3, all3⟩ := h
        rw [lx, List.take_length] at all3
        have r := q H' e3 t3
        rw [all3] at r
        exact r
end
/-! what is written down, laid anew -/
def dif (H H' : Hp) : Hp := fun b => match H b with
  | none => H' b
  | some _ => none
theorem dif_at {H H' : Hp} {p : Addr} {o : HO} (h : H p = none) (h' : H' p = some o) : dif H H' p = some o := by
  unfold dif
  rw [h]
  exact h'
theorem dif_some {H H' : Hp} {p : Addr} {o : HO} (h : dif H H' p = some o) : H p = none ∧ H' p = some o := by
  unfold dif at h
  cases e : H p with
  | none =>
    rw [e] at h
    exact ⟨rfl, h⟩
  | some u =>
    rw [e] at h
    cases h
theorem dif_l {H H1 H2 : Hp} (s : Same H1 H2) : Same (dif H H1) (dif H H2) := fun b o h => by
  obtain ⟨h1, h2⟩ := dif_some h
  exact dif_at h1 (s _ _ h2)
theorem dif_r {H H1 H2 : Hp} (s : Same H H1) : Same (dif H1 H2) (dif H H2) := fun b o h => by
  obtain ⟨h1, h2⟩ := dif_some h
  exact dif_at (s.free h1) h2
theorem dif_in {H H' : Hp} : Same (dif H H') H' := fun b o h => (dif_some h).2
theorem dp_same {K : PySem.W.Frag} {H H' : Hp} (s : Same H H') {d : PyData} {v : V} (h : Dp K H v d) : Dp K H' v d := dp_ext (ext_same s) d v h
theorem dps_same {K : PySem.W.Frag} {H H' : Hp} (s : Same H H') {ds : List PyData} {vs : List V} (h : DpAll K H vs ds) : DpAll K H' vs ds := dp_exts (ext_same s) ds vs h
def tLit (K : PySem.W.Frag) (d : PyData) : TE := fun _ H Q => ∀ v H', Same H H' → Dp K (dif H H') v d → Q v H'
def tLits (K : PySem.W.Frag) (ds : List PyData) : TA := fun _ H Q => ∀ vs H', Same H H' → DpAll K (dif H H') vs ds → Q vs H'
theorem pe_imp {X : Cx} {e : Expr} {t t' : TE} (h : PE X e t) (w : ∀ σ H Q, t' σ H Q → t σ H Q) : PE X e t' := ⟨fun pins s σ H Q I q => h.run pins s σ H Q I (w _ _ _ q)⟩
theorem pa_imp {X : Cx} {es : List Expr} {t t' : TA} (h : PA X es t) (w : ∀ σ H Q, t' σ H Q → t σ H Q) : PA X es t' := ⟨fun pos pins s σ H Q I q => h.run pos pins s σ H Q I (w _ _ _ q)⟩
section
variable {X : Cx}
theorem lits_nil : PA X [] (tLits X.K []) := pa_imp pa_nil fun σ H Q q => q [] H (Same.refl _) .nil
theorem lits_cons {e : Expr} {es : List Expr} {d : PyData} {ds : List PyData} (h : PE X e (tLit X.K d)) (hs : PA X es (tLits X.K ds)) (hst : starEach (e :: es) X.env = (false, eval e X.env) :: starEach es X.env := by rfl) : PA X (e :: es) (tLits X.K (d :: ds)) :=
  pa_imp (pa_cons h hs hst) fun σ H Q q v H1 s1 d1 vs H2 s2 d2 => q (v :: vs) H2 (s1.trans s2) (.cons (dp_same (dif_l s2) d1) (dps_same (dif_r s1) d2))
theorem lit_int {i : Int} {j : Nat} {pos : Pos} : PE X (.Constant (.int i) j pos) (tLit X.K (.int i)) := pe_imp pe_int fun σ H Q q => q _ H (Same.refl _) (.int _)
theorem lit_str {x : Str} {j : Nat} {pos : Pos} : PE X (.Constant (.str x) j pos) (tLit X.K (.str x)) := pe_imp pe_str fun σ H Q q => q _ H (Same.refl _) (.str _)
theorem lit_bl {b : Bool} {j : Nat} {pos : Pos} : PE X (.Constant (.bool b) j pos) (tLit X.K (.bool b)) := pe_imp pe_bl fun σ H Q q => q _ H (Same.refl _) (.bl _)
theorem lit_non {j : Nat} {pos : Pos} : PE X (.Constant .none j pos) (tLit X.K .none) := pe_imp pe_non fun σ H Q q => q _ H (Same.refl _) .non
theorem lit_neg {e : Expr} {i : Int} {pos : Pos} (h : PE X e (tC (.int i))) : PE X (.UnaryOp .USub e pos) (tLit X.K (.int (-i))) := pe_imp (pe_un un_neg h) fun σ H Q q => ⟨i, rfl, q _ H (Same.refl _) (.int _)⟩
theorem lit_tup {es : List Expr} {ds : List PyData} {x1 : Nat} {pos : Pos} (h : PA X es (tLits X.K ds)) (hl : ds.length ≤ 1000) : PE X (.Tuple es x1 pos) (tLit X.K (.tuple ds)) :=
  pe_imp (pe_tup h) fun σ H Q q vs H1 s1 d1 => ⟨small (by rw [dpAll_len d1]; exact hl), fun p hp => q _ _ (s1.trans (same_new hp _)) (.tup (SqT.of (dif_at (s1.free hp) upd_same)) (dps_same (dif_l (same_new hp _)) d1))⟩
theorem lit_lst {es : List Expr} {ds : List PyData} {pos : Pos} (h : PA X es (tLits X.K ds)) (hl : ds.length ≤ 1000) : PE X (.List es pos) (tLit X.K (.list ds)) :=
  pe_imp (pe_lst h) fun σ H Q q vs H1 s1 d1 => ⟨small (by rw [dpAll_len d1]; exact hl), fun p hp => q _ _ (s1.trans (same_new hp _)) (.lst (SqL.of (dif_at (s1.free hp) upd_same)) (dps_same (dif_l (same_new hp _)) d1))⟩
theorem lit_dict0 {pos : Pos} : PE X (.Dict [] [] pos) (tLit X.K (.dict (dictD []))) := pe_imp pe_dnewK fun σ H Q q p hp => q _ _ (same_new hp _) (.dct (ms := []) (dif_at hp upd_same))
theorem lit_dict1 {i k : Int} {j1 j2 : Nat} {p1 p2 pos : Pos} : PE X (.Dict [some (.Constant (.int i) j1 p1)] [.Constant (.int k) j2 p2] pos) (tLit X.K (.dict (dictD [(i, k)]))) :=
  pe_imp (pe_disp (pps_cons pe_int pe_int pps_nil) rfl rfl (by simp) (by show 1 ≤ 15; decide)) fun σ H Q q p hp => ⟨upd_same, [(Sum.inl i, V.int k)], rfl, by show 1 ≤ 15; decide, by
    rw [upd_upd]
    exact q _ _ (same_new hp _) (.dct (ms := [(i, k)]) (dif_at hp upd_same))⟩
end
section
variable {X : Cx}
theorem lit_big {j1 j2 : Nat} {p1 p2 pos : Pos} : PE X (.BinOp (.Constant (.int 10) j1 p1) .Pow (.Constant (.int 29) j2 p2) pos) (tLit X.K (.int (10 ^ 29))) := pe_imp (pe_op op_pow pe_int pe_int) fun σ H Q q => ⟨_, _, rfl, rfl, ⟨by decide, by decide, by decide⟩, q _ H (Same.refl _) (.int _)⟩
theorem lit_low {j0 j1 j2 : Nat} {p0 p1 p2 p3 pos : Pos} : PE X (.BinOp (.Constant (.int 0) j0 p0) .Sub (.BinOp (.Constant (.int 10) j1 p1) .Pow (.Constant (.int 29) j2 p2) p3) pos) (tLit X.K (.int (0 - 10 ^ 29))) := pe_imp (pe_op op_sub pe_int (pe_op op_pow pe_int pe_int)) fun σ H Q q => ⟨_, _, rfl, rfl, ⟨by decide, by decide, by decide⟩, _, _, rfl, rfl, q _ H (Same.refl _) (.int _)⟩
end
/-! odd things -/
def odd0 : List PyData := [.none, .bool true, .bool false, .int 0, .int 1, .int (-1), .int (10 ^ 29), .str "", .str "a", .str "G", .str "tie", .tuple [], .list [], .dict (dictD []), .tuple [.int 0], .list [.int 0], .tuple [.none]]
def odd1 : List PyData := [.tuple [.tuple []], .str "actor"]
def odd2 : List PyData := [.str "show", .dict (dictD [(0, 1)]), .tuple [.str "tie", .int 0], .tuple [.int 0, .int 1]]
/-- all but the state's list -/
def mn (st : Addr) (H : Hp) : Hp := fun b => if b = st then none else H b
theorem mn_at {st p : Addr} {H : Hp} {o : HO} (n : p ≠ st) (h : H p = some o) : mn st H p = some o := by
  unfold mn
  rw [if_neg n]
  exact h
theorem mn_some {st p : Addr} {H : Hp} {o : HO} (h : mn st H p = some o) : p ≠ st ∧ H p = some o := by
  unfold mn at h
  by_cases e : p = st
  · rw [if_pos e] at h
    cases h
  · rw [if_neg e] at h
    exact ⟨e, h⟩
theorem mn_kp {st : Addr} {H H' : Hp} (k : Kp st H H') : Same (mn st H) (mn st H') := fun b o h => by
  obtain ⟨n, h⟩ := mn_some h
  exact mn_at n (k b o n h)
theorem mn_in {st : Addr} {H : Hp} : Same (mn st H) H := fun b o h => (mn_some h).2
theorem mn_dif {st : Addr} {H H' : Hp} (s : ∃ l, H st = some l) : Same (dif H H') (mn st H') := fun b o h => by
  obtain ⟨h1, h2⟩ := dif_some h
  obtain ⟨l, hl⟩ := s
  exact mn_at (ne_of_none hl h1).symm h2
section
variable {P : Program} {w : World} {K : PySem.W.Frag} {mg : Str → Option Value} {base : Heap} {f : Addr} {fd : FuncData}
def spOdd (K : PySem.W.Frag) : Sp := fun vs H Q _ => ∃ (st : Addr), vs = [.ref st] ∧ StAt H st ∧ ∀ v d H', Mv st H H' → Dp K (mn st H') v d → d ∈ odd0 ++ odd1 ++ odd2 → Q v H'
theorem scOdd : FnScope ["_law_state_here", "_law_some_here"] ["_law_state_here"] (defScope sOdd) := ⟨rfl, rfl, rfl, by decide +kernel, rfl, by decide +kernel, by decide +kernel⟩
theorem ok_odd {k : Nat} (F : Fun K "_law_odd" "_law_odd" sOdd f fd) (T : Free mg) (cC : Cal P w K mg base "_law_choice" k ["_law_state_here", "_law_many"] spChoice) : FnOk P w K mg base CX0 (k + 1) f fd ["_law_state_here"] (spOdd K) := by
  refine F.ok scOdd (fun vs H Q E h => ?_) (fun cdv A outer s H vs Q E hr h => ?_)
  · obtain ⟨st, rfl, _⟩ := h
    rfl
  obtain ⟨st, rfl, sa, q⟩ := h
  refine ⟨_, pss_cons (ps_set (i := 1) scOdd.nd rfl (.inl rfl) (pe_lst (lits_cons lit_non (lits_cons lit_bl (lits_cons lit_bl (lits_cons lit_int (lits_cons lit_int (lits_cons (lit_neg pe_int) (lits_cons lit_big (lits_cons lit_str (lits_cons lit_str (lits_cons lit_str (lits_cons lit_str (lits_cons (lit_tup lits_nil (by decide)) (lits_cons (lit_lst lits_nil (by decide)) (lits_cons lit_dict0 (lits_cons (lit_tup (lits_cons lit_int lits_nil) (by decide)) (lits_cons (lit_lst (lits_cons lit_int lits_nil) (by decide)) (lits_cons (lit_tup (lits_cons lit_non lits_nil) (by decide)) lits_nil)))))))))))))))))))
    (pss_cons (ps_set (i := 1) scOdd.nd rfl (.inl rfl) (pe_op op_cat (pv 1) (pe_lst (lits_cons (lit_tup (lits_cons (lit_tup lits_nil (by decide)) lits_nil) (by decide)) (lits_cons lit_str lits_nil)))))
    (pss_one (ps_ret (pe_ix ix_list (pe_op op_cat (pv 1) (pe_lst (lits_cons lit_str (lits_cons lit_dict1 (lits_cons (lit_tup (lits_cons lit_str (lits_cons lit_int lits_nil)) (by decide)) (lits_cons (lit_tup (lits_cons lit_int (lits_cons lit_int lits_nil)) (by decide)) lits_nil)))))) (pe_cal cC hr rfl (pa_cons (pv 0) (pa_cons pe_int pa_nil))) (fun _ _ => rfl))))), ?_⟩
  have some_st := sa.some
  have stx : ∃ l, H st = some l := by
    obtain ⟨l, h⟩ := some_st
    exact ⟨_, h⟩
  intro v0 H0 s0 d0
  have l0 := dpAll_len d0
  refine ⟨small (by rw [l0]; decide), fun p0 h0 => ?_⟩
  have n0 := same_new h0 (.lst v0)
  refine ⟨_, rfl, fun v1 H1 s1 d1 => ?_⟩
  have l1 := dpAll_len d1
  refine ⟨small (by rw [l1]; decide), fun p1 h1 => ?_⟩
  have n1 := same_new h1 (.lst v1)
  refine ⟨p0, p1, v0, v1, rfl, rfl, n1 _ _ (s1 _ _ upd_same), upd_same, small (by rw [l0, l1]; decide), fun p2 h2 => ?_⟩
  have n2 := same_new h2 (.lst (v0 ++ v1))
  refine ⟨_, rfl, fun v3 H3 s3 d3 => ?_⟩
  have l3 := dpAll_len d3
  refine ⟨small (by rw [l3]; decide), fun p3 h3 => ?_⟩
  have n3 := same_new h3 (.lst v3)
  refine ⟨p2, p3, v0 ++ v1, v3, rfl, rfl, n3 _ _ (s3 _ _ upd_same), upd_same, small (by rw [List.length_append, l0, l1, l3]; decide), fun p4 h4 => ?_⟩
  have n4 := same_new h4 (.lst (v0 ++ v1 ++ v3))
  have sA := s0.trans n0
  have sB := sA.trans (s1.trans (n1.trans n2))
  have sC := sB.trans (s3.trans (n3.trans n4))
  have all : DpAll K (dif H (upd (upd H3 p3 (.lst v3)) p4 (.lst (v0 ++ v1 ++ v3)))) (v0 ++ v1 ++ v3) (odd0 ++ odd1 ++ odd2) :=
    dpAll_append (dps_same ((dif_r sB).trans (dif_l (n3.trans n4))) d3) (dpAll_append (dps_same ((dif_r sA).trans (dif_l (n1.trans (n2.trans (s3.trans (n3.trans n4)))))) d1) (dps_same (dif_l (n0.trans (s1.trans (n1.trans (n2.trans (s3.trans (n3.trans n4))))))) d0))
  have len := dpAll_len all
  refine ⟨_, rfl, st, 23, rfl, sa.same sC, by decide, by decide, fun r H5 r0 r1 mv => ?_⟩
  have len' : (v0 ++ v1 ++ v3).length = 23 := len
  have np4 : p4 ≠ st := (sa.same (sB.trans (s3.trans n3))).ne h4
  have hr5 : r.toNat < (v0 ++ v1 ++ v3).length := by omega
  have hx := List.getElem?_eq_getElem hr5
  obtain ⟨d, hd, hdp⟩ := dpAll_get' all hx
  refine ⟨p4, _, r, _, rfl, rfl, SqL.of (mv.kp _ _ np4 upd_same), atI_at r0 hx, q _ d H5 ⟨(Kp.of_same sC).trans mv.kp, mv.sa⟩ (dp_same ((mn_dif stx).trans (mn_kp mv.kp)) hdp) (List.mem_of_getElem? hd)⟩
end
/-! a tuple against the empty one, a list against the empty one -/
section
variable {X : Cx}
def rNeE (K : PySem.W.Frag) : R2 := fun x y H Q => ∃ a b xs, x = .ref a ∧ y = .ref b ∧ SqT K H a xs ∧ SqT K H b [] ∧ Q (.bl (!xs.isEmpty)) H
theorem op_neE (hu : X.A.units + 64 < cLine) : OpR X (compareOp .NotEq) (rNeE X.K) := by
  intro pins s σ H x y v u Q I rx ry h
  obtain ⟨a, b, xs, rfl, rfl, ha, hb, q⟩ := h
  cases rx
  cases ry
  obtain ⟨its, r1, ⟨o1, g1, c1, n1, d1⟩, _⟩ := I.tuple ha
  obtain ⟨its2, r2, ⟨o2, g2, c2, n2, d2⟩, _⟩ := I.tuple hb
  cases r2
  refine SeqAt.RcNeAt.tuples (e := fun _ => true) ⟨o1, g1, c1, n1, d1⟩ ⟨o2, g2, c2, n2, d2⟩ (by omega) (fun j _ h2 => absurd h2 (by simp)) X.prog X.w _ _ ⟨.bl (!xs.isEmpty), H, I, ?_, q⟩
  have l := r1.length
  cases xs with
  | nil =>
    cases r1
    rfl
  | cons z zs =>
    cases r1 with
    | cons _ _ => rfl
def rNeLE (K : PySem.W.Frag) : R2 := fun x y H Q => ∃ a b xs, x = .ref a ∧ y = .ref b ∧ SqL K H a xs ∧ SqL K H b [] ∧ Q (.bl (!xs.isEmpty)) H
theorem op_neLE (hu : X.A.units + 64 < cLine) : OpR X (compareOp .NotEq) (rNeLE X.K) := by
  intro pins s σ H x y v u Q I rx ry h
  obtain ⟨a, b, xs, rfl, rfl, ha, hb, q⟩ := h
  cases rx
  cases ry
  obtain ⟨its, r1, ⟨o1, n1, g1, c1, _, d1⟩, _⟩ := I.list ha
  obtain ⟨its2, r2, ⟨o2, n2, g2, c2, _, d2⟩, _⟩ := I.list hb
  cases r2
  cases xs with
  | nil =>
    cases r1
    exact SeqAt.RcNeAt.lists (e := fun _ => true) ⟨o1, g1, c1, n1, d1⟩ ⟨o2, g2, c2, n2, d2⟩ rfl (by omega) (fun j _ h2 => absurd h2 (by simp)) X.prog X.w _ _ ⟨.bl false, H, I, rfl, q⟩
  | cons z zs =>
    cases r1 with
    | cons _ _ => exact SeqAt.RcNeAt.lists_lengths ⟨o1, g1, c1, n1, d1⟩ ⟨o2, g2, c2, n2, d2⟩ (by simp) (by omega) X.prog X.w _ _ ⟨.bl true, H, I, rfl, q⟩
end
/-! t[::-1] -/
section
open PySem.Spec PyProof.Rows
theorem fm_congr {α β : Type} {f g : α → Option β} : ∀ {l : List α}, (∀ k ∈ l, f k = g k) → l.filterMap f = l.filterMap g
  | [], _ => rfl
  | x :: r, h => by rw [List.filterMap_cons, List.filterMap_cons, h x List.mem_cons_self, fm_congr fun k hk => h k (List.mem_cons_of_mem _ hk)]
theorem rev_pick (xs : Array Value) : ((List.range xs.size).filterMap fun (k : Nat) => xs[(((xs.size : Int) - 1) + (k : Int) * (-1)).toNat]?) = xs.toList.reverse := by
  have e : ∀ k ∈ List.range xs.size, xs[(((xs.size : Int) - 1) + (k : Int) * (-1)).toNat]? = some (xs.toList.reverse.getD k .none) := fun k hk => by
    have hk : k < xs.size := List.mem_range.mp hk
    have e1 : (((xs.size : Int) - 1) + (k : Int) * (-1)).toNat = xs.size - 1 - k := by omega
    have h2 : k < xs.toList.reverse.length := by simpa using hk
    rw [e1, List.getD_eq_getElem?_getD, List.getElem?_eq_getElem h2, List.getElem_reverse, Array.getElem?_eq_getElem (by omega)]
    simp
  rw [fm_congr e]
  refine List.ext_getElem? fun i => ?_
  rw [show (fun k => some (xs.toList.reverse.getD k Value.none)) = (some ∘ fun k => xs.toList.reverse.getD k Value.none) from rfl, List.filterMap_eq_map, List.getElem?_map]
  by_cases hi : i < xs.size
  · have h2 : i < xs.toList.reverse.length := by simpa using hi
    rw [List.getElem?_range hi, List.getElem?_eq_getElem h2]
    simp [List.getD_eq_getElem?_getD, List.getElem?_eq_getElem h2]
  · rw [List.getElem?_eq_none (by simpa using hi), List.getElem?_eq_none (by simpa using hi)]
    rfl
variable {prog : Program} {w : World} {A : Around} {E : Value → Shared → Prop} {s : Shared}
theorem getItem_tuple_rev {t sl : Addr} {items : Array Value} {u : Tok} {Q : Value → Shared → Prop} (ht : IsTup s.heap t items) (hs : s.heap.IsSliceOf sl .none .none (.int (-1) u))
    (h : Q (.ref s.heap.objs.size) { s with heap := s.heap.push { cls := .type "tuple", data := .seq items.toList.reverse.toArray } })
    (hsz : items.size ≤ sizeLine) : wpAny (model prog w) A (getItem (.ref t) (.ref sl)) Q E s := by
  have htake : sizeOk (.seq items.toList.reverse.toArray) := by
    show items.toList.reverse.toArray.size ≤ sizeLine
    rw [List.size_toArray, List.length_reverse, Array.length_toList]
    exact hsz
  obtain ⟨so, so1, so2, so3⟩ := id hs
  have slot := PyProof.Rows.slot_tuple_getitem
  have tt := ht.typeIs
  unfold getItem; (try with_reducible refine wpAny_holding ?_); (first | refine wpAny_bind (wpAny_pure ?_) | skip); refine wpAny_bind (wpAny_sequenceKey tt (by decide) ?_)
  refine wpAny_bind (wpAny_callSpecial?_slot (name := Str.ofString "__getitem__") tt slot (wpAny_call_entry slot tt entry_tuple_getitem ?_ (args_tuple_getitem _ _)))
  show wpAny _ _ (Builtin.Tuple.tupleItemsOf (.ref t) >>= _) _ _ s; refine wpAny_bind (tupleItemsOf_ ht (wpAny_bind (wpAny_typeOf ⟨so, so1, so2⟩ ?_))); rw [if_pos (by decide)]
  have places : Builtin.Slice.slicePlaces ((items.size : Int) - 1) (-1) (-1) = items.size := by
    unfold Builtin.Slice.slicePlaces
    rw [if_neg (by decide)]
    by_cases c : (items.size : Int) - 1 > -1
    · rw [if_pos c]
      show (((items.size : Int) - 1 - -1 - 1) / 1 + 1).toNat = _
      rw [Int.ediv_one]
      omega
    · rw [if_neg c]
      omega
  have applied : ∀ {Q : Int × Int × Nat → Shared → Prop}, Q ((items.size : Int) - 1, -1, items.size) s → wpAny (model prog w) A.in1 (Builtin.Slice.sliceApplied (.ref sl) (pure (items.size : Int))) Q E s := fun {Q} h => by
    unfold Builtin.Slice.sliceApplied Builtin.Slice.sliceFields
    refine wpAny_bind (wpAny_bind (wpAny_field so1 so3 (x := .none) rfl (wpAny_bind (wpAny_field so1 so3 (x := .none) rfl (wpAny_bind (wpAny_field so1 so3 (x := .int (-1) u) rfl (wpAny_pure ?_)))))))
    refine wpAny_bind (slicePart_int ?_)
    show wpAny _ _ (if ((-1 : Int) == 0) = true then _ else _) _ _ s
    rw [if_neg (by decide)]
    refine wpAny_bind (slicePart_none (wpAny_bind (slicePart_none (wpAny_bind (wpAny_pure ?_)))))
    show wpAny _ _ (pure ((items.size : Int) - 1, (-1 : Int), Builtin.Slice.slicePlaces ((items.size : Int) - 1) (-1) (-1))) _ _ s
    rw [places]
    exact wpAny_pure h
  refine wpAny_bind (applied ?_)
  show wpAny _ _ (if ((items.size : Int) - 1 == 0 && (-1 : Int) == 1 && items.size == items.size) = true then _ else _) _ _ s
  rw [if_neg (by simp), rev_pick]
  refine wpAny_bind (m := Builtin.Tuple.tupleExact _) (wpAny_newObj_type (wpAny_pure ⟨_, rfl, wpAny_pure h⟩) htake)
end
section
open PySem.Spec PyProof.Rows
def tRev (K : PySem.W.Frag) (te : TE) : TE := fun σ H Q => te σ H fun x H1 => ∃ a xs, x = .ref a ∧ SqT K H1 a xs ∧ ∀ p, H1 p = none → Q (.ref p) (upd H1 p (.tup xs.reverse))
theorem pe_rev {X : Cx} {e : Expr} {te : TE} {j : Nat} {p1 p2 p3 pos : Pos} (he : PE X e te) : PE X (.Subscript e (.Slice none none (some (.UnaryOp .USub (.Constant (.int 1) j p1) p2)) p3) pos) (tRev X.K te) := by
  refine ⟨fun pins s σ H Q I h => ?_⟩
  refine Subscript_ (thn (he.run pins s σ H _ I h) fun v s1 ⟨x, H1, I1, r1, q1⟩ => ?_)
  obtain ⟨a, xs, rfl, hx, q⟩ := q1
  cases r1
  refine wpAny_Slice ?_
  rw [evalPart_none, evalPart_some]
  refine wpAny_pure (wpAny_pure ?_)
  refine thn ((pe_un (X := X) un_neg (pe_int (X := X) (i := 1) (j := j) (pos := p1))).run pins s1 σ H1 (fun v H' => v = .int (-1) ∧ H' = H1) I1 ⟨1, rfl, rfl, rfl⟩) fun u s2 ⟨z, H2, I2, r2, e1, e2⟩ => ?_
  subst e1 e2
  obtain ⟨t, rfl⟩ := r2
  have I4 : Inv X pins σ H2 { s2 with heap := s2.heap.push { cls := .type "slice", data := .fields #[.none, .none, .int (-1) t] } } := I2.kept (t' := s2.toks) fun b ob q => Heap.get?_push_of_some _ q
  obtain ⟨its, r, ht, hz⟩ := I4.tuple hx
  have hlen : its.toArray.size = xs.length := by rw [List.size_toArray]; exact r.length.symm
  refine tail_any (ops := [.ref a, .ref s2.heap.objs.size]) ht.typeIs PyProof.Rows.slot_tuple_getitem.lookup ?_ (by with_unfolding_all rfl)
  refine getItem_tuple_rev ht (Heap.IsSliceOf.new ..) ?_ (by rw [hlen]; exact hz)
  refine ⟨.ref _, _, I4.laid (t' := s2.toks) (o := .tup xs.reverse) (fun b ob q => Heap.get?_push_of_some _ q) (Nat.le_refl _) ?_, rfl, q _ (I4.hok.fresh (Nat.le_refl _))⟩
  exact ⟨by rw [List.length_reverse]; exact hz, _, r.reverse, IsTup.new _ _⟩
end
/-! tuples cut and put together, the tokens of the empty and the whole ones told alike -/
section
variable {K : PySem.W.Frag}
theorem catA_run {H : Hp} {a b : Addr} {xs ys : List V} {Q : VK} (ha : SqT K H a xs) (hb : SqT K H b ys) (hz : xs.length + ys.length ≤ 1000) (q : ∀ r H', Same H H' → SqT K H' r (xs ++ ys) → Q (.ref r) H') : rCatA K (.ref a) (.ref b) H Q := by
  refine ⟨a, b, xs, ys, rfl, rfl, ha, hb, small hz, fun e => ?_, fun _ e => ?_, fun _ _ p hp => q p _ (same_new hp _) (SqT.of upd_same)⟩
  · subst e
    exact q b H (Same.refl _) hb
  · subst e
    exact q a H (Same.refl _) (by rw [List.append_nil]; exact ha)
theorem slA_run {H : Hp} {a : Addr} {xs : List V} {lo hi : Option Int} {Q : VK} (ha : SqT K H a xs) (q : ∀ r H', Same H H' → SqT K H' r (cutV xs lo hi) → Q (.ref r) H') : rSlA K (.ref a) lo hi H Q := by
  refine ⟨a, xs, rfl, ha, fun wh => ?_, fun _ p hp => q p _ (same_new hp _) (SqT.of upd_same)⟩
  refine q a H (Same.refl _) ?_
  unfold cutV
  rw [wh.1, wh.2, Nat.sub_zero, List.drop_zero, List.take_length]
  exact ha
theorem cut_to {xs : List V} {b : Int} (h0 : 0 ≤ b) (h1 : b ≤ xs.length) : cutV xs none (some b) = xs.take b.toNat := by
  obtain ⟨n, rfl⟩ : ∃ n : Nat, b = n := ⟨b.toNat, by omega⟩
  unfold cutV
  rw [HT.sIx_none, HT.sIx_nat, List.drop_zero, Nat.sub_zero, Nat.min_eq_left (by omega)]
  rfl
theorem cut_from {xs : List V} {b : Int} (h0 : 0 ≤ b) (h1 : b ≤ xs.length) : cutV xs (some b) none = xs.drop b.toNat := by
  obtain ⟨n, rfl⟩ : ∃ n : Nat, b = n := ⟨b.toNat, by omega⟩
  unfold cutV
  rw [HT.sIx_none, HT.sIx_nat, Nat.min_eq_left (by omega)]
  have e : xs.length - n = (xs.drop n).length := by rw [List.length_drop]
  rw [e, List.take_length]
  rfl
theorem set_split {α : Type} : ∀ (xs : List α) (b : Nat) (v : α), b < xs.length → xs.take b ++ [v] ++ xs.drop (b + 1) = xs.set b v
  | x :: r, 0, v, _ => rfl
  | x :: r, b + 1, v, h => by
    have ih := set_split r b v (by simpa using h)
    simp only [List.take_succ_cons, List.cons_append, List.drop_succ_cons, List.set_cons_succ]
    rw [ih]
theorem dpAll_set {H : Hp} {v : V} {d : PyData} (h : Dp K H v d) : ∀ {xs : List V} {ds : List PyData} (i : Nat), DpAll K H xs ds → DpAll K H (xs.set i v) (ds.set i d)
  | _, _, _, .nil => .nil
  | _, _, 0, .cons _ t => .cons h t
  | _, _, i + 1, .cons a t => .cons a (dpAll_set h i t)
end
section
theorem depth_all {k : Nat} : ∀ {l : List PyData}, (∀ z ∈ l, z.depth ≤ k) → PyData.depthAll l ≤ k
  | [], _ => by simp only [PyData.depthAll]; exact Nat.zero_le _
  | u :: v, h => by
    have h1 := h u List.mem_cons_self
    have h2 := depth_all (l := v) fun z hz => h z (List.mem_cons_of_mem _ hz)
    simp only [PyData.depthAll]
    omega
theorem short_all {B : Nat} : ∀ {l : List PyData}, (∀ z ∈ l, z.leavesShort B = true) → PyData.leavesShortAll B l = true
  | [], _ => by simp only [PyData.leavesShortAll]
  | u :: v, h => by
    simp only [PyData.leavesShortAll, Bool.and_eq_true]
    exact ⟨h u List.mem_cons_self, short_all fun z hz => h z (List.mem_cons_of_mem _ hz)⟩
theorem show_all : ∀ {l : List PyData}, (∀ z ∈ l, z.showable = true) → PyData.showableAll l = true
  | [], _ => by simp only [PyData.showableAll]
  | u :: v, h => by
    simp only [PyData.showableAll, Bool.and_eq_true]
    exact ⟨h u List.mem_cons_self, show_all fun z hz => h z (List.mem_cons_of_mem _ hz)⟩
theorem bulk_app : ∀ (a b : List PyData), PyData.bulkAll (a ++ b) = PyData.bulkAll a + PyData.bulkAll b
  | [], b => by simp [PyData.bulkAll]
  | x :: a, b => by
    simp only [List.cons_append, PyData.bulkAll]
    rw [bulk_app a b]
    omega
theorem bulk_set : ∀ {l : List PyData} {i : Nat} {e e' : PyData}, l[i]? = some e → PyData.bulkAll (l.set i e') + e.bulk = PyData.bulkAll l + e'.bulk
  | x :: l, 0, e, e', h => by
    cases h
    simp only [List.set_cons_zero, PyData.bulkAll]
    omega
  | x :: l, i + 1, e, e', h => by
    have := bulk_set (l := l) (i := i) (e := e) (e' := e') h
    simp only [List.set_cons_succ, PyData.bulkAll]
    omega
theorem bulk_cut (l : List PyData) (i : Nat) : PyData.bulkAll (l.take i) + PyData.bulkAll (l.drop i) = PyData.bulkAll l := by
  rw [← bulk_app, List.take_append_drop]
theorem bulk_drop (l : List PyData) (i : Nat) : PyData.bulkAll (l.drop i) ≤ PyData.bulkAll l := by
  have := bulk_cut l i
  omega
theorem sqT_mn {K : PySem.W.Frag} {H : Hp} {st r : Addr} {xs : List V} (sa : StAt H st) (h : SqT K H r xs) : SqT K (mn st H) r xs := by
  obtain ⟨l, hl⟩ := sa.some
  rcases h with (h | ⟨o, h⟩) | h
  · exact .inl (.inl (mn_at (fun e => by rw [e, hl] at h; cases h) h))
  · exact .inl (.inr ⟨o, mn_at (fun e => by rw [e, hl] at h; cases h) h⟩)
  · exact .inr h
theorem sqT_same {K : PySem.W.Frag} {H H' : Hp} {r : Addr} {xs : List V} (s : Same H H') (h : SqT K H r xs) : SqT K H' r xs := sqT_kt (KT.of_same s) h
theorem dpAll_take {K : PySem.W.Frag} {H : Hp} : ∀ {vs : List V} {ds : List PyData} (i : Nat), DpAll K H vs ds → DpAll K H (vs.take i) (ds.take i)
  | _, _, 0, _ => by simp only [List.take_zero]; exact .nil
  | _, _, i + 1, .nil => .nil
  | _, _, i + 1, .cons a t => by simp only [List.take_succ_cons]; exact .cons a (dpAll_take i t)
theorem dpAll_drop {K : PySem.W.Frag} {H : Hp} : ∀ {vs : List V} {ds : List PyData} (i : Nat), DpAll K H vs ds → DpAll K H (vs.drop i) (ds.drop i)
  | _, _, 0, h => by simp only [List.drop_zero]; exact h
  | _, _, i + 1, .nil => .nil
  | _, _, i + 1, .cons a t => by simp only [List.drop_succ_cons]; exact dpAll_drop i t
theorem cut_from0 {xs : List V} {b : Int} (h0 : 0 ≤ b) : cutV xs (some b) none = xs.drop b.toNat := by
  by_cases h1 : b ≤ xs.length
  · exact cut_from h0 h1
  · obtain ⟨n, rfl⟩ : ∃ n : Nat, b = n := ⟨b.toNat, by omega⟩
    unfold cutV
    rw [HT.sIx_none, HT.sIx_nat, Nat.min_eq_right (by omega), Nat.sub_self, List.take_zero]
    exact (List.drop_eq_nil_of_le (by omega)).symm
theorem bulk_mem : ∀ {l : List PyData} {x : PyData}, x ∈ l → x.bulk + 1 ≤ PyData.bulkAll l
  | u :: v, x, h => by
    simp only [PyData.bulkAll]
    rcases List.mem_cons.mp h with rfl | h
    · omega
    · have := bulk_mem h
      omega
theorem noP {σ : L2.St} {H : Hp} {Q : Option Int → Hp → Prop} (h : Q none H) : tNoPart σ H Q := h
theorem pick_dp {K : PySem.W.Frag} {H : Hp} {vs : List V} {ds : List PyData} {r : Int} (h : DpAll K H vs ds) (r0 : 0 ≤ r) (r1 : r < ds.length) : ∃ v d, atI vs r = some v ∧ Dp K H v d ∧ d ∈ ds := by
  have hl := dpAll_len h
  have hr : r.toNat < vs.length := by omega
  obtain ⟨d, hd, hdp⟩ := dpAll_get' h (List.getElem?_eq_getElem hr)
  exact ⟨_, d, atI_at r0 (List.getElem?_eq_getElem hr), hdp, List.mem_of_getElem? hd⟩
theorem pss_imp {X : Cx} {sts : List Stmt} {t t' : TS} (h : PSs X sts t) (w : ∀ D σ H, t' D σ H → t D σ H) : PSs X sts t' := ⟨fun pins s σ H D I q => h.run pins s σ H D I (w _ _ _ q)⟩
def strD : PyData → Bool
  | .str _ => true
  | _ => false
theorem kit_str {K : PySem.W.Frag} (d : PyData) : PySem.W.kitOne K (.type (kindD d)) (.type "str") = some (strD d) := by
  cases d with
  | none => exact kit_ty (show kitB "NoneType" "str" = some false by decide +kernel)
  | bool _ => exact kit_ty (show kitB "bool" "str" = some false by decide +kernel)
  | int _ => exact kit_ty (show kitB "int" "str" = some false by decide +kernel)
  | str _ => exact kit_ty (show kitB "str" "str" = some true by decide +kernel)
  | list _ => exact kit_ty (show kitB "list" "str" = some false by decide +kernel)
  | tuple _ => exact kit_ty (show kitB "tuple" "str" = some false by decide +kernel)
  | dict _ => exact kit_ty (show kitB "dict" "str" = some false by decide +kernel)
end
section
variable {P : Program} {w : World} {K : PySem.W.Frag} {mg : Str → Option Value} {base : Heap} {f : Addr} {fd : FuncData}
theorem scLWhole : FnScope ["_law_thing"] ["_law_thing"] (defScope sLWhole) := ⟨rfl, rfl, rfl, by decide +kernel, rfl, by decide +kernel, by decide +kernel⟩
theorem ok_lwhole {k : Nat} (F : Fun K "_law_whole" "_law_whole" sLWhole f fd) (T : Free mg) : FnOk P w K mg base CX0 (k + 1) f fd ["_law_thing"] (spWhole K) := by
  refine F.ok scLWhole (fun vs H Q E h => ?_) (fun cdv A outer s H vs Q E hr h => ?_)
  · obtain ⟨x, d, rfl, _⟩ := h
    rfl
  obtain ⟨x, d, rfl, hx, q⟩ := h
  refine ⟨_, pss_one (ps_ret (pe_and (pe_callB call_isi rfl T.isi (by decide +kernel) (pa_cons (pv 0) (pa_cons (pe_bltn (v := .ty "int") rfl T.int (by decide +kernel) rfl) pa_nil)))
    (pe_one (pe_not (pe_callB call_isi rfl T.isi (by decide +kernel) (pa_cons (pv 0) (pa_cons (pe_bltn (v := .ty "bool") rfl T.bool (by decide +kernel) rfl) pa_nil))))))), ?_⟩
  have ht := ty_of hx
  refine ⟨_, rfl, x, _, _, _, _, rfl, .ty "int", ht, kit_int d, _, rfl, ?_⟩
  cases d with
  | int i => exact ifT rfl ⟨_, rfl, _, _, _, _, _, rfl, .ty "bool", ht, kit_bool _, _, rfl, q⟩
  | bool b => exact ifT rfl ⟨_, rfl, _, _, _, _, _, rfl, .ty "bool", ht, kit_bool _, _, rfl, q⟩
  | none => exact ifF rfl q
  | str _ => exact ifF rfl q
  | list _ => exact ifF rfl q
  | tuple _ => exact ifF rfl q
  | dict _ => exact ifF rfl q
end
/-! data that may be shown, however it is bent -/
inductive Bd (c wd : Nat) : PyData → Prop
  | non : Bd c wd .none
  | bl {t : Bool} : Bd c wd (.bool t)
  | int {i : Int} (h : i.natAbs < c) : Bd c wd (.int i)
  | str {x : Str} (h : ∀ z ∈ x.cps.toList, z < 128) : Bd c wd (.str x)
  | lst {es : List PyData} (len : es.length ≤ wd) (each : ∀ z ∈ es, Bd c wd z) : Bd c wd (.list es)
  | tup {es : List PyData} (len : es.length ≤ wd) (each : ∀ z ∈ es, Bd c wd z) : Bd c wd (.tuple es)
  | dct {kvs : List (PyData × PyData)} (h1 : (PyData.dict kvs).showable = true) (h2 : (PyData.dict kvs).leavesShort 40 = true) : Bd c wd (.dict kvs)
theorem Bd.mono {c c' wd wd' : Nat} (h : c ≤ c') (h' : wd ≤ wd') {d : PyData} (b : Bd c wd d) : Bd c' wd' d := by
  induction b with
  | non => exact .non
  | bl => exact .bl
  | int q => exact .int (Nat.lt_of_lt_of_le q h)
  | str q => exact .str q
  | lst l _ ih => exact .lst (Nat.le_trans l h') ih
  | tup l _ ih => exact .tup (Nat.le_trans l h') ih
  | dct a b => exact .dct a b
theorem Bd.shw {c wd : Nat} (hc : c ≤ 10 ^ 35) {d : PyData} (b : Bd c wd d) : d.showable = true := by
  induction b with
  | non => simp only [PyData.showable]
  | bl => simp only [PyData.showable]
  | @int i q =>
    simp only [PyData.showable, decide_eq_true_eq]
    by_cases z : i.natAbs = 0
    · rw [z]
      decide
    · exact Nat.lt_of_lt_of_le ((Nat.log2_lt z).mpr (Nat.lt_of_lt_of_le (Nat.lt_of_lt_of_le q hc) (show 10 ^ 35 ≤ 2 ^ 120 by decide))) (by decide)
  | str q => simp only [PyData.showable]
  | lst _ _ ih => simp only [PyData.showable]; exact show_all ih
  | tup _ _ ih => simp only [PyData.showable]; exact show_all ih
  | dct a b => exact a
theorem Bd.sho {c wd : Nat} (hc : c ≤ 10 ^ 35) {d : PyData} (b : Bd c wd d) : d.leavesShort 40 = true := by
  induction b with
  | non => simp only [PyData.leavesShort]
  | bl => simp only [PyData.leavesShort]
  | @int i q =>
    simp only [PyData.leavesShort, decide_eq_true_eq]
    have e := PySem.int_text_length_le10 (k := 35) (by decide) (Nat.lt_of_lt_of_le q hc)
    show (Str.ofString (toString i)).length ≤ 40
    rw [ofString_length]
    exact Nat.le_trans e (by decide)
  | str q =>
    simp only [PyData.leavesShort, List.all_eq_true, decide_eq_true_eq]
    intro z hz
    exact Nat.lt_of_lt_of_le (q z hz) (by decide)
  | lst _ _ ih => simp only [PyData.leavesShort]; exact short_all ih
  | tup _ _ ih => simp only [PyData.leavesShort]; exact short_all ih
  | dct a b => exact b
def bdQ (c wd : Nat) : Nat → PyData → Bool
  | 0, _ => false
  | n + 1, .tuple es => (decide (es.length ≤ wd) && es.all (bdQ c wd n))
  | n + 1, .list es => (decide (es.length ≤ wd) && es.all (bdQ c wd n))
  | _ + 1, .int i => decide (i.natAbs < c)
  | _ + 1, .str x => x.cps.toList.all fun z => decide (z < 128)
  | _ + 1, .dict kvs => (PyData.dict kvs).showable && (PyData.dict kvs).leavesShort 40
  | _ + 1, .none => true
  | _ + 1, .bool _ => true
theorem bdQ_ok {c wd : Nat} : ∀ (n : Nat) (d : PyData), bdQ c wd n d = true → Bd c wd d
  | 0, _, h => by cases h
  | n + 1, .tuple es, h => by
    have h : (decide (es.length ≤ wd) && es.all (bdQ c wd n)) = true := h
    rw [Bool.and_eq_true] at h
    exact .tup (of_decide_eq_true h.1) fun z hz => bdQ_ok n z (List.all_eq_true.mp h.2 z hz)
  | n + 1, .list es, h => by
    have h : (decide (es.length ≤ wd) && es.all (bdQ c wd n)) = true := h
    rw [Bool.and_eq_true] at h
    exact .lst (of_decide_eq_true h.1) fun z hz => bdQ_ok n z (List.all_eq_true.mp h.2 z hz)
  | n + 1, .int i, h => .int (of_decide_eq_true h)
  | n + 1, .str x, h => .str fun z hz => of_decide_eq_true (List.all_eq_true.mp h z hz)
  | n + 1, .dict kvs, h => by
    have h : ((PyData.dict kvs).showable && (PyData.dict kvs).leavesShort 40) = true := h
    rw [Bool.and_eq_true] at h
    exact .dct h.1 h.2
  | n + 1, .none, _ => .non
  | n + 1, .bool _, _ => .bl
/-- what one bending makes of it -/
structure Bn (c wd : Nat) (d d' : PyData) : Prop where
  bd : Bd (c + 10000) (wd + 1) d'
  blk : d'.bulk ≤ 2 * d.bulk + 20
  dep : d'.depth ≤ d.depth + 3
def oddQ (o : PyData) : Bool := bdQ (10 ^ 29 + 1) 2 3 o && decide (o.bulk ≤ 12) && decide (o.depth ≤ 3)
theorem odd_all : (odd0 ++ odd1 ++ odd2).all oddQ = true := by decide +kernel
theorem odd_is {o : PyData} (h : o ∈ odd0 ++ odd1 ++ odd2) : Bd (10 ^ 29 + 1) 2 o ∧ o.bulk ≤ 12 ∧ o.depth ≤ 3 := by
  have := List.all_eq_true.mp odd_all o h
  unfold oddQ at this
  simp only [Bool.and_eq_true, decide_eq_true_eq] at this
  exact ⟨bdQ_ok _ _ this.1.1, this.1.2, this.2⟩
theorem odd_bn {c wd : Nat} (hc : 10 ^ 29 + 1 ≤ c) (hw : 2 ≤ wd) {d o : PyData} (h : o ∈ odd0 ++ odd1 ++ odd2) : Bn c wd d o := by
  obtain ⟨a, b, e⟩ := odd_is h
  exact ⟨a.mono (by omega) (by omega), by omega, by omega⟩
theorem bulk_tup (l : List PyData) : (PyData.tuple l).bulk = PyData.bulkAll l := by simp only [PyData.bulk]
theorem bulk_lst (l : List PyData) : (PyData.list l).bulk = PyData.bulkAll l := by simp only [PyData.bulk]
theorem depth_tup (l : List PyData) : (PyData.tuple l).depth = 1 + PyData.depthAll l := by simp only [PyData.depth]; omega
theorem depth_lst (l : List PyData) : (PyData.list l).depth = 1 + PyData.depthAll l := by simp only [PyData.depth]; omega
theorem depth_mem : ∀ {l : List PyData} {z : PyData}, z ∈ l → z.depth ≤ PyData.depthAll l
  | u :: v, z, h => by
    simp only [PyData.depthAll]
    rcases List.mem_cons.mp h with rfl | h
    · omega
    · have := depth_mem h
      omega
theorem len_bulk : ∀ (l : List PyData), l.length ≤ PyData.bulkAll l
  | [] => by simp [PyData.bulkAll]
  | u :: v => by
    have := len_bulk v
    simp only [PyData.bulkAll, List.length_cons]
    omega
theorem bulk_rev : ∀ (l : List PyData), PyData.bulkAll l.reverse = PyData.bulkAll l
  | [] => rfl
  | u :: v => by
    rw [List.reverse_cons, bulk_app, bulk_rev v]
    simp only [PyData.bulkAll]
    omega
/-- a tuple of things of the old one -/
theorem bn_tup {c wd : Nat} {ds l : List PyData} (hd : Bd c wd (.tuple ds)) (hl : l.length ≤ wd + 1) (hm : ∀ z ∈ l, z ∈ ds ∨ z = .int 0 ∨ z = .tuple ds) (hc : 0 < c) (hb : PyData.bulkAll l ≤ 2 * PyData.bulkAll ds + 20) : Bn c wd (.tuple ds) (.tuple l) := by
  have each : ∀ z ∈ ds, Bd c wd z := by cases hd with | tup _ e => exact e
  have len : ds.length ≤ wd := by cases hd with | tup l _ => exact l
  refine ⟨.tup hl fun z hz => ?_, by rw [bulk_tup, bulk_tup]; exact hb, ?_⟩
  · rcases hm z hz with q | rfl | rfl
    · exact (each z q).mono (by omega) (by omega)
    · exact .int (by show 0 < _; omega)
    · exact hd.mono (by omega) (by omega)
  · rw [depth_tup, depth_tup]
    have : PyData.depthAll l ≤ PyData.depthAll ds + 1 := depth_all fun z hz => by
      rcases hm z hz with q | rfl | rfl
      · have := depth_mem q
        omega
      · simp only [PyData.depth]
        omega
      · rw [depth_tup]
        omega
    omega
theorem bn_lst {c wd : Nat} {ds : List PyData} (hd : Bd c wd (.tuple ds)) : Bn c wd (.tuple ds) (.list ds) := by
  have each : ∀ z ∈ ds, Bd c wd z := by cases hd with | tup _ e => exact e
  have len : ds.length ≤ wd := by cases hd with | tup l _ => exact l
  exact ⟨.lst (by omega) fun z hz => (each z hz).mono (by omega) (by omega), by rw [bulk_tup, bulk_lst]; omega, by rw [depth_tup, depth_lst]; omega⟩
theorem bn_set {c wd : Nat} {ds : List PyData} {i : Nat} {e e' : PyData} (hd : Bd c wd (.tuple ds)) (hi : ds[i]? = some e) (h : Bn c wd e e') : Bn c wd (.tuple ds) (.tuple (ds.set i e')) := by
  have each : ∀ z ∈ ds, Bd c wd z := by cases hd with | tup _ e => exact e
  have len : ds.length ≤ wd := by cases hd with | tup l _ => exact l
  have hm := List.mem_of_getElem? hi
  refine ⟨.tup (by rw [List.length_set]; omega) fun z hz => ?_, ?_, ?_⟩
  · rcases List.mem_or_eq_of_mem_set hz with q | q
    · exact (each z q).mono (by omega) (by omega)
    · rw [q]
      exact h.bd
  · rw [bulk_tup, bulk_tup]
    have b1 := bulk_set (e' := e') hi
    have b2 := bulk_mem hm
    have b3 := h.blk
    omega
  · rw [depth_tup, depth_tup]
    have dm := depth_mem hm
    have : PyData.depthAll (ds.set i e') ≤ PyData.depthAll ds + 3 := depth_all fun z hz => by
      rcases List.mem_or_eq_of_mem_set hz with q | q
      · have := depth_mem q
        omega
      · rw [q]
        have := h.dep
        omega
    omega
theorem bn_int {c wd : Nat} {i k : Int} (h : Bd c wd (.int i)) (hk : k.natAbs < 10000) : Bn c wd (.int i) (.int (i + k)) := by
  cases h with
  | int h => exact ⟨.int (by omega), by simp only [PyData.bulk]; omega, by simp only [PyData.depth]; omega⟩
theorem bn_str {c wd : Nat} {x y : Str} (h : ∀ z ∈ y.cps.toList, z < 128) (hl : y.cps.size ≤ x.cps.size + 4) : Bn c wd (.str x) (.str y) := ⟨.str h, by simp only [PyData.bulk]; omega, by simp only [PyData.depth]; omega⟩
theorem asc_app {x y : Str} (h : ∀ z ∈ x.cps.toList, z < 128) (h' : ∀ z ∈ y.cps.toList, z < 128) : ∀ z ∈ (x ++ y).cps.toList, z < 128 := fun z hz => by
  have e : (x ++ y).cps = x.cps ++ y.cps := rfl
  rw [e, Array.toList_append] at hz
  rcases List.mem_append.mp hz with q | q
  · exact h z q
  · exact h' z q
theorem asc_cut {x : Str} {lo hi : Option Int} (h : ∀ z ∈ x.cps.toList, z < 128) : ∀ z ∈ (cutS x lo hi).cps.toList, z < 128 := fun z hz => by
  have hz : z ∈ (x.cps.toList.drop (HT.sIx x.length 0 lo)).take (HT.sIx x.length x.length hi - HT.sIx x.length 0 lo) := by simpa [cutS] using hz
  exact h z (List.mem_of_mem_drop (List.mem_of_mem_take hz))
theorem asc_up {x : Str} (h : ∀ z ∈ x.cps.toList, z < 128) : (∀ z ∈ (Txt.upper x).cps.toList, z < 128) ∧ (Txt.upper x).cps.size = x.cps.size := by
  rw [PyProof.Rows.upper_ascii h]
  refine ⟨fun z hz => ?_, by simp⟩
  have hz : z ∈ x.cps.toList.map PyProof.Rows.up1 := by simpa using hz
  obtain ⟨c, hc, rfl⟩ := List.mem_map.mp hz
  have := h c hc
  unfold PyProof.Rows.up1
  split <;> omega
theorem big {n : Nat} (h : n ≤ 1000000) : n ≤ sizeLine := Nat.le_trans h (by decide)
section
variable {K : PySem.W.Frag}
theorem catB_run {H : Hp} {a b : Addr} {xs ys : List V} {Q : VK} (ha : SqT K H a xs) (hb : SqT K H b ys) (hz : xs.length + ys.length ≤ 1000000) (q : ∀ r H', Same H H' → SqT K H' r (xs ++ ys) → Q (.ref r) H') : rCatA K (.ref a) (.ref b) H Q := by
  refine ⟨a, b, xs, ys, rfl, rfl, ha, hb, big hz, fun e => ?_, fun _ e => ?_, fun _ _ p hp => q p _ (same_new hp _) (SqT.of upd_same)⟩
  · subst e
    exact q b H (Same.refl _) hb
  · subst e
    exact q a H (Same.refl _) (by rw [List.append_nil]; exact ha)
theorem dpAll_rev {H : Hp} : ∀ {vs : List V} {ds : List PyData}, DpAll K H vs ds → DpAll K H vs.reverse ds.reverse
  | _, _, .nil => .nil
  | _, _, .cons a t => by rw [List.reverse_cons, List.reverse_cons]; exact dpAll_snoc a (dpAll_rev t)
def cutD (ds : List PyData) (lo hi : Option Int) : List PyData := (ds.drop (HT.sIx ds.length 0 lo)).take (HT.sIx ds.length ds.length hi - HT.sIx ds.length 0 lo)
theorem dpAll_cut {H : Hp} {vs : List V} {ds : List PyData} (h : DpAll K H vs ds) (lo hi : Option Int) : DpAll K H (cutV vs lo hi) (cutD ds lo hi) := by
  unfold cutV cutD
  rw [dpAll_len h]
  exact dpAll_take _ (dpAll_drop _ h)
theorem cutD_mem {ds : List PyData} {lo hi : Option Int} {z : PyData} (h : z ∈ cutD ds lo hi) : z ∈ ds := List.mem_of_mem_drop (List.mem_of_mem_take h)
theorem cutD_len (ds : List PyData) (lo hi : Option Int) : (cutD ds lo hi).length ≤ ds.length := by
  unfold cutD
  rw [List.length_take, List.length_drop]
  omega
theorem last_len (ds : List PyData) : (cutD ds (some (-1)) none).length ≤ 1 := by
  unfold cutD
  rw [List.length_take, List.length_drop, HT.sIx_none]
  have e : HT.sIx ds.length 0 (some (-1)) = ds.length - 1 := by
    show (if (-1 : Int) < 0 then ((-1 : Int) + (ds.length : Int)).toNat else min (-1 : Int).toNat ds.length) = _
    rw [if_pos (by decide)]
    omega
  rw [e]
  omega
theorem cutD_bulk (ds : List PyData) (lo hi : Option Int) : PyData.bulkAll (cutD ds lo hi) ≤ PyData.bulkAll ds := by
  unfold cutD
  have a := bulk_cut (ds.drop (HT.sIx ds.length 0 lo)) (HT.sIx ds.length ds.length hi - HT.sIx ds.length 0 lo)
  have b := bulk_drop ds (HT.sIx ds.length 0 lo)
  omega
end
theorem Mv.trans {st : Addr} {H H1 H2 : Hp} (a : Mv st H H1) (b : Mv st H1 H2) : Mv st H H2 := ⟨a.kp.trans b.kp, b.sa⟩
/-! _law_bent -/
def spBent (K : PySem.W.Frag) (c wd n : Nat) : Sp := fun vs H Q _ => ∃ (st : Addr) (x : V) (d : PyData), vs = [.ref st, x] ∧ StAt H st ∧ Dp K (mn st H) x d ∧ Bd c wd d ∧ d.depth ≤ n ∧ d.bulk ≤ 100000 ∧ ∀ v d' H', Mv st H H' → Dp K (mn st H') v d' → Bn c wd d d' → Q v H'
def spBentS (K : PySem.W.Frag) (c wd n : Nat) : Sp := fun vs H Q E => ∃ m, n = m + 1 ∧ spBent K c wd m vs H Q E
def tBent (K : PySem.W.Frag) (c wd : Nat) : TS := fun D σ H => ∃ (st : Addr) (x : V) (d : PyData) (o2 o3 o4 : Option V), σ = [some (.ref st), some x, o2, o3, o4] ∧ StAt H st ∧ Dp K (mn st H) x d ∧ Bd c wd d ∧ d.bulk ≤ 100000 ∧
  ∀ v d' H', Mv st H H' → Dp K (mn st H') v d' → Bn c wd d d' → D.rt v H'
def tBentT (K : PySem.W.Frag) (c wd : Nat) : TS := fun D σ H => ∃ (st : Addr) (x : V) (d : PyData) (way : Int) (o2 o4 : Option V), σ = [some (.ref st), some x, o2, some (.int way), o4] ∧ 0 ≤ way ∧ StAt H st ∧ Dp K (mn st H) x d ∧ Bd c wd d ∧ d.bulk ≤ 100000 ∧
  ∀ v d' H', Mv st H H' → Dp K (mn st H') v d' → Bn c wd d d' → D.rt v H'
section
variable {P : Program} {w : World} {K : PySem.W.Frag} {mg : Str → Option Value} {base : Heap} {f : Addr} {fd : FuncData}
theorem scBent : FnScope ["_law_state_here", "_law_thing", "_law_at", "_law_way", "_law_more"] ["_law_state_here", "_law_thing"] (defScope sBent) := ⟨rfl, rfl, rfl, by decide +kernel, rfl, by decide +kernel, by decide +kernel⟩
theorem ok_bent {k c wd n : Nat} (hc : 10 ^ 29 + 1 ≤ c) (hwd : 2 ≤ wd) (F : Fun K "_law_bent" "_law_bent" sBent f fd) (T : Free mg) (hS : mg "str" = none) (cC : Cal P w K mg base "_law_choice" k ["_law_state_here", "_law_many"] spChoice) (cW : Cal P w K mg base "_law_whole" k ["_law_thing"] (spWhole K))
    (cO : Cal P w K mg base "_law_odd" k ["_law_state_here"] (spOdd K)) (cB : Cal P w K mg base "_law_bent" k ["_law_state_here", "_law_thing"] (spBentS K c wd n)) : FnOk P w K mg base CX0 (k + 1) f fd ["_law_state_here", "_law_thing"] (spBent K c wd n) := by
  refine F.ok scBent (fun vs H Q E h => ?_) (fun cdv A outer s H vs Q E hr h => ?_)
  · obtain ⟨st, x, d, rfl, _⟩ := h
    rfl
  obtain ⟨st, x, d, rfl, sa, hx, hd, hn, hb, q⟩ := h
  refine ⟨_, pss_cons (ps_if (PW.pt (pw_and (pt_val (pe_callB call_isi rfl T.isi (by decide +kernel) (pa_cons (pv 1) (pa_cons (pe_bltn (v := .ty "tuple") rfl T.tuple (by decide +kernel) rfl) pa_nil))))
      (pw_and (pt_cmpR (op_neE hr.units) (pv 1) (pe_tup pa_nil) (nomark _)) (pw_and1 (pt_cmpR op_gt (pe_cal cC hr rfl (pa_cons (pv 0) (pa_cons pe_int pa_nil))) pe_int (nomark _))))))
      (pss_cons (ps_set (i := 2) scBent.nd rfl (.inl rfl) (pe_cal cC hr rfl (pa_cons (pv 0) (pa_cons (pe_callB call_len_seq rfl T.len PySem.boot_len (pa_cons (pv 1) pa_nil)) pa_nil))))
      (pss_one (ps_ret (pe_op op_catA (pe_op op_catA (pe_slice sl_tupA (pv 1) po_none (po_some (pv 2))) (pe_tup (pa_cons (pe_cal cB hr rfl (pa_cons (pv 0) (pa_cons (pe_ix ix_tup (pv 1) (pv 2) (fun _ _ => rfl)) pa_nil))) pa_nil)))
        (pe_slice sl_tupA (pv 1) (po_some (pe_op op_add (pv 2) pe_int)) po_none))))) pss_nil)
    (pss_imp (t' := tBent K c wd) (pss_cons (ps_set (i := 3) scBent.nd rfl (.inl rfl) (pe_cal cC hr rfl (pa_cons (pv 0) (pa_cons pe_int pa_nil))))
      (pss_cons (ps_if (PW.pt (pw_and (pt_val (pe_callB call_isi rfl T.isi (by decide +kernel) (pa_cons (pv 1) (pa_cons (pe_bltn (v := .ty "tuple") rfl T.tuple (by decide +kernel) rfl) pa_nil)))) (pw_and1 (pt_cmpR op_lt (pv 3) pe_int (nomark _)))))
        (pss_cons (ps_set (i := 4) scBent.nd rfl (.inl rfl) (pe_lst (pa_cons (pe_op op_catA (pv 1) (pe_slice sl_tupA (pv 1) (po_some (pe_un un_neg pe_int)) po_none)) (pa_cons (pe_slice sl_tupA (pv 1) po_none (po_some (pe_un un_neg pe_int)))
          (pa_cons (pe_slice sl_tupA (pv 1) (po_some pe_int) po_none) (pa_cons (pe_rev (pv 1)) (pa_cons (pe_callTy call_list_of rfl T.list (by decide +kernel) (pa_cons (pv 1) pa_nil)) (pa_cons (pe_op op_catA (pv 1) (pe_tup (pa_cons pe_int pa_nil))) pa_nil))))))))
        (pss_cons (ps_expr (pe_bm PySem.F.plainAttrs_list PySem.F.slot_list_append PySem.F.type_list_append mt_append (pv 4) (pa_cons (pe_op op_catA (pv 1) (pe_tup (pa_cons (pv 1) pa_nil))) pa_nil)))
        (pss_one (ps_ret (pe_ix ix_list (pv 4) (pv 3) (fun _ _ => rfl)))))) pss_nil)
      (pss_imp (t' := tBentT K c wd) (pss_cons (ps_if (PW.pt (pw_and (pt_val (pe_cal cW hr rfl (pa_cons (pv 1) pa_nil))) (pw_and1 (pt_cmpR op_lt (pv 3) pe_int (nomark _)))))
        (pss_one (ps_ret (pe_op op_add (pv 1) (pe_ix ix_list (pe_lst (pa_cons pe_int (pa_cons (pe_un un_neg pe_int) (pa_cons pe_int (pa_cons pe_int (pa_cons (pe_un un_neg pe_int) (pa_cons pe_int pa_nil))))))) (pv 3) (fun _ _ => rfl))))) pss_nil)
      (pss_imp (t' := tBentT K c wd) (pss_cons (ps_if (PW.pt (pw_and (pt_val (pe_callB call_isi rfl T.isi (by decide +kernel) (pa_cons (pv 1) (pa_cons (pe_bltn (v := .ty "str") rfl hS (by decide +kernel) rfl) pa_nil)))) (pw_and1 (pt_cmpR op_lt (pv 3) pe_int (nomark _)))))
        (pss_one (ps_ret (pe_ix ix_list (pe_lst (pa_cons (pe_op op_add_str (pv 1) pe_str) (pa_cons (pe_slice sl_str (pv 1) po_none (po_some (pe_un un_neg pe_int))) (pa_cons (pe_upper (pv 1)) (pa_cons (pe_op op_add_str pe_str (pv 1)) (pa_cons (pe_op op_add_str (pv 1) pe_str) (pa_cons pe_str pa_nil))))))) (pv 3) (fun _ _ => rfl)))) pss_nil)
      (pss_one (ps_ret (pe_cal cO hr rfl (pa_cons (pv 0) pa_nil))))) ?texts))
      ?tail)))
      ?base), ?_⟩
  case texts =>
    clear hx hd hn hb q sa
    intro D σ H ⟨st, x, d, way, o2, o4, hσ, w0, sa, hx, hd, hb, q⟩
    subst hσ
    have hxH := dp_same mn_in hx
    have oddly : spOdd K [.ref st] H D.rt E0 := ⟨st, rfl, sa, fun v d' H' mv hdp hm => q v d' H' mv hdp (odd_bn hc hwd hm)⟩
    refine ⟨_, rfl, x, _, _, _, _, rfl, .ty "str", ty_of hxH, kit_str d, _, rfl, ?_⟩
    cases ht : strD d with
    | false => exact ifF rfl (ifF rfl ⟨_, rfl, oddly⟩)
    | true =>
      refine ifT rfl ⟨_, rfl, _, _, rfl, rfl, _, rfl, ite2 (fun cw => ?_) (fun cw => ⟨_, rfl, oddly⟩)⟩
      have w6 : way < 6 := of_decide_eq_true cw
      obtain ⟨z, rfl⟩ : ∃ z, d = .str z := by
        cases d <;> first | exact ⟨_, rfl⟩ | cases ht
      cases hx
      have asc : ∀ a ∈ z.cps.toList, a < 128 := by cases hd with | str h => exact h
      have hz : z.length ≤ 100000 := by
        have e : (PyData.str z).bulk = z.cps.size := by simp only [PyData.bulk]
        rw [e] at hb
        exact hb
      have l1 : ∀ y : Str, y.length ≤ 1 → z.length + y.length ≤ sizeLine := fun y hy => big (by omega)
      refine ⟨_, rfl, _, _, rfl, rfl, l1 _ (by decide), _, rfl, _, rfl, _, rfl, _, rfl, big (by omega), _, rfl, ⟨_, rfl⟩, _, rfl, rfl, by omega, _, rfl, _, _, rfl, rfl, (by rw [Nat.add_comm]; exact l1 _ (by decide)), _, rfl, _, _, rfl, rfl, l1 _ (by decide), small (by show 6 ≤ 1000; decide), fun p hp => ?_⟩
      have s1 := same_new hp (.lst [.str (z ++ "a"), .str (cutS z none (some (-1))), .str (Txt.upper z), .str ("G" ++ z), .str (z ++ " "), .str "send"])
      have up := asc_up asc
      have all : ∀ v ∈ [V.str (z ++ "a"), .str (cutS z none (some (-1))), .str (Txt.upper z), .str ("G" ++ z), .str (z ++ " "), .str "send"], ∃ y : Str, v = .str y ∧ Bn c wd (.str z) (.str y) := fun v hv => by
        simp only [List.mem_cons, List.not_mem_nil, or_false] at hv
        rcases hv with rfl | rfl | rfl | rfl | rfl | rfl
        · exact ⟨_, rfl, bn_str (asc_app asc (by decide)) (by show (z.cps ++ _).size ≤ _; rw [Array.size_append]; exact Nat.add_le_add_left (by decide) _)⟩
        · exact ⟨_, rfl, bn_str (asc_cut asc) (Nat.le_trans (cutS_length z _ _) (Nat.le_add_right _ _))⟩
        · exact ⟨_, rfl, bn_str up.1 (by rw [up.2]; omega)⟩
        · exact ⟨_, rfl, bn_str (asc_app (by decide) asc) (by show (_ ++ z.cps).size ≤ _; rw [Array.size_append, Nat.add_comm]; exact Nat.add_le_add_left (by decide) _)⟩
        · exact ⟨_, rfl, bn_str (asc_app asc (by decide)) (by show (z.cps ++ _).size ≤ _; rw [Array.size_append]; exact Nat.add_le_add_left (by decide) _)⟩
        · exact ⟨_, rfl, bn_str (by decide) (by show 4 ≤ _; omega)⟩
      have hlt : way.toNat < 6 := by omega
      obtain ⟨v, hv⟩ : ∃ v, ([V.str (z ++ "a"), .str (cutS z none (some (-1))), .str (Txt.upper z), .str ("G" ++ z), .str (z ++ " "), .str "send"])[way.toNat]? = some v := ⟨_, List.getElem?_eq_getElem hlt⟩
      obtain ⟨y, rfl, hy⟩ := all v (List.mem_of_getElem? hv)
      exact ⟨_, rfl, p, _, way, _, rfl, rfl, SqL.of upd_same, atI_at w0 hv, q _ _ _ ⟨Kp.of_same s1, sa.same s1⟩ (.str y) hy⟩
  case tail =>
    clear hx hd hn hb q sa
    intro D σ H ⟨st, x, d, way, o2, o4, hσ, w0, sa, hx, hd, hb, q⟩
    subst hσ
    have hxH := dp_same mn_in hx
    refine ⟨_, rfl, x, d, rfl, hxH, _, rfl, ?_⟩
    cases hw : wholeD d with
    | false => exact ifF rfl (ifF rfl ⟨st, x, d, way, o2, o4, rfl, w0, sa, hx, hd, hb, q⟩)
    | true =>
      refine ifT rfl ⟨_, rfl, _, _, rfl, rfl, _, rfl, ite2 (fun cw => ?_) (fun cw => ⟨st, x, d, way, o2, o4, rfl, w0, sa, hx, hd, hb, q⟩)⟩
      have w6 : way < 6 := of_decide_eq_true cw
      obtain ⟨i, rfl⟩ : ∃ i, d = .int i := by
        cases d <;> first | exact ⟨_, rfl⟩ | cases hw
      cases hx
      refine ⟨_, rfl, _, rfl, _, rfl, small (by show 6 ≤ 1000; decide), fun p hp => ?_⟩
      have s1 := same_new hp (.lst [.int 1, .int (-1), .int 2, .int 9999, .int (-9999), .int 5])
      have hlt : way.toNat < 6 := by omega
      obtain ⟨v, hv⟩ : ∃ v, ([V.int 1, .int (-1), .int 2, .int 9999, .int (-9999), .int 5])[way.toNat]? = some v := ⟨_, List.getElem?_eq_getElem hlt⟩
      have all : ∀ v ∈ [V.int 1, .int (-1), .int 2, .int 9999, .int (-9999), .int 5], ∃ k : Int, v = .int k ∧ k.natAbs < 10000 := fun v hv => by
        simp only [List.mem_cons, List.not_mem_nil, or_false] at hv
        rcases hv with rfl | rfl | rfl | rfl | rfl | rfl <;> exact ⟨_, rfl, by decide⟩
      obtain ⟨j, rfl, hj⟩ := all v (List.mem_of_getElem? hv)
      exact ⟨_, rfl, p, _, way, _, rfl, rfl, SqL.of upd_same, atI_at w0 hv, _, _, rfl, rfl, q _ _ _ ⟨Kp.of_same s1, sa.same s1⟩ (.int _) (bn_int hd hj)⟩
  case base =>
    clear hx hd hn hb q sa
    intro D σ H ⟨st, x, d, o2, o3, o4, hσ, sa, hx, hd, hb, q⟩
    subst hσ
    refine ⟨_, rfl, st, 9, rfl, sa, by decide, by decide, fun way H1 w0 w1 mv => ?_⟩
    have m1 := mn_kp mv.kp
    have hx1 := dp_same m1 hx
    have go : ∀ v d' H', Mv st H1 H' → Dp K (mn st H') v d' → Bn c wd d d' → D.rt v H' := fun v d' H' mv' => q v d' H' (mv.trans mv')
    refine ⟨_, rfl, x, _, _, _, _, rfl, .ty "tuple", ty_of (dp_same mn_in hx1), kit_tuple d, _, rfl, ?_⟩
    cases ht : tupleD d with
    | false => exact ifF rfl (ifF rfl ⟨st, x, d, way, o2, o4, rfl, w0, mv.sa, hx1, hd, hb, go⟩)
    | true =>
      refine ifT rfl ⟨_, rfl, _, _, rfl, rfl, _, rfl, ite2 (fun cw => ?_) (fun cw => ⟨st, x, d, way, o2, o4, rfl, w0, mv.sa, hx1, hd, hb, go⟩)⟩
      have w7 : way < 7 := of_decide_eq_true cw
      obtain ⟨ds, rfl⟩ : ∃ ds, d = .tuple ds := by
        cases d <;> first | exact ⟨_, rfl⟩ | cases ht
      have hx1' := hx1
      cases hx1 with
      | @tup a xs _ at1 each1 =>
        have lx := dpAll_len each1
        rw [bulk_tup] at hb
        have lb := len_bulk ds
        have l5 : xs.length ≤ 100000 := by omega
        have cl := fun lo hi => Nat.le_trans (cutV_length xs lo hi) l5
        have a1 := sqT_same mn_in at1
        refine ⟨_, rfl, _, rfl, _, rfl, _, rfl, noP (slA_run a1 fun r2 H2 s2 h2 => catB_run (sqT_same s2 a1) h2 (by have := cl (some (-1)) none; omega) fun r3 H3 s3 h3 => ?_)⟩
        have t3 := s2.trans s3
        have a3 := sqT_same t3 a1
        refine ⟨_, rfl, _, rfl, _, rfl, slA_run a3 fun r4 H4 s4 h4 => ⟨_, rfl, _, rfl, noP (slA_run (sqT_same s4 a3) fun r5 H5 s5 h5 => ?_)⟩⟩
        have t5 := t3.trans (s4.trans s5)
        have a5 := sqT_same t5 a1
        refine ⟨_, rfl, a, xs, rfl, a5, fun p6 f6 => ?_⟩
        have n6 := same_new f6 (.tup xs.reverse)
        have t6 := t5.trans n6
        refine ⟨_, rfl, a, xs, rfl, .inr (sqT_same t6 a1), fun p7 f7 => ?_⟩
        have n7 := same_new f7 (.lst xs)
        have t7 := t6.trans n7
        refine ⟨_, rfl, small (by show 1 ≤ 1000; decide), fun p8 f8 => ?_⟩
        have n8 := same_new f8 (.tup [.int 0])
        have t8 := t7.trans n8
        refine catB_run (sqT_same t8 a1) (SqT.of upd_same) (by show _ + 1 ≤ _; omega) fun r9 H9 s9 h9 => ?_
        have t9 := t8.trans s9
        refine ⟨small (by show 6 ≤ 1000; decide), fun p10 f10 => ?_⟩
        have n10 := same_new f10 (.lst [.ref r3, .ref r4, .ref r5, .ref p6, .ref p7, .ref r9])
        have t10 := t9.trans n10
        -- the seventh
        refine ⟨_, rfl, .inl ⟨rfl, _, SqL.of upd_same⟩, ?_⟩
        refine ⟨_, rfl, _, rfl, small (by show 1 ≤ 1000; decide), fun p11 f11 => ?_⟩
        have n11 := same_new f11 (.tup [.ref a])
        have t11 := t10.trans n11
        refine catB_run (sqT_same t11 a1) (SqT.of upd_same) (by show _ + 1 ≤ _; omega) fun r12 H12 s12 h12 => ?_
        have t12 := t11.trans s12
        have h10 : H12 p10 = some (.lst [.ref r3, .ref r4, .ref r5, .ref p6, .ref p7, .ref r9]) := (n11.trans s12) _ _ upd_same
        refine ⟨p10, _, _, rfl, rfl, h10, Nat.lt_of_lt_of_le (show 6 < 1000 by decide) (small (Nat.le_refl _)), ?_⟩
        have free10 : H1 p10 = none := t9.free f10
        have np10 : p10 ≠ st := (mv.sa.same t9).ne f10
        have kpf : Kp st H1 (upd H12 p10 (.lst ([.ref r3, .ref r4, .ref r5, .ref p6, .ref p7, .ref r9] ++ [.ref r12]))) := (Kp.of_same t12).upd free10
        have saf : StAt (upd H12 p10 (.lst ([.ref r3, .ref r4, .ref r5, .ref p6, .ref p7, .ref r9] ++ [.ref r12]))) st := (mv.sa.same t12).upd np10
        have kt12 := KT.upd (l' := [.ref r3, .ref r4, .ref r5, .ref p6, .ref p7, .ref r9] ++ [.ref r12]) h10
        generalize hHf : upd H12 p10 (.lst ([.ref r3, .ref r4, .ref r5, .ref p6, .ref p7, .ref r9] ++ [.ref r12])) = Hf at kpf saf kt12
        have fp10 : Hf p10 = some (.lst ([.ref r3, .ref r4, .ref r5, .ref p6, .ref p7, .ref r9] ++ [.ref r12])) := by rw [← hHf]; exact upd_same
        have u9 := n10.trans (n11.trans s12)
        have u7 := n8.trans (s9.trans u9)
        have u5 := n6.trans (n7.trans u7)
        have up : ∀ {Hx : Hp} {r : Addr} {ys : List V}, Same Hx H12 → SqT K Hx r ys → SqT K (mn st Hf) r ys := fun sx h => sqT_mn saf (sqT_kt ((KT.of_same sx).trans kt12) h)
        have eachf := dps_same (mn_kp kpf) each1
        have atf := sqT_same (mn_kp kpf) at1
        have np7 : p7 ≠ p10 := ne_of_none ((n8.trans s9) _ _ upd_same) f10
        have h7 : Hf p7 = some (.lst xs) := by
          rw [← hHf, upd_ne np7]
          exact u7 _ _ upd_same
        have ns7 : p7 ≠ st := (mv.sa.same t6).ne f7
        have all7 : DpAll K (mn st Hf) ([.ref r3, .ref r4, .ref r5, .ref p6, .ref p7, .ref r9] ++ [.ref r12]) [.tuple (ds ++ cutD ds (some (-1)) none), .tuple (cutD ds none (some (-1))), .tuple (cutD ds (some 1) none), .tuple ds.reverse, .list ds, .tuple (ds ++ [.int 0]), .tuple (ds ++ [.tuple ds])] :=
          .cons (.tup (up (s4.trans (s5.trans u5)) h3) (dpAll_append (dpAll_cut eachf _ _) eachf))
          (.cons (.tup (up (s5.trans u5) h4) (dpAll_cut eachf _ _))
          (.cons (.tup (up u5 h5) (dpAll_cut eachf _ _))
          (.cons (.tup (up (n7.trans u7) (SqT.of upd_same)) (dpAll_rev eachf))
          (.cons (.lst (SqL.of (mn_at ns7 h7)) eachf)
          (.cons (.tup (up u9 h9) (dpAll_snoc (.int 0) eachf))
          (.cons (.tup (up (Same.refl _) h12) (dpAll_snoc (.tup atf eachf) eachf)) .nil))))))
        obtain ⟨v, d', hat, hdp, hm⟩ := pick_dp all7 w0 (by show way < 7; exact w7)
        refine ⟨_, rfl, _, rfl, p10, _, way, v, rfl, rfl, SqL.of fp10, hat, go v d' Hf ⟨kpf, saf⟩ hdp ?_⟩
        have lwd : ds.length ≤ wd := by cases hd with | tup l _ => exact l
        have c0 : 0 < c := Nat.lt_of_lt_of_le (by decide) hc
        simp only [List.mem_cons, List.not_mem_nil, or_false] at hm
        rcases hm with rfl | rfl | rfl | rfl | rfl | rfl | rfl
        · exact bn_tup hd (by have := last_len ds; rw [List.length_append]; omega) (fun z hz => .inl ((List.mem_append.mp hz).elim id cutD_mem)) c0 (by rw [bulk_app]; have := cutD_bulk ds (some (-1)) none; omega)
        · exact bn_tup hd (by have := cutD_len ds none (some (-1)); omega) (fun z hz => .inl (cutD_mem hz)) c0 (by have := cutD_bulk ds none (some (-1)); omega)
        · exact bn_tup hd (by have := cutD_len ds (some 1) none; omega) (fun z hz => .inl (cutD_mem hz)) c0 (by have := cutD_bulk ds (some 1) none; omega)
        · exact bn_tup hd (by rw [List.length_reverse]; omega) (fun z hz => .inl (List.mem_reverse.mp hz)) c0 (by rw [bulk_rev]; omega)
        · exact bn_lst hd
        · exact bn_tup hd (by rw [List.length_append]; show _ + 1 ≤ _; omega) (fun z hz => (List.mem_append.mp hz).elim .inl fun y => .inr (.inl (List.mem_singleton.mp y))) c0 (by rw [bulk_app]; simp only [PyData.bulkAll, PyData.bulk]; omega)
        · exact bn_tup hd (by rw [List.length_append]; show _ + 1 ≤ _; omega) (fun z hz => (List.mem_append.mp hz).elim .inl fun y => .inr (.inr (List.mem_singleton.mp y))) c0 (by rw [bulk_app]; simp only [PyData.bulkAll, PyData.bulk]; omega)
  refine ⟨_, rfl, x, _, _, _, _, rfl, .ty "tuple", ty_of (dp_same mn_in hx), kit_tuple d, _, rfl, ?_⟩
  cases ht : tupleD d with
  | false => exact ifF rfl (ifF rfl ⟨st, x, d, _, _, _, rfl, sa, hx, hd, hb, q⟩)
  | true =>
    obtain ⟨ds, rfl⟩ : ∃ ds, d = .tuple ds := by
      cases d <;> first | exact ⟨_, rfl⟩ | cases ht
    cases hx with
    | @tup a xs _ at0 each0 =>
    have lx := dpAll_len each0
    refine ifT rfl ⟨_, rfl, small (by show 0 ≤ 1000; decide), fun p1 h1 => ?_⟩
    have s1 := same_new h1 (.tup [])
    have sa1 := sa.same s1
    have m1 := mn_kp (Kp.of_same (st := st) s1)
    have mv1 : Mv st H _ := ⟨Kp.of_same s1, sa1⟩
    have at1 := sqT_same m1 at0
    have each1 := dps_same m1 each0
    refine ⟨a, p1, xs, rfl, rfl, sqT_same mn_in at1, SqT.of upd_same, _, rfl, ?_⟩
    have rest : ∀ {H2 : Hp} {o2 o3 o4 : Option V}, Mv st H H2 → tBent K c wd { nx := fun _ H' => Q .non H', rt := Q } [some (.ref st), some (.ref a), o2, o3, o4] H2 := fun {H2 o2 o3 o4} mv2 =>
      ⟨st, .ref a, .tuple ds, o2, o3, o4, rfl, mv2.sa, .tup (sqT_same (mn_kp mv2.kp) at0) (dps_same (mn_kp mv2.kp) each0), hd, hb, fun v d' H' mv3 => q v d' H' (mv2.trans mv3)⟩
    cases xs with
    | nil => exact ifF rfl (ifF rfl (rest mv1))
    | cons y0 ys0 =>
      generalize hxs : y0 :: ys0 = xs at at0 each0 at1 each1 lx rest
      have lp : 0 < xs.length := by rw [← hxs]; simp
      refine ifT (by rw [← hxs]; rfl) ⟨_, rfl, st, 5, rfl, sa1, by decide, by decide, fun r2 H2 r20 r21 mv2 => ⟨_, _, rfl, rfl, _, rfl, ite2 (fun c2 => ?_) (fun c2 => rest (mv1.trans mv2))⟩⟩
      have mvA := mv1.trans mv2
      have m2 := mn_kp mvA.kp
      have at2 := sqT_same m2 at0
      have each2 := dps_same m2 each0
      rw [bulk_tup] at hb
      have lb := len_bulk ds
      have l5 : xs.length ≤ 100000 := by omega
      have cl := fun lo hi => Nat.le_trans (cutV_length xs lo hi) l5
      refine ⟨_, rfl, _, rfl, a, xs, rfl, .inr (sqT_same mn_in at2), st, _, rfl, mv2.sa, by omega, by omega, fun r H3 r0 r1 mv3 => ?_⟩
      have m3 := mn_kp mv3.kp
      have at3 := sqT_same m3 at2
      refine ⟨_, rfl, _, rfl, _, rfl, slA_run (sqT_same mn_in at3) fun r4 H4 s4 h4 => ?_⟩
      have k4 := mn_kp (Kp.of_same (st := st) s4)
      have at4 := sqT_same k4 at3
      have each4 := dps_same (m3.trans k4) each2
      have sa4 := mv3.sa.same s4
      have hi : r.toNat < ds.length := by omega
      have hget := List.getElem?_eq_getElem hi
      obtain ⟨y, hy, hdy⟩ := dpAll_get each4 hget
      have hmem := List.getElem_mem hi
      have hde : Bd c wd ds[r.toNat] := by cases hd with | tup _ e => exact e _ hmem
      obtain ⟨m, rfl⟩ : ∃ m, n = m + 1 := ⟨n - 1, by rw [depth_tup] at hn; omega⟩
      have hdep : ds[r.toNat].depth ≤ m := by
        have := depth_mem hmem
        rw [depth_tup] at hn
        omega
      have hblk : ds[r.toNat].bulk ≤ 100000 := by
        have := bulk_mem hmem
        omega
      refine ⟨_, rfl, _, rfl, _, rfl, a, xs, r, y, rfl, rfl, sqT_same mn_in at4, atI_at r0 hy, m, rfl, st, y, ds[r.toNat], rfl, sa4, hdy, hde, hdep, hblk, fun v d' H5 mv5 hdp hbn => ⟨small (by show 1 ≤ 1000; decide), fun p6 h6 => ?_⟩⟩
      have k5 := mn_kp mv5.kp
      have h4m := sqT_same mn_in (sqT_same k5 (sqT_mn sa4 h4))
      have n6 := same_new h6 (.tup [v])
      refine catB_run (sqT_same n6 h4m) (SqT.of upd_same) (by have := cl none (some r); show _ + 1 ≤ 1000000; omega) fun r7 H7 s7 h7 => ?_
      have at7 := sqT_same (n6.trans s7) (sqT_same mn_in (sqT_same k5 at4))
      refine ⟨_, rfl, _, rfl, _, _, rfl, rfl, _, rfl, noP (slA_run at7 fun r8 H8 s8 h8 => ?_)⟩
      refine catB_run (sqT_same s8 h7) h8 (by have := cl none (some r); have := cl (some (r + 1)) none; rw [List.length_append]; show _ + 1 + _ ≤ 1000000; omega) fun r9 H9 s9 h9 => ?_
      rw [cut_to r0 (by omega), cut_from0 (by omega), show (r + 1).toNat = r.toNat + 1 by omega, set_split xs r.toNat v (by omega)] at h9
      have t9 := n6.trans (s7.trans (s8.trans s9))
      have k9 := mn_kp (Kp.of_same (st := st) t9)
      have sa9 := mv5.sa.same t9
      exact q _ (.tuple (ds.set r.toNat d')) H9 ⟨(mvA.kp.trans mv3.kp).trans ((Kp.of_same s4).trans (mv5.kp.trans (Kp.of_same t9))), sa9⟩ (.tup (sqT_mn sa9 h9) (dpAll_set (dp_same k9 hdp) _ (dps_same (k5.trans k9) each4))) (bn_set hd hget hbn)
end
section
variable {P : Program} {w : World} {K : PySem.W.Frag} {mg : Str → Option Value} {base : Heap} {f : Addr} {fd : FuncData}
theorem no_bent {k c wd : Nat} : FnOk P w K mg base CX0 k f fd ["_law_state_here", "_law_thing"] (spBentS K c wd 0) := ⟨(fun vs H Q E h => by obtain ⟨m, e, _⟩ := h; cases e), fun A outer s H args us vs Q E hr he hb hv h => by obtain ⟨m, e, _⟩ := h; cases e⟩
theorem all_bent {k c wd : Nat} (hc : 10 ^ 29 + 1 ≤ c) (hwd : 2 ≤ wd) (F : Fun K "_law_bent" "_law_bent" sBent f fd) (hm : mg "_law_bent" = some (.ref f)) (hb : Binds K fd ["_law_state_here", "_law_thing"] []) (T : Free mg) (hS : mg "str" = none) (cC : Cal P w K mg base "_law_choice" k ["_law_state_here", "_law_many"] spChoice) (cW : Cal P w K mg base "_law_whole" k ["_law_thing"] (spWhole K)) (cO : Cal P w K mg base "_law_odd" k ["_law_state_here"] (spOdd K)) :
    ∀ n, FnOk P w K mg base CX0 (k + n + 1) f fd ["_law_state_here", "_law_thing"] (spBent K c wd n)
  | 0 => ok_bent hc hwd F T hS cC cW cO ⟨f, fd, no_bent, hm, F.kp, hb⟩
  | n + 1 => by
    have ih := all_bent hc hwd F hm hb T hS cC cW cO n
    exact ok_bent (k := k + (n + 1)) hc hwd F T hS (cC.mono (by omega)) (cW.mono (by omega)) (cO.mono (by omega)) ⟨f, fd, ih.imp (fun vs H Q E z => by obtain ⟨m, e, z⟩ := z; cases e; exact z), hm, F.kp, hb⟩
end
/-! _law_chart -/
def ChOk (most : Int) (d : PyData) : Prop := ∃ rows : List (List Int), d = .tuple (rows.map fun ns => .tuple (ns.map .int)) ∧ (rows.length : Int) ≤ most ∧ ∀ ns ∈ rows, ns.length ≤ rows.length ∧ (∀ i ∈ ns, 0 ≤ i ∧ i < rows.length) ∧ ptsFrom rows.length 0 (ns.map .int) = true
theorem pts_snoc {many j : Int} : ∀ (ns : List Int) (least : Int), (∀ n ∈ ns, n < j) → least ≤ j → j < many → ptsFrom many least (ns.map .int) = true → ptsFrom many least ((ns ++ [j]).map .int) = true
  | [], least, _, h1, h2, _ => by
    show (withinD least (many - 1) (.int j) && true) = true
    simp only [withinD, Bool.and_true, Bool.and_eq_true, decide_eq_true_eq]
    omega
  | i :: r, least, hn, h1, h2, h => by
    have h : (withinD least (many - 1) (.int i) && ptsFrom many (i + 1) (r.map .int)) = true := h
    rw [Bool.and_eq_true] at h
    show (withinD least (many - 1) (.int i) && ptsFrom many (i + 1) ((r ++ [j]).map .int)) = true
    rw [h.1, pts_snoc r (i + 1) (fun n hm => hn n (List.mem_cons_of_mem _ hm)) (by have := hn i List.mem_cons_self; omega) h2 h.2]
    rfl
theorem kt_mn {H : Hp} {st : Addr} (sa : StAt H st) : KT H (mn st H) := fun b u h n => mn_at (fun e => by
  obtain ⟨l, hl⟩ := sa.some
  rw [e, hl] at h
  cases h
  exact n _ rfl) h
theorem tupO_ints : ∀ ns : List Int, tupOnlyAll (ns.map .int) = true
  | [] => rfl
  | n :: r => by
    show (tupOnly (.int n) && tupOnlyAll (r.map .int)) = true
    rw [tupO_ints r]
    rfl
def rowsD (rows : List (List Int)) : List PyData := rows.map fun ns => .tuple (ns.map .int)
theorem tupO_rows : ∀ rows : List (List Int), tupOnlyAll (rowsD rows) = true
  | [] => rfl
  | r :: rs => by
    show (tupOnly (.tuple (r.map .int)) && tupOnlyAll (rowsD rs)) = true
    rw [tupO_rows rs, show tupOnly (.tuple (r.map .int)) = tupOnlyAll (r.map .int) by simp only [tupOnly], tupO_ints]
    rfl
theorem dp_ints {K : PySem.W.Frag} {H : Hp} : ∀ ns : List Int, DpAll K H (ns.map V.int) (ns.map PyData.int)
  | [] => .nil
  | n :: r => .cons (.int n) (dp_ints r)
theorem rows_snoc (rows : List (List Int)) (ns : List Int) : rowsD (rows ++ [ns]) = rowsD rows ++ [.tuple (ns.map .int)] := by
  unfold rowsD
  rw [List.map_append]
  rfl
section
variable {P : Program} {w : World} {K : PySem.W.Frag} {mg : Str → Option Value} {base : Heap} {f : Addr} {fd : FuncData}
def spChartG (K : PySem.W.Frag) : Sp := fun vs H Q _ => ∃ (st : Addr) (most : Int), vs = [.ref st, .int most] ∧ StAt H st ∧ 0 ≤ most ∧ most ≤ 100 ∧ ∀ v d H', Mv st H H' → Dp K (mn st H') v d → ChOk most d → Q v H'
abbrev rTupOf (K : PySem.W.Frag) : List V → Hp → VK → Prop := fun xs H Q => ∃ p ys, xs = [.ref p] ∧ ((SqL K H p ys ∧ ∀ l, H l = none → Q (.ref l) (upd H l (.tup ys))) ∨ (SqT K H p ys ∧ Q (.ref p) H))
abbrev scP : Scope := { kind := .function, names := [(".0", .local), ("_law_point", .local), ("tuple", .globalImplicit), ("range", .globalImplicit), ("_law_many", .free), ("_law_share", .free), ("_law_state_here", .free)], isGenerator := false, isCoroutine := false }
theorem scChart : FnScope ["_law_state_here", "_law_most", "_law_many", "_law_share", "_law_to", "_law_point"] ["_law_state_here", "_law_most"] (defScope sChart) := ⟨rfl, rfl, rfl, by decide +kernel, rfl, by decide +kernel, by decide +kernel⟩
theorem ok_chart {k : Nat} (F : Fun K "_law_chart" "_law_chart" sChart f fd) (T : Free mg) (cC : Cal P w K mg base "_law_choice" k ["_law_state_here", "_law_many"] spChoice) : FnOk P w K mg base CX0 (k + 1) f fd ["_law_state_here", "_law_most"] (spChartG K) := by
  refine F.ok scChart (fun vs H Q E h => ?_) (fun cdv A outer s H vs Q E hr h => ?_)
  · obtain ⟨st, most, rfl, _⟩ := h
    rfl
  obtain ⟨st, most, rfl, sa, m0, m1, q⟩ := h
  refine ⟨_, pss_cons (ps_asg (pe_tup (pa_cons (pe_cal cC hr rfl (pa_cons (pv 0) (pa_cons (pe_op op_add (pv 1) pe_int) pa_nil))) (pa_cons (pe_ix ix_list (pe_lst (pa_cons pe_int (pa_cons pe_int (pa_cons pe_int (pa_cons pe_int pa_nil))))) (pe_cal cC hr rfl (pa_cons (pv 0) (pa_cons pe_int pa_nil))) (fun _ _ => rfl)) pa_nil)))
      (pg_tup rfl (pgs_cons (pg_name (i := 2) scChart.nd rfl (.inr rfl)) (pgs_cons (pg_name (i := 3) scChart.nd rfl (.inr rfl)) pgs_nil))))
    (pss_one (ps_ret (pe_callTy call_tuple_of rfl T.tuple (by decide +kernel) (pa_cons
      (pe_lc (own := [("_law_point", 5)]) (g := gName 5) (tt := tYes) (te := tCB (rTupOf K) (tCons (tLc (iRng1 (tCons (tVar 2) tNil)) (gName 4) (tTest (tOp (rI0 fun i j => .bl (decide (i < j))) (tCall spChoice [] E0 (tCons (tVar 0) (tCons (tC (.int 8)) tNil))) (tVar 3))) (tVar 4) [4]) tNil)) rfl scChart.nd (pi_range1 rfl T.range (pa_cons (pv 2) pa_nil))
        (blkOk_by (own := [("_law_point", 5)]) (N := ["_law_state_here", "_law_most", "_law_many", "_law_share", "_law_to", "_law_point"]) (sc := defScope sChart) (by decide +kernel))
        (fun _ _ _ _ _ => pg_name (i := 5) scChart.nd rfl (Or.inl rfl)) (fun _ _ _ _ _ => pts_nil)
        (fun _ _ _ _ _ => pe_callTy call_tuple_of rfl T.tuple (by decide +kernel) (pa_cons
          (pe_lc (own := [("_law_to", 4)]) (g := gName 4) (tt := tTest (tOp (rI0 fun i j => .bl (decide (i < j))) (tCall spChoice [] E0 (tCons (tVar 0) (tCons (tC (.int 8)) tNil))) (tVar 3))) (te := tVar 4) rfl scChart.nd (pi_range1 rfl T.range (pa_cons (pv 2) pa_nil))
            (blkOk_by (own := [("_law_to", 4)]) (N := ["_law_state_here", "_law_most", "_law_many", "_law_share", "_law_to", "_law_point"]) (sc := relS scP (defScope sChart)) (by decide +kernel))
            (fun _ _ _ _ _ => pg_name (i := 4) scChart.nd rfl (Or.inl rfl))
            (fun _ _ _ _ _ => pts_one (pt_cmpR op_lt (pe_cal cC hr rfl (pa_cons (pv 0) (pa_cons pe_int pa_nil))) (pv 3) (nomark _)))
            (fun _ _ _ _ _ => pv 4)) pa_nil))) pa_nil)))), ?_⟩
  refine ⟨_, rfl, _, rfl, _, _, rfl, rfl, st, _, rfl, sa, by omega, by omega, fun many H1 n0 n1 mv1 => ?_⟩
  refine ⟨small (by show 4 ≤ 1000; decide), fun p2 h2 => ⟨_, rfl, st, 4, rfl, mv1.sa.same (same_new h2 _), by decide, by decide, fun r H3 r0 r1 mv3 => ?_⟩⟩
  have np2 : p2 ≠ st := mv1.sa.ne h2
  obtain ⟨share, hat⟩ : ∃ e : Int, atI [V.int 1, .int 2, .int 4, .int 7] r = some (.int e) := by
    have hr4 : r.toNat < 4 := by omega
    obtain ⟨v, hv⟩ : ∃ v, ([V.int 1, .int 2, .int 4, .int 7])[r.toNat]? = some v := ⟨_, List.getElem?_eq_getElem hr4⟩
    have all : ∀ v ∈ [V.int 1, .int 2, .int 4, .int 7], ∃ k : Int, v = .int k := fun v hv => by
      simp only [List.mem_cons, List.not_mem_nil, or_false] at hv
      rcases hv with rfl | rfl | rfl | rfl <;> exact ⟨_, rfl⟩
    obtain ⟨e, rfl⟩ := all v (List.mem_of_getElem? hv)
    exact ⟨e, atI_at r0 hv⟩
  refine ⟨p2, _, r, _, rfl, rfl, SqL.of (mv3.kp _ _ np2 upd_same), hat, small (by show 2 ≤ 1000; decide), fun p4 h4 => ⟨p4, _, rfl, SqT.of upd_same, rfl, _, _, rfl, _, _, rfl, rfl, ?_⟩⟩
  have mv4 : Mv st H (upd H3 p4 (.tup [.int many, .int share])) := ⟨(mv1.kp.trans ((Kp.of_same (same_new h2 _)).trans mv3.kp)).trans (Kp.of_same (same_new h4 _)), mv3.sa.same (same_new h4 _)⟩
  generalize upd H3 p4 (.tup [.int many, .int share]) = H4 at mv4
  refine ⟨_, rfl, many, rfl, by omega, by omega, fun D hD => ?_⟩
  have nD : D ≠ st := mv4.sa.ne hD
  have hD0 : H D = none := mv4.kp.free nD hD
  refine lc_range (lo := 0) (n := many.toNat) (fun i H5 => Mv st H H5 ∧ ∃ (vs : List V) (rows : List (List Int)), H5 D = some (.lst vs) ∧ rows.length = i ∧ DpAll K H5 vs (rowsD rows) ∧ ∀ ns ∈ rows, ns.length ≤ many.toNat ∧ (∀ i ∈ ns, 0 ≤ i ∧ i < many) ∧ ptsFrom many 0 (ns.map .int) = true)
    ⟨⟨mv4.kp.upd hD0, mv4.sa.upd nD⟩, [], [], upd_same, rfl, .nil, fun ns h => by cases h⟩ (fun i H5 hi h => ?_) (fun H5 h => ?_)
  · obtain ⟨mv5, vs, rows, h5, lr, dr, ok⟩ := h
    refine ⟨rfl, yesG ⟨_, rfl, many, rfl, by omega, by omega, fun E hE => ?_⟩⟩
    have nE : E ≠ st := mv5.sa.ne hE
    have nED : E ≠ D := fun z => by rw [z, h5] at hE; cases hE
    have lrv := dpAll_len dr
    refine lc_range (lo := 0) (n := many.toNat) (fun j H6 => Kp st H5 H6 ∧ StAt H6 st ∧ ∃ ns : List Int, H6 E = some (.lst (ns.map V.int)) ∧ ns.length ≤ j ∧ (∀ i ∈ ns, 0 ≤ i ∧ i < (j : Int)) ∧ ptsFrom many 0 (ns.map .int) = true)
      ⟨(Kp.of_same (same_new hE _)), mv5.sa.upd nE, [], upd_same, Nat.le_refl _, (fun i h => by cases h), rfl⟩ (fun j H6 hj h => ?_) (fun H6 h => ?_)
    · obtain ⟨kp6, sa6, ns, h6, ln, bn, pn⟩ := h
      refine ⟨rfl, _, rfl, st, 8, rfl, sa6, by decide, by decide, fun r7 H7 _ _ mv7 => ⟨_, rfl, _, _, rfl, rfl, _, rfl, ?_⟩⟩
      have h7 : H7 E = some (.lst (ns.map V.int)) := mv7.kp _ _ nE h6
      have kp7 := kp6.trans mv7.kp
      refine ite2 (fun c => ⟨_, rfl, _, h7, Nat.lt_of_lt_of_le (show _ < 1000 by rw [List.length_map]; omega) (small (Nat.le_refl _)), ?_⟩) (fun c => ⟨kp7, mv7.sa, ns, h7, by omega, fun i hi => by have := bn i hi; omega, pn⟩)
      refine ⟨kp7.upd hE, mv7.sa.upd nE, ns ++ [0 + (j : Int)], ?_, by rw [List.length_append]; show _ + 1 ≤ _; omega, fun i hi => ?_, pts_snoc ns 0 (fun n hn => by have := bn n hn; omega) (by omega) (by omega) pn⟩
      · rw [upd_same, List.map_append]
        rfl
      · rcases List.mem_append.mp hi with hi | hi
        · have := bn i hi
          omega
        · rw [List.mem_singleton.mp hi]
          omega
    · obtain ⟨kp6, sa6, ns, h6, ln, bn, pn⟩ := h
      refine ⟨E, _, rfl, .inl ⟨SqL.of h6, fun l hl => ?_⟩⟩
      have h6D : H6 D = some (.lst vs) := kp6 _ _ nD h5
      have nl := same_new hl (.tup (ns.map V.int))
      have kt : KT H5 (upd H6 l (.tup (ns.map V.int))) := (kp6.kt mv5.sa).trans (KT.of_same nl)
      have nlD : l ≠ D := fun z => by rw [z, h6D] at hl; cases hl
      refine ⟨vs, nl _ _ h6D, Nat.lt_of_lt_of_le (show _ < 1000 by rw [lrv]; unfold rowsD; rw [List.length_map]; omega) (small (Nat.le_refl _)), ⟨(mv5.kp.trans (kp6.trans (Kp.of_same nl))).upd hD0, (sa6.same nl).upd nD⟩, vs ++ [.ref l], rows ++ [ns], upd_same, by rw [List.length_append, lr]; rfl, ?_, fun z hz => ?_⟩
      · have d1 := dpAll_kt (kt.trans (KT.upd (l' := vs ++ [.ref l]) (nl _ _ h6D))) _ _ (tupO_rows rows) dr
        rw [rows_snoc]
        refine dpAll_snoc (.tup (SqT.of ?_) (dp_ints ns)) d1
        rw [upd_ne nlD, upd_same]
      · rcases List.mem_append.mp hz with hz | hz
        · exact ok z hz
        · rw [List.mem_singleton.mp hz]
          exact ⟨ln, fun i hi => by have := bn i hi; omega, pn⟩
  · obtain ⟨mv5, vs, rows, h5, lr, dr, ok⟩ := h
    refine ⟨D, _, rfl, .inl ⟨SqL.of h5, fun l hl => ?_⟩⟩
    have nl := same_new hl (.tup vs)
    have sa6 := mv5.sa.same nl
    have lm : (rows.length : Int) = many := by omega
    refine q _ (.tuple (rowsD rows)) _ ⟨mv5.kp.trans (Kp.of_same nl), sa6⟩ (.tup (sqT_mn sa6 (SqT.of upd_same)) (dpAll_kt ((KT.of_same nl).trans (kt_mn sa6)) _ _ (tupO_rows rows) dr)) ⟨rows, rfl, by omega, fun ns hn => ?_⟩
    obtain ⟨a, b, c⟩ := ok ns hn
    rw [lm]
    exact ⟨by omega, b, c⟩
end
/-! _law_some: points of a chart -/
def PsOk (many : Int) (ns : List Int) : Prop := (ns.length : Int) ≤ many ∧ (∀ i ∈ ns, 0 ≤ i ∧ i < many) ∧ ptsFrom many 0 (ns.map .int) = true
section
variable {P : Program} {w : World} {K : PySem.W.Frag} {mg : Str → Option Value} {base : Heap} {f : Addr} {fd : FuncData}
def spSomeP (K : PySem.W.Frag) : Sp := fun vs H Q _ => ∃ (st : Addr) (many : Int), vs = [.ref st, .int many] ∧ StAt H st ∧ 0 ≤ many ∧ many ≤ 100 ∧ ∀ v ns H', Mv st H H' → Dp K (mn st H') v (.tuple (ns.map .int)) → PsOk many ns → Q v H'
theorem scSomeP : FnScope ["_law_state_here", "_law_many", "_law_share", "_law_point"] ["_law_state_here", "_law_many"] (defScope sSomeP) := ⟨rfl, rfl, rfl, by decide +kernel, rfl, by decide +kernel, by decide +kernel⟩
theorem ok_someP {k : Nat} (F : Fun K "_law_some" "_law_some" sSomeP f fd) (T : Free mg) (cC : Cal P w K mg base "_law_choice" k ["_law_state_here", "_law_many"] spChoice) : FnOk P w K mg base CX0 (k + 1) f fd ["_law_state_here", "_law_many"] (spSomeP K) := by
  refine F.ok scSomeP (fun vs H Q E h => ?_) (fun cdv A outer s H vs Q E hr h => ?_)
  · obtain ⟨st, many, rfl, _⟩ := h
    rfl
  obtain ⟨st, many, rfl, sa, m0, m1, q⟩ := h
  refine ⟨_, pss_cons (ps_set (i := 2) scSomeP.nd rfl (.inr rfl) (pe_ix ix_list (pe_lst (pa_cons pe_int (pa_cons pe_int (pa_cons pe_int pa_nil)))) (pe_cal cC hr rfl (pa_cons (pv 0) (pa_cons pe_int pa_nil))) (fun _ _ => rfl)))
    (pss_one (ps_ret (pe_callTy call_tuple_of rfl T.tuple (by decide +kernel) (pa_cons
      (pe_lc (own := [("_law_point", 3)]) (g := gName 3) (tt := tTest (tOp (rI0 fun i j => .bl (decide (i < j))) (tCall spChoice [] E0 (tCons (tVar 0) (tCons (tC (.int 4)) tNil))) (tVar 2))) (te := tVar 3) rfl scSomeP.nd (pi_range1 rfl T.range (pa_cons (pv 1) pa_nil))
        (blkOk_by (own := [("_law_point", 3)]) (N := ["_law_state_here", "_law_many", "_law_share", "_law_point"]) (sc := defScope sSomeP) (by decide +kernel))
        (fun _ _ _ _ _ => pg_name (i := 3) scSomeP.nd rfl (Or.inl rfl))
        (fun _ _ _ _ _ => pts_one (pt_cmpR op_lt (pe_cal cC hr rfl (pa_cons (pv 0) (pa_cons pe_int pa_nil))) (pv 2) (nomark _)))
        (fun _ _ _ _ _ => pv 3)) pa_nil)))), ?_⟩
  refine ⟨small (by show 3 ≤ 1000; decide), fun p2 h2 => ⟨_, rfl, st, 3, rfl, sa.same (same_new h2 _), by decide, by decide, fun r H3 r0 r1 mv3 => ?_⟩⟩
  have np2 : p2 ≠ st := sa.ne h2
  obtain ⟨share, hat⟩ : ∃ e : Int, atI [V.int 1, .int 2, .int 3] r = some (.int e) := by
    obtain ⟨v, hv⟩ : ∃ v, ([V.int 1, .int 2, .int 3])[r.toNat]? = some v := ⟨_, List.getElem?_eq_getElem (show r.toNat < 3 by omega)⟩
    have all : ∀ v ∈ [V.int 1, .int 2, .int 3], ∃ k : Int, v = .int k := fun v hv => by
      simp only [List.mem_cons, List.not_mem_nil, or_false] at hv
      rcases hv with rfl | rfl | rfl <;> exact ⟨_, rfl⟩
    obtain ⟨e, rfl⟩ := all v (List.mem_of_getElem? hv)
    exact ⟨e, atI_at r0 hv⟩
  refine ⟨p2, _, r, _, rfl, rfl, SqL.of (mv3.kp _ _ np2 upd_same), hat, ?_⟩
  have mvA : Mv st H H3 := ⟨(Kp.of_same (same_new h2 _)).trans mv3.kp, mv3.sa⟩
  refine ⟨_, rfl, many, rfl, by omega, by omega, fun D hD => ?_⟩
  have nD : D ≠ st := mvA.sa.ne hD
  have hD0 : H D = none := mvA.kp.free nD hD
  refine lc_range (lo := 0) (n := many.toNat) (fun j H6 => Mv st H H6 ∧ ∃ ns : List Int, H6 D = some (.lst (ns.map V.int)) ∧ ns.length ≤ j ∧ (∀ i ∈ ns, 0 ≤ i ∧ i < (j : Int)) ∧ ptsFrom many 0 (ns.map .int) = true)
    ⟨⟨mvA.kp.upd hD0, mvA.sa.upd nD⟩, [], upd_same, Nat.le_refl _, (fun i h => by cases h), rfl⟩ (fun j H6 hj h => ?_) (fun H6 h => ?_)
  · obtain ⟨mv6, ns, h6, ln, bn, pn⟩ := h
    refine ⟨rfl, _, rfl, st, 4, rfl, mv6.sa, by decide, by decide, fun r7 H7 _ _ mv7 => ⟨_, rfl, _, _, rfl, rfl, _, rfl, ?_⟩⟩
    have h7 : H7 D = some (.lst (ns.map V.int)) := mv7.kp _ _ nD h6
    have mvB := mv6.trans mv7
    refine ite2 (fun c => ⟨_, rfl, _, h7, Nat.lt_of_lt_of_le (show _ < 1000 by rw [List.length_map]; omega) (small (Nat.le_refl _)), ?_⟩) (fun c => ⟨mvB, ns, h7, by omega, fun i hi => by have := bn i hi; omega, pn⟩)
    refine ⟨⟨mvB.kp.upd hD0, mvB.sa.upd nD⟩, ns ++ [0 + (j : Int)], ?_, by rw [List.length_append]; show _ + 1 ≤ _; omega, fun i hi => ?_, pts_snoc ns 0 (fun n hn => by have := bn n hn; omega) (by omega) (by omega) pn⟩
    · rw [upd_same, List.map_append]
      rfl
    · rcases List.mem_append.mp hi with hi | hi
      · have := bn i hi
        omega
      · rw [List.mem_singleton.mp hi]
        omega
  · obtain ⟨mv6, ns, h6, ln, bn, pn⟩ := h
    refine ⟨D, _, rfl, .inl ⟨SqL.of h6, fun l hl => ?_⟩⟩
    have nl := same_new hl (.tup (ns.map V.int))
    have sa7 := mv6.sa.same nl
    exact q _ ns _ ⟨mv6.kp.trans (Kp.of_same nl), sa7⟩ (.tup (sqT_mn sa7 (SqT.of upd_same)) (dp_ints ns)) ⟨by omega, fun i hi => by have := bn i hi; omega, pn⟩
/-! check_chart, check_case, where nothing is raised -/
def spCheckCh (K : PySem.W.Frag) (PT : List Addr) : Sp := fun vs H Q _ => ∃ (x : V) (d : PyData), vs = [x] ∧ Dp K H x d ∧ chartD d = true ∧ TabsG PT H ∧ ∀ H', LamX.ExtN H H' → TabsG PT H' → Q .non H'
theorem scCheckCh : FnScope ["chart"] ["chart"] (defScope sCheckCh) := ⟨rfl, rfl, rfl, by decide +kernel, rfl, by decide +kernel, by decide +kernel⟩
theorem ok_checkCh {k : Nat} {PT : List Addr} (F : Fun K "check_chart" "check_chart" sCheckCh f fd) (cI : Cal P w K mg base "is_chart" k ["thing"] (spIsChart K PT)) : FnOk P w K mg base CX0 (k + 1) f fd ["chart"] (spCheckCh K PT) := by
  refine F.ok scCheckCh (fun vs H Q E h => ?_) (fun cdv A outer s H vs Q E hr h => ?_)
  · obtain ⟨x, d, rfl, _⟩ := h
    rfl
  obtain ⟨x, d, rfl, hx, hc, tb, q⟩ := h
  refine ⟨_, pss_one (ps_if (pt_not (pt_val (pe_cal cI hr rfl (pa_cons (pv 0) pa_nil)))) pss_never pss_nil), ?_⟩
  refine ⟨_, rfl, x, d, rfl, hx, tb, fun H' e t => ⟨_, rfl, ?_⟩⟩
  rw [hc]
  exact ifF rfl (q H' e t)
def spCheckCase (K : PySem.W.Frag) (PT : List Addr) : Sp := fun vs H Q _ => ∃ (x y z : V) (ds : List PyData) (e g : PyData), vs = [x, y, z] ∧ Dp K H x (.tuple ds) ∧ Dp K H y e ∧ Dp K H z g ∧ chartD (.tuple ds) = true ∧ pointsD ds.length e = true ∧ pointsD ds.length g = true ∧ TabsG PT H ∧ ∀ H', LamX.ExtN H H' → TabsG PT H' → Q .non H'
theorem scCheckCase : FnScope ["chart", "starts", "goals"] ["chart", "starts", "goals"] (defScope sCheckCase) := ⟨rfl, rfl, rfl, by decide +kernel, rfl, by decide +kernel, by decide +kernel⟩
theorem ok_checkCase {k : Nat} {PT : List Addr} (F : Fun K "check_case" "check_case" sCheckCase f fd) (T : Free mg) (cH : Cal P w K mg base "check_chart" k ["chart"] (spCheckCh K PT)) (cP : Cal P w K mg base "are_points" k ["thing", "many"] (spPoints K)) : FnOk P w K mg base CX0 (k + 1) f fd ["chart", "starts", "goals"] (spCheckCase K PT) := by
  refine F.ok scCheckCase (fun vs H Q E h => ?_) (fun cdv A outer s H vs Q E hr h => ?_)
  · obtain ⟨x, y, z, ds, e, g, rfl, _⟩ := h
    rfl
  obtain ⟨x, y, z, ds, e, g, rfl, hx, hy, hz, hc, he, hg, tb, q⟩ := h
  refine ⟨_, pss_cons (ps_expr (pe_cal cH hr rfl (pa_cons (pv 0) pa_nil)))
    (pss_cons (ps_if (pt_not (pt_val (pe_cal cP hr rfl (pa_cons (pv 1) (pa_cons (pe_callB call_len_seq rfl T.len PySem.boot_len (pa_cons (pv 0) pa_nil)) pa_nil))))) pss_never pss_nil)
    (pss_one (ps_if (pt_not (pt_val (pe_cal cP hr rfl (pa_cons (pv 2) (pa_cons (pe_callB call_len_seq rfl T.len PySem.boot_len (pa_cons (pv 0) pa_nil)) pa_nil))))) pss_never pss_nil))), ?_⟩
  refine ⟨_, rfl, x, _, rfl, hx, hc, tb, fun H1 e1 t1 => ?_⟩
  have hx1 := dp_ext e1 _ _ hx
  have hy1 := dp_ext e1 _ _ hy
  have hz1 := dp_ext e1 _ _ hz
  cases hx1 with
  | @tup a xs _ at_ each =>
    have lx := dpAll_len each
    refine ⟨_, rfl, _, rfl, a, xs, rfl, .inr at_, y, e, _, rfl, hy1, _, rfl, ?_⟩
    rw [lx, he]
    refine ifF rfl ⟨_, rfl, _, rfl, a, xs, rfl, .inr at_, z, g, _, rfl, hz1, _, rfl, ?_⟩
    rw [lx, hg]
    exact ifF rfl (q H1 e1 t1)
end
/-! {k: v for .. in .. for .. in ..}, its keys tuples; no clause has an `if` -/
section
open PySem.Spec PyProof.Rows
theorem t_dictSet {X : Cx} {pins : List (Addr × Obj)} {ρ : L2.St} {G : Hp} {u : Shared} {E : Value → Shared → Prop} {D b : Addr} {kvs : List (List Key × V)} {k : List Key} {z : V} {zv : Value} {Q : Unit → Shared → Prop} (hu : X.A.units + 1 < cLine) (I : Inv X pins ρ G u) (hD : G D = some (.dT kvs)) (hb : G b = some (.tup (k.map kV))) (hl : kvs.length < sizeLine) (rz : RelV z zv)
    (h : ∀ u', Inv X pins ρ (upd G D (.dT (putK kvs k z))) u' → Q () u') : wpAny (model X.prog X.w) X.A (dictSet D (.ref b) zv) Q E u := by
  obtain ⟨small0, notSys, xs, pairs, holds⟩ := dt_of I.hok hD
  have l1 : xs.length ≤ sizeLine := by rw [← Paired.length pairs]; exact small0
  have l2 : (putK kvs k z).length ≤ sizeLine := by have := length_putK kvs k z; omega
  refine wpAny_dictSet_heap (knd := tupleKind (mixKind X.prog X.w)) (hsz := l1) (show X.A.units < cLine by omega) (key_of I.hok hb) holds fun h' holds' same => h _ ?_
  obtain ⟨o, es, ep, at_, x1, x2, x3, _, x5⟩ := holds'
  refine d_write I (by rw [hD]; exact True.intro) same ⟨o, at_⟩ ⟨l2, notSys, _, (pairs.put k hb rz).keeps fun c ys ec => ?_, o, es, ep, at_, x1, x2, x3, x5⟩
  rw [upd_ne (ne_of ec hD (fun q => nomatch q))]
  exact ec
section
variable {prog : Program} {w : World} {A : Around} {R : Result → Shared → Prop} {u : Shared} {kx vx ta ia tb ib : Expr} {sc : Scope} {pos : Pos} {it acc : Value} {env : Env}
abbrev dcE (kx vx ta ia tb ib : Expr) (sc : Scope) (pos : Pos) : Expr := .DictComp kx vx [⟨ta, ia, [], 0⟩, ⟨tb, ib, [], 0⟩] sc pos
theorem turnA : compTurn (dcE kx vx ta ia tb ib sc pos) 0 it acc env = (do
    standAt ia.pos
    match ← pyNext it with
    | none => pure (.done .next)
    | some v =>
      letOwnedTupleGo ta it v
      assign ta env v
      let x ← eval ib env
      standAt ib.pos
      let x ← foldedSetIterable ib env x
      let j ← holding [x] (pyIter x)
      let _ ← runOwn (.compStart (dcE kx vx ta ia tb ib sc pos) 1 j acc env) env
      again (.compLoop (dcE kx vx ta ia tb ib sc pos) 0 it acc env)) := by rfl
theorem turnB {D : Addr} : compTurn (dcE kx vx ta ia tb ib sc pos) 1 it (.ref D) env = (do
    standAt ib.pos
    match ← pyNext it with
    | none => pure (.done .next)
    | some v =>
      letOwnedTupleGo tb it v
      assign tb env v
      (do
        let kv ← eval kx env
        let vv ← holding [kv] (eval vx env)
        standAt { kx.pos with endLine := vx.pos.endLine, endCol := vx.pos.endCol }
        holding [kv, vv] (dictSet D kv vv))
      again (.compLoop (dcE kx vx ta ia tb ib sc pos) 1 it (.ref D) env)) := by rfl
abbrev noEx : Value → Shared → Prop := fun _ _ => False
theorem runsA (hf : ∀ x, foldedSetIterable ib env x = pure x) (I : Nat → Shared → Prop)
    (turn : ∀ n u, I n u → wpAny (model prog w) A (pyNext it) (fun r u1 => match r with
      | none => R (.ok .next) u1
      | some v => wpAny (model prog w) A (letOwnedTupleGo ta it v) (fun _ u2 => wpAny (model prog w) A (assign ta env v) (fun _ u3 =>
          wpAny (model prog w) A (eval ib env) (fun x u4 => wpAny (model prog w) A (pyIter x) (fun j u5 =>
            codeAny (model prog w) A (.compStart (dcE kx vx ta ia tb ib sc pos) 1 j acc env) (fun r u6 => (∃ f, r = .ok f) ∧ ∃ m, m < n ∧ I m u6) u5) noEx u4) noEx u3) noEx u2) noEx u1) noEx u)
    (n : Nat) (h : I n u) : codeAny (model prog w) A (.compLoop (dcE kx vx ta ia tb ib sc pos) 0 it acc env) R u := by
  refine codeAny_loop rfl I (fun n u hI => ?_) n h
  show wpAny _ A ((compTurn (dcE kx vx ta ia tb ib sc pos) 0 it acc env).onRaise (fun x => do noteFrame x env; theTreesLotGoes x)) _ _ u
  refine wpAny_noted ?_
  rw [turnA]
  refine wpAny_bind (wpAny_standAt (wpAny_bind (thnF (turn n u hI) fun r u1 h1 => ?_)))
  cases r with
  | none => exact wpAny_pure h1
  | some v =>
    refine wpAny_bind (thnF h1 fun _ u2 h2 => wpAny_bind (thnF h2 fun _ u3 h3 => wpAny_bind (thnF h3 fun x u4 h4 => ?_)))
    refine wpAny_bind (wpAny_standAt (wpAny_bind (wpAny_of_eq (hf x) (wpAny_bind (wpAny_holding (thnF h4 fun j u5 h5 => ?_))))))
    refine wpAny_bind (wpAny_runOwn ?_)
    rw [Around.mark_none]
    refine codeAny_mono h5 fun r u6 hr => ?_
    obtain ⟨⟨f, rfl⟩, hr⟩ := hr
    first
      | exact wpAny_pure ⟨rfl, hr⟩
      | exact wpAny_bind (wpAny_pure (wpAny_pure ⟨rfl, hr⟩))
theorem runsB {D : Addr} (I : Nat → Shared → Prop)
    (turn : ∀ n u, I n u → wpAny (model prog w) A (pyNext it) (fun r u1 => match r with
      | none => R (.ok .next) u1
      | some v => wpAny (model prog w) A (letOwnedTupleGo tb it v) (fun _ u2 => wpAny (model prog w) A (assign tb env v) (fun _ u3 =>
          wpAny (model prog w) A (eval kx env) (fun y u4 => wpAny (model prog w) A (eval vx env) (fun z u5 =>
            wpAny (model prog w) A (dictSet D y z) (fun _ u6 => ∃ m, m < n ∧ I m u6) noEx u5) noEx u4) noEx u3) noEx u2) noEx u1) noEx u)
    (n : Nat) (h : I n u) : codeAny (model prog w) A (.compLoop (dcE kx vx ta ia tb ib sc pos) 1 it (.ref D) env) R u := by
  refine codeAny_loop rfl I (fun n u hI => ?_) n h
  show wpAny _ A ((compTurn (dcE kx vx ta ia tb ib sc pos) 1 it (.ref D) env).onRaise (fun x => do noteFrame x env; theTreesLotGoes x)) _ _ u
  refine wpAny_noted ?_
  rw [turnB]
  refine wpAny_bind (wpAny_standAt (wpAny_bind (thnF (turn n u hI) fun r u1 h1 => ?_)))
  cases r with
  | none => exact wpAny_pure h1
  | some v =>
    refine wpAny_bind (thnF h1 fun _ u2 h2 => wpAny_bind (thnF h2 fun _ u3 h3 => ?_))
    exact wpAny_bind (wpAny_bind (thnF h3 fun y u4 h4 => wpAny_bind (wpAny_holding (thnF h4 fun z u5 h5 => wpAny_bind (wpAny_standAt (wpAny_holding (thnF h5 fun _ u6 h6 => wpAny_pure ⟨rfl, h6⟩)))))))
theorem startB (h0 : codeAny (model prog w) A (.compLoop (dcE kx vx ta ia tb ib sc pos) 1 it acc env) R u)
    (h : wpAny (model prog w) A (pyIter it) (fun j u' => codeAny (model prog w) A (.compLoop (dcE kx vx ta ia tb ib sc pos) 1 j acc env) R u') noEx u) :
    codeAny (model prog w) A (.compStart (dcE kx vx ta ia tb ib sc pos) 1 it acc env) R u := by
  refine codeAny_of_tree ?_
  show wpAny _ _ ((compStart (dcE kx vx ta ia tb ib sc pos) 1 it acc env).onRaise (fun x => do noteFrame x env; standAt theWindowsPlace)) _ _ u
  refine wpAny_notedAt ?_
  unfold compStart
  show wpAny _ _ (ask >>= _) _ _ u
  refine wpAny_bind (wpAny_askSetting (wpAny_ite ?_))
  split
  · first
      | exact wpAny_bind (wpAny_pure (wpAny_pure ⟨rfl, h0⟩))
      | exact wpAny_pure ⟨rfl, h0⟩
  · refine wpAny_bind (wpAny_rule ?_)
    show wpAny _ _ (standAt ib.pos >>= _) _ _ u
    exact wpAny_bind (wpAny_standAt (wpAny_bind (thnF h fun j u' h' => wpAny_pure ⟨rfl, h'⟩)))
end
/-- what is to be shown of it: W for the outer turns, W1 for the inner ones -/
def tDc2 (wa : TI) (ga : TG) (wb : TI) (gb : TG) (tk tv : TE) (vs vs1 : List Nat) : TE := fun ρ G Q => wa ρ G fun J G1 => ∀ D, G1 D = none → ∃ W : Nat → Nat → Hp → Prop, (∃ m, W 0 m (upd G1 D (.dT []))) ∧ ∀ i m G, W i m G →
  (J.stop i G ∧ Q (.ref D) G) ∨ (J.go i G ∧ ∃ Nx : Hp → Prop, (∀ G', Nx G' → ∃ m', m' < m ∧ W (i + 1) m' G') ∧ ∀ x G', J.yld i G x G' → ga x (wipe ρ vs) G' fun ρ2 G2 => wipe ρ2 vs = wipe ρ vs ∧ wb ρ2 G2 fun J1 G4 => ∃ W1 : Nat → Nat → Hp → Prop, (∃ m, W1 0 m G4) ∧ ∀ j k G, W1 j k G →
    (J1.stop j G ∧ Nx G) ∨ (J1.go j G ∧ ∃ Nx1 : Hp → Prop, (∀ G', Nx1 G' → ∃ k', k' < k ∧ W1 (j + 1) k' G') ∧ ∀ x G', J1.yld j G x G' → gb x (wipe ρ2 vs1) G' fun ρ3 G5 => wipe ρ3 vs1 = wipe ρ2 vs1 ∧ tk ρ3 G5 fun y G6 => tv ρ3 G6 fun z G7 =>
      ∃ (kvs : List (List Key × V)) (kk : List Key) (b : Addr), y = .ref b ∧ G7 b = some (.tup (kk.map kV)) ∧ G7 D = some (.dT kvs) ∧ kvs.length < sizeLine ∧ Nx1 (upd G7 D (.dT (putK kvs kk z)))))
theorem pe_dc2 {X : Cx} {kx vx ta ia tb ib : Expr} {sc : Scope} {own : List (Str × Nat)} {vs1 : List Nat} {pos : Pos} {wa wb : TI} {ga gb : TG} {tk tv : TE} (hc : X.calm = true) (hu : X.A.units + 1 < cLine) (hN : X.N.Nodup) (hi : PI X ta ia wa) (ok : BlkOk X.N X.env.scope sc own) (hv : ∀ i ∈ vs1, i ∈ own.map (·.2))
    (hga : ∀ (u : Shared) (G : Hp) (C : Addr) (cl : List (Str × Addr)) (fp : List Addr), PG (X.blk u G sc (compEnvC sc cl C X.env) fp) ta ga)
    (hib : ∀ (u : Shared) (G : Hp) (C : Addr) (cl : List (Str × Addr)) (fp : List Addr), PI (X.blk u G sc (compEnvC sc cl C X.env) fp) tb ib wb)
    (hgb : ∀ (u : Shared) (G : Hp) (C : Addr) (cl : List (Str × Addr)) (fp : List Addr), PG (X.blk u G sc (compEnvC sc cl C X.env) fp) tb gb)
    (hk : ∀ (u : Shared) (G : Hp) (C : Addr) (cl : List (Str × Addr)) (fp : List Addr), PE (X.blk u G sc (compEnvC sc cl C X.env) fp) kx tk)
    (hz : ∀ (u : Shared) (G : Hp) (C : Addr) (cl : List (Str × Addr)) (fp : List Addr), PE (X.blk u G sc (compEnvC sc cl C X.env) fp) vx tv)
    (hfa : ∀ x, foldedSetIterable ia X.env x = pure x := by intro _; rfl) (hfb : ∀ env x, foldedSetIterable ib env x = pure x := by intro _ _; rfl) :
    PE X (dcE kx vx ta ia tb ib sc pos) (tDc2 wa ga wb gb tk tv (own.map (·.2)) vs1) := by
  refine ⟨fun pins u ρ G Q I h => ?_⟩
  show wpAny _ _ (eval (.DictComp kx vx [⟨ta, ia, [], 0⟩, ⟨tb, ib, [], 0⟩] sc pos) X.env) _ _ u
  rw [arm_eval_DictComp]
  have hfree : ∀ y ∈ sc.names, y.2 = .free → ∃ c, X.env.cells.lookup y.1 = some c := fun y hy e => (ok.free y hy e).elim (fun q => I.ok.has _ (.inl q)) (fun q => I.ok.has _ (.inr q))
  refine wpAny_comprehension_free (use := none) rfl hfa (closure_ok hfree) ok.kind (fun y hy e => by rw [ok.uniq y hy, e])
    (thn (hi.run pins u ρ G _ I h) fun xv u1 hx => thn hx fun itv u2 h2 => ?_)
  obtain ⟨it, fp, tn, J, G2, rfl, I2, T, st2, f2, q⟩ := h2
  refine wpAny_newObj_type (newEnv_comp ?_)
  generalize hD : u2.heap.objs.size = D
  obtain ⟨W, ⟨m0, w0⟩, turn⟩ := q D (I2.hok.fresh (Nat.le_of_eq hD))
  generalize hu3 : ({ u2 with heap := u2.heap.push { cls := .type "dict", data := .dict #[] } } : Shared) = u3
  have hp3 : u3.heap = u2.heap.push { cls := .type "dict", data := .dict #[] } := by rw [← hu3]
  have I3 : Inv X pins ρ (upd G2 D (.dT [])) u3 := by
    rw [← hu3]
    refine I2.laid (t' := u2.toks) (fun b o e => Heap.get?_push_of_some _ e) (Nat.le_of_eq hD) ?_
    rw [← hD]
    exact dt_empty u2.heap I2.big
  have f3 : ∀ b ∈ fp, FpOk X pins (upd G2 D (.dT [])) b ∧ b < u3.heap.objs.size := fun b hb => by
    obtain ⟨o, e, _⟩ := T.obj _ _ st2 b hb
    have lt := Heap.lt_size e
    refine ⟨⟨?_, (f2 b hb).2⟩, by rw [hp3, Heap.size_push]; exact Nat.lt_succ_of_lt lt⟩
    rw [upd_ne (by rw [← hD]; exact Nat.ne_of_lt lt)]
    exact (f2 b hb).1
  have st3 : tn 0 u3.heap := T.keep _ _ _ st2 fun b _ o e => by rw [hp3]; exact Heap.get?_push_of_some _ e
  have I4 := block_start I3 ok hN f3
  generalize hcl : cellsFrom (u3.heap.objs.size + 1) sc.names (cloFrom X.env.cells sc.names []) = cl at I4 ⊢
  have pga := hga u3 (upd G2 D (.dT [])) u3.heap.objs.size cl fp
  have pib := hib u3 (upd G2 D (.dT [])) u3.heap.objs.size cl fp
  have pgb := hgb u3 (upd G2 D (.dT [])) u3.heap.objs.size cl fp
  have pk := hk u3 (upd G2 D (.dT [])) u3.heap.objs.size cl fp
  have pz := hz u3 (upd G2 D (.dT [])) u3.heap.objs.size cl fp
  have post : ∀ {u' : Shared} {G' : Hp} {m : Str → Option Value}, Inv X pins ρ G' u' → Q (.ref D) G' → u'.heap.Ns u3.heap.objs.size m → FpOk X pins G' u3.heap.objs.size → compPost (model X.prog X.w) X.A X.xe none (EP X pins ρ Q) (.ref D) u3.heap.objs.size (.ok .next) u' := fun {u' G' m} I' q hn f =>
    ⟨m, hn, fun h'' sb => ⟨.ref D, G', I'.turned (t' := u'.toks) (fun b o hb e => (sb.2 b hb).trans e) f.1 f.2.1 f.2.2.2.1 f.2.2.2.2.1 f.2.2.2.2.2, rfl, q⟩⟩
  show codeAny _ _ (.compStart (dcE kx vx ta ia tb ib sc pos) 0 (.ref it) (.ref D) (compEnvC sc cl u3.heap.objs.size X.env)) (compPost (model X.prog X.w) X.A X.xe none (EP X pins ρ Q) (.ref D) u3.heap.objs.size) { u3 with heap := pushCells (u3.heap.push { cls := .type "dict", data := .dict #[] }) sc.names }
  have nfp : ∀ b ∈ fp, (upd G2 D (.dT [])) b = none := fun b hb => (f3 b hb).1.1
  generalize hce : compEnvC sc cl u3.heap.objs.size X.env = ce at I4 pga pib pgb pk pz ⊢
  have cL : ce.locals = u3.heap.objs.size := by subst hce; rfl
  generalize hG3 : upd G2 D (.dT []) = G3 at I3 I4 pga pib pgb pk pz w0 nfp f3
  generalize hu4 : ({ u3 with heap := pushCells (u3.heap.push { cls := .type "dict", data := .dict #[] }) sc.names } : Shared) = u4 at I4 ⊢
  have st4 : tn 0 u4.heap := T.keep _ _ _ st3 fun b _ o e => by rw [← hu4]; exact pushCells_keeps _ _ _ _ (Heap.get?_push_of_some _ e)
  generalize hZ : X.blk u3 G3 sc ce fp = Z at I4 pga pib pgb pk pz
  have zp : Z.prog = X.prog := by rw [← hZ]
  have zw : Z.w = X.w := by rw [← hZ]
  have zA : Z.A = X.A := by rw [← hZ]
  have ze : Z.env = ce := by rw [← hZ]
  have zx : Z.xe = noEx := by rw [← hZ]
  have zc : Z.calm = true := by rw [← hZ]; exact hc
  have zK : Z.K = X.K := by rw [← hZ]
  have stat : ∀ {ρ' : L2.St} {G' : Hp} {u' : Shared}, Inv Z [] ρ' G' u' → (∀ b ∈ fp, G' b = none) → ∀ b ∈ fp, FpOk Z [] G' b := by
    subst hZ
    exact fun {ρ' G' u'} I' hn b hb => ⟨hn b hb, (I'.ok.exf b hb).1, I'.ok.exfs b hb, .inl hb, fun x c e => (I'.ok.exf b hb).2 x c e, fun p hp => absurd (show p ∈ ([] : List (Addr × Obj)) ++ [] from hp) (by simp)⟩
  have home : ∀ {G' : Hp} {u' : Shared}, Inv Z [] (wipe ρ (own.map (·.2))) G' u' → Q (.ref D) G' → compPost (model X.prog X.w) X.A X.xe none (EP X pins ρ Q) (.ref D) u3.heap.objs.size (.ok .next) u' := by
    subst hZ
    intro G' u' I' qq
    have I7 : Inv X pins ρ G' u' := I3.call' (ch := fp) I'.os I'.base I'.hok I'.bare fun b hb => ⟨(f3 b hb).1.2.2.2.1, (f3 b hb).1.2.1, (f3 b hb).1.2.2.2.2.1, (f3 b hb).1.2.2.2.2.2⟩
    have nC : G' ce.locals = none := I'.free
    obtain ⟨m, hn, _⟩ := I'.loc
    have hn : u'.heap.Ns ce.locals m := hn
    rw [cL] at nC hn
    exact post I7 qq hn (I3.fpOk (Nat.le_refl _) nC)
  have loop : codeAny (model X.prog X.w) X.A (.compLoop (dcE kx vx ta ia tb ib sc pos) 0 (.ref it) (.ref D) ce) (compPost (model X.prog X.w) X.A X.xe none (EP X pins ρ Q) (.ref D) u3.heap.objs.size) u4 := by
    refine runsA (hfb ce) (fun n u' => ∃ i G', Inv Z [] (wipe ρ (own.map (·.2))) G' u' ∧ tn i u'.heap ∧ (∀ b ∈ fp, G' b = none) ∧ W i n G') ?_ m0 ⟨0, G3, I4, st4, nfp, w0⟩
    rintro n u5 ⟨i, G5, I5, st5, n5, w5⟩
    rcases turn i n G5 w5 with ⟨stop, qq⟩ | ⟨go, Nx, hNx, step⟩
    · have td := T.done Z zp zw zK zc i [] u5 _ G5 noEx I5 (stat I5 n5) st5 stop
      rw [zA] at td
      refine thnF td fun r u6 ⟨hr, I6⟩ => ?_
      subst hr
      exact home I6 qq
    · have ti := T.item Z zp zw zK zc i [] u5 _ G5 noEx I5 (stat I5 n5) st5 go
      rw [zA] at ti
      refine thnF ti fun r u6 ⟨v6, hr, h6⟩ => ?_
      subst hr
      refine thnF h6 fun _ u7 ⟨x, G7, I7, r7, y7, st7, n7⟩ => ?_
      have ra := pga.run _ u7 _ G7 x v6 _ (I7.pinned (stat I7 n7) (T.obj _ _ st7)) r7 (step x G7 y7)
      rw [zp, zw, zA, ze, zx] at ra
      refine thnF ra fun _ u8 ⟨ρ8, G8, I8, hw8, q8⟩ => ?_
      have known : ∀ (j : Nat) v, (wipe ρ (own.map (·.2)))[j]? = some (some v) → (wipe ρ8 vs1)[j]? = some (some v) := fun j v e => by
        rw [← hw8] at e
        obtain ⟨e1, e2⟩ := wipe_some e
        rw [wipe_out fun z => e2 (hv j z)]
        exact e1
      have rb := pib.run _ u8 ρ8 G8 _ I8 q8
      rw [zp, zw, zA, ze, zx] at rb
      refine thnF rb fun xv u10 hx => thnF hx fun itv u11 h11 => ?_
      obtain ⟨it1, fp1, tn1, J1, G11, rfl, I11, T1, st11, f11, W1, ⟨m1, w1⟩, turn1⟩ := h11
      rw [zp, zw, zK] at T1
      have stat1 : ∀ {G' : Hp}, (∀ b ∈ fp1, G' b = none) → ∀ b ∈ fp1, FpOk Z ([] ++ pinsAt fp u7.heap) G' b := fun hn b hb => ⟨hn b hb, (f11 b hb).2⟩
      have inner : codeAny (model X.prog X.w) X.A (.compLoop (dcE kx vx ta ia tb ib sc pos) 1 (.ref it1) (.ref D) ce)
          (fun r u' => (∃ f, r = .ok f) ∧ ∃ m, m < n ∧ ∃ i G', Inv Z [] (wipe ρ (own.map (·.2))) G' u' ∧ tn i u'.heap ∧ (∀ b ∈ fp, G' b = none) ∧ W i m G') u11 := by
        refine runsB (fun k u' => ∃ j G', Inv Z ([] ++ pinsAt fp u7.heap) (wipe ρ8 vs1) G' u' ∧ tn1 j u'.heap ∧ (∀ b ∈ fp1, G' b = none) ∧ W1 j k G') ?_ m1 ⟨0, G11, I11.weak (wipe_length _ _) (fun j v e => (wipe_some e).1), st11, fun b hb => (f11 b hb).1, w1⟩
        rintro k u12 ⟨j, G12, I12, st12, n12, w12⟩
        rcases turn1 j k G12 w12 with ⟨stop1, nx1⟩ | ⟨go1, Nx1, hNx1, step1⟩
        · have td := T1.done Z zp zw zK zc j _ u12 (wipe ρ8 vs1) G12 noEx I12 (stat1 n12) st12 stop1
          rw [zA] at td
          refine thnF td fun r u13 ⟨hr, I13⟩ => ?_
          subst hr
          obtain ⟨m', hm, w'⟩ := hNx _ nx1
          have pin' : ∀ b ∈ fp, ∀ o, u7.heap.get? b = some o → u13.heap.get? b = some o ∧ G12 b = none := fun b hb o e =>
            let z := I13.pin (b, o) (List.mem_append_right _ (List.mem_append_right _ (mem_pinsAt hb e)))
            ⟨z.1, z.2.1⟩
          refine ⟨⟨_, rfl⟩, m', hm, i + 1, G12, (I13.unpinned (pins := [])).weak (by rw [← hw8, wipe_length, wipe_length]) known, T.keep _ _ _ st7 fun b hb o e => (pin' b hb o e).1, fun b hb => ?_, w'⟩
          obtain ⟨o, e, _⟩ := T.obj _ _ st7 b hb
          exact (pin' b hb o e).2
        · have ti := T1.item Z zp zw zK zc j _ u12 (wipe ρ8 vs1) G12 noEx I12 (stat1 n12) st12 go1
          rw [zA] at ti
          refine thnF ti fun r u13 ⟨v13, hr, h13⟩ => ?_
          subst hr
          refine thnF h13 fun _ u14 ⟨x1, G14, I14, r14, y14, st14, n14⟩ => ?_
          have rg := pgb.run _ u14 (wipe ρ8 vs1) G14 x1 v13 _ (I14.pinned (stat1 n14) (T1.obj _ _ st14)) r14 (step1 x1 G14 y14)
          rw [zp, zw, zA, ze, zx] at rg
          refine thnF rg fun _ u15 ⟨ρ15, G15, I15, hw15, q15⟩ => ?_
          have rk := pk.run _ u15 ρ15 G15 _ I15 q15
          rw [zp, zw, zA, ze, zx] at rk
          refine thnF rk fun yv u16 ⟨y, G16, I16, r16, q16⟩ => ?_
          have rz := pz.run _ u16 ρ15 G16 _ I16 q16
          rw [zp, zw, zA, ze, zx] at rz
          refine thnF rz fun zv u17 ⟨z, G17, I17, r17, kvs, kk, b, ey, hb, hD17, hl, nx⟩ => ?_
          subst ey
          cases r16
          have rs := t_dictSet (E := noEx) (Q := fun _ u6 => ∃ m, m < k ∧ ∃ j G', Inv Z ([] ++ pinsAt fp u7.heap) (wipe ρ8 vs1) G' u6 ∧ tn1 j u6.heap ∧ (∀ b ∈ fp1, G' b = none) ∧ W1 j m G') (by rw [zA]; exact hu) I17 hD17 hb hl r17 fun u18 I18 => by
            obtain ⟨k', hk', w'⟩ := hNx1 _ nx
            have pin' : ∀ b ∈ fp1, ∀ o, u14.heap.get? b = some o → u18.heap.get? b = some o ∧ (upd G17 D (.dT (putK kvs kk z))) b = none := fun b hb o e =>
              let z := I18.pin (b, o) (List.mem_append_right _ (List.mem_append_right _ (mem_pinsAt hb e)))
              ⟨z.1, z.2.1⟩
            refine ⟨k', hk', j + 1, _, I18.unpinned.weak (by rw [← hw15, wipe_length]) (fun j v e => by rw [← hw15] at e; exact (wipe_some e).1), T1.keep _ _ _ st14 fun b hb o e => (pin' b hb o e).1, fun b hb => ?_, w'⟩
            obtain ⟨o, e, _⟩ := T1.obj _ _ st14 b hb
            exact (pin' b hb o e).2
          rw [zp, zw, zA] at rs
          exact rs
      exact startB inner (T1.self X.A 0 _ _ _ st11 inner)
  exact codeAny_compStart_dict loop (T.self X.A 0 _ _ _ st4 loop)
end
/-! all(.. for .. in .. for .. in ..), no clause has an `if` -/
section
open PySem.Spec PyProof.Rows
/-- what is to be shown: W of the outer turns, W1 of the inner ones; each number below the one ahead -/
def g2Turn (J : It) (g : TG) (wb : TI) (gb : TG) (te : TE) (vs vs1 : List Nat) (σ0 : L2.St) (e : Bool) (Qe Qn : Hp → Prop) (W : Nat → Nat → Hp → Prop) : Prop :=
  ∀ i m H, W i m H → (J.stop i H ∧ Qe H) ∨ (J.go i H ∧ ∀ x H', J.yld i H x H' → g x σ0 H' fun σ2 H2 => wipe σ2 vs = σ0 ∧ wb σ2 H2 fun J1 H4 => ∃ W1 : Nat → Nat → Hp → Prop, (∃ k, k < m ∧ W1 0 k H4) ∧ ∀ j k H, W1 j k H →
    (J1.stop j H ∧ ∃ m', m' ≤ k ∧ m' < m ∧ W (i + 1) m' H) ∨ (J1.go j H ∧ ∀ x H', J1.yld j H x H' → gb x (wipe σ2 vs1) H' fun σ3 H5 => wipe σ3 vs1 = wipe σ2 vs1 ∧ te σ3 H5 fun y H6 => ∃ c, y = .bl c ∧ (c = e → ∃ k', k' < k ∧ W1 (j + 1) k' H6) ∧ (c ≠ e → Qn H6)))
section
variable {X : Cx} {A0 : Around} {s1 : Shared} {H1 : Hp} {ce : Env} {fp : List Addr} {pn : List (Addr × Obj)} {elt tg iter tb ib : Expr} {scope : Scope} {gpos : Pos} {it : Addr} {tn : Nat → Heap → Prop} {J : It} {g gb : TG} {wb : TI} {te : TE} {vs vs1 : List Nat} {σ0 : L2.St} {e : Bool} {Qe Qn : Hp → Prop} {W : Nat → Nat → Hp → Prop}
abbrev g2Code (elt tg iter tb ib : Expr) (scope : Scope) (gpos : Pos) (it : Addr) (ce : Env) : Code := .compLoop (.GeneratorExp elt [⟨tg, iter, [], 0⟩, ⟨tb, ib, [], 0⟩] scope gpos) 0 (.ref it) .none ce
abbrev g2Z (X : Cx) (A0 : Around) (s1 : Shared) (H1 : Hp) (ce : Env) (fp : List Addr) (pn : List (Addr × Obj)) (elt tg iter tb ib : Expr) (scope : Scope) (gpos : Pos) (it : Addr) : Cx := gxCx X (A0.over (g2Code elt tg iter tb ib scope gpos it ce) []) s1 H1 ce fp pn
theorem g2_fp {Z : Cx} (hZ : Z = g2Z X A0 s1 H1 ce fp pn elt tg iter tb ib scope gpos it) (hpn : ∀ p ∈ pn, p.1 ∉ fp) {σ' : L2.St} {H' : Hp} {s' : Shared} (I : Inv Z [] σ' H' s') (hn : ∀ b ∈ fp, H' b = none) : ∀ b ∈ fp, FpOk Z [] H' b := by
  subst hZ
  intro b hb
  refine ⟨hn b hb, (I.ok.exf b hb).1, I.ok.exfs b hb, .inl hb, fun x c e => (I.ok.exf b hb).2 x c e, fun p hp z => ?_⟩
  have hp : p ∈ pn := by
    rcases List.mem_append.mp hp with hp | hp
    · exact hp
    · cases hp
  exact hpn p hp (by rw [z]; exact hb)
abbrev g2E (elt tg iter tb ib : Expr) (scope : Scope) (gpos : Pos) : Expr := .GeneratorExp elt [⟨tg, iter, [], 0⟩, ⟨tb, ib, [], 0⟩] scope gpos
theorem g2_turn0 {itv acc : Value} : compTurn (g2E elt tg iter tb ib scope gpos) 0 itv acc ce = (do
    standAt iter.pos
    match ← pyNext itv with
    | none => pure (.done .next)
    | some v =>
      letOwnedTupleGo tg itv v
      assign tg ce v
      let x ← eval ib ce
      standAt ib.pos
      let x ← foldedSetIterable ib ce x
      let j ← holding [x] (pyIter x)
      let _ ← runOwn (.compStart (g2E elt tg iter tb ib scope gpos) 1 j acc ce) ce
      again (.compLoop (g2E elt tg iter tb ib scope gpos) 0 itv acc ce)) := by rfl
theorem g2_turn1 {itv acc : Value} : compTurn (g2E elt tg iter tb ib scope gpos) 1 itv acc ce = (do
    standAt ib.pos
    match ← pyNext itv with
    | none => pure (.done .next)
    | some v =>
      letOwnedTupleGo tb itv v
      assign tb ce v
      (do
        let y ← eval elt ce
        standAt elt.pos
        let _ ← yieldOut ce y)
      again (.compLoop (g2E elt tg iter tb ib scope gpos) 1 itv acc ce)) := by rfl
/-- within the inner loop all stands around as in the outer one -/
theorem g2_over {it1 : Value} {kk : Result → Sem PySem.Fin} {gg : Bool} {ll : List Value} {p : Pos} : A0.over (.compLoop (g2E elt tg iter tb ib scope gpos) 1 it1 .none ce) [.ret kk none gg ll (g2Code elt tg iter tb ib scope gpos it ce) p []] = A0.over (g2Code elt tg iter tb ib scope gpos it ce) [] := by
  obtain ⟨a1, a2, a3, a4, a5⟩ := A0
  rfl
theorem g2_overS {it1 : Value} {kk : Result → Sem PySem.Fin} {gg : Bool} {ll : List Value} {p : Pos} : A0.over (.compStart (g2E elt tg iter tb ib scope gpos) 1 it1 .none ce) [.ret kk none gg ll (g2Code elt tg iter tb ib scope gpos it ce) p []] = A0.over (g2Code elt tg iter tb ib scope gpos it ce) [] := by
  obtain ⟨a1, a2, a3, a4, a5⟩ := A0
  rfl
theorem seg_g2start {R : GenEnd} {Y : Protocol} {kk : Result → Sem PySem.Fin} {gg : Bool} {ll : List Value} {p : Pos} {J1 : It} {fp1 : List Addr} {it1 : Addr} {tn1 : Nat → Heap → Prop} {n : Nat} {s₀ s : Shared} (T1 : Turn X.prog X.w X.K tb J1 fp1 it1 tn1) (st : tn1 0 s.heap)
    (loop : Seg (model X.prog X.w) A0 R Y n s₀ (.compLoop (g2E elt tg iter tb ib scope gpos) 1 (.ref it1) .none ce) ((model X.prog X.w).den (.compLoop (g2E elt tg iter tb ib scope gpos) 1 (.ref it1) .none ce)) [.ret kk none gg ll (g2Code elt tg iter tb ib scope gpos it ce) p []] s) :
    Seg (model X.prog X.w) A0 R Y n s₀ (.compStart (g2E elt tg iter tb ib scope gpos) 1 (.ref it1) .none ce) ((model X.prog X.w).den (.compStart (g2E elt tg iter tb ib scope gpos) 1 (.ref it1) .none ce)) [.ret kk none gg ll (g2Code elt tg iter tb ib scope gpos it ce) p []] s := by
  show Seg _ A0 _ _ _ s₀ _ ((compStart (g2E elt tg iter tb ib scope gpos) 1 (.ref it1) .none ce).onRaise (fun x => do noteFrame x ce; standAt theWindowsPlace)) _ s
  unfold compStart
  rw [Sem.onRaise_eq_wrap]
  show Seg _ A0 _ _ _ s₀ _ ((ask >>= _).wrap _ _ _ _) _ s
  refine seg_bind_wrap (wpAny_askSetting ?_)
  split
  · exact seg_again rfl loop
  · refine seg_bind_wrap (wpAny_rule ?_)
    show Seg _ A0 _ _ _ s₀ _ ((standAt ib.pos >>= _).wrap _ _ _ _) _ s
    exact seg_bind_wrap (wpAny_standAt (seg_bind_wrap (T1.self _ 0 s _ _ st (seg_again rfl loop))))
theorem unpinAll {Y : Cx} {pins : List (Addr × Obj)} {σ : L2.St} {H : Hp} {s : Shared} (I : Inv Y pins σ H s) : Inv Y [] σ H s := I.pins_of fun p hp => nomatch hp
theorem seg_g2in {Z : Cx} (hZ : Z = g2Z X A0 s1 H1 ce fp pn elt tg iter tb ib scope gpos it) (hco : ce.scope.isCoroutine = false) {R : GenEnd} {kk : Result → Sem PySem.Fin} {gg : Bool} {ll : List Value} {p : Pos} (hgg : gg = false)
    {J1 : It} {fp1 : List Addr} {it1 : Addr} {tn1 : Nat → Heap → Prop} (T1 : Turn X.prog X.w X.K tb J1 fp1 it1 tn1) (pg : PG Z tb gb) (pe : PE Z elt te) {pins : List (Addr × Obj)} {σ8 : L2.St} {W1 : Nat → Nat → Hp → Prop} {En : Nat → Hp → Prop}
    (turn1 : ∀ j k H, W1 j k H → (J1.stop j H ∧ En k H) ∨ (J1.go j H ∧ ∀ x H', J1.yld j H x H' → gb x (wipe σ8 vs1) H' fun σ3 H5 => wipe σ3 vs1 = wipe σ8 vs1 ∧ te σ3 H5 fun y H6 => ∃ c, y = .bl c ∧ (c = e → ∃ k', k' < k ∧ W1 (j + 1) k' H6) ∧ (c ≠ e → Qn H6)))
    (f1 : ∀ b ∈ fp1, ∀ H, H b = none → FpOk Z pins H b)
    (fin : ∀ k n s₀ s H, k < n → En k H → Inv Z pins (wipe σ8 vs1) H s → Seg (model X.prog X.w) A0 R (GxY Z e Qn) n s₀ (g2Code elt tg iter tb ib scope gpos it ce) (kk (.ok .next)) [] s) :
    ∀ (k j n : Nat) (s₀ s : Shared) (H : Hp), k < n → W1 j k H → Inv Z pins (wipe σ8 vs1) H s → tn1 j s.heap → (∀ b ∈ fp1, H b = none) →
      Seg (model X.prog X.w) A0 R (GxY Z e Qn) n s₀ (.compLoop (g2E elt tg iter tb ib scope gpos) 1 (.ref it1) .none ce) ((model X.prog X.w).den (.compLoop (g2E elt tg iter tb ib scope gpos) 1 (.ref it1) .none ce)) [.ret kk none gg ll (g2Code elt tg iter tb ib scope gpos it ce) p []] s := by
  intro k
  induction k using Nat.strongRecOn with
  | ind k ih =>
    intro j n s₀ s H hkn w0 I st nf
    have hA : Z.A = A0.over (.compLoop (g2E elt tg iter tb ib scope gpos) 1 (.ref it1) .none ce) [.ret kk none gg ll (g2Code elt tg iter tb ib scope gpos it ce) p []] := by rw [g2_over, hZ]; rfl
    have hE : Z.env = ce := by rw [hZ]; rfl
    have hPr : Z.prog = X.prog := by rw [hZ]; rfl
    have hWd : Z.w = X.w := by rw [hZ]; rfl
    have hKd : Z.K = X.K := by rw [hZ]; rfl
    have hXe : Z.xe = fun _ _ => False := by rw [hZ]; rfl
    have hCa : Z.calm = true := by rw [hZ]; rfl
    show Seg _ A0 _ _ _ s₀ _ ((compTurn (g2E elt tg iter tb ib scope gpos) 1 (.ref it1) .none ce).onRaise (fun x => do noteFrame x ce; theTreesLotGoes x)) _ s
    rw [g2_turn1, Sem.onRaise_eq_wrap]
    refine seg_bind_wrap (wpAny_standAt ?_)
    rcases turn1 j k H w0 with ⟨stop, en⟩ | ⟨go, step⟩
    · have td := T1.done Z hPr hWd hKd hCa j pins s (wipe σ8 vs1) H (fun _ _ => False) I (fun b hb => f1 b hb H (nf b hb)) st stop
      rw [hA] at td
      refine seg_bind_wrap (wpAny_mono td (fun r s2 hr => ?_) fun _ _ z => z.elim)
      obtain ⟨rfl, I2⟩ := hr
      exact seg_leaf (.ok .next) (fin k n s₀ s2 H hkn en I2)
    · have ti := T1.item Z hPr hWd hKd hCa j pins s (wipe σ8 vs1) H (fun _ _ => False) I (fun b hb => f1 b hb H (nf b hb)) st go
      rw [hA] at ti
      refine seg_bind_wrap (wpAny_mono ti (fun r s2 hr => ?_) fun _ _ z => z.elim)
      obtain ⟨u, rfl, ti⟩ := hr
      refine seg_bind_wrap (wpAny_mono ti (fun _ s7 h7 => ?_) fun _ _ z => z.elim)
      obtain ⟨x, H7, I7, r7, y7, st7, n7⟩ := h7
      have I7' := I7.pinned (fun b hb => f1 b hb H7 (n7 b hb)) (T1.obj _ _ st7)
      have ta := pg.run _ s7 _ H7 x u _ I7' r7 (step x H7 y7)
      rw [hPr, hWd, hA, hE, hXe] at ta
      refine seg_bind_wrap (wpAny_mono ta (fun _ s8 h8 => ?_) fun _ _ z => z.elim)
      obtain ⟨σ9, H8, I8, hw8, q8⟩ := h8
      have out : ∀ v, yieldOut ce v = yieldValue v := fun v => by simp only [yieldOut, hco, Bool.false_eq_true, if_false]
      simp only [out]
      rw [Sem.bind_eq_wrap', Sem.bind_eq_wrap']; rw [Sem.wrap_wrap, Sem.wrap_wrap]
      have tel := pe.run _ s8 σ9 H8 _ I8 q8
      rw [hPr, hWd, hA, hE, hXe] at tel
      refine seg_wrap (wpAny_mono tel (fun y s10 h10 => ?_) fun _ _ z => z.elim)
      obtain ⟨yv, H10, I10, r10, cb, rfl, qn, qx⟩ := h10
      obtain rfl : y = Value.bool cb := r10
      obtain ⟨n', rfl⟩ : ∃ n', n = n' + 1 := ⟨n - 1, by omega⟩
      refine seg_at (seg_yield rfl rfl (by subst hgg; rfl) ⟨cb, H10, σ9, rfl, unpinAll I10, fun hc s' e1 e2 e3 => ?_, qx⟩)
      obtain ⟨k', hk, w'⟩ := qn hc
      have pin' : ∀ b ∈ fp1, ∀ o, s7.heap.get? b = some o → s10.heap.get? b = some o ∧ H10 b = none := fun b hb o eo =>
        let z := I10.pin (b, o) (List.mem_append_right _ (List.mem_append_right _ (mem_pinsAt hb eo)))
        ⟨z.1, z.2.1⟩
      have I11 : Inv Z pins (wipe σ8 vs1) H10 s10 := I10.unpinned.weak (by rw [← hw8, wipe_length]) fun i v ev => by
        rw [← hw8] at ev
        exact (wipe_some ev).1
      refine seg_again rfl (ih k' hk (j + 1) n' s' s' H10 (by omega) w' (inv_sh I11 e1 e2 e3) ?_ fun b hb => ?_)
      · rw [e1]
        exact T1.keep _ _ _ st7 fun b hb o eo => (pin' b hb o eo).1
      · obtain ⟨o, eo, _⟩ := T1.obj _ _ st7 b hb
        exact (pin' b hb o eo).2
theorem seg_g2 {Z : Cx} (hZ : Z = g2Z X A0 s1 H1 ce fp pn elt tg iter tb ib scope gpos it) (hpn : ∀ p ∈ pn, p.1 ∉ fp) (hco : ce.scope.isCoroutine = false) (hv : ∀ i ∈ vs1, i ∈ vs) (hfb : ∀ x, foldedSetIterable ib ce x = pure x) (T : Turn X.prog X.w X.K tg J fp it tn) (pg : PG Z tg g) (pib : PI Z tb ib wb) (pgb : PG Z tb gb) (pe : PE Z elt te) (turn : g2Turn J g wb gb te vs vs1 σ0 e Qe Qn W) :
    ∀ (m i n : Nat) (s₀ s : Shared) (H : Hp), m < n → W i m H → Inv Z [] σ0 H s → tn i s.heap → (∀ b ∈ fp, H b = none) →
      Seg (model X.prog X.w) A0 (fun n s₀ r s1 => r = .ok .next ∧ GxE Z σ0 Qe n s₀ s1) (GxY Z e Qn) n s₀ (g2Code elt tg iter tb ib scope gpos it ce) ((model X.prog X.w).den (g2Code elt tg iter tb ib scope gpos it ce)) [] s := by
  intro m
  induction m using Nat.strongRecOn with
  | ind m ih =>
    intro i n s₀ s H hmn w0 I st nf
    have fpo := g2_fp hZ hpn I nf
    have hA : Z.A = A0.over (g2Code elt tg iter tb ib scope gpos it ce) [] := by rw [hZ]; rfl
    have hE : Z.env = ce := by rw [hZ]; rfl
    have hPr : Z.prog = X.prog := by rw [hZ]; rfl
    have hWd : Z.w = X.w := by rw [hZ]; rfl
    have hKd : Z.K = X.K := by rw [hZ]; rfl
    have hXe : Z.xe = fun _ _ => False := by rw [hZ]; rfl
    have hCa : Z.calm = true := by rw [hZ]; rfl
    show Seg _ A0 _ _ _ s₀ _ ((compTurn (g2E elt tg iter tb ib scope gpos) 0 (.ref it) .none ce).onRaise (leaving ce)) [] s
    rw [g2_turn0, Sem.onRaise_eq_wrap]
    refine seg_bind_wrap (wpAny_standAt ?_)
    rcases turn i m H w0 with ⟨stop, qe⟩ | ⟨go, step⟩
    · have td := T.done Z hPr hWd hKd hCa i [] s σ0 H (fun _ _ => False) I fpo st stop
      rw [hA] at td
      refine seg_bind_wrap (wpAny_mono td (fun r s2 hr => ?_) fun _ _ z => z.elim)
      obtain ⟨rfl, I2⟩ := hr
      exact seg_end (.ok .next) ⟨rfl, H, I2, qe⟩
    · have ti := T.item Z hPr hWd hKd hCa i [] s σ0 H (fun _ _ => False) I fpo st go
      rw [hA] at ti
      refine seg_bind_wrap (wpAny_mono ti (fun r s2 hr => ?_) fun _ _ z => z.elim)
      obtain ⟨u, rfl, ti⟩ := hr
      refine seg_bind_wrap (wpAny_mono ti (fun _ s7 h7 => ?_) fun _ _ z => z.elim)
      obtain ⟨x, H7, I7, r7, y7, st7, n7⟩ := h7
      have I7' := I7.pinned (g2_fp hZ hpn I7 n7) (T.obj _ _ st7)
      have ta := pg.run _ s7 _ H7 x u _ I7' r7 (step x H7 y7)
      rw [hPr, hWd, hA, hE, hXe] at ta
      refine seg_bind_wrap (wpAny_mono ta (fun _ s8 h8 => ?_) fun _ _ z => z.elim)
      obtain ⟨σ8, H8, I8, hw8, q8⟩ := h8
      have tx := pib.run _ s8 σ8 H8 _ I8 q8
      rw [hPr, hWd, hA, hE, hXe] at tx
      refine seg_bind_wrap (wpAny_mono tx (fun xv s9 h9 => ?_) fun _ _ z => z.elim)
      refine seg_bind_wrap (wpAny_standAt (seg_bind_wrap (wpAny_of_eq (hfb xv) (seg_bind_wrap (wpAny_holding (wpAny_mono h9 (fun itv s11 h11 => ?_) fun _ _ z => z.elim))))))
      obtain ⟨it1, fp1, tn1, J1, H11, rfl, I11, T1, st11, f11, W1, ⟨k1, hk1, w1⟩, turn1⟩ := h11
      rw [hPr, hWd, hKd] at T1
      have hl8 : σ0.length = (wipe σ8 vs1).length := by rw [← hw8, wipe_length, wipe_length]
      have known : ∀ (j : Nat) v, σ0[j]? = some (some v) → (wipe σ8 vs1)[j]? = some (some v) := fun j v ev => by
        rw [← hw8] at ev
        obtain ⟨e1, e2⟩ := wipe_some ev
        rw [wipe_out fun z => e2 (hv j z)]
        exact e1
      refine seg_call fun p => seg_g2start T1 st11 (seg_g2in (pins := [] ++ pinsAt fp s7.heap) (σ8 := σ8) (En := fun k H => ∃ m', m' ≤ k ∧ m' < m ∧ W (i + 1) m' H) hZ hco rfl T1 pgb pe turn1 (fun b hb H hn => ⟨hn, (f11 b hb).2⟩) (fun k n s₀ s H hkn en I' => ?_) k1 0 n s₀ s11 H11 (by omega) w1 (I11.weak (wipe_length _ _) fun j v ev => (wipe_some ev).1) st11 fun b hb => (f11 b hb).1)
      obtain ⟨m', hm', hmm, w'⟩ := en
      have pin' : ∀ b ∈ fp, ∀ o, s7.heap.get? b = some o → s.heap.get? b = some o ∧ H b = none := fun b hb o eo =>
        let z := I'.pin (b, o) (List.mem_append_right _ (List.mem_append_right _ (mem_pinsAt hb eo)))
        ⟨z.1, z.2.1⟩
      refine seg_again rfl (ih m' hmm (i + 1) n s₀ s H (by omega) w' ((I'.unpinned (pins := [])).weak hl8 known) (T.keep _ _ _ st7 fun b hb o eo => (pin' b hb o eo).1) fun b hb => ?_)
      obtain ⟨o, eo, _⟩ := T.obj _ _ st7 b hb
      exact (pin' b hb o eo).2
/-- its begin -/
theorem seg_g20 {Z : Cx} (hZ : Z = g2Z X A0 s1 H1 ce fp pn elt tg iter tb ib scope gpos it) (hpn : ∀ p ∈ pn, p.1 ∉ fp) (hco : ce.scope.isCoroutine = false) (hv : ∀ i ∈ vs1, i ∈ vs) (hfb : ∀ x, foldedSetIterable ib ce x = pure x) (T : Turn X.prog X.w X.K tg J fp it tn) (pg : PG Z tg g) (pib : PI Z tb ib wb) (pgb : PG Z tb gb) (pe : PE Z elt te) (turn : g2Turn J g wb gb te vs vs1 σ0 e Qe Qn W)
    {m n : Nat} {s₀ s : Shared} {H : Hp} (hmn : m < n) (w0 : W 0 m H) (I : Inv Z [] σ0 H s) (st : tn 0 s.heap) (nf : ∀ b ∈ fp, H b = none) :
    Seg (model X.prog X.w) A0 (fun n s₀ r s1 => r = .ok .next ∧ GxE Z σ0 Qe n s₀ s1) (GxY Z e Qn) n s₀ (.compStart (.GeneratorExp elt [⟨tg, iter, [], 0⟩, ⟨tb, ib, [], 0⟩] scope gpos) 0 (.ref it) .none ce) ((model X.prog X.w).den (.compStart (.GeneratorExp elt [⟨tg, iter, [], 0⟩, ⟨tb, ib, [], 0⟩] scope gpos) 0 (.ref it) .none ce)) [] s := by
  have loop := seg_g2 hZ hpn hco hv hfb T pg pib pgb pe turn m 0 n s₀ s H hmn w0 I st nf
  show Seg _ A0 _ _ _ s₀ _ ((compStart (.GeneratorExp elt [⟨tg, iter, [], 0⟩, ⟨tb, ib, [], 0⟩] scope gpos) 0 (.ref it) .none ce).onRaise (leaving ce)) [] s
  unfold compStart
  rw [Sem.onRaise_eq_wrap]
  show Seg _ A0 _ _ _ s₀ _ ((ask >>= _).wrap _ _ _ _) [] s
  refine seg_bind_wrap (wpAny_askSetting ?_)
  split
  · exact seg_again rfl loop
  · refine seg_bind_wrap (wpAny_rule ?_)
    show Seg _ A0 _ _ _ s₀ _ ((standAt iter.pos >>= _).wrap _ _ _ _) [] s
    exact seg_bind_wrap (wpAny_standAt (seg_bind_wrap (T.self _ 0 s _ _ st (seg_again rfl loop))))
end
theorem g2_make {M : Model} {A : Around} {E : Value → Shared → Prop} {s : Shared} {env : Env} {elt tg iter tb ib : Expr} {scope : Scope} {cl : List (Str × Addr)} {pos : Pos} {Q : Value → Shared → Prop}
    (hco : scope.isCoroutine = false) (hclos : closureFor scope env = pure cl) (hcell : ∀ y ∈ scope.names, y.2 ≠ .cell) (dot : scope.names.lookup (".0" : Str) = some NameKind.local) (hkind : scope.kind = .function)
    (room : A.depth < recursionLimit)
    (h : wpAny M A (eval iter env) (fun xv u1 => wpAny M A (pyIter xv) (fun it u2 => u2.heap.NoLimit ∧ wpAny M A (genexprCode env pos (env.qual ++ "<genexpr>") scope) (fun code u3 => wpAny M A (builtinsFor env.globals env.builtins) (fun bi s4 =>
        ∀ h', h'.Ns s4.heap.objs.size (fun y => if y = ".0" then some it else none) → Heap.SameBut s4.heap.objs.size (s4.heap.push { cls := .type "frame", data := .dict #[] }) h' →
        Q (.ref h'.objs.size) { s4 with
          gens := s4.gens.push (.fresh (.compStart (g2E elt tg iter tb ib scope pos) 0 it .none (genEnv scope cl s4.heap.objs.size code bi env)))
          toks := s4.toks + 1 + 1 + 1
          heap := h'.push { cls := .type "generator", data := .fields #[.int s4.gens.size 0, .str "<genexpr>" (s4.toks + 1), .str (env.qual ++ "<genexpr>") (s4.toks + 1 + 1)] } }) E u3) E u2) E u1) E s)
    (hs : ∀ x, genFold iter env x = pure x) : wpAny M A (eval (g2E elt tg iter tb ib scope pos) env) Q E s := by
  have e0 : eval (g2E elt tg iter tb ib scope pos) env = (eval iter env >>= fun x => standAt iter.pos >>= fun _ => genFold iter env x >>= fun x => holding [x] (pyIter x) >>= fun it => enterFrame >>= fun _ => closureFor scope env >>= fun cl => genexprCode env pos (env.qual ++ "<genexpr>") scope >>= fun code => builtinsFor env.globals env.builtins >>= fun bi => newFunctionEnv scope env.globals cl [(".0", it)] (env.qual ++ "<genexpr>.") none code none bi >>= fun cenv =>
      newGenerator (.compStart (g2E elt tg iter tb ib scope pos) 0 it .none cenv) "<genexpr>" (env.qual ++ "<genexpr>")) := by
    show eval (.GeneratorExp elt [⟨tg, iter, [], 0⟩, ⟨tb, ib, [], 0⟩] scope pos) env = _
    rw [arm_eval_GeneratorExp]
    simp only [hco, Bool.false_eq_true, if_false]
    cases iter <;> rfl
  rw [e0, hclos]
  refine wpAny_bind (thn h fun xv u1 h1 => wpAny_bind (wpAny_standAt (wpAny_bind (wpAny_of_eq (hs xv) (wpAny_bind (wpAny_holding (thn h1 fun it u2 h2 => ?_)))))))
  refine wpAny_bind (wpAny_enterFrame h2.1 room (wpAny_bind (wpAny_pure (wpAny_bind (thn h2.2 fun code u3 h3 => wpAny_bind (thn h3 fun bi s4 h4 => ?_))))))
  refine wpAny_bind (wpAny_newFunctionEnv hcell (fun y hy => by rw [List.mem_singleton.mp hy]; exact dot) (fun h' hn same => ?_) hkind)
  have e1 : (fun y : Str => ([((".0" : Str), it)] : List (Str × Value)).reverse.lookup y) = fun y : Str => if y = (".0" : Str) then some it else none := by
    funext y
    by_cases hy : y = ".0"
    · rw [hy]; rfl
    · have q : (y == (".0" : Str)) = false := by simpa using hy
      simp [List.lookup, q, hy]
  rw [e1] at hn
  simp only [newGenerator, newFields]
  exact wpAny_bind (wpAny_newGen (wpAny_bind (wpAny_mkText (wpAny_bind (wpAny_mkText (wpAny_newObj_type (h4 h' hn same) (by size_fits)))))))
abbrev tQuant2 (P : Addr) (wi : TI) (g : TG) (wb : TI) (gb : TG) (te : TE) (vs vs1 : List Nat) (e : Bool) : TE := fun σ H Q => wi σ H fun J H1 => GxR.TabG H1 P ∧ ∀ H2, GxR.Tabbed P H1 H2 → ∃ W : Nat → Nat → Hp → Prop, (∃ m, W 0 m H2) ∧ g2Turn J g wb gb te vs vs1 (wipe σ vs) e (fun H => Q (.bl e) H) (fun H => Q (.bl (!e)) H) W
theorem g2_room {A : Around} {k : Nat} {elt tg iter tb ib : Expr} {scope : Scope} {gpos : Pos} {it : Addr} {ce : Env} (r : Room (k + 1) A) : Room k (A.in1.in1.over (g2Code elt tg iter tb ib scope gpos it ce) []) :=
  ⟨r.hd, by have := r.dp; show A.depth + 1 + 3 * k + 5 < _; omega, by have := r.un; show A.units + 1 + 1 + 3 + 16 * k + 200 < _; omega⟩
theorem g2_frames {A : Around} {st : List Env} {elt tg iter tb ib : Expr} {scope : Scope} {gpos : Pos} {it : Addr} {ce : Env} (h : A.frames = some st) : (A.in1.in1.over (g2Code elt tg iter tb ib scope gpos it ce) []).frames = some (ce :: st) := by
  obtain ⟨hd, d, fr, gs, u⟩ := A
  obtain rfl : fr = some st := h
  rfl
theorem g2_eval {X : Cx} {pins : List (Addr × Obj)} {σ : L2.St} {H : Hp} {s : Shared} {c P : Addr} {elt tg iter tb ib : Expr} {scope : Scope} {own : List (Str × Nat)} {gpos : Pos} {wi : TI} {g : TG} {wb : TI} {gb : TG} {vs1 : List Nat} {te : TE} {e : Bool} {k : Nat} {Q : VK} {Q' : Value → Shared → Prop}
    (hN : X.N.Nodup) (hr : Room (k + 1) X.A) (TB : LamX.TabB X.base X.mg c P) (hcode : X.env.code = .ref c) (ok : BlkOk X.N X.env.scope scope own) (nocell : ∀ y ∈ scope.names, y.2 ≠ .cell) (hco : scope.isCoroutine = false) (dot : scope.names.lookup (".0" : Str) = some NameKind.local)
    (hv : ∀ i ∈ vs1, i ∈ own.map (·.2)) (hfb : ∀ env x, foldedSetIterable ib env x = pure x) (hi : PI X tg iter wi)
    (hg : ∀ (A : Around) (s : Shared) (H : Hp) (cl : List (Str × Addr)) (C : Addr) (code : Value) (bi : Addr) (fp : List Addr) (pn : List (Addr × Obj)), Room k A → PG (gxCx X A s H (genEnv scope cl C code bi X.env) fp pn) tg g)
    (ht1 : ∀ (A : Around) (s : Shared) (H : Hp) (cl : List (Str × Addr)) (C : Addr) (code : Value) (bi : Addr) (fp : List Addr) (pn : List (Addr × Obj)), Room k A → PI (gxCx X A s H (genEnv scope cl C code bi X.env) fp pn) tb ib wb)
    (ht2 : ∀ (A : Around) (s : Shared) (H : Hp) (cl : List (Str × Addr)) (C : Addr) (code : Value) (bi : Addr) (fp : List Addr) (pn : List (Addr × Obj)), Room k A → PG (gxCx X A s H (genEnv scope cl C code bi X.env) fp pn) tb gb)
    (he : ∀ (A : Around) (s : Shared) (H : Hp) (cl : List (Str × Addr)) (C : Addr) (code : Value) (bi : Addr) (fp : List Addr) (pn : List (Addr × Obj)), Room k A → PE (gxCx X A s H (genEnv scope cl C code bi X.env) fp pn) elt te)
    (hs : ∀ v, genFold iter X.env v = pure v) (I : Inv X pins σ H s) (h : tQuant2 P wi g wb gb te (own.map (·.2)) vs1 e σ H Q)
    (hQ : ∀ a s5, GxReady X pins σ e (fun H => Q (.bl e) H) (fun H => Q (.bl (!e)) H) a s5 → Q' (.ref a) s5) :
    wpAny (model X.prog X.w) X.A (eval (.GeneratorExp elt [⟨tg, iter, [], 0⟩, ⟨tb, ib, [], 0⟩] scope gpos) X.env) Q' X.xe s := by
  have hfree : ∀ y ∈ scope.names, y.2 = .free → ∃ c, X.env.cells.lookup y.1 = some c := fun y hy ey => by
    rcases ok.free y hy ey with z | z
    · exact I.ok.has _ (.inl z)
    · exact I.ok.has _ (.inr z)
  refine g2_make hco (closure_ok hfree) nocell dot ok.kind hr.depth ?_ hs
  refine thn (hi.run pins s σ H _ I h) fun xv s1 hx => thn hx fun itv s2 h2 => ?_
  obtain ⟨it, fp, tn, J, H2, rfl, I2, T, st2, f2, ⟨ps, hP, tro⟩, q⟩ := h2
  refine ⟨I2.nolimit, ?_⟩
  have hPs : s2.heap.get? P = some { cls := .none, data := .fields ps } := I2.hok P _ hP
  have cd : PySem.W.CodeHd s2.heap c P := TB.code.keeps fun b u z => I2.bk b u z
  have szf : ∀ b ∈ fp, b < s2.heap.objs.size := fun b hb => by
    obtain ⟨o, eo, _⟩ := T.obj _ _ st2 b hb
    exact Heap.lt_size eo
  -- behind the code object
  have cont : ∀ (code : Value) (h3 : Heap) (tk : Nat) (ps' : Array Value), Heap.ExtBut P s2.heap h3 → s2.heap.objs.size ≤ h3.objs.size → h3.get? P = some { cls := .none, data := .fields ps' } → (∃ more, ps' = ps ++ more) → TriplesOk ps'.toList →
      wpAny (model X.prog X.w) X.A (builtinsFor X.env.globals X.env.builtins) (fun bi s4 => ∀ h', h'.Ns s4.heap.objs.size (fun y => if y = ".0" then some (.ref it) else none) → Heap.SameBut s4.heap.objs.size (s4.heap.push { cls := .type "frame", data := .dict #[] }) h' →
        Q' (.ref h'.objs.size) { s4 with
          gens := s4.gens.push (.fresh (.compStart (.GeneratorExp elt [⟨tg, iter, [], 0⟩, ⟨tb, ib, [], 0⟩] scope gpos) 0 (.ref it) .none (genEnv scope (cloFrom X.env.cells scope.names []) s4.heap.objs.size code bi X.env)))
          toks := s4.toks + 1 + 1 + 1
          heap := h'.push { cls := .type "generator", data := .fields #[.int s4.gens.size 0, .str "<genexpr>" (s4.toks + 1), .str (X.env.qual ++ "<genexpr>") (s4.toks + 1 + 1)] } }) X.xe { s2 with heap := h3, toks := tk } := by
    intro code h3 tk ps' hx hsz hP3 ⟨more, em⟩ tro'
    obtain ⟨bm, ob, e1, e2, e3, e4, e5, e6, e7, e8⟩ := TB.bm
    have keep3 : ∀ b u, b ≠ P → s2.heap.get? b = some u → h3.get? b = some u := fun b u hb z => hx b u hb z
    refine wpAny_builtinsFor (m := X.mg) (by rw [I2.ok.glob]; exact (I2.mod.glob.keeps I2.bk).extBut hx TB.gP) e1 e2 (keep3 _ _ e4 (I2.bk _ _ e5)) e6 e7 e8 ?_
    intro h' hns hsame
    have J4 := GxR.inv_tab (more := more) (h' := h3) (g' := s2.gens) (d' := s2.drawn) (t' := tk) I2 hP keep3 (by rw [← em]; exact hP3) I2.bare
    have tabbed : GxR.Tabbed P H2 (upd H2 P (.tbl (ps ++ more))) := ⟨⟨ps ++ more, upd_same, by rw [← em]; exact tro'⟩, fun b hb => upd_ne hb⟩
    obtain ⟨W, ⟨m0, w0⟩, turn⟩ := q _ tabbed
    have hsz' : h'.objs.size = h3.objs.size + 1 := by rw [hsame.1, Heap.size_push]
    have kp5 : ∀ (go : Obj) b o, h3.get? b = some o → (h'.push go).get? b = some o := fun go b o eo => Heap.get?_push_of_some _ (hsame.extBut b o (Nat.ne_of_lt (Heap.lt_size eo)) (Heap.get?_push_of_some _ eo))
    have fpP : ∀ b ∈ fp, b ≠ P := fun b hb z => by
      have := (f2 b hb).1
      rw [z, hP] at this
      cases this
    have nf : ∀ b ∈ fp, upd H2 P (.tbl (ps ++ more)) b = none := fun b hb => by rw [upd_ne (fpP b hb)]; exact (f2 b hb).1
    have f3 : ∀ b ∈ fp, FpOk X pins (upd H2 P (.tbl (ps ++ more))) b ∧ b < h3.objs.size := fun b hb => ⟨⟨nf b hb, (f2 b hb).2⟩, Nat.lt_of_lt_of_le (szf b hb) hsz⟩
    refine hQ _ _ ?_
    show GxReady X pins σ e _ _ h'.objs.size { s2 with
      gens := s2.gens.push (.fresh (.compStart (.GeneratorExp elt [⟨tg, iter, [], 0⟩, ⟨tb, ib, [], 0⟩] scope gpos) 0 (.ref it) .none (genEnv scope (cloFrom X.env.cells scope.names []) h3.objs.size code builtinsNs X.env)))
      toks := tk + 1 + 1 + 1
      heap := h'.push { cls := .type "generator", data := .fields #[.int s2.gens.size 0, .str "<genexpr>" (tk + 1), .str (X.env.qual ++ "<genexpr>") (tk + 1 + 1)] } }
    generalize hgo : ({ cls := .type "generator", data := .fields #[.int s2.gens.size 0, .str "<genexpr>" (tk + 1), .str (X.env.qual ++ "<genexpr>") (tk + 1 + 1)] } : Obj) = go
    have goC : go.cls = .type "generator" := by rw [← hgo]
    have goD : go.data = .fields #[.int s2.gens.size 0, .str "<genexpr>" (tk + 1), .str (X.env.qual ++ "<genexpr>") (tk + 1 + 1)] := by rw [← hgo]
    have goS : go.slots = #[] := by rw [← hgo]
    have at5 : (h'.push go).get? h'.objs.size = some go := by rw [← hgo]; exact Heap.get?_push_size _ rfl
    have isG : ∀ h : Heap, h.get? h'.objs.size = some go → h.IsGen h'.objs.size s2.gens.size := fun h eo => ⟨go, _, _, eo, goC, goD, goS⟩
    generalize hst : GenState.fresh (.compStart (.GeneratorExp elt [⟨tg, iter, [], 0⟩, ⟨tb, ib, [], 0⟩] scope gpos) 0 (.ref it) .none (genEnv scope (cloFrom X.env.cells scope.names []) h3.objs.size code builtinsNs X.env)) = fr
    have bare5 : AllBare (s2.gens.push fr) := I2.bare.push (by rw [← hst]; rfl)
    have rm := g2_room (elt := elt) (tg := tg) (iter := iter) (tb := tb) (ib := ib) (scope := scope) (gpos := gpos) (it := it) (ce := genEnv scope (cloFrom X.env.cells scope.names []) h3.objs.size code builtinsNs X.env) hr
    obtain ⟨ce, hce⟩ : ∃ ce, ce = genEnv scope (cloFrom X.env.cells scope.names []) h3.objs.size code builtinsNs X.env := ⟨_, rfl⟩
    obtain ⟨s4, hs4⟩ : ∃ s4 : Shared, s4 = { s2 with heap := h3, gens := s2.gens, drawn := s2.drawn, toks := tk } := ⟨_, rfl⟩
    obtain ⟨H4, hH4⟩ : ∃ H4, H4 = upd H2 P (.tbl (ps ++ more)) := ⟨_, rfl⟩
    obtain ⟨Z, hZ⟩ : ∃ Z, Z = g2Z X X.A.in1.in1 s4 H4 ce fp [(h'.objs.size, go)] elt tg iter tb ib scope gpos it := ⟨_, rfl⟩
    have J4' : Inv X pins σ H4 s4 := by rw [hs4, hH4]; exact J4
    have Z0 : Inv Z [] (wipe σ (own.map (·.2))) H4 { s2 with heap := h'.push go, gens := s2.gens.push fr, toks := tk + 1 + 1 + 1 } := by
      rw [hZ, hs4, hH4, hce]
      exact gx_start (A := X.A.in1.in1.over (g2Code elt tg iter tb ib scope gpos it (genEnv scope (cloFrom X.env.cells scope.names []) h3.objs.size code builtinsNs X.env)) []) (a := h'.objs.size) (go := go) (h5 := h'.push go) (g5 := s2.gens.push fr) (t5 := tk + 1 + 1 + 1) (code := code) J4 hN ok nocell rm.hd (g2_frames J4.ok.frames) f3 (hns.push _) (kp5 go) at5 (by show h3.objs.size < _; omega) (fun v z => by rw [goD] at z; cases z) bare5
    rw [← hH4] at w0
    refine ⟨s2.gens.size, m0 + 1, Z, wipe σ (own.map (·.2)), by rw [hZ]; rfl, by rw [hZ]; rfl, isG _ at5, Z0.nolimit, fun {σ' H' s'} IZ => ?_, ⟨fr, Array.getElem?_push_size .., ?_⟩, fun s' H' os bare un hok => ?_⟩
    · refine isG _ (IZ.pin (h'.objs.size, go) (List.mem_append_left _ ?_)).1
      rw [hZ]
      exact List.mem_cons_self
    · rw [← hst, show Z.prog = X.prog by rw [hZ]; rfl, show Z.w = X.w by rw [hZ]; rfl, ← hce]
      refine ⟨rfl, seg_g20 (H := H4) hZ (fun p hp z => ?_) (by rw [hce]; exact hco) hv (hfb _) T (by rw [hZ, hce]; exact hg _ _ _ _ _ _ _ _ _ rm) (by rw [hZ, hce]; exact ht1 _ _ _ _ _ _ _ _ _ rm) (by rw [hZ, hce]; exact ht2 _ _ _ _ _ _ _ _ _ rm) (by rw [hZ, hce]; exact he _ _ _ _ _ _ _ _ _ rm) turn (Nat.lt_succ_self _) w0 (inv_sh Z0 rfl rfl (allBare_setGen (by show AllBare (s2.gens.push _); rw [hce, hst]; exact bare5) rfl)) ?_ fun b hb => by rw [hH4]; exact nf b hb⟩
      · rw [List.mem_singleton.mp hp] at z
        have z1 := (f3 _ z).2
        have z2 : h'.objs.size < h3.objs.size := z1
        omega
      · exact T.keep _ _ _ st2 fun b hb o eo => kp5 go b o (keep3 b o (fpP b hb) eo)
    · refine J4'.call' (ch := fp) ?_ ?_ ?_ bare fun b hb => ?_
      · rw [os, hZ]
        rfl
      · rw [hZ] at un
        exact un
      · rw [hZ] at hok
        exact hok
      · have z := (f3 b hb).1
        exact ⟨z.2.2.2.1, z.2.1, z.2.2.2.2.1, z.2.2.2.2.2⟩
  cases hf : codeAmong gpos ps.toList with
  | none =>
    refine wpAny_genexprCodeX hcode (cd.code hPs tro) (cd.tab hPs) hf fun c' h' tk hx hge hlt hco' _ htab' _ => ?_
    obtain ⟨o1, us, y1, y2, y3, y4, y5, y6, y7, y8, _, _, _, _, _, _, _, _, _, htr, _⟩ := hco'
    exact cont _ h' tk _ hx (Nat.le_trans hge (Nat.le_of_lt hlt)) htab'.2 ⟨_, rfl⟩ htr
  | some cv =>
    refine wpAny_genexprCode_hit hcode (cd.code hPs tro) hf ?_
    exact cont cv s2.heap s2.toks ps (Heap.ExtBut.refl _ _) (Nat.le_refl _) hPs ⟨#[], by simp⟩ tro
end
section
variable {X : Cx} {c P : Addr} {elt tg iter tb ib : Expr} {scope : Scope} {own : List (Str × Nat)} {p pos gpos : Pos} {wi wb : TI} {g gb : TG} {te : TE} {vs1 : List Nat} {k : Nat}
theorem pe_allG2 (hN : X.N.Nodup) (hr : Room (k + 1) X.A) (hg : Gl X "all") (hm : X.mg "all" = none) (hb : bootBuiltins "all" = some (.builtin "all")) (TB : LamX.TabB X.base X.mg c P) (hcode : X.env.code = .ref c) (ok : BlkOk X.N X.env.scope scope own) (nocell : ∀ y ∈ scope.names, y.2 ≠ .cell) (hco : scope.isCoroutine = false) (dot : scope.names.lookup (".0" : Str) = some NameKind.local)
    (hv : ∀ i ∈ vs1, i ∈ own.map (·.2)) (hfb : ∀ env x, foldedSetIterable ib env x = pure x) (hi : PI X tg iter wi)
    (pg : ∀ (A : Around) (s : Shared) (H : Hp) (cl : List (Str × Addr)) (C : Addr) (code : Value) (bi : Addr) (fp : List Addr) (pn : List (Addr × Obj)), Room k A → PG (gxCx X A s H (genEnv scope cl C code bi X.env) fp pn) tg g)
    (pt1 : ∀ (A : Around) (s : Shared) (H : Hp) (cl : List (Str × Addr)) (C : Addr) (code : Value) (bi : Addr) (fp : List Addr) (pn : List (Addr × Obj)), Room k A → PI (gxCx X A s H (genEnv scope cl C code bi X.env) fp pn) tb ib wb)
    (pt2 : ∀ (A : Around) (s : Shared) (H : Hp) (cl : List (Str × Addr)) (C : Addr) (code : Value) (bi : Addr) (fp : List Addr) (pn : List (Addr × Obj)), Room k A → PG (gxCx X A s H (genEnv scope cl C code bi X.env) fp pn) tb gb)
    (pe : ∀ (A : Around) (s : Shared) (H : Hp) (cl : List (Str × Addr)) (C : Addr) (code : Value) (bi : Addr) (fp : List Addr) (pn : List (Addr × Obj)), Room k A → PE (gxCx X A s H (genEnv scope cl C code bi X.env) fp pn) elt te)
    (hs : ∀ v, genFold iter X.env v = pure v)
    (he : starEach [.GeneratorExp elt [⟨tg, iter, [], 0⟩, ⟨tb, ib, [], 0⟩] scope gpos] X.env = (false, eval (.GeneratorExp elt [⟨tg, iter, [], 0⟩, ⟨tb, ib, [], 0⟩] scope gpos) X.env) :: starEach [] X.env := by rfl) :
    PE X (.Call (.Name "all" p) [.GeneratorExp elt [⟨tg, iter, [], 0⟩, ⟨tb, ib, [], 0⟩] scope gpos] [] pos) (tQuant2 P wi g wb gb te (own.map (·.2)) vs1 true) := by
  refine ⟨fun pins s σ H Q I h => ?_⟩
  refine wpAny_Call_Name_kw (ld_blt I hg hm hb ?_)
  refine PyProof.Rows.callWith_builtin1 ?_ he (by rfl)
  rw [he]
  show wpAny _ _ (spliced ((false, eval (.GeneratorExp elt [⟨tg, iter, [], 0⟩, ⟨tb, ib, [], 0⟩] scope gpos) X.env) :: backTo pos (starEach [] X.env))) _ _ s
  refine Calls.spliced_cons (g2_eval hN hr TB hcode ok nocell hco dot hv hfb hi pg pt1 pt2 pe hs I h fun a s5 hR => ?_)
  obtain ⟨gi, m, Z, σ0, e1, e2, isG, nl, isG', goes, back⟩ := hR
  refine Calls.spliced_nil ?_
  refine call_function_tree F.kind_all F.plain_all F.entry_all (F.args_all1 _) ?_
  unfold Builtin.«all»
  refine wpAny_bind ?_
  show wpAny _ _ (pure (Value.ref a)) _ _ s5
  refine wpAny_pure (wpAny_bind (wpAny_pyIter_gen isG (wpAny_pure ⟨plainId_quiet F.plain_all_loop _, ?_⟩)))
  rw [← e1, ← e2]
  exact gx_all hr.hd (by have := hr.dp; omega) isG' (fun s' H' o1 o2 o3 o4 q => ⟨.bl true, H', back s' H' o1 o2 o3 o4, rfl, q⟩) (fun s' H' o1 o2 o3 o4 q => ⟨.bl false, H', back s' H' o1 o2 o3 o4, rfl, q⟩) m s5 isG nl goes
end
/-! set(t), t a tuple of ints -/
section
open PySem.Spec PyProof.Rows
variable {X : Cx}
def rSetTI (K : PySem.W.Frag) (w : World) : List V → Hp → VK → Prop := fun xs H Q => ∃ (a : Addr) (ns : List Int), xs = [.ref a] ∧ SqT K H a (ns.map V.int) ∧ ns.length < 60 ∧ ∀ (p : Addr) (c : Nat), c ≤ ns.length → H p = none → Q (.ref p) (upd H p (SetO w p (fun j => decide (j ∈ ns)) c))
theorem cr_setTI (hc : X.calm = true) : CallR X (.type "set") (rSetTI X.K X.w) := by
  intro pins s σ H vs us Q I r h
  obtain ⟨a, ns, rfl, ha, hl, q⟩ := h
  rw [Vals.ref1 r]
  obtain ⟨its, rv, ⟨o1, g1, c1, n1, d1⟩, hz⟩ := I.tuple ha
  refine call_set_tupI ns (I.ok.hd hc) ⟨o1, g1, c1, n1, d1⟩ (by simpa using intsAre_of rv) (by unfold scanBound; omega) fun h' tk c R hc' hk => ?_
  exact ⟨.ref _, _, I.laid (t' := tk) (o := SetO X.w s.heap.objs.size (fun j => decide (j ∈ ns)) c) hk (Nat.le_refl _) (setO_new R), rfl, q _ c hc' (I.hok.fresh (Nat.le_refl _))⟩
end
/-! _law_is_chart -/
theorem eqv_ints : ∀ (ns ms : List Int), PyData.eqv (.list (ns.map .int)) (.list (ms.map .int)) = decide (ns = ms)
  | [], [] => by simp [PyData.eqv, PyData.eqvAll]
  | [], m :: ms => by simp [PyData.eqv, PyData.eqvAll]
  | n :: ns, [] => by simp [PyData.eqv, PyData.eqvAll]
  | n :: ns, m :: ms => by
    have ih := eqv_ints ns ms
    simp only [PyData.eqv] at ih
    simp only [List.map_cons, PyData.eqv, PyData.eqvAll, ih, List.cons.injEq]
    by_cases h : n = m <;> simp [h]
theorem shaped_ints (ns : List Int) : SeqAt.shaped (.list (ns.map .int)) = true := by
  show ((PyData.list (ns.map .int)).canLay0 && decide ((PyData.list (ns.map .int)).depth ≤ 64)) = true
  have h1 : ∀ ns : List Int, PyData.canLayAll0 (ns.map .int) = true := fun ns => by
    induction ns with
    | nil => simp [PyData.canLayAll0]
    | cons n r ih => simp [PyData.canLayAll0, PyData.canLay0, ih]
  have h2 : PyData.depthAll (ns.map .int) ≤ 0 := depth_all fun z hz => by
    obtain ⟨n, _, rfl⟩ := List.mem_map.mp hz
    simp [PyData.depth]
  rw [Bool.and_eq_true]
  exact ⟨by simp only [PyData.canLay0]; exact h1 ns, decide_eq_true (by rw [depth_lst]; omega)⟩
/-- strictly increasing -/
theorem sorted_same {ns ms : List Int} (hs : ms.Pairwise (· < ·)) (hm : ∀ k, k ∈ ms ↔ decide (k ∈ ns) = true) : decide (ns = ms) = decide (ns.Pairwise (· < ·)) := by
  by_cases h : ns = ms
  · rw [decide_eq_true h, h, decide_eq_true hs]
  · rw [decide_eq_false h]
    refine (decide_eq_false fun hp => h ?_).symm
    have ex : ∀ k, k ∈ ns ↔ k ∈ ms := fun k => by rw [hm k, decide_eq_true_eq]
    clear h hm
    induction ns generalizing ms with
    | nil =>
      cases ms with
      | nil => rfl
      | cons m r => exact absurd ((ex m).mpr List.mem_cons_self) (by simp)
    | cons n r ih =>
      cases ms with
      | nil => exact absurd ((ex n).mp List.mem_cons_self) (by simp)
      | cons m t =>
        obtain ⟨a1, a2⟩ := List.pairwise_cons.mp hp
        obtain ⟨b1, b2⟩ := List.pairwise_cons.mp hs
        have e : n = m := by
          have h1 := (ex n).mp List.mem_cons_self
          have h2 := (ex m).mpr List.mem_cons_self
          rcases List.mem_cons.mp h1 with h1 | h1
          · exact h1
          · rcases List.mem_cons.mp h2 with h2 | h2
            · exact h2.symm
            · have := a1 m h2
              have := b1 n h1
              omega
        subst e
        rw [ih b2 a2 fun k => ⟨fun hk => ?_, fun hk => ?_⟩]
        · rcases List.mem_cons.mp ((ex k).mp (List.mem_cons_of_mem _ hk)) with z | z
          · have := a1 k hk
            omega
          · exact z
        · rcases List.mem_cons.mp ((ex k).mpr (List.mem_cons_of_mem _ hk)) with z | z
          · have := b1 k hk
            omega
          · exact z
/-- points, told as the law tells them -/
theorem pts_law {many : Int} : ∀ (ns : List Int) (least : Int), ptsFrom many least (ns.map .int) = true ↔ (ns.Pairwise (· < ·) ∧ ∀ n ∈ ns, least ≤ n ∧ n < many)
  | [], least => by simp [ptsFrom]
  | n :: r, least => by
    show (withinD least (many - 1) (.int n) && ptsFrom many (n + 1) (r.map .int)) = true ↔ _
    rw [Bool.and_eq_true, pts_law r (n + 1), List.pairwise_cons]
    simp only [withinD, Bool.and_eq_true, decide_eq_true_eq]
    constructor
    · rintro ⟨⟨h1, h2⟩, h3, h4⟩
      refine ⟨⟨fun a ha => by have := h4 a ha; omega, h3⟩, fun a ha => ?_⟩
      rcases List.mem_cons.mp ha with rfl | ha
      · omega
      · have := h4 a ha
        omega
    · rintro ⟨⟨h1, h2⟩, h3⟩
      have := h3 n List.mem_cons_self
      exact ⟨⟨by omega, by omega⟩, h2, fun a ha => by have := h1 a ha; have := h3 a (List.mem_cons_of_mem _ ha); omega⟩
theorem pts_not {many : Int} : ∀ (ds : List PyData) (least : Int), (∃ d ∈ ds, wholeD d = false) → ptsFrom many least ds = false
  | [], _, h => by obtain ⟨d, hd, _⟩ := h; cases hd
  | d :: r, least, h => by
    cases d with
    | int i =>
      show (withinD least (many - 1) (.int i) && ptsFrom many (i + 1) r) = false
      rw [pts_not r (i + 1) ?_, Bool.and_false]
      obtain ⟨d, hd, hw⟩ := h
      rcases List.mem_cons.mp hd with rfl | hd
      · cases hw
      · exact ⟨d, hd, hw⟩
    | none => rfl
    | bool _ => rfl
    | str _ => rfl
    | list _ => rfl
    | tuple _ => rfl
    | dict _ => rfl
theorem whole_ints : ∀ (ds : List PyData), (∀ d ∈ ds, wholeD d = true) → ∃ ns : List Int, ds = ns.map .int
  | [], _ => ⟨[], rfl⟩
  | d :: r, h => by
    obtain ⟨ns, e⟩ := whole_ints r fun z hz => h z (List.mem_cons_of_mem _ hz)
    have hw := h d List.mem_cons_self
    cases d with
    | int i => exact ⟨i :: ns, by rw [e]; rfl⟩
    | none => cases hw
    | bool _ => cases hw
    | str _ => cases hw
    | list _ => cases hw
    | tuple _ => cases hw
    | dict _ => cases hw
theorem ints_dp {K : PySem.W.Frag} {H : Hp} : ∀ (ns : List Int) (ys : List V), DpAll K H ys (ns.map .int) → ys = ns.map V.int
  | [], ys, h => by cases h; rfl
  | n :: r, ys, h => by
    cases h with
    | cons h1 h2 =>
      cases h1
      rw [ints_dp r _ h2]
      rfl
/-! charts by their rows; is_walk -/
def chD (rows : List (List Int)) : PyData := .tuple (rows.map fun ns => .tuple (ns.map .int))
structure RwOk (rows : List (List Int)) : Prop where
  len : rows.length ≤ 30
  row : ∀ ns ∈ rows, ns.length ≤ rows.length ∧ ∀ i ∈ ns, 0 ≤ i ∧ i < (rows.length : Int)
def rowAt (rows : List (List Int)) (a : Int) : List Int := rows.getD a.toNat []
def linkB (rows : List (List Int)) (a b : Int) : Bool := decide (0 ≤ a ∧ b ∈ rowAt rows a)
def intAt (es : List PyData) (k : Nat) : Int := match es[k]? with
  | some (.int i) => i
  | _ => 0
def walkL (rows : List (List Int)) (es : List PyData) : Bool := !es.isEmpty && (es.all (withinD 0 ((rows.length : Int) - 1)) && (List.range (es.length - 1)).all fun k => linkB rows (intAt es k) (intAt es (k + 1)))
def walkD (rows : List (List Int)) : PyData → Bool
  | .tuple es => walkL rows es
  | _ => false
theorem within_int {lo hi : Int} {d : PyData} (h : withinD lo hi d = true) : ∃ i, d = .int i ∧ lo ≤ i ∧ i ≤ hi := by
  cases d with
  | int i =>
    have h : (decide (lo ≤ i) && decide (i ≤ hi)) = true := h
    rw [Bool.and_eq_true, decide_eq_true_eq, decide_eq_true_eq] at h
    exact ⟨i, rfl, h⟩
  | none => cases h
  | bool _ => cases h
  | str _ => cases h
  | list _ => cases h
  | tuple _ => cases h
  | dict _ => cases h
theorem intAt_of {es : List PyData} {k : Nat} {i : Int} (h : es[k]? = some (.int i)) : intAt es k = i := by unfold intAt; rw [h]
theorem ext_none {H0 H : Hp} {D : Addr} (e : LamX.ExtN H0 H) (h : H D = none) : ∀ u, H0 D = some u → ∃ ps, u = .tbl ps := fun u hu => by
  cases u with
  | tbl ps => exact ⟨ps, rfl⟩
  | _ => exact absurd ((e D _ hu fun ps z => by cases z).symm.trans h) (by simp)
theorem tabs_updD {PT : List Addr} {H : Hp} {D : Addr} {o : HO} (t : TabsG PT H) (h : ∀ ps, H D ≠ some (.tbl ps)) : TabsG PT (upd H D o) := fun P hP => by
  obtain ⟨ps, h1, ok⟩ := t P hP
  exact ⟨ps, by rw [upd_ne (fun z => h ps (by rw [← z]; exact h1))]; exact h1, ok⟩
/-- a generator over a range -/
theorem gx_rng {lo : Int} {n : Nat} {g : TG} {tt : TT} {te : TE} {vs : List Nat} {σ0 : L2.St} {e : Bool} {Qe Qn : Hp → Prop} {H : Hp} (Pv : Nat → Hp → Prop) (h0 : Pv 0 H)
    (hs : ∀ i H, i < n → Pv i H → g (.int (lo + i)) σ0 H fun σ2 H2 => wipe σ2 vs = σ0 ∧ tt σ2 H2 fun b H3 => if b = true then te σ2 H3 fun y H4 => ∃ c, y = .bl c ∧ (c = e → Pv (i + 1) H4) ∧ (c ≠ e → Qn H4) else Pv (i + 1) H3) (hd : ∀ H, Pv n H → Qe H) :
    ∃ W : Nat → Nat → Hp → Prop, (∃ m, W 0 m H) ∧ gxTurn (Itr lo n) g tt te vs σ0 e Qe Qn W := by
  refine ⟨fun i m H => m = n - i ∧ i ≤ n ∧ Pv i H, ⟨n, by simp, Nat.zero_le _, h0⟩, ?_⟩
  rintro i m H ⟨rfl, hi, p⟩
  by_cases hlt : i < n
  · refine .inr ⟨hlt, Pv (i + 1), fun H' p' => ⟨n - (i + 1), by omega, rfl, hlt, p'⟩, fun x H' y => ?_⟩
    obtain ⟨rfl, rfl⟩ := y
    exact hs i _ hlt p
  · have e : i = n := by omega
    subst e
    exact .inl ⟨Nat.le_refl _, hd H p⟩
/-- the inner turns of a dict comprehension -/
abbrev dcIn (J1 : It) (gb : TG) (tk tv : TE) (vs1 : List Nat) (D : Addr) (ρ2 : L2.St) (Nx : Hp → Prop) (G4 : Hp) : Prop := ∃ W1 : Nat → Nat → Hp → Prop, (∃ m, W1 0 m G4) ∧ ∀ j k G, W1 j k G →
  (J1.stop j G ∧ Nx G) ∨ (J1.go j G ∧ ∃ Nx1 : Hp → Prop, (∀ G', Nx1 G' → ∃ k', k' < k ∧ W1 (j + 1) k' G') ∧ ∀ x G', J1.yld j G x G' → gb x (wipe ρ2 vs1) G' fun ρ3 G5 => wipe ρ3 vs1 = wipe ρ2 vs1 ∧ tk ρ3 G5 fun y G6 => tv ρ3 G6 fun z G7 =>
    ∃ (kvs : List (List Key × V)) (kk : List Key) (b : Addr), y = .ref b ∧ G7 b = some (.tup (kk.map kV)) ∧ G7 D = some (.dT kvs) ∧ kvs.length < sizeLine ∧ Nx1 (upd G7 D (.dT (putK kvs kk z))))
theorem dcIn_tup {K : PySem.W.Frag} {a : Addr} {xs : List V} {gb : TG} {tk tv : TE} {vs1 : List Nat} {D : Addr} {ρ2 : L2.St} {Nx : Hp → Prop} {G4 : Hp} (Pv : Nat → Hp → Prop) (h0 : Pv 0 G4) (hl : ∀ i G, i ≤ xs.length → Pv i G → SqT K G a xs)
    (hs : ∀ i x G, xs[i]? = some x → Pv i G → gb x (wipe ρ2 vs1) G fun ρ3 G5 => wipe ρ3 vs1 = wipe ρ2 vs1 ∧ tk ρ3 G5 fun y G6 => tv ρ3 G6 fun z G7 =>
      ∃ (kvs : List (List Key × V)) (kk : List Key) (b : Addr), y = .ref b ∧ G7 b = some (.tup (kk.map kV)) ∧ G7 D = some (.dT kvs) ∧ kvs.length < sizeLine ∧ Pv (i + 1) (upd G7 D (.dT (putK kvs kk z)))) (hd : ∀ G, Pv xs.length G → Nx G) :
    dcIn (Itt K a) gb tk tv vs1 D ρ2 Nx G4 := by
  refine ⟨fun i m G => m = xs.length - i ∧ i ≤ xs.length ∧ Pv i G, ⟨xs.length, by simp, Nat.zero_le _, h0⟩, ?_⟩
  rintro i m G ⟨rfl, hi, p⟩
  have q := hl i G hi p
  by_cases hlt : i < xs.length
  · refine .inr ⟨⟨xs, xs[i], q, by simp [hlt]⟩, Pv (i + 1), fun G' p' => ⟨xs.length - (i + 1), by omega, rfl, hlt, p'⟩, fun x G' y => ?_⟩
    obtain ⟨e, y⟩ := y
    subst e
    exact hs i x _ (y xs q) p
  · have e : i = xs.length := by omega
    subst e
    exact .inl ⟨⟨xs, q, Nat.le_refl _⟩, hd G p⟩
/-- the outer ones, over a range -/
theorem dc2_rng {lo : Int} {n : Nat} {ga : TG} {wb : TI} {gb : TG} {tk tv : TE} {vs vs1 : List Nat} {ρ : L2.St} {D : Addr} {Qd : Hp → Prop} {G1 : Hp} (Pv : Nat → Hp → Prop) (h0 : Pv 0 G1)
    (hs : ∀ i G, i < n → Pv i G → ga (.int (lo + i)) (wipe ρ vs) G fun ρ2 G2 => wipe ρ2 vs = wipe ρ vs ∧ wb ρ2 G2 fun J1 G4 => dcIn J1 gb tk tv vs1 D ρ2 (Pv (i + 1)) G4) (hd : ∀ G, Pv n G → Qd G) :
    ∃ W : Nat → Nat → Hp → Prop, (∃ m, W 0 m G1) ∧ ∀ i m G, W i m G →
      ((Itr lo n).stop i G ∧ Qd G) ∨ ((Itr lo n).go i G ∧ ∃ Nx : Hp → Prop, (∀ G', Nx G' → ∃ m', m' < m ∧ W (i + 1) m' G') ∧ ∀ x G', (Itr lo n).yld i G x G' → ga x (wipe ρ vs) G' fun ρ2 G2 => wipe ρ2 vs = wipe ρ vs ∧ wb ρ2 G2 fun J1 G4 => dcIn J1 gb tk tv vs1 D ρ2 Nx G4) := by
  refine ⟨fun i m G => m = n - i ∧ i ≤ n ∧ Pv i G, ⟨n, by simp, Nat.zero_le _, h0⟩, ?_⟩
  rintro i m G ⟨rfl, hi, p⟩
  by_cases hlt : i < n
  · refine .inr ⟨hlt, Pv (i + 1), fun G' p' => ⟨n - (i + 1), by omega, rfl, hlt, p'⟩, fun x G' y => ?_⟩
    obtain ⟨rfl, rfl⟩ := y
    exact hs i _ hlt p
  · have e : i = n := by omega
    subst e
    exact .inl ⟨Nat.le_refl _, hd G p⟩
theorem rowAt_nat {rows : List (List Int)} {i : Nat} {ns : List Int} (h : rows[i]? = some ns) : rowAt rows (i : Int) = ns := by
  unfold rowAt
  rw [show ((i : Int)).toNat = i by omega, List.getD_eq_getElem?_getD, h]
  rfl
section
variable {P : Program} {w : World} {K : PySem.W.Frag} {mg : Str → Option Value} {base : Heap} {f : Addr} {fd : FuncData}
theorem ch_row {H : Hp} {xs : List V} {rows : List (List Int)} {i : Nat} {ns : List Int} (each : DpAll K H xs (rows.map fun ns => .tuple (ns.map .int))) (h : rows[i]? = some ns) : ∃ b, xs[i]? = some (.ref b) ∧ SqT K H b (ns.map V.int) := by
  obtain ⟨x, hx, hd⟩ := dpAll_get each (show (rows.map fun ns => PyData.tuple (ns.map .int))[i]? = some (.tuple (ns.map .int)) by rw [List.getElem?_map, h]; rfl)
  cases hd with
  | @tup b ys _ at_ e =>
    rw [ints_dp ns ys e] at at_
    exact ⟨b, hx, at_⟩
def spIsWalk (K : PySem.W.Frag) (PT : List Addr) : Sp := fun vs H Q _ => ∃ (x y : V) (rows : List (List Int)) (d : PyData), vs = [x, y] ∧ Dp K H x (chD rows) ∧ RwOk rows ∧ Dp K H y d ∧ (∀ es, d = .tuple es → es.length < 1000) ∧ TabsG PT H ∧ ∀ H', LamX.ExtN H H' → TabsG PT H' → Q (.bl (walkD rows d)) H'
theorem scIsWalk : FnScope ["chart", "thing", "links", "point", "after", "k"] ["chart", "thing"] (defScope sIsWalk) := ⟨rfl, rfl, rfl, by decide +kernel, rfl, by decide +kernel, by decide +kernel⟩
theorem ok_isWalk {k : Nat} {c Pc : Addr} {PT : List Addr} (F : Fun K "is_walk" "is_walk" sIsWalk f fd) (hc : fd.code = .ref c) (TB : LamX.TabB base mg c Pc) (hPT : Pc ∈ PT) (T : Free mg) (hA : mg "all" = none) (cW : Cal P w K mg base "is_within" k ["thing", "least", "most"] (spWithin K)) : FnOk P w K mg base CX0 (k + 2) f fd ["chart", "thing"] (spIsWalk K PT) := by
  refine okC F hc scIsWalk (fun vs H Q E h => ?_) (fun A outer s H vs Q E hr h => ?_)
  · obtain ⟨x, y, rows, d, rfl, _⟩ := h
    rfl
  obtain ⟨x, y, rows, d, rfl, hx, hrw, hy, hd, tb, q⟩ := h
  refine ⟨_, pss_cons (ps_if (PW.pt (pw_or (pt_not (pt_val (pe_callB call_isi rfl T.isi (by decide +kernel) (pa_cons (pv 1) (pa_cons (pe_bltn (v := .ty "tuple") rfl T.tuple (by decide +kernel) rfl) pa_nil))))) (pw_or1 (pt_not (pt_truth (pv 1) (fun _ => rfl)))))) (pss_one (ps_ret pe_bl)) pss_nil)
    (pss_cons (ps_if (pt_not (pt_val (pe_allG (own := [("point", 3)]) (wi := iTup K (tVar 1)) (g := gName 3) (tt := tYes) (te := tCall (spWithin K) [] E0 (tCons (tVar 3) (tCons (tC (.int 0)) (tCons (tOp (rI0 fun i j => .int (i - j)) (tCB (rLen K) (tCons (tVar 0) tNil)) (tC (.int 1))) tNil)))) scIsWalk.nd hr rfl hA (by decide +kernel) TB rfl
        (blkOk_by (own := [("point", 3)]) (N := ["chart", "thing", "links", "point", "after", "k"]) (sc := defScope sIsWalk) (by decide +kernel)) (by decide +kernel) rfl rfl (pi_tup (pv 1))
        (fun _ _ _ _ _ _ _ _ _ _ => pg_name (i := 3) scIsWalk.nd rfl (Or.inl rfl)) (fun _ _ _ _ _ _ _ _ _ _ => pts_nil)
        (fun _ _ _ _ _ _ _ _ _ hr' => pe_cal cW hr' rfl (pa_cons (pv 3) (pa_cons pe_int (pa_cons (pe_op op_sub (pe_callB call_len_seq rfl T.len PySem.boot_len (pa_cons (pv 0) pa_nil)) pe_int) pa_nil)))) (fun _ => rfl)))) (pss_one (ps_ret pe_bl)) pss_nil)
    (pss_cons (ps_set (i := 2) scIsWalk.nd rfl (.inr rfl) (pe_dc2 (own := [("point", 3), ("after", 4)]) (vs1 := [4]) (wa := iRng1 (tCons (tCB (rLen K) (tCons (tVar 0) tNil)) tNil)) (ga := gName 3) (wb := iTup K (tOp (rIxT K) (tVar 0) (tVar 3))) (gb := gName 4) (tk := tTup (tCons (tVar 3) (tCons (tVar 4) tNil))) (tv := tC (.bl true)) rfl (Nat.lt_of_le_of_lt (Nat.add_le_add_left (by decide : 1 ≤ 64) _) hr.units) scIsWalk.nd
        (pi_range1 rfl T.range (pa_cons (pe_callB call_len_seq rfl T.len PySem.boot_len (pa_cons (pv 0) pa_nil)) pa_nil))
        (blkOk_by (own := [("point", 3), ("after", 4)]) (N := ["chart", "thing", "links", "point", "after", "k"]) (sc := defScope sIsWalk) (by decide +kernel)) (by decide)
        (fun _ _ _ _ _ => pg_name (i := 3) scIsWalk.nd rfl (Or.inl rfl)) (fun _ _ _ _ _ => pi_tup (pe_ix ix_tup (pv 0) (pv 3) (fun _ _ => rfl))) (fun _ _ _ _ _ => pg_name (i := 4) scIsWalk.nd rfl (Or.inl rfl))
        (fun _ _ _ _ _ => pe_tup (pa_cons (pv 3) (pa_cons (pv 4) pa_nil))) (fun _ _ _ _ _ => pe_bl)))
    (pss_one (ps_ret (pe_allG (own := [("k", 5)]) (wi := iRng1 (tCons (tOp (rI0 fun i j => .int (i - j)) (tCB (rLen K) (tCons (tVar 1) tNil)) (tC (.int 1))) tNil)) (g := gName 5) (tt := tYes)
        (te := tDIn (tTup (tCons (tOp (rIxT K) (tVar 1) (tVar 5)) (tCons (tOp (rIxT K) (tVar 1) (tOp (rI0 fun i j => .int (i + j)) (tVar 5) (tC (.int 1)))) tNil))) (tVar 2)) scIsWalk.nd hr rfl hA (by decide +kernel) TB rfl
        (blkOk_by (own := [("k", 5)]) (N := ["chart", "thing", "links", "point", "after", "k"]) (sc := defScope sIsWalk) (by decide +kernel)) (by decide +kernel) rfl rfl
        (pi_range1 rfl T.range (pa_cons (pe_op op_sub (pe_callB call_len_seq rfl T.len PySem.boot_len (pa_cons (pv 1) pa_nil)) pe_int) pa_nil))
        (fun _ _ _ _ _ _ _ _ _ _ => pg_name (i := 5) scIsWalk.nd rfl (Or.inl rfl)) (fun _ _ _ _ _ _ _ _ _ _ => pts_nil)
        (fun _ _ _ _ _ _ _ _ _ hr' => pe_cmp (pc_din (Nat.lt_of_le_of_lt (Nat.add_le_add_left (by decide : 1 ≤ 64) _) hr'.units) (pe_tup (pa_cons (pe_ix ix_tup (pv 1) (pv 5) (fun _ _ => rfl)) (pa_cons (pe_ix ix_tup (pv 1) (pe_op op_add (pv 5) pe_int) (fun _ _ => rfl)) pa_nil))) (pv 2))) (fun _ => rfl)))))), ?_⟩
  have q0 : walkD rows d = false → ∀ H', LamX.ExtN H H' → TabsG PT H' → Q (.bl false) H' := fun z H' e t => by have := q H' e t; rw [z] at this; exact this
  refine ⟨_, rfl, y, _, _, _, _, rfl, .ty "tuple", ty_of hy, kit_tuple d, _, rfl, ?_⟩
  cases ht : tupleD d with
  | false =>
    have e : walkD rows d = false := by cases d <;> first | rfl | cases ht
    exact ifT rfl (ifT rfl (q0 e H (LamX.ExtN.refl _) tb))
  | true =>
    obtain ⟨es, rfl⟩ : ∃ es, d = .tuple es := by
      cases d <;> first | exact ⟨_, rfl⟩ | cases ht
    have les := hd es rfl
    cases hy with
    | @tup a xs _ at_ each =>
      have lx := dpAll_len each
      refine ifF rfl ⟨_, rfl, _, .inr (.inl ⟨xs, at_, rfl⟩), ?_⟩
      have eqE : es.isEmpty = xs.isEmpty := by cases es <;> cases xs <;> first | rfl | cases lx
      cases hem : xs.isEmpty with
      | true =>
        have e : walkD rows (.tuple es) = false := by show walkL rows es = false; unfold walkL; rw [eqE, hem]; rfl
        exact ifT rfl (q0 e H (LamX.ExtN.refl _) tb)
      | false =>
        refine ifF rfl ⟨_, rfl, a, rfl, ⟨xs, at_⟩, tb Pc hPT, fun H2 b2 => ?_⟩
        have e2 := tabbed_ext (tb Pc hPT) b2
        cases hx with
        | @tup ca cs _ cat ceach =>
          have lc : cs.length = rows.length := by have := dpAll_len ceach; rw [List.length_map] at this; exact this
          refine gx_tup (xs := xs) (fun i H' => LamX.ExtN H H' ∧ TabsG PT H' ∧ (es.take i).all (withinD 0 ((rows.length : Int) - 1)) = true) ⟨e2, tb.tabbed b2, rfl⟩ (fun i H' _ h => sqT_ext h.1 at_) (fun i y H' hy h => ?_) (fun H' h => ?_)
          · obtain ⟨e3, t3, all3⟩ := h
            obtain ⟨d, hd, hdy⟩ := dpAll_get' each hy
            refine ⟨rfl, yesG ⟨_, rfl, _, rfl, ca, cs, rfl, .inr (sqT_ext e3 cat), _, _, rfl, rfl, y, d, 0, _, rfl, dp_ext e3 _ _ hdy, _, rfl, fun c => ⟨e3, t3, ?_⟩, fun c => ?_⟩⟩
            · rw [lc] at c
              rw [all_take hd, all3, c]
              rfl
            · rw [lc] at c
              have e : walkD rows (.tuple es) = false := by
                show walkL rows es = false
                have z : es.all (withinD 0 ((rows.length : Int) - 1)) = false := by
                  cases z : es.all (withinD 0 ((rows.length : Int) - 1)) with
                  | false => rfl
                  | true => exact absurd (List.all_eq_true.mp z d (List.mem_of_getElem? hd)) c
                unfold walkL
                rw [z, Bool.false_and, Bool.and_false]
              exact ⟨_, rfl, ifT rfl (q0 e H' e3 t3)⟩
          · obtain ⟨e3, t3, all3⟩ := h
            rw [lx, List.take_length] at all3
            have eI : ∀ i, i < es.length → ∃ n : Int, es[i]? = some (.int n) ∧ xs[i]? = some (.int n) ∧ 0 ≤ n ∧ n < rows.length := fun i hi => by
              have g := List.getElem?_eq_getElem hi
              obtain ⟨n, en, n0, n1⟩ := within_int (List.all_eq_true.mp all3 _ (List.mem_of_getElem? g))
              rw [en] at g
              obtain ⟨x, hx, hdx⟩ := dpAll_get each g
              cases hdx
              exact ⟨n, g, hx, n0, by omega⟩
            refine ⟨_, rfl, ifF rfl ⟨_, rfl, ca, cs, rfl, .inr (sqT_ext e3 cat), _, rfl, by omega, by rw [lc]; have := hrw.len; omega, fun D hD => ?_⟩⟩
            rw [show ((cs.length : Nat) : Int).toNat = rows.length by omega]
            have hD0 := ext_none e3 hD
            refine dc2_rng (n := rows.length) (fun i G => LamX.ExtN H G ∧ TabsG PT G ∧ ∃ kvs : List (List Key × V), G D = some (.dT kvs) ∧ kvs.length ≤ i * 30 ∧ ∀ a b : Int, (valV kvs [Sum.inl a, Sum.inl b]).isSome = true ↔ ∃ p : Nat, p < i ∧ a = p ∧ b ∈ rowAt rows p)
              ⟨ext_upd e3 hD0, t3.same (same_new hD _), [], upd_same, Nat.zero_le _, fun a b => ⟨fun z => (by cases z), fun ⟨p, hp, _⟩ => (by omega)⟩⟩ (fun i G hi h => ?_) (fun G h => ?_)
            · obtain ⟨e4, t4, kvs, hk, lk, iff⟩ := h
              have hns := List.getElem?_eq_getElem hi
              generalize rows[i] = ns at hns
              obtain ⟨b, hb, hat⟩ := ch_row ceach hns
              have hrow := hrw.row ns (List.mem_of_getElem? hns)
              have hlen := hrw.len
              refine ⟨rfl, _, rfl, _, rfl, ca, cs, 0 + (i : Int), _, rfl, rfl, sqT_ext e4 cat, atI_at (by omega) (by rw [show ((0 : Int) + (i : Int)).toNat = i by omega]; exact hb), b, rfl, ⟨_, sqT_ext e4 hat⟩, ?_⟩
              refine dcIn_tup (xs := ns.map V.int) (fun j G => LamX.ExtN H G ∧ TabsG PT G ∧ ∃ kvs : List (List Key × V), G D = some (.dT kvs) ∧ kvs.length ≤ i * 30 + j ∧ ∀ a b : Int, (valV kvs [Sum.inl a, Sum.inl b]).isSome = true ↔ ((∃ p : Nat, p < i ∧ a = p ∧ b ∈ rowAt rows p) ∨ (a = i ∧ b ∈ ns.take j)))
                ⟨e4, t4, kvs, hk, by omega, fun a b => by rw [iff a b]; simp⟩ (fun j G _ h => sqT_ext h.1 hat) (fun j x G hx h => ?_) (fun G h => ?_)
              · obtain ⟨e5, t5, kvs, hk, lk, iff⟩ := h
                have hj : j < ns.length := by have := (List.getElem?_eq_some_iff.mp hx).1; rw [List.length_map] at this; exact this
                obtain ⟨n, hn, rfl⟩ : ∃ n, ns[j]? = some n ∧ V.int n = x := by
                  rw [List.getElem?_map, List.getElem?_eq_getElem hj] at hx
                  exact ⟨ns[j], List.getElem?_eq_getElem hj, Option.some.inj hx⟩
                refine ⟨rfl, _, rfl, _, rfl, small (by show 2 ≤ 1000; decide), fun p hp => ⟨kvs, [Sum.inl (0 + (i : Int)), Sum.inl n], p, rfl, upd_same, ?_, ?_, ?_⟩⟩
                · rw [upd_ne (ne_of_none hk hp)]
                  exact hk
                · exact Nat.lt_of_lt_of_le (show kvs.length < 1000 by omega) (small (Nat.le_refl _))
                · refine ⟨ext_upd (ext_upd e5 (ext_none e5 hp)) hD0, tabs_updD (t5.same (same_new hp _)) (fun ps z => by rw [upd_ne (ne_of_none hk hp), hk] at z; cases z), _, upd_same, by have := length_putK kvs [Sum.inl (0 + (i : Int)), Sum.inl n] (V.bl true); omega, fun a b => ?_⟩
                  rw [valV_put]
                  have et : ns.take (j + 1) = ns.take j ++ [n] := by rw [List.take_add_one, hn]; rfl
                  rw [et]
                  by_cases z : ([Sum.inl a, Sum.inl b] : List Key) = [Sum.inl (0 + (i : Int)), Sum.inl n]
                  · rw [if_pos z]
                    simp only [List.cons.injEq, Sum.inl.injEq, and_true] at z
                    exact ⟨fun _ => .inr ⟨by omega, by rw [z.2]; simp⟩, fun _ => rfl⟩
                  · rw [if_neg z, iff a b]
                    constructor
                    · rintro (y | ⟨y1, y2⟩)
                      · exact .inl y
                      · exact .inr ⟨y1, List.mem_append_left _ y2⟩
                    · rintro (y | ⟨y1, y2⟩)
                      · exact .inl y
                      · rcases List.mem_append.mp y2 with y2 | y2
                        · exact .inr ⟨y1, y2⟩
                        · exact absurd (by rw [y1, List.mem_singleton.mp y2]; simp) z
              · obtain ⟨e5, t5, kvs, hk, lk, iff⟩ := h
                rw [List.length_map] at lk iff
                refine ⟨e5, t5, kvs, hk, by omega, fun a b => ?_⟩
                rw [iff a b, List.take_length]
                constructor
                · rintro (⟨p, y1, y2⟩ | ⟨y1, y2⟩)
                  · exact ⟨p, by omega, y2⟩
                  · exact ⟨i, by omega, y1, by rw [rowAt_nat hns]; exact y2⟩
                · rintro ⟨p, y1, y2, y3⟩
                  by_cases y4 : p = i
                  · subst y4
                    rw [rowAt_nat hns] at y3
                    exact .inr ⟨y2, y3⟩
                  · exact .inl ⟨p, by omega, y2, y3⟩
            · obtain ⟨e5, t5, kvs, hk, lk, iff⟩ := h
              refine ⟨_, rfl, a, xs, rfl, .inr (sqT_ext e5 at_), _, _, rfl, rfl, _, rfl, by omega, by rw [lx]; omega, t5 Pc hPT, fun H6 b6 => ?_⟩
              have e6 := tabbed_ext (t5 Pc hPT) b6
              have hk6 : H6 D = some (.dT kvs) := e6 D _ hk fun ps z => by cases z
              rw [show (((xs.length : Nat) : Int) - 1).toNat = es.length - 1 by omega]
              refine gx_rng (n := es.length - 1) (fun i H' => LamX.ExtN H H' ∧ TabsG PT H' ∧ H' D = some (.dT kvs) ∧ ((List.range i).all fun k => linkB rows (intAt es k) (intAt es (k + 1))) = true) ⟨e5.trans e6, t5.tabbed b6, hk6, rfl⟩ (fun i H' hi h => ?_) (fun H' h => ?_)
              · obtain ⟨e7, t7, hk7, all7⟩ := h
                obtain ⟨n1, s1, x1, n10, n11⟩ := eI i (by omega)
                obtain ⟨n2, s2, x2, _, _⟩ := eI (i + 1) (by omega)
                have hsq := sqT_ext e7 at_
                refine ⟨rfl, yesG ⟨_, rfl, _, rfl, a, xs, _, _, rfl, rfl, hsq, atI_at (i := 0 + (i : Int)) (by omega) (by rw [show ((0 : Int) + (i : Int)).toNat = i by omega]; exact x1), _, rfl, _, rfl, _, _, rfl, rfl, a, xs, _, _, rfl, rfl, hsq, atI_at (i := 0 + (i : Int) + 1) (by omega) (by rw [show ((0 : Int) + (i : Int) + 1).toNat = i + 1 by omega]; exact x2), small (by show 2 ≤ 1000; decide), fun p hp => ⟨_, rfl, D, _, rfl, DGet.t (k := [Sum.inl n1, Sum.inl n2]) (by rw [upd_ne (ne_of_none hk7 hp)]; exact hk7) upd_same, _, rfl, fun c => ?_, fun c => ?_⟩⟩⟩
                · refine ⟨ext_upd e7 (ext_none e7 hp), t7.same (same_new hp _), by rw [upd_ne (ne_of_none hk7 hp)]; exact hk7, ?_⟩
                  rw [List.range_succ, List.all_append, all7, Bool.true_and, List.all_cons, List.all_nil, Bool.and_true, intAt_of s1, intAt_of s2]
                  obtain ⟨p', _, y2, y3⟩ := (iff n1 n2).mp c
                  exact decide_eq_true ⟨n10, by rw [y2]; exact y3⟩
                · have e : walkD rows (.tuple es) = false := by
                    show walkL rows es = false
                    have z : ((List.range (es.length - 1)).all fun k => linkB rows (intAt es k) (intAt es (k + 1))) = false := by
                      cases z : ((List.range (es.length - 1)).all fun k => linkB rows (intAt es k) (intAt es (k + 1))) with
                      | false => rfl
                      | true =>
                        have y := List.all_eq_true.mp z i (List.mem_range.mpr hi)
                        rw [intAt_of s1, intAt_of s2] at y
                        have y := of_decide_eq_true y
                        refine absurd ((iff n1 n2).mpr ⟨n1.toNat, by omega, by omega, ?_⟩) c
                        rw [show ((n1.toNat : Nat) : Int) = n1 by omega]
                        exact y.2
                    unfold walkL
                    rw [z, Bool.and_false, Bool.and_false]
                  exact q0 e _ (ext_upd e7 (ext_none e7 hp)) (t7.same (same_new hp _))
              · obtain ⟨e7, t7, hk7, all7⟩ := h
                have r := q H' e7 t7
                have e : walkD rows (.tuple es) = true := by
                  show walkL rows es = true
                  unfold walkL
                  rw [all3, all7, eqE, hem]
                  rfl
                rw [e] at r
                exact r
end
/-! is_way, is_bar -/
theorem inV_ints (n : Int) (ns : List Int) : inV (.int n) (ns.map V.int) = decide (n ∈ ns) := by
  unfold inV
  induction ns with
  | nil => rfl
  | cons m r ih =>
    rw [List.map_cons, List.any_cons, ih]
    have e : eqV (.int m) (.int n) = decide (m = n) := by
      show (m == n) = decide (m = n)
      by_cases h : m = n <;> simp [h]
    rw [e, ← Bool.decide_or]
    congr 1
    apply propext
    rw [List.mem_cons]
    exact ⟨fun h => h.elim (fun z => .inl z.symm) .inr, fun h => h.elim (fun z => .inl z.symm) .inr⟩
theorem flat_ints (ns : List Int) : (ns.map V.int).all flatV = true := List.all_eq_true.mpr fun v hv => by
  obtain ⟨n, _, rfl⟩ := List.mem_map.mp hv
  rfl
theorem atI_last {α : Type} {xs : List α} {v : α} (h0 : 0 < xs.length) (h : xs[xs.length - 1]? = some v) : atI xs (-1) = some v := by
  unfold atI ixN
  rw [if_neg (by decide), if_pos (by omega)]
  show xs[_]? = _
  rw [show ((-1 : Int) + (xs.length : Int)).toNat = xs.length - 1 by omega]
  exact h
def wayD (rows : List (List Int)) (ss gs : List Int) : PyData → Bool
  | .tuple es => walkL rows es && (decide (intAt es 0 ∈ ss) && decide (intAt es (es.length - 1) ∈ gs))
  | _ => false
def toI : PyData → Int
  | .int i => i
  | _ => 0
def barL (rows : List (List Int)) (ss gs ns : List Int) : Bool := (ss.all fun i => decide (i ∈ ns)) && ((ns.all fun p => (rowAt rows p).all fun i => decide (i ∈ ns)) && !(gs.any fun i => decide (i ∈ ns)))
def barD (rows : List (List Int)) (ss gs : List Int) : PyData → Bool
  | .tuple es => pointsD rows.length (.tuple es) && barL rows ss gs (es.map toI)
  | _ => false
theorem set_self {σ : L2.St} {j : Nat} {v : Option V} (h : σ[j]? = some v) : σ.set j v = σ := by
  obtain ⟨hj, e⟩ := List.getElem?_eq_some_iff.mp h
  rw [← e]
  exact List.set_getElem_self hj
section
variable {P : Program} {w : World} {K : PySem.W.Frag} {mg : Str → Option Value} {base : Heap} {f : Addr} {fd : FuncData}
theorem ints_at {H : Hp} {v : V} {ns : List Int} (h : Dp K H v (.tuple (ns.map .int))) : ∃ a, v = .ref a ∧ SqT K H a (ns.map V.int) := by
  cases h with
  | @tup a ys _ at_ e =>
    rw [ints_dp ns ys e] at at_
    exact ⟨a, rfl, at_⟩
/-- a case that is one, and a thing -/
structure CaseAt (K : PySem.W.Frag) (H : Hp) (x y z t : V) (rows : List (List Int)) (ss gs : List Int) (d : PyData) : Prop where
  ch : Dp K H x (chD rows)
  rw : RwOk rows
  cd : chartD (chD rows) = true
  st : Dp K H y (.tuple (ss.map .int))
  sd : pointsD rows.length (.tuple (ss.map .int)) = true
  go : Dp K H z (.tuple (gs.map .int))
  gd : pointsD rows.length (.tuple (gs.map .int)) = true
  th : Dp K H t d
  ln : ∀ es, d = .tuple es → es.length < 60
  sl : ss.length < 60
  gl : gs.length < 60
theorem CaseAt.ext {H H' : Hp} {x y z t : V} {rows : List (List Int)} {ss gs : List Int} {d : PyData} (c : CaseAt K H x y z t rows ss gs d) (e : LamX.ExtN H H') : CaseAt K H' x y z t rows ss gs d :=
  ⟨dp_ext e _ _ c.ch, c.rw, c.cd, dp_ext e _ _ c.st, c.sd, dp_ext e _ _ c.go, c.gd, dp_ext e _ _ c.th, c.ln, c.sl, c.gl⟩
def spWay (K : PySem.W.Frag) (PT : List Addr) (fn : List (List Int) → List Int → List Int → PyData → Bool) : Sp := fun vs H Q _ => ∃ (x y z t : V) (rows : List (List Int)) (ss gs : List Int) (d : PyData), vs = [x, y, z, t] ∧ CaseAt K H x y z t rows ss gs d ∧ TabsG PT H ∧ ∀ H', LamX.ExtN H H' → TabsG PT H' → Q (.bl (fn rows ss gs d)) H'
theorem scIsWay : FnScope ["chart", "starts", "goals", "thing"] ["chart", "starts", "goals", "thing"] (defScope sIsWay) := ⟨rfl, rfl, rfl, by decide +kernel, rfl, by decide +kernel, by decide +kernel⟩
theorem ok_isWay {k : Nat} {PT : List Addr} (F : Fun K "is_way" "is_way" sIsWay f fd) (cC : Cal P w K mg base "check_case" k ["chart", "starts", "goals"] (spCheckCase K PT)) (cW : Cal P w K mg base "is_walk" k ["chart", "thing"] (spIsWalk K PT)) : FnOk P w K mg base CX0 (k + 1) f fd ["chart", "starts", "goals", "thing"] (spWay K PT wayD) := by
  refine F.ok scIsWay (fun vs H Q E h => ?_) (fun cdv A outer s H vs Q E hr h => ?_)
  · obtain ⟨x, y, z, t, rows, ss, gs, d, rfl, _⟩ := h
    rfl
  obtain ⟨x, y, z, t, rows, ss, gs, d, rfl, ca, tb, q⟩ := h
  refine ⟨_, pss_cons (ps_expr (pe_cal cC hr rfl (pa_cons (pv 0) (pa_cons (pv 1) (pa_cons (pv 2) pa_nil)))))
    (pss_one (ps_ret (pe_and (pe_cal cW hr rfl (pa_cons (pv 0) (pa_cons (pv 3) pa_nil)))
      (pe_and (pe_cmpR op_in_seq (pe_ix ix_tup (pv 3) pe_int (fun _ _ => rfl)) (pv 1) rfl) (pe_one (pe_cmpR op_in_seq (pe_ix ix_tup (pv 3) (pe_un un_neg pe_int) (fun _ _ => rfl)) (pv 2) rfl)))))), ?_⟩
  have lr : ((rows.map fun ns => PyData.tuple (ns.map .int)).length : Int) = rows.length := by rw [List.length_map]
  refine ⟨_, rfl, _, rfl, _, rfl, x, y, z, _, _, _, rfl, ca.ch, ca.st, ca.go, ca.cd, by rw [lr]; exact ca.sd, by rw [lr]; exact ca.gd, tb, fun H1 e1 t1 => ?_⟩
  have c1 := ca.ext e1
  refine ⟨_, rfl, _, rfl, x, t, rows, d, rfl, c1.ch, c1.rw, c1.th, (fun es e => Nat.lt_trans (c1.ln es e) (by decide)), t1, fun H2 e2 t2 => ⟨_, rfl, ?_⟩⟩
  have c2 := c1.ext e2
  have q := q H2 (e1.trans e2) t2
  cases hw : walkD rows d with
  | false =>
    have e : wayD rows ss gs d = false := by
      cases d with
      | tuple es =>
        have hw : walkL rows es = false := hw
        show (walkL rows es && _) = false
        rw [hw]
        rfl
      | _ => rfl
    rw [e] at q
    exact ifF rfl q
  | true =>
    obtain ⟨es, rfl⟩ : ∃ es, d = .tuple es := by cases d <;> first | exact ⟨_, rfl⟩ | cases hw
    have hw : walkL rows es = true := hw
    have e : wayD rows ss gs (.tuple es) = (decide (intAt es 0 ∈ ss) && decide (intAt es (es.length - 1) ∈ gs)) := by
      show (walkL rows es && _) = _
      rw [hw, Bool.true_and]
    rw [e] at q
    unfold walkL at hw
    rw [Bool.and_eq_true, Bool.and_eq_true] at hw
    obtain ⟨h1, h2, _⟩ := hw
    have le : 0 < es.length := by cases es with | nil => cases h1 | cons _ _ => simp
    have hth := c2.th
    cases hth with
    | @tup a xs _ at_ each =>
      have lx := dpAll_len each
      have pick : ∀ i, i < es.length → ∃ n : Int, es[i]? = some (.int n) ∧ xs[i]? = some (.int n) := fun i hi => by
        have g := List.getElem?_eq_getElem hi
        obtain ⟨n, en, _⟩ := within_int (List.all_eq_true.mp h2 _ (List.mem_of_getElem? g))
        rw [en] at g
        obtain ⟨x, hx, hdx⟩ := dpAll_get each g
        cases hdx
        exact ⟨n, g, hx⟩
      obtain ⟨n0, g0, x0⟩ := pick 0 le
      obtain ⟨n1, g1, x1⟩ := pick (es.length - 1) (by omega)
      obtain ⟨sa, rfl, sat⟩ := ints_at c2.st
      obtain ⟨ga, rfl, gat⟩ := ints_at c2.go
      rw [intAt_of g0, intAt_of g1] at q
      refine ifT rfl ⟨_, rfl, a, xs, 0, _, rfl, rfl, at_, atI_at (by decide) x0, _, rfl, sa, _, rfl, .inr sat, rfl, flat_ints ss, _, rfl, ?_⟩
      rw [if_neg (show ¬ (false = true) by decide), inV_ints]
      by_cases m0 : n0 ∈ ss
      · rw [decide_eq_true m0, Bool.true_and] at q
        refine ifT (decide_eq_true m0) ⟨_, rfl, _, rfl, a, xs, -1, _, rfl, rfl, at_, atI_last (by omega) (by rw [lx]; exact x1), _, rfl, ga, _, rfl, .inr gat, rfl, flat_ints gs, ?_⟩
        rw [if_neg (show ¬ (false = true) by decide), inV_ints]
        exact q
      · rw [decide_eq_false m0, Bool.false_and] at q
        rw [decide_eq_false m0]
        exact ifF rfl q
theorem pts_ints {n : Int} {es : List PyData} (h : pointsD n (.tuple es) = true) : es = (es.map toI).map .int ∧ ∀ i ∈ es.map toI, 0 ≤ i ∧ i < n := by
  have h : ptsFrom n 0 es = true := h
  have hw : ∀ d ∈ es, wholeD d = true := fun d hd => by
    cases z : wholeD d with
    | true => rfl
    | false => rw [pts_not es 0 ⟨d, hd, z⟩] at h; cases h
  obtain ⟨ns, rfl⟩ := whole_ints es hw
  have e : (ns.map PyData.int).map toI = ns := by
    rw [List.map_map]
    exact List.map_id' _
  rw [e]
  exact ⟨rfl, fun i hi => ((pts_law ns 0).mp h).2 i hi⟩
theorem scIsBar : FnScope ["chart", "starts", "goals", "thing", "inside", "point", "start", "after", "goal"] ["chart", "starts", "goals", "thing"] (defScope sIsBar) := ⟨rfl, rfl, rfl, by decide +kernel, rfl, by decide +kernel, by decide +kernel⟩
/-- all or any of `i in inside`, i of a tuple of ints -/
theorem gx_in {PT : List Addr} {H : Hp} {a D : Addr} {ms ns : List Int} {kvs : List (Key × V)} {j : Nat} {σ0 : L2.St} {e : Bool} {Qe Qn : Hp → Prop} (hj : σ0[j]? = some none) (hin : σ0[4]? = some (some (.ref D))) (j4 : j ≠ 4) (at_ : SqT K H a (ms.map V.int)) (hk : H D = some (.dK kvs)) (iff : ∀ i : Int, (valV kvs (Sum.inl i)).isSome = decide (i ∈ ns)) (tb : TabsG PT H)
    (he : ∀ H', LamX.ExtN H H' → TabsG PT H' → (∀ i ∈ ms, decide (i ∈ ns) = e) → Qe H') (hn : ∀ H', LamX.ExtN H H' → TabsG PT H' → ∀ i ∈ ms, decide (i ∈ ns) ≠ e → Qn H') :
    ∃ W : Nat → Nat → Hp → Prop, (∃ m, W 0 m H) ∧ gxTurn (Itt K a) (gName j) tYes (tDIn (tVar j) (tVar 4)) [j] σ0 e Qe Qn W := by
  refine gx_tup (xs := ms.map V.int) (fun i H' => H' = H ∧ ∀ x ∈ ms.take i, decide (x ∈ ns) = e) ⟨rfl, fun x hx => by simp at hx⟩ (fun i H' _ h => by rw [h.1]; exact at_) (fun i y H' hy h => ?_) (fun H' h => ?_)
  · obtain ⟨rfl, h⟩ := h
    have hi : i < ms.length := by have := (List.getElem?_eq_some_iff.mp hy).1; rw [List.length_map] at this; exact this
    obtain ⟨n, hn', rfl⟩ : ∃ n, ms[i]? = some n ∧ V.int n = y := by
      rw [List.getElem?_map, List.getElem?_eq_getElem hi] at hy
      exact ⟨ms[i], List.getElem?_eq_getElem hi, Option.some.inj hy⟩
    have jl : j < σ0.length := (List.getElem?_eq_some_iff.mp hj).1
    refine ⟨?_, yesG ⟨.int n, ?_, .ref D, ?_, D, _, rfl, DGet.k (k := Sum.inl n) hk, _, rfl, fun c => ⟨rfl, fun x hx => ?_⟩, fun c => ?_⟩⟩
    · show (σ0.set j (some (V.int n))).set j none = σ0
      rw [List.set_set]
      exact set_self hj
    · rw [List.getElem?_set_self jl]
    · rw [List.getElem?_set_ne (by omega)]
      exact hin
    · rw [List.take_add_one, hn'] at hx
      rcases List.mem_append.mp hx with hx | hx
      · exact h x hx
      · rw [show x = n by simpa using hx, ← iff n]
        exact c
    · exact hn H' (LamX.ExtN.refl _) tb n (List.mem_of_getElem? hn') (by rw [← iff n]; exact c)
  · obtain ⟨rfl, h⟩ := h
    rw [List.length_map, List.take_length] at h
    exact he H' (LamX.ExtN.refl _) tb h
end
/-! is_bar -/
section
variable {P : Program} {w : World} {K : PySem.W.Frag} {mg : Str → Option Value} {base : Heap} {f : Addr} {fd : FuncData}
theorem g2_bar {H : Hp} {a ca D : Addr} {cs : List V} {rows : List (List Int)} {ns : List Int} {kvs : List (Key × V)} {σ0 : L2.St} {Qe Qn : Hp → Prop} (hl : σ0.length = 9) (h5 : σ0[5]? = some none) (h7 : σ0[7]? = some none) (h0 : σ0[0]? = some (some (.ref ca))) (hin : σ0[4]? = some (some (.ref D)))
    (at_ : SqT K H a (ns.map V.int)) (cat : SqT K H ca cs) (ceach : DpAll K H cs (rows.map fun ns => .tuple (ns.map .int))) (hrw : RwOk rows) (hns : ∀ i ∈ ns, 0 ≤ i ∧ i < (rows.length : Int)) (hk : H D = some (.dK kvs)) (iff : ∀ i : Int, (valV kvs (Sum.inl i)).isSome = decide (i ∈ ns))
    (he : (∀ p ∈ ns, ∀ i ∈ rowAt rows p, i ∈ ns) → Qe H) (hn : ∀ p ∈ ns, ∀ i ∈ rowAt rows p, i ∉ ns → Qn H) :
    ∃ W : Nat → Nat → Hp → Prop, (∃ m, W 0 m H) ∧ g2Turn (Itt K a) (gName 5) (iTup K (tOp (rIxT K) (tVar 0) (tVar 5))) (gName 7) (tDIn (tVar 7) (tVar 4)) [5, 7] [7] σ0 true Qe Qn W := by
  refine ⟨fun i m H' => m = (ns.length - i) * 100 ∧ i ≤ ns.length ∧ H' = H ∧ ∀ p ∈ ns.take i, ∀ x ∈ rowAt rows p, x ∈ ns, ⟨ns.length * 100, rfl, Nat.zero_le _, rfl, fun p hp => by simp at hp⟩, ?_⟩
  rintro i m H' ⟨rfl, hi, rfl, done⟩
  by_cases hlt : i < ns.length
  · have hp := List.getElem?_eq_getElem hlt
    generalize ns[i] = p at hp
    have hpm := hns p (List.mem_of_getElem? hp)
    have hxi : (ns.map V.int)[i]? = some (.int p) := by rw [List.getElem?_map, hp]; rfl
    refine .inr ⟨⟨_, _, at_, hxi⟩, fun x H'' y => ?_⟩
    obtain ⟨rfl, y⟩ := y
    have y := y _ at_
    rw [hxi] at y
    cases y
    obtain ⟨v0, v1, v2, v3, v4, v5, v6, v7, v8, rfl⟩ : ∃ v0 v1 v2 v3 v4 v5 v6 v7 v8, σ0 = [v0, v1, v2, v3, v4, v5, v6, v7, v8] := by
      match σ0, hl with
      | [v0, v1, v2, v3, v4, v5, v6, v7, v8], _ => exact ⟨_, _, _, _, _, _, _, _, _, rfl⟩
    obtain rfl : v0 = some (.ref ca) := Option.some.inj h0
    obtain rfl : v4 = some (.ref D) := Option.some.inj hin
    obtain rfl : v5 = none := Option.some.inj h5
    obtain rfl : v7 = none := Option.some.inj h7
    have hrl : p.toNat < rows.length := by omega
    have hr := List.getElem?_eq_getElem hrl
    generalize rows[p.toNat] = row at hr
    have hra : rowAt rows p = row := by
      unfold rowAt
      rw [List.getD_eq_getElem?_getD, hr]
      rfl
    obtain ⟨b, hb, bat⟩ := ch_row ceach hr
    have hlen := hrw.len
    have hrow := (hrw.row row (List.mem_of_getElem? hr)).1
    refine ⟨rfl, _, rfl, _, rfl, ca, cs, p, _, rfl, rfl, cat, atI_at hpm.1 hb, b, rfl, ⟨_, bat⟩, fun j k H' => k + j + 1 = (ns.length - i) * 100 ∧ j ≤ row.length ∧ H' = H'' ∧ ∀ x ∈ row.take j, x ∈ ns, ⟨(ns.length - i) * 100 - 1, by omega, by omega, Nat.zero_le _, rfl, fun x hx => by simp at hx⟩, ?_⟩
    rintro j k H3 ⟨hkj, hj, rfl, din⟩
    by_cases jlt : j < row.length
    · have hq := List.getElem?_eq_getElem jlt
      generalize row[j] = n at hq
      have hxj : (row.map V.int)[j]? = some (.int n) := by rw [List.getElem?_map, hq]; rfl
      refine .inr ⟨⟨_, _, bat, hxj⟩, fun x H4 y => ?_⟩
      obtain ⟨rfl, y⟩ := y
      have y := y _ bat
      rw [hxj] at y
      cases y
      refine ⟨rfl, _, rfl, _, rfl, D, _, rfl, DGet.k (k := Sum.inl n) hk, _, rfl, fun c => ⟨k - 1, by omega, by omega, jlt, rfl, fun x hx => ?_⟩, fun c => ?_⟩
      · rw [List.take_add_one, hq] at hx
        rcases List.mem_append.mp hx with hx | hx
        · exact din x hx
        · rw [iff n] at c
          rw [show x = n by simpa using hx]
          exact of_decide_eq_true c
      · rw [iff n] at c
        exact hn p (List.mem_of_getElem? hp) n (by rw [hra]; exact List.mem_of_getElem? hq) (fun z => c (decide_eq_true z))
    · have e : j = row.length := by omega
      subst e
      rw [List.take_length] at din
      refine .inl ⟨⟨_, bat, by rw [List.length_map]; exact Nat.le_refl _⟩, (ns.length - (i + 1)) * 100, by omega, by omega, rfl, hlt, rfl, fun p' hp' => ?_⟩
      rw [List.take_add_one, hp] at hp'
      rcases List.mem_append.mp hp' with hp' | hp'
      · exact done p' hp'
      · rw [show p' = p by simpa using hp', hra]
        exact din
  · have e : i = ns.length := by omega
    subst e
    rw [List.take_length] at done
    exact .inl ⟨⟨_, at_, by rw [List.length_map]; exact Nat.le_refl _⟩, he done⟩
abbrev barN : List Str := ["chart", "starts", "goals", "thing", "inside", "point", "start", "after", "goal"]
theorem ok_isBar {k : Nat} {c Pc : Addr} {PT : List Addr} (F : Fun K "is_bar" "is_bar" sIsBar f fd) (hc : fd.code = .ref c) (TB : LamX.TabB base mg c Pc) (hPT : Pc ∈ PT) (T : Free mg) (hA : mg "all" = none) (hY : mg "any" = none) (cC : Cal P w K mg base "check_case" (k + 1) ["chart", "starts", "goals"] (spCheckCase K PT)) (cP : Cal P w K mg base "are_points" (k + 1) ["thing", "many"] (spPoints K)) : FnOk P w K mg base CX0 (k + 2) f fd ["chart", "starts", "goals", "thing"] (spWay K PT barD) := by
  refine okC F hc scIsBar (fun vs H Q E h => ?_) (fun A outer s H vs Q E hr h => ?_)
  · obtain ⟨x, y, z, t, rows, ss, gs, d, rfl, _⟩ := h
    rfl
  obtain ⟨x, y, z, t, rows, ss, gs, d, rfl, ca, tb, q⟩ := h
  refine ⟨_, pss_cons (ps_expr (pe_cal cC hr rfl (pa_cons (pv 0) (pa_cons (pv 1) (pa_cons (pv 2) pa_nil)))))
    (pss_cons (ps_if (pt_not (pt_val (pe_cal cP hr rfl (pa_cons (pv 3) (pa_cons (pe_callB call_len_seq rfl T.len PySem.boot_len (pa_cons (pv 0) pa_nil)) pa_nil))))) (pss_one (ps_ret pe_bl)) pss_nil)
    (pss_cons (ps_set (i := 4) scIsBar.nd rfl (.inr rfl) (pe_dc (own := [("point", 5)]) (wi := iTup K (tVar 3)) (g := gName 5) (tt := tYes) (tk := tVar 5) (tv := tC (.bl true)) rfl scIsBar.nd (pi_tup (pv 3))
        (blkOk_by (own := [("point", 5)]) (N := barN) (sc := defScope sIsBar) (by decide +kernel))
        (fun _ _ _ _ _ => pg_name (i := 5) scIsBar.nd rfl (Or.inl rfl)) (fun _ _ _ _ _ => pts_nil) (fun _ _ _ _ _ => pv 5) (fun _ _ _ _ _ => pe_bl)))
    (pss_one (ps_ret (pe_and (pe_allG (own := [("start", 6)]) (wi := iTup K (tVar 1)) (g := gName 6) (tt := tYes) (te := tDIn (tVar 6) (tVar 4)) scIsBar.nd hr rfl hA (by decide +kernel) TB rfl
          (blkOk_by (own := [("start", 6)]) (N := barN) (sc := defScope sIsBar) (by decide +kernel)) (by decide +kernel) rfl rfl (pi_tup (pv 1))
          (fun _ _ _ _ _ _ _ _ _ _ => pg_name (i := 6) scIsBar.nd rfl (Or.inl rfl)) (fun _ _ _ _ _ _ _ _ _ _ => pts_nil)
          (fun _ _ _ _ _ _ _ _ _ hr' => pe_cmp (pc_din (Nat.lt_of_le_of_lt (Nat.add_le_add_left (by decide : 1 ≤ 64) _) hr'.units) (pv 6) (pv 4))) (fun _ => rfl))
      (pe_and (pe_allG2 (own := [("point", 5), ("after", 7)]) (vs1 := [7]) (wi := iTup K (tVar 3)) (g := gName 5) (wb := iTup K (tOp (rIxT K) (tVar 0) (tVar 5))) (gb := gName 7) (te := tDIn (tVar 7) (tVar 4)) scIsBar.nd hr rfl hA (by decide +kernel) TB rfl
          (blkOk_by (own := [("point", 5), ("after", 7)]) (N := barN) (sc := defScope sIsBar) (by decide +kernel)) (by decide +kernel) rfl rfl (by decide) (fun _ _ => rfl) (pi_tup (pv 3))
          (fun _ _ _ _ _ _ _ _ _ _ => pg_name (i := 5) scIsBar.nd rfl (Or.inl rfl)) (fun _ _ _ _ _ _ _ _ _ _ => pi_tup (pe_ix ix_tup (pv 0) (pv 5) (fun _ _ => rfl))) (fun _ _ _ _ _ _ _ _ _ _ => pg_name (i := 7) scIsBar.nd rfl (Or.inl rfl))
          (fun _ _ _ _ _ _ _ _ _ hr' => pe_cmp (pc_din (Nat.lt_of_le_of_lt (Nat.add_le_add_left (by decide : 1 ≤ 64) _) hr'.units) (pv 7) (pv 4))) (fun _ => rfl))
      (pe_one (pe_not (pe_anyG (own := [("goal", 8)]) (wi := iTup K (tVar 2)) (g := gName 8) (tt := tYes) (te := tDIn (tVar 8) (tVar 4)) scIsBar.nd hr rfl hY (by decide +kernel) TB rfl
          (blkOk_by (own := [("goal", 8)]) (N := barN) (sc := defScope sIsBar) (by decide +kernel)) (by decide +kernel) rfl rfl (pi_tup (pv 2))
          (fun _ _ _ _ _ _ _ _ _ _ => pg_name (i := 8) scIsBar.nd rfl (Or.inl rfl)) (fun _ _ _ _ _ _ _ _ _ _ => pts_nil)
          (fun _ _ _ _ _ _ _ _ _ hr' => pe_cmp (pc_din (Nat.lt_of_le_of_lt (Nat.add_le_add_left (by decide : 1 ≤ 64) _) hr'.units) (pv 8) (pv 4))) (fun _ => rfl)))))))))), ?_⟩
  have lr : ((rows.map fun ns => PyData.tuple (ns.map .int)).length : Int) = rows.length := by rw [List.length_map]
  refine ⟨_, rfl, _, rfl, _, rfl, x, y, z, _, _, _, rfl, ca.ch, ca.st, ca.go, ca.cd, by rw [lr]; exact ca.sd, by rw [lr]; exact ca.gd, tb, fun H1 e1 t1 => ?_⟩
  have c1 := ca.ext e1
  have hch := c1.ch
  cases hch with
  | @tup ca' cs _ cat ceach =>
    have lc : cs.length = rows.length := by have := dpAll_len ceach; rw [List.length_map] at this; exact this
    refine ⟨_, rfl, _, rfl, ca', cs, rfl, .inr cat, t, d, _, rfl, c1.th, _, rfl, ?_⟩
    rw [lc]
    cases hp : pointsD rows.length d with
    | false =>
      have e : barD rows ss gs d = false := by
        cases d with
        | tuple es => show (pointsD rows.length (.tuple es) && _) = false; rw [hp]; rfl
        | _ => rfl
      have r := q H1 e1 t1
      rw [e] at r
      exact ifT rfl r
    | true =>
      obtain ⟨es, rfl⟩ : ∃ es, d = .tuple es := by cases d <;> first | exact ⟨_, rfl⟩ | cases hp
      obtain ⟨ees, hns⟩ := pts_ints hp
      have les := c1.ln es rfl
      generalize hnn : es.map toI = ns at ees hns
      have lns : ns.length < 1000 := by rw [← hnn, List.length_map]; omega
      have q : ∀ H', LamX.ExtN H1 H' → TabsG PT H' → Q (.bl (barL rows ss gs ns)) H' := fun H' e t => by
        have r := q H' (e1.trans e) t
        have z : barD rows ss gs (.tuple es) = barL rows ss gs ns := by
          show (pointsD rows.length (.tuple es) && barL rows ss gs (es.map toI)) = _
          rw [hp, hnn, Bool.true_and]
        rw [z] at r
        exact r
      have hth := c1.th
      rw [ees] at hth
      obtain ⟨ta, rfl, tat⟩ := ints_at hth
      obtain ⟨sa, rfl, sat⟩ := ints_at c1.st
      obtain ⟨ga, rfl, gat⟩ := ints_at c1.go
      refine ifF rfl ⟨_, rfl, ta, rfl, ⟨_, tat⟩, fun D hD => ?_⟩
      have hD0 := ext_none (LamX.ExtN.refl H1) hD
      refine dc_tup (xs := ns.map V.int) (fun i G => LamX.ExtN H1 G ∧ TabsG PT G ∧ ∃ kvs : List (Key × V), G D = some (.dK kvs) ∧ kvs.length ≤ i ∧ ∀ n : Int, (valV kvs (Sum.inl n)).isSome = decide (n ∈ ns.take i)) ⟨ext_upd (LamX.ExtN.refl H1) hD0, t1.same (same_new hD _), [], upd_same, Nat.le_refl _, fun n => rfl⟩ (fun i G _ h => sqT_ext h.1 tat) (fun i v G hv h => ?_) (fun G h => ?_)
      · obtain ⟨e2, t2, kvs, hk, lk, iff⟩ := h
        have hi : i < ns.length := by have := (List.getElem?_eq_some_iff.mp hv).1; rw [List.length_map] at this; exact this
        obtain ⟨n, hn', rfl⟩ : ∃ n, ns[i]? = some n ∧ V.int n = v := by
          rw [List.getElem?_map, List.getElem?_eq_getElem hi] at hv
          exact ⟨ns[i], List.getElem?_eq_getElem hi, Option.some.inj hv⟩
        refine ⟨rfl, yesG ⟨_, rfl, kvs, Sum.inl n, rfl, hk, Nat.lt_of_lt_of_le (show kvs.length < 1000 by omega) (small (Nat.le_refl _)), ext_upd e2 hD0, tabs_updD t2 (fun ps z => by rw [hk] at z; cases z), _, upd_same, by have := length_putK kvs (Sum.inl n) (V.bl true); omega, fun m => ?_⟩⟩
        rw [valV_put, List.take_add_one, hn']
        by_cases z : (Sum.inl m : Key) = Sum.inl n
        · rw [if_pos z]
          exact (decide_eq_true (by rw [Sum.inl.inj z]; simp)).symm
        · rw [if_neg z, iff m]
          congr 1
          apply propext
          have z' : m ≠ n := fun e => z (by rw [e])
          simp [z']
      · obtain ⟨e2, t2, kvs, hk, lk, iff⟩ := h
        rw [List.length_map, List.take_length] at iff
        have iffB : barL rows ss gs ns = ((ss.all fun i => decide (i ∈ ns)) && ((ns.all fun p => (rowAt rows p).all fun i => decide (i ∈ ns)) && !(gs.any fun i => decide (i ∈ ns)))) := rfl
        refine ⟨_, rfl, sa, rfl, ⟨_, sqT_ext e2 sat⟩, t2 Pc hPT, fun H3 b3 => ?_⟩
        have x3 := tabbed_ext (t2 Pc hPT) b3
        have e3 := e2.trans x3
        have t3 := t2.tabbed b3
        have hk3 : H3 D = some (.dK kvs) := x3 D _ hk fun ps z => by cases z
        refine gx_in (ns := ns) (PT := PT) rfl rfl (by decide) (sqT_ext e3 sat) hk3 iff t3 (fun H4 x4 t4 all4 => ⟨_, rfl, ifT rfl ?_⟩) (fun H4 x4 t4 i hi ne => ⟨_, rfl, ifF rfl ?_⟩)
        · have e4 := e3.trans x4
          refine ⟨_, rfl, ta, rfl, ⟨_, sqT_ext e4 tat⟩, t4 Pc hPT, fun H5 b5 => ?_⟩
          have x5 := tabbed_ext (t4 Pc hPT) b5
          have e5 := e4.trans x5
          have t5 := t4.tabbed b5
          have hk5 : H5 D = some (.dK kvs) := (x4.trans x5) D _ hk3 fun ps z => by cases z
          refine g2_bar (rows := rows) (ns := ns) rfl rfl rfl rfl rfl (sqT_ext e5 tat) (sqT_ext e5 cat) (dp_exts e5 _ _ ceach) c1.rw hns hk5 iff (fun all5 => ⟨_, rfl, ifT rfl ?_⟩) (fun p hp' i hi ni => ⟨_, rfl, ifF rfl ?_⟩)
          · refine ⟨_, rfl, ga, rfl, ⟨_, sqT_ext e5 gat⟩, t5 Pc hPT, fun H6 b6 => ?_⟩
            have x6 := tabbed_ext (t5 Pc hPT) b6
            have e6 := e5.trans x6
            have t6 := t5.tabbed b6
            have hk6 : H6 D = some (.dK kvs) := x6 D _ hk5 fun ps z => by cases z
            refine gx_in (ns := ns) (PT := PT) rfl rfl (by decide) (sqT_ext e6 gat) hk6 iff t6 (fun H7 x7 t7 all7 => ⟨_, rfl, ?_⟩) (fun H7 x7 t7 i hi ne => ⟨_, rfl, ?_⟩)
            · have r := q H7 (e6.trans x7) t7
              have z : barL rows ss gs ns = true := by
                rw [iffB, List.all_eq_true.mpr all4, List.all_eq_true.mpr fun p hp => List.all_eq_true.mpr fun i hi => decide_eq_true (all5 p hp i hi), List.any_eq_false.mpr fun i hi => by rw [all7 i hi]; decide]
                rfl
              rw [z] at r
              exact r
            · have r := q H7 (e6.trans x7) t7
              have z : barL rows ss gs ns = false := by
                rw [iffB, List.any_eq_true.mpr ⟨i, hi, by cases y : decide (i ∈ ns) with | true => rfl | false => exact absurd y ne⟩]
                simp
              rw [z] at r
              exact r
          · have r := q H5 e5 t5
            have z : barL rows ss gs ns = false := by
              have y : (ns.all fun p => (rowAt rows p).all fun i => decide (i ∈ ns)) = false := List.all_eq_false.mpr ⟨p, hp', by
                rw [Bool.not_eq_true]
                exact List.all_eq_false.mpr ⟨i, hi, by rw [decide_eq_true_eq]; exact ni⟩⟩
              rw [iffB, y, Bool.false_and, Bool.and_false]
            rw [z] at r
            exact r
        · have r := q H4 (e3.trans x4) t4
          have z : barL rows ss gs ns = false := by
            have y : (ss.all fun i => decide (i ∈ ns)) = false := List.all_eq_false.mpr ⟨i, hi, ne⟩
            rw [iffB, y, Bool.false_and]
          rw [z] at r
          exact r
end
/-! the law's own looks: _law_is_way -/
section
variable {X : Cx}
def rEqE (K : PySem.W.Frag) : R2 := fun x y H Q => ∃ a b xs, x = .ref a ∧ y = .ref b ∧ SqT K H a xs ∧ SqT K H b [] ∧ Q (.bl xs.isEmpty) H
theorem op_eqE (hu : X.A.units + 64 < cLine) : OpR X (compareOp .Eq) (rEqE X.K) := by
  intro pins s σ H x y v u Q I rx ry h
  obtain ⟨a, b, xs, rfl, rfl, ha, hb, q⟩ := h
  cases rx
  cases ry
  obtain ⟨its, r1, ⟨o1, g1, c1, n1, d1⟩, _⟩ := I.tuple ha
  obtain ⟨its2, r2, ⟨o2, g2, c2, n2, d2⟩, _⟩ := I.tuple hb
  cases r2
  refine SeqAt.RcAt.tuples (e := fun _ => true) ⟨o1, g1, c1, n1, d1⟩ ⟨o2, g2, c2, n2, d2⟩ (by omega) (fun j _ h2 => absurd h2 (by simp)) X.prog X.w _ _ ⟨.bl xs.isEmpty, H, I, ?_, q⟩
  cases xs with
  | nil =>
    cases r1
    rfl
  | cons z zs =>
    cases r1 with
    | cons _ _ => rfl
end
/-- [x for x in t if ..] != [] -/
theorem ne_nil {K : PySem.W.Frag} {te0 : TE} {a : Addr} {xs : List V} {j : Nat} {tt : TT} {σ : L2.St} {H : Hp} {R : Bool → Hp → Prop} (p : Nat → Bool) (h0 : ∀ Q : VK, Q (.ref a) H → te0 σ H Q) (at_ : SqT K H a xs) (hl : xs.length < 1000) (hj : j < σ.length)
    (hs : ∀ (i : Nat) (x : V) (H' : Hp) (R' : Bool → Hp → Prop), xs[i]? = some x → Same H H' → R' (p i) H' → tt (σ.set j (some x)) H' R')
    (hd : ∀ H', Same H H' → R (!(List.range xs.length).all fun i => !p i) H') : tTest (tOp (rNeLE K) (tLc (iTup K te0) (gName j) tt (tVar j) [j]) (tLst tNil)) σ H R := by
  refine h0 _ ⟨a, rfl, ⟨xs, at_⟩, fun D hD => ?_⟩
  have w1 : wipe σ [j] = σ.set j none := rfl
  have w2 : ∀ x, (wipe σ [j]).set j (some x) = σ.set j (some x) := fun x => by rw [w1, List.set_set]
  refine lc_tup (xs := xs) (fun i H' => Same H H' ∧ ∃ zs : List V, H' D = some (.lst zs) ∧ zs.length ≤ i ∧ zs.isEmpty = (List.range i).all fun i => !p i) ⟨same_new hD _, [], upd_same, Nat.le_refl _, rfl⟩ (fun i H' _ h => sqT_same h.1 at_) (fun i x H' hx h => ?_) (fun H' h => ?_)
  · obtain ⟨sm, zs, hz, lz, ez⟩ := h
    have hi := (List.getElem?_eq_some_iff.mp hx).1
    show wipe ((wipe σ [j]).set j (some x)) [j] = wipe σ [j] ∧ _
    rw [w2]
    refine ⟨by show (σ.set j (some x)).set j none = σ.set j none; rw [List.set_set], hs i x H' _ hx sm ?_⟩
    have er : (List.range (i + 1)).all (fun i => !p i) = ((List.range i).all (fun i => !p i) && !p i) := by
      rw [List.range_succ, List.all_append, List.all_cons, List.all_nil, Bool.and_true]
    cases hp : p i with
    | true =>
      refine ifT rfl ⟨x, by rw [List.getElem?_set_self hj], zs, hz, Nat.lt_of_lt_of_le (show zs.length < 1000 by omega) (small (Nat.le_refl _)), fun b' o hb' => by rw [upd_ne (ne_of_none hb' hD)]; exact sm b' o hb', zs ++ [x], upd_same, by rw [List.length_append]; show _ + 1 ≤ _; omega, ?_⟩
      rw [er, hp, Bool.not_true, Bool.and_false]
      cases zs <;> rfl
    | false => exact ifF rfl ⟨sm, zs, hz, by omega, by rw [er, hp, Bool.not_false, Bool.and_true]; exact ez⟩
  · obtain ⟨sm, zs, hz, lz, ez⟩ := h
    refine ⟨small (by show 0 ≤ 1000; decide), fun p3 h3 => ?_⟩
    have n3 := same_new h3 (.lst [])
    refine ⟨D, p3, zs, rfl, rfl, SqL.of (n3 _ _ hz), SqL.of upd_same, _, rfl, ?_⟩
    rw [ez]
    exact hd _ (sm.trans n3)
theorem range_all {α : Type} (l : List α) (f : Nat → Bool) (g : α → Bool) (h : ∀ i x, l[i]? = some x → f i = g x) : (List.range l.length).all f = l.all g := by
  cases z : l.all g with
  | true =>
    refine List.all_eq_true.mpr fun i hi => ?_
    have hi := List.mem_range.mp hi
    rw [h i _ (List.getElem?_eq_getElem hi)]
    exact List.all_eq_true.mp z _ (List.getElem_mem hi)
  | false =>
    obtain ⟨x, hx, hn⟩ := List.all_eq_false.mp z
    obtain ⟨i, hi⟩ := List.getElem?_of_mem hx
    refine List.all_eq_false.mpr ⟨i, List.mem_range.mpr (List.getElem?_eq_some_iff.mp hi).1, ?_⟩
    rw [h i x hi]
    exact hn
theorem CaseAt.same {K : PySem.W.Frag} {H H' : Hp} {x y z t : V} {rows : List (List Int)} {ss gs : List Int} {d : PyData} (c : CaseAt K H x y z t rows ss gs d) (s : Same H H') : CaseAt K H' x y z t rows ss gs d := c.ext (ext_same s)
section
variable {P : Program} {w : World} {K : PySem.W.Frag} {mg : Str → Option Value} {base : Heap} {f : Addr} {fd : FuncData}
def spLWay (K : PySem.W.Frag) (fn : List (List Int) → List Int → List Int → PyData → Bool) : Sp := fun vs H Q _ => ∃ (x y z t : V) (rows : List (List Int)) (ss gs : List Int) (d : PyData), vs = [x, y, z, t] ∧ CaseAt K H x y z t rows ss gs d ∧ ∀ H', Same H H' → Q (.bl (fn rows ss gs d)) H'
abbrev lwN : List Str := ["_law_chart_here", "_law_starts", "_law_goals", "_law_thing", "_law_at", "_law_one"]
theorem scLWay : FnScope lwN ["_law_chart_here", "_law_starts", "_law_goals", "_law_thing"] (defScope sLIsWay) := ⟨rfl, rfl, rfl, by decide +kernel, rfl, by decide +kernel, by decide +kernel⟩
theorem whole_not_within {lo hi : Int} {es : List PyData} (h : es.all wholeD = false) : es.all (withinD lo hi) = false := by
  obtain ⟨d, hd, hn⟩ := List.all_eq_false.mp h
  refine List.all_eq_false.mpr ⟨d, hd, fun z => hn ?_⟩
  obtain ⟨i, rfl, _⟩ := within_int z
  rfl
theorem intAt_ints {ns : List Int} {i : Nat} {n : Int} (h : ns[i]? = some n) : intAt (ns.map .int) i = n := intAt_of (by rw [List.getElem?_map, h]; rfl)
theorem all_ints {ns : List Int} {p : PyData → Bool} : (ns.map PyData.int).all p = ns.all fun n => p (.int n) := by
  rw [List.all_map]
  rfl
theorem ok_lIsWay {k : Nat} (F : Fun K "_law_is_way" "_law_is_way" sLIsWay f fd) (T : Free mg) (cW : Cal P w K mg base "_law_whole" k ["_law_thing"] (spWhole K)) : FnOk P w K mg base CX0 (k + 1) f fd ["_law_chart_here", "_law_starts", "_law_goals", "_law_thing"] (spLWay K wayD) := by
  refine F.ok scLWay (fun vs H Q E h => ?_) (fun cdv A outer s H vs Q E hr h => ?_)
  · obtain ⟨x, y, z, t, rows, ss, gs, d, rfl, _⟩ := h
    rfl
  obtain ⟨x, y, z, t, rows, ss, gs, d, rfl, ca, q⟩ := h
  refine ⟨_, pss_cons (ps_if (PW.pt (pw_or (pt_not (pt_val (pe_callB call_isi rfl T.isi (by decide +kernel) (pa_cons (pv 3) (pa_cons (pe_bltn (v := .ty "tuple") rfl T.tuple (by decide +kernel) rfl) pa_nil)))))
      (pw_or (pt_cmpR (op_eqE hr.units) (pv 3) (pe_tup pa_nil) (nomark _))
      (pw_or1 (pt_cmpR (op_neLE hr.units) (pe_lc (own := [("_law_one", 5)]) (g := gName 5) (tt := tNot (tB (tCall (spWhole K) [] E0 (tCons (tVar 5) tNil)))) (te := tVar 5) rfl scLWay.nd (pi_tup (pv 3))
        (blkOk_by (own := [("_law_one", 5)]) (N := lwN) (sc := defScope sLIsWay) (by decide +kernel))
        (fun _ _ _ _ _ => pg_name (i := 5) scLWay.nd rfl (Or.inl rfl)) (fun _ _ _ _ _ => pts_one (pt_not (pt_val (pe_cal cW hr rfl (pa_cons (pv 5) pa_nil))))) (fun _ _ _ _ _ => pv 5)) (pe_lst pa_nil) (nomark _))))))
      (pss_one (ps_ret pe_bl)) pss_nil)
    (pss_cons (ps_if (PW.pt (pw_or (pt_cmpR op_notIn_seq (pe_ix ix_tup (pv 3) pe_int (fun _ _ => rfl)) (pv 1) rfl) (pw_or1 (pt_cmpR op_notIn_seq (pe_ix ix_tup (pv 3) (pe_un un_neg pe_int) (fun _ _ => rfl)) (pv 2) rfl)))) (pss_one (ps_ret pe_bl)) pss_nil)
    (pss_cons (ps_for PassesOwn.never rfl (pi_range2 rfl T.range (pa_cons pe_int (pa_cons (pe_callB call_len_seq rfl T.len PySem.boot_len (pa_cons (pv 3) pa_nil)) pa_nil))) (pg_name (i := 4) scLWay.nd rfl (.inl rfl))
      (pss_one (ps_if (PW.pt (pw_or (pt_not (pt_chain op_le op_lt pe_int (pe_ix ix_tup (pv 3) (pv 4) (fun _ _ => rfl)) (pe_callB call_len_seq rfl T.len PySem.boot_len (pa_cons (pv 0) pa_nil))))
        (pw_or1 (pt_cmpR op_notIn_seq (pe_ix ix_tup (pv 3) (pv 4) (fun _ _ => rfl)) (pe_ix ix_tup (pv 0) (pe_ix ix_tup (pv 3) (pe_op op_sub (pv 4) pe_int) (fun _ _ => rfl)) (fun _ _ => rfl)) rfl)))) (pss_one (ps_ret pe_bl)) pss_nil)))
    (pss_one (ps_ret pe_bl)))), ?_⟩
  have q0 : wayD rows ss gs d = false → ∀ H', Same H H' → Q (.bl false) H' := fun z H' e => by have := q H' e; rw [z] at this; exact this
  refine ⟨_, rfl, t, _, _, _, _, rfl, .ty "tuple", ty_of ca.th, kit_tuple d, _, rfl, ?_⟩
  cases ht : tupleD d with
  | false =>
    have e : wayD rows ss gs d = false := by cases d <;> first | rfl | cases ht
    exact ifT rfl (ifT rfl (q0 e H (Same.refl _)))
  | true =>
    obtain ⟨es, rfl⟩ : ∃ es, d = .tuple es := by
      cases d <;> first | exact ⟨_, rfl⟩ | cases ht
    have les := ca.ln es rfl
    have hth := ca.th
    cases hth with
    | @tup a xs _ at_ each =>
      have lx := dpAll_len each
      have eqE : es.isEmpty = xs.isEmpty := by cases es <;> cases xs <;> first | rfl | cases lx
      refine ifF rfl ⟨_, rfl, small (by show 0 ≤ 1000; decide), fun p1 h1 => ?_⟩
      have n1 := same_new h1 (.tup [])
      refine ⟨a, p1, xs, rfl, rfl, sqT_same n1 at_, SqT.of upd_same, _, rfl, ?_⟩
      cases hem : xs.isEmpty with
      | true =>
        have e : wayD rows ss gs (.tuple es) = false := by
          show (walkL rows es && _) = false
          unfold walkL
          rw [eqE, hem]
          rfl
        exact ifT rfl (ifT rfl (q0 e _ n1))
      | false =>
        refine ifF rfl (ne_nil (xs := xs) (σ := [some x, some y, some z, some (.ref a), none, none]) (fun i => !wholeD ((es[i]?).getD .none)) (fun Q h => ⟨_, rfl, h⟩) (sqT_same n1 at_) (by omega) (by simp) (fun i v H' R' hv sm h => ?_) (fun H2 s2 => ?_))
        · obtain ⟨d, hd, hdv⟩ := dpAll_get' each hv
          refine ⟨_, rfl, v, d, rfl, dp_same (n1.trans sm) hdv, _, rfl, ?_⟩
          rw [hd] at h
          exact h
        · have e1 : ((List.range xs.length).all fun i => !!wholeD ((es[i]?).getD .none)) = es.all wholeD := by
            rw [lx]
            exact range_all es _ _ fun i x hx => by rw [hx, Bool.not_not]; rfl
          rw [e1]
          have s2 := n1.trans s2
          cases hw : es.all wholeD with
          | false =>
            have e : wayD rows ss gs (.tuple es) = false := by
              show (walkL rows es && _) = false
              unfold walkL
              rw [whole_not_within hw, Bool.false_and, Bool.and_false]
              rfl
            exact ifT rfl (q0 e _ s2)
          | true =>
            obtain ⟨ns, rfl⟩ := whole_ints es fun z hz => List.all_eq_true.mp hw z hz
            have ex : xs = ns.map V.int := ints_dp ns xs each
            subst ex
            rw [List.length_map] at les
            have ln0 : 0 < ns.length := by cases ns with | nil => cases hem | cons _ _ => simp
            obtain ⟨n0, hn0⟩ : ∃ n, ns[0]? = some n := ⟨_, List.getElem?_eq_getElem ln0⟩
            obtain ⟨n9, hn9⟩ : ∃ n, ns[ns.length - 1]? = some n := ⟨_, List.getElem?_eq_getElem (by omega)⟩
            have vAt : ∀ {i : Nat} {n : Int}, ns[i]? = some n → (ns.map V.int)[i]? = some (.int n) := fun h => by rw [List.getElem?_map, h]; rfl
            have c2 := ca.same s2
            have at2 := sqT_same s2 at_
            have hst := c2.st
            have hgo := c2.go
            obtain ⟨sa, rfl, sat⟩ := ints_at hst
            obtain ⟨ga, rfl, gat⟩ := ints_at hgo
            have ew : wayD rows ss gs (.tuple (ns.map .int)) = (walkL rows (ns.map .int) && (decide (n0 ∈ ss) && decide (n9 ∈ gs))) := by
              show (walkL rows _ && _) = _
              rw [intAt_ints hn0, List.length_map, intAt_ints hn9]
            refine ifF rfl ⟨_, rfl, a, _, 0, _, rfl, rfl, at2, atI_at (by decide) (vAt hn0), _, rfl, sa, _, rfl, .inr sat, rfl, flat_ints ss, _, rfl, ?_⟩
            rw [if_pos rfl, inV_ints]
            by_cases m0 : n0 ∈ ss
            · refine ifF (by rw [decide_eq_true m0]; rfl) ⟨_, rfl, _, rfl, a, _, -1, _, rfl, rfl, at2, atI_last (by rw [List.length_map]; exact ln0) (by rw [List.length_map]; exact vAt hn9), _, rfl, ga, _, rfl, .inr gat, rfl, flat_ints gs, _, rfl, ?_⟩
              rw [if_pos rfl, inV_ints]
              by_cases m9 : n9 ∈ gs
              · refine ifF (by rw [decide_eq_true m9]; rfl) ?_
                have hch := c2.ch
                have hrw := ca.rw
                cases hch with
                | @tup ca' cs _ cat ceach =>
                  have lc : cs.length = rows.length := by have := dpAll_len ceach; rw [List.length_map] at this; exact this
                  have hss := (pts_ints ca.sd).2
                  have h0n : 0 ≤ n0 ∧ n0 < (rows.length : Int) := hss n0 (by
                    rw [List.map_map]
                    exact List.mem_map.mpr ⟨n0, m0, rfl⟩)
                  refine ⟨_, rfl, a, _, rfl, .inr at2, 1, _, rfl, ⟨by decide, by decide, by rw [List.length_map]; omega, by rw [List.length_map]; omega⟩, ?_⟩
                  rw [List.length_map, show (((ns.length : Nat) : Int) - 1).toNat = ns.length - 1 by omega]
                  refine for_range (lo := 1) (n := ns.length - 1) (fun i σ H' => ∃ o4 o5, σ = [some (.ref ca'), some (.ref sa), some (.ref ga), some (.ref a), o4, o5] ∧ H' = H2 ∧ (∀ m n, m ≤ i → ns[m]? = some n → 0 ≤ n ∧ n < (rows.length : Int)) ∧ ((List.range i).all fun k => linkB rows (intAt (ns.map .int) k) (intAt (ns.map .int) (k + 1))) = true)
                    ⟨_, _, rfl, rfl, fun m n hm hn => by
                      have : m = 0 := by omega
                      subst this
                      rw [hn0] at hn
                      cases hn
                      exact h0n, rfl⟩ (fun i σ H' hi h => ?_) (fun σ H' h => ?_)
                  · obtain ⟨o4, o5, rfl, rfl, win, lnk⟩ := h
                    obtain ⟨ni, hni⟩ : ∃ n, ns[i]? = some n := ⟨_, List.getElem?_eq_getElem (by omega)⟩
                    obtain ⟨nj, hnj⟩ : ∃ n, ns[i + 1]? = some n := ⟨_, List.getElem?_eq_getElem (by omega)⟩
                    have wi := win i ni (Nat.le_refl _) hni
                    have atj : atI (ns.map V.int) (1 + (i : Int)) = some (.int nj) := atI_at (by omega) (by rw [show ((1 : Int) + (i : Int)).toNat = i + 1 by omega]; exact vAt hnj)
                    have bad1 : ¬ (0 ≤ nj ∧ nj < (rows.length : Int)) → wayD rows ss gs (.tuple (ns.map .int)) = false := fun z => by
                      have y : (ns.map PyData.int).all (withinD 0 ((rows.length : Int) - 1)) = false := List.all_eq_false.mpr ⟨.int nj, List.mem_map.mpr ⟨nj, List.mem_of_getElem? hnj, rfl⟩, fun y => z (by
                        obtain ⟨i, e, y1, y2⟩ := within_int y
                        cases e
                        omega)⟩
                      rw [ew]
                      unfold walkL
                      rw [y, Bool.false_and, Bool.and_false, Bool.false_and]
                    refine ⟨_, rfl, _, rfl, a, _, _, _, rfl, rfl, at2, atj, _, _, rfl, rfl, _, rfl, ?_⟩
                    by_cases c1 : 0 ≤ nj
                    · refine ifT (decide_eq_true c1) ⟨_, rfl, ca', cs, rfl, .inr cat, _, _, rfl, rfl, _, rfl, ?_⟩
                      rw [lc]
                      by_cases c2 : nj < (rows.length : Int)
                      · have hrl : ni.toNat < rows.length := by omega
                        have hr' := List.getElem?_eq_getElem hrl
                        generalize rows[ni.toNat] = row at hr'
                        have hra : rowAt rows ni = row := by
                          unfold rowAt
                          rw [List.getD_eq_getElem?_getD, hr']
                          rfl
                        obtain ⟨b, hb, bat⟩ := ch_row ceach hr'
                        refine ifF (by rw [decide_eq_true c2]; rfl) ⟨_, rfl, _, rfl, a, _, _, _, rfl, rfl, at2, atj, _, rfl, _, rfl, _, rfl, _, _, rfl, rfl, a, _, 1 + (i : Int) - 1, _, rfl, rfl, at2, atI_at (by omega) (by rw [show ((1 : Int) + (i : Int) - 1).toNat = i by omega]; exact vAt hni), ca', cs, ni, _, rfl, rfl, cat, atI_at wi.1 hb, b, _, rfl, .inr bat, rfl, flat_ints row, _, rfl, ?_⟩
                        rw [if_pos rfl, inV_ints]
                        by_cases m1 : nj ∈ row
                        · refine ifF (by rw [decide_eq_true m1]; rfl) ⟨_, _, rfl, rfl, fun m n hm hn => ?_, ?_⟩
                          · by_cases e : m = i + 1
                            · subst e
                              rw [hnj] at hn
                              cases hn
                              exact ⟨c1, c2⟩
                            · exact win m n (by omega) hn
                          · rw [List.range_succ, List.all_append, lnk, Bool.true_and, List.all_cons, List.all_nil, Bool.and_true, intAt_ints hni, intAt_ints hnj]
                            exact decide_eq_true ⟨wi.1, by rw [hra]; exact m1⟩
                        · refine ifT (by rw [decide_eq_false m1]; rfl) (q0 ?_ _ s2)
                          have y : ((List.range ((ns.map PyData.int).length - 1)).all fun k => linkB rows (intAt (ns.map .int) k) (intAt (ns.map .int) (k + 1))) = false := List.all_eq_false.mpr ⟨i, List.mem_range.mpr (by rw [List.length_map]; exact hi), fun y => m1 (by
                            rw [intAt_ints hni, intAt_ints hnj] at y
                            have := (of_decide_eq_true y).2
                            rw [hra] at this
                            exact this)⟩
                          rw [ew]
                          unfold walkL
                          rw [y, Bool.and_false, Bool.and_false, Bool.false_and]
                      · exact ifT (by rw [decide_eq_false c2]; rfl) (ifT rfl (q0 (bad1 fun z => c2 z.2) _ s2))
                    · exact ifF (decide_eq_false c1) ⟨_, rfl, ifT rfl (ifT rfl (q0 (bad1 fun z => c1 z.1) _ s2))⟩
                  · obtain ⟨o4, o5, rfl, rfl, win, lnk⟩ := h
                    have r := q _ s2
                    have e : wayD rows ss gs (.tuple (ns.map .int)) = true := by
                      have y : (ns.map PyData.int).all (withinD 0 ((rows.length : Int) - 1)) = true := by
                        rw [all_ints]
                        refine List.all_eq_true.mpr fun n hn => ?_
                        obtain ⟨m, hm⟩ := List.getElem?_of_mem hn
                        have := win m n (by have := (List.getElem?_eq_some_iff.mp hm).1; omega) hm
                        show (decide (0 ≤ n) && decide (n ≤ (rows.length : Int) - 1)) = true
                        rw [decide_eq_true this.1, decide_eq_true (by omega)]
                        rfl
                      rw [ew]
                      unfold walkL
                      rw [y, List.length_map, lnk, eqE, hem, decide_eq_true m0, decide_eq_true m9]
                      rfl
                    rw [e] at r
                    exact r
              · refine ifT (by rw [decide_eq_false m9]; rfl) (q0 ?_ _ s2)
                rw [ew, decide_eq_false m9, Bool.and_false, Bool.and_false]
            · refine ifT (by rw [decide_eq_false m0]; rfl) (ifT rfl (q0 ?_ _ s2))
              rw [ew, decide_eq_false m0, Bool.false_and, Bool.and_false]
end
/-! _law_is_bar -/
section
variable {P : Program} {w : World} {K : PySem.W.Frag} {mg : Str → Option Value} {base : Heap} {f : Addr} {fd : FuncData}
abbrev lbN : List Str := ["_law_chart_here", "_law_starts", "_law_goals", "_law_thing", "_law_one", "_law_to"]
theorem scLBar : FnScope lbN ["_law_chart_here", "_law_starts", "_law_goals", "_law_thing"] (defScope sLIsBar) := ⟨rfl, rfl, rfl, by decide +kernel, rfl, by decide +kernel, by decide +kernel⟩
theorem ints_get {ns : List Int} {i : Nat} {v : V} (h : (ns.map V.int)[i]? = some v) : ∃ n, ns[i]? = some n ∧ v = .int n := by
  rw [List.getElem?_map] at h
  cases e : ns[i]? with
  | none => rw [e] at h; cases h
  | some n => rw [e] at h; exact ⟨n, rfl, (Option.some.inj h).symm⟩
/-- not all of a row -/
theorem range_ints (ms : List Int) (p : Int → Bool) : ((List.range (ms.map V.int).length).all fun i => !p (ms.getD i 0)) = ms.all fun n => !p n := by
  rw [List.length_map]
  exact range_all ms _ _ fun i x hx => by rw [List.getD_eq_getElem?_getD, hx]; rfl
theorem ok_lIsBar {k : Nat} (F : Fun K "_law_is_bar" "_law_is_bar" sLIsBar f fd) (T : Free mg) (hS : mg "set" = none) (hO : mg "sorted" = none) (cW : Cal P w K mg base "_law_whole" k ["_law_thing"] (spWhole K)) : FnOk P w K mg base CX0 (k + 1) f fd ["_law_chart_here", "_law_starts", "_law_goals", "_law_thing"] (spLWay K barD) := by
  refine F.ok scLBar (fun vs H Q E h => ?_) (fun cdv A outer s H vs Q E hr h => ?_)
  · obtain ⟨x, y, z, t, rows, ss, gs, d, rfl, _⟩ := h
    rfl
  obtain ⟨x, y, z, t, rows, ss, gs, d, rfl, ca, q⟩ := h
  refine ⟨_, pss_cons (ps_if (PW.pt (pw_or (pt_not (pt_val (pe_callB call_isi rfl T.isi (by decide +kernel) (pa_cons (pv 3) (pa_cons (pe_bltn (v := .ty "tuple") rfl T.tuple (by decide +kernel) rfl) pa_nil)))))
      (pw_or1 (pt_cmpR (op_neLE hr.units) (pe_lc (own := [("_law_one", 4)]) (g := gName 4) (tt := tNot (tB (tCall (spWhole K) [] E0 (tCons (tVar 4) tNil)))) (te := tVar 4) rfl scLBar.nd (pi_tup (pv 3)) (blkOk_by (own := [("_law_one", 4)]) (N := lbN) (sc := defScope sLIsBar) (by decide +kernel))
        (fun _ _ _ _ _ => pg_name (i := 4) scLBar.nd rfl (Or.inl rfl)) (fun _ _ _ _ _ => pts_one (pt_not (pt_val (pe_cal cW hr rfl (pa_cons (pv 4) pa_nil))))) (fun _ _ _ _ _ => pv 4)) (pe_lst pa_nil) (nomark _)))))
      (pss_one (ps_ret pe_bl)) pss_nil)
    (pss_cons (ps_if (PW.pt (pw_or (pt_cmpR (op_neD hr.units) (pe_callTy call_list_of rfl T.list (by decide +kernel) (pa_cons (pv 3) pa_nil)) (pe_callB (cr_sortedSet rfl) rfl hO (by decide +kernel) (pa_cons (pe_callTy (cr_setTI rfl) rfl hS (by decide +kernel) (pa_cons (pv 3) pa_nil)) pa_nil)) (nomark _))
      (pw_or1 (pt_cmpR (op_neLE hr.units) (pe_lc (own := [("_law_one", 4)]) (g := gName 4) (tt := tNot (tTest (tChain (rI0 fun i j => .bl (decide (i ≤ j))) (rI0 fun i j => .bl (decide (i < j))) (tC (.int 0)) (tVar 4) (tCB (rLen K) (tCons (tVar 0) tNil))))) (te := tVar 4) rfl scLBar.nd (pi_tup (pv 3)) (blkOk_by (own := [("_law_one", 4)]) (N := lbN) (sc := defScope sLIsBar) (by decide +kernel))
        (fun _ _ _ _ _ => pg_name (i := 4) scLBar.nd rfl (Or.inl rfl)) (fun _ _ _ _ _ => pts_one (pt_not (pt_chain op_le op_lt pe_int (pv 4) (pe_callB call_len_seq rfl T.len PySem.boot_len (pa_cons (pv 0) pa_nil))))) (fun _ _ _ _ _ => pv 4)) (pe_lst pa_nil) (nomark _)))))
      (pss_one (ps_ret pe_bl)) pss_nil)
    (pss_cons (ps_if (PW.pt (pw_or (pt_cmpR (op_neLE hr.units) (pe_lc (own := [("_law_one", 4)]) (g := gName 4) (tt := tTest (tOp (rIn K true) (tVar 4) (tVar 3))) (te := tVar 4) rfl scLBar.nd (pi_tup (pv 1)) (blkOk_by (own := [("_law_one", 4)]) (N := lbN) (sc := defScope sLIsBar) (by decide +kernel))
        (fun _ _ _ _ _ => pg_name (i := 4) scLBar.nd rfl (Or.inl rfl)) (fun _ _ _ _ _ => pts_one (pt_cmpR op_notIn_seq (pv 4) (pv 3) rfl)) (fun _ _ _ _ _ => pv 4)) (pe_lst pa_nil) (nomark _))
      (pw_or1 (pt_cmpR (op_neLE hr.units) (pe_lc (own := [("_law_one", 4)]) (g := gName 4) (tt := tTest (tOp (rIn K false) (tVar 4) (tVar 3))) (te := tVar 4) rfl scLBar.nd (pi_tup (pv 2)) (blkOk_by (own := [("_law_one", 4)]) (N := lbN) (sc := defScope sLIsBar) (by decide +kernel))
        (fun _ _ _ _ _ => pg_name (i := 4) scLBar.nd rfl (Or.inl rfl)) (fun _ _ _ _ _ => pts_one (pt_cmpR op_in_seq (pv 4) (pv 3) rfl)) (fun _ _ _ _ _ => pv 4)) (pe_lst pa_nil) (nomark _)))))
      (pss_one (ps_ret pe_bl)) pss_nil)
    (pss_cons (ps_for PassesOwn.never rfl (pi_tup (pv 3)) (pg_name (i := 4) scLBar.nd rfl (.inl rfl))
      (pss_one (ps_if (pt_cmpR (op_neLE hr.units) (pe_lc (own := [("_law_to", 5)]) (g := gName 5) (tt := tTest (tOp (rIn K true) (tVar 5) (tVar 3))) (te := tVar 5) rfl scLBar.nd (pi_tup (pe_ix ix_tup (pv 0) (pv 4) (fun _ _ => rfl)))
        (blkOk_by (own := [("_law_to", 5)]) (N := lbN) (sc := defScope sLIsBar) (by decide +kernel))
        (fun _ _ _ _ _ => pg_name (i := 5) scLBar.nd rfl (Or.inl rfl)) (fun _ _ _ _ _ => pts_one (pt_cmpR op_notIn_seq (pv 5) (pv 3) rfl)) (fun _ _ _ _ _ => pv 5)) (pe_lst pa_nil) (nomark _)) (pss_one (ps_ret pe_bl)) pss_nil)))
    (pss_one (ps_ret pe_bl))))), ?_⟩
  have q0 : barD rows ss gs d = false → ∀ H', Same H H' → Q (.bl false) H' := fun z H' e => by have := q H' e; rw [z] at this; exact this
  refine ⟨_, rfl, t, _, _, _, _, rfl, .ty "tuple", ty_of ca.th, kit_tuple d, _, rfl, ?_⟩
  cases ht : tupleD d with
  | false =>
    have e : barD rows ss gs d = false := by cases d <;> first | rfl | cases ht
    exact ifT rfl (ifT rfl (q0 e H (Same.refl _)))
  | true =>
    obtain ⟨es, rfl⟩ : ∃ es, d = .tuple es := by
      cases d <;> first | exact ⟨_, rfl⟩ | cases ht
    have les := ca.ln es rfl
    have hth := ca.th
    have bad0 : pointsD rows.length (.tuple es) = false → barD rows ss gs (.tuple es) = false := fun z => by
      show (pointsD rows.length (.tuple es) && _) = false
      rw [z, Bool.false_and]
    cases hth with
    | @tup a xs _ at_ each =>
      have lx := dpAll_len each
      refine ifF rfl (ne_nil (xs := xs) (σ := [some x, some y, some z, some (.ref a), none, none]) (fun i => !wholeD ((es[i]?).getD .none)) (fun Q h => ⟨_, rfl, h⟩) at_ (by omega) (by simp) (fun i v H' R' hv sm h => ?_) (fun H2 s2 => ?_))
      · obtain ⟨d, hd, hdv⟩ := dpAll_get' each hv
        refine ⟨_, rfl, v, d, rfl, dp_same sm hdv, _, rfl, ?_⟩
        rw [hd] at h
        exact h
      · have e1 : ((List.range xs.length).all fun i => !!wholeD ((es[i]?).getD .none)) = es.all wholeD := by
          rw [lx]
          exact range_all es _ _ fun i x hx => by rw [hx, Bool.not_not]; rfl
        rw [e1]
        cases hw : es.all wholeD with
        | false =>
          refine ifT rfl (q0 (bad0 ?_) _ s2)
          obtain ⟨e, he, hne⟩ := List.all_eq_false.mp hw
          exact pts_not es 0 ⟨e, he, by simpa using hne⟩
        | true =>
          obtain ⟨ns, rfl⟩ := whole_ints es fun z hz => List.all_eq_true.mp hw z hz
          have ex : xs = ns.map V.int := ints_dp ns xs each
          subst ex
          rw [List.length_map] at les
          have etoI : (ns.map PyData.int).map toI = ns := by rw [List.map_map]; exact List.map_id' _
          have eb : barD rows ss gs (.tuple (ns.map .int)) = (ptsFrom rows.length 0 (ns.map .int) && barL rows ss gs ns) := by
            show (pointsD rows.length (.tuple (ns.map .int)) && barL rows ss gs ((ns.map PyData.int).map toI)) = _
            rw [etoI]
            rfl
          have at2 := sqT_same s2 at_
          refine ifF rfl ⟨_, rfl, a, _, rfl, .inr at2, fun p4 h4 => ?_⟩
          have n4 := same_new h4 (.lst (ns.map V.int))
          have s4 := s2.trans n4
          refine ⟨_, rfl, a, ns, rfl, sqT_same s4 at_, by omega, fun p5 c5 hc5 h5 => ?_⟩
          have n5 := same_new h5 (SetO w p5 (fun j => decide (j ∈ ns)) c5)
          have s5 := s4.trans n5
          refine ⟨p5, _, c5, rfl, upd_same, by omega, fun ms p6 srt mem _ h6 => ?_⟩
          have n6 := same_new h6 (.lst (ms.map V.int))
          have s6 := s5.trans n6
          refine ⟨.list (ns.map .int), .list (ms.map .int), .lst (SqL.of ((n5.trans n6) _ _ upd_same)) (dp_ints ns), .lst (SqL.of upd_same) (dp_ints ms), shaped_ints ns, shaped_ints ms, _, rfl, ?_⟩
          rw [eqv_ints, sorted_same srt mem]
          by_cases hp : ns.Pairwise (· < ·)
          · rw [decide_eq_true hp]
            have c6 := ca.same s6
            have at6 := sqT_same s6 at_
            have hch := c6.ch
            obtain ⟨sa, rfl, sat⟩ := ints_at c6.st
            obtain ⟨ga, rfl, gat⟩ := ints_at c6.go
            cases hch with
            | @tup ca' cs _ cat ceach =>
              have lc : cs.length = rows.length := by have := dpAll_len ceach; rw [List.length_map] at this; exact this
              refine ifF rfl (ne_nil (xs := ns.map V.int) (σ := [some (.ref ca'), some (.ref sa), some (.ref ga), some (.ref a), none, none]) (fun i => !(decide (0 ≤ ns.getD i 0) && decide (ns.getD i 0 < (rows.length : Int)))) (fun Q h => ⟨_, rfl, h⟩) at6 (by rw [List.length_map]; omega) (by simp) (fun i v H' R' hv sm h => ?_) (fun H7 s7 => ?_))
              · obtain ⟨n, hn, rfl⟩ := ints_get hv
                rw [List.getD_eq_getElem?_getD, hn] at h
                have h : R' (!(decide (0 ≤ n) && decide (n < (rows.length : Int)))) H' := h
                refine ⟨_, rfl, _, _, rfl, rfl, _, rfl, ?_⟩
                by_cases c1 : 0 ≤ n
                · rw [decide_eq_true c1, Bool.true_and] at h
                  refine ifT (decide_eq_true c1) ⟨_, rfl, ca', cs, rfl, .inr (sqT_same sm cat), _, _, rfl, rfl, _, rfl, ?_⟩
                  rw [lc]
                  exact h
                · rw [decide_eq_false c1, Bool.false_and] at h
                  exact ifF (decide_eq_false c1) ⟨_, rfl, h⟩
              · have e2 := range_ints ns fun n => !(decide (0 ≤ n) && decide (n < (rows.length : Int)))
                rw [e2]
                have s67' := s7
                have s7 := s6.trans s7
                cases hin : ns.all fun n => !!(decide (0 ≤ n) && decide (n < (rows.length : Int))) with
                | false =>
                  refine ifT rfl (q0 (bad0 ?_) _ s7)
                  show ptsFrom rows.length 0 (ns.map .int) = false
                  cases z : ptsFrom (rows.length : Int) 0 (ns.map .int) with
                  | false => rfl
                  | true =>
                    obtain ⟨n, hn, hne⟩ := List.all_eq_false.mp hin
                    have := ((pts_law ns 0).mp z).2 n hn
                    simp only [Bool.not_not, Bool.and_eq_true, decide_eq_true_eq] at hne
                    exact absurd this hne
                | true =>
                  have hns : ∀ n ∈ ns, 0 ≤ n ∧ n < (rows.length : Int) := fun n hn => by
                    have := List.all_eq_true.mp hin n hn
                    simpa only [Bool.not_not, Bool.and_eq_true, decide_eq_true_eq] using this
                  have hpt : ptsFrom rows.length 0 (ns.map .int) = true := (pts_law ns 0).mpr ⟨hp, hns⟩
                  rw [hpt, Bool.true_and] at eb
                  have at7 := sqT_same s7 at_
                  have iffB : barL rows ss gs ns = ((ss.all fun i => decide (i ∈ ns)) && ((ns.all fun p => (rowAt rows p).all fun i => decide (i ∈ ns)) && !(gs.any fun i => decide (i ∈ ns)))) := rfl
                  have s67 := s67'
                  refine ifF rfl ?_
                  dsimp only [tNext, tSeq, tIfS, tOr]
                  refine (ne_nil (xs := ss.map V.int) (σ := [some (.ref ca'), some (.ref sa), some (.ref ga), some (.ref a), none, none]) (fun i => !decide (ss.getD i 0 ∈ ns)) (fun Q h => ⟨_, rfl, h⟩) (sqT_same s67 sat) (by rw [List.length_map]; have := ca.sl; omega) (by simp) (fun i v H' R' hv sm h => ?_) (fun H8 s8 => ?_))
                  · obtain ⟨n, hn, rfl⟩ := ints_get hv
                    rw [List.getD_eq_getElem?_getD, hn] at h
                    refine ⟨_, rfl, _, rfl, a, _, rfl, .inr (sqT_same sm at7), rfl, flat_ints ns, _, rfl, ?_⟩
                    rw [if_pos rfl, inV_ints]
                    exact h
                  · rw [range_ints ss fun n => !decide (n ∈ ns)]
                    have s78 := s67.trans s8
                    have s8' := s7.trans s8
                    cases h3 : ss.all fun n => !!decide (n ∈ ns) with
                    | false =>
                      refine ifT rfl (ifT rfl (q0 ?_ _ s8'))
                      simp only [Bool.not_not] at h3
                      rw [eb, iffB, h3, Bool.false_and]
                    | true =>
                      simp only [Bool.not_not] at h3
                      refine ifF rfl (ne_nil (xs := gs.map V.int) (σ := [some (.ref ca'), some (.ref sa), some (.ref ga), some (.ref a), none, none]) (fun i => decide (gs.getD i 0 ∈ ns)) (fun Q h => ⟨_, rfl, h⟩) (sqT_same s78 gat) (by rw [List.length_map]; have := ca.gl; omega) (by simp) (fun i v H' R' hv sm h => ?_) (fun H9 s9 => ?_))
                      · obtain ⟨n, hn, rfl⟩ := ints_get hv
                        rw [List.getD_eq_getElem?_getD, hn] at h
                        refine ⟨_, rfl, _, rfl, a, _, rfl, .inr (sqT_same (s8'.trans sm) at_), rfl, flat_ints ns, _, rfl, ?_⟩
                        rw [if_neg (show ¬ (false = true) by decide), inV_ints]
                        exact h
                      · rw [range_ints gs fun n => decide (n ∈ ns)]
                        have s79 := s78.trans s9
                        have s9' := s8'.trans s9
                        have eany : (gs.any fun i => decide (i ∈ ns)) = !(gs.all fun n => !decide (n ∈ ns)) := by
                          rw [List.not_all_eq_any_not]
                          simp only [Bool.not_not]
                        cases h4 : gs.all fun n => !decide (n ∈ ns) with
                        | false =>
                          refine ifT rfl (q0 ?_ _ s9')
                          rw [eb, iffB, eany, h4]
                          simp
                        | true =>
                          refine ifF rfl ⟨_, rfl, a, rfl, ⟨_, sqT_same s9' at_⟩, ?_⟩
                          refine for_tup (xs := ns.map V.int) (fun i σ H' => ∃ o4 o5, σ = [some (.ref ca'), some (.ref sa), some (.ref ga), some (.ref a), o4, o5] ∧ Same H9 H' ∧ ∀ p ∈ ns.take i, ∀ j ∈ rowAt rows p, j ∈ ns)
                            ⟨none, none, rfl, Same.refl _, fun p hp => by simp at hp⟩ (fun i σ H' _ h => by obtain ⟨_, _, _, sm, _⟩ := h; exact sqT_same (s9'.trans sm) at_) (fun i v σ H' hv h => ?_) (fun σ H' h => ?_)
                          · obtain ⟨o4, o5, rfl, sm, done⟩ := h
                            obtain ⟨p, hpi, rfl⟩ := ints_get hv
                            have hpm := hns p (List.mem_of_getElem? hpi)
                            have hrl : p.toNat < rows.length := by omega
                            have hr' := List.getElem?_eq_getElem hrl
                            generalize rows[p.toNat] = row at hr'
                            have hra : rowAt rows p = row := by
                              unfold rowAt
                              rw [List.getD_eq_getElem?_getD, hr']
                              rfl
                            obtain ⟨b, hb, bat⟩ := ch_row ceach hr'
                            have hlen := ca.rw.len
                            have hrow := (ca.rw.row row (List.mem_of_getElem? hr')).1
                            dsimp only [gName, tNext, tSeq, tIfS, tOr]
                            refine ne_nil (xs := row.map V.int) (σ := [some (.ref ca'), some (.ref sa), some (.ref ga), some (.ref a), some (.int p), o5]) (fun i => !decide (row.getD i 0 ∈ ns)) (fun Q h => ⟨_, rfl, _, rfl, ca', cs, p, _, rfl, rfl, sqT_same (s79.trans sm) cat, atI_at hpm.1 hb, h⟩) (sqT_same (s79.trans sm) bat) (by rw [List.length_map]; omega) (by simp) (fun i v H'' R' hv sm2 h => ?_) (fun H'' s10 => ?_)
                            · obtain ⟨n, hn, rfl⟩ := ints_get hv
                              rw [List.getD_eq_getElem?_getD, hn] at h
                              refine ⟨_, rfl, _, rfl, a, _, rfl, .inr (sqT_same (s9'.trans (sm.trans sm2)) at_), rfl, flat_ints ns, _, rfl, ?_⟩
                              rw [if_pos rfl, inV_ints]
                              exact h
                            · rw [range_ints row fun n => !decide (n ∈ ns)]
                              cases h5 : row.all fun n => !!decide (n ∈ ns) with
                              | false =>
                                refine ifT rfl (q0 ?_ _ (s9'.trans (sm.trans s10)))
                                simp only [Bool.not_not] at h5
                                have y : (ns.all fun p => (rowAt rows p).all fun i => decide (i ∈ ns)) = false := List.all_eq_false.mpr ⟨p, List.mem_of_getElem? hpi, by rw [hra, h5]; decide⟩
                                rw [eb, iffB, y, Bool.false_and, Bool.and_false]
                              | true =>
                                simp only [Bool.not_not] at h5
                                refine ifF rfl ⟨_, _, rfl, sm.trans s10, fun p' hp' => ?_⟩
                                rw [List.take_add_one, hpi] at hp'
                                rcases List.mem_append.mp hp' with hp' | hp'
                                · exact done p' hp'
                                · rw [show p' = p by simpa using hp', hra]
                                  exact fun j hj => of_decide_eq_true (List.all_eq_true.mp h5 j hj)
                          · obtain ⟨o4, o5, rfl, sm, done⟩ := h
                            rw [List.length_map, List.take_length] at done
                            have r := q _ (s9'.trans sm)
                            have y : (ns.all fun p => (rowAt rows p).all fun i => decide (i ∈ ns)) = true := List.all_eq_true.mpr fun p hp => List.all_eq_true.mpr fun j hj => decide_eq_true (done p hp j hj)
                            rw [eb, iffB, h3, y, eany, h4] at r
                            exact r
          · rw [decide_eq_false hp]
            refine ifT rfl (ifT rfl (q0 (bad0 ?_) _ s6))
            show ptsFrom rows.length 0 (ns.map .int) = false
            cases z : ptsFrom (rows.length : Int) 0 (ns.map .int) with
            | false => rfl
            | true => exact absurd ((pts_law ns 0).mp z).1 hp
end
/-! set(l), l a list of ints -/
section
open PySem.Spec PyProof.Rows
abbrev setObj (w : World) : Obj := { cls := .type "set", dict := none, data := .set #[] 0 (.fresh 0 0 (!w.params.followText "set-order")) }
set_option maxHeartbeats 3200000 in
theorem set_of_list {prog : Program} {w : World} {A : Around} {E : Value → Shared → Prop} {s : Shared} {l : Addr} {its : Array Value} (ns : List Int) {Q : Value → Shared → Prop} (calm : A.handled = none) (isL : s.heap.IsList l its) (hInt : IntsAre its.toList ns) (room : ns.length + 1 < scanBound)
    (k : ∀ (h' : Heap) (tk c : Nat), SetR w h' s.heap.objs.size (fun j => decide (j ∈ ns)) c → c ≤ ns.length → (∀ b o, s.heap.get? b = some o → h'.get? b = some o) → Q (.ref s.heap.objs.size) { s with heap := h', toks := tk }) :
    wpAny (model prog w) A (call (.type "set") [.ref l]) Q E s := by
  have len : its.size = ns.length := by rw [← Array.length_toList]; exact IntsAre.length hInt
  obtain ⟨_, _, mro⟩ := F.called_set.mro
  have f1 := F.called_set.made; have f2 := F.called_set.sub; have f3 := F.called_set.notType; have f4 := F.called_set.canCreate; have f5 := F.typeCall_set_1 (.ref l)
  refine wpAny_call (codeAny_of_tree (show wpAny _ _ (callAny (.type "set") _) _ _ _ from wpAny_pure ⟨Code.quiet_builtin _ (by decide +kernel), codeAny_builtin F.entry_type_call ?_⟩))
  rw [Around.under_plain (weight_type_call_type "set" [.ref l] []) rfl]
  repeat (any_goals (first | assumption | wp_step))
  refine codeAny_mono (code_set_led1 (.ref l) (E := E) (Q₁ := fun obj u => obj = .ref s.heap.objs.size ∧ u = { s with heap := s.heap.push (setObj w) }) ⟨rfl, rfl⟩) fun r u hr => ?_
  match r, hr with
  | .error e, hr => exact hr
  | .ok .next, hr => exact hr.elim
  | .ok .brk, hr => exact hr.elim
  | .ok .cont, hr => exact hr.elim
  | .ok (.ret obj), hr =>
    obtain ⟨rfl, rfl⟩ := hr
    have atS : (s.heap.push (setObj w)).get? s.heap.objs.size = some (setObj w) := Heap.get?_push_size _ rfl
    have isS : Shared.TypeIs { s with heap := s.heap.push (setObj w) } (.ref s.heap.objs.size) "set" := ⟨_, atS, rfl⟩
    have f6 := F.called_set.init.lookup; have f7 := F.called_set.init.bind (.ref s.heap.objs.size)
    repeat (any_goals (first | assumption | wp_step))
    refine codeAny_mono (codeAny_call_builtin (R := wants (fun r u => r = .none ∧ ∃ h' tk c, u = { s with heap := h', toks := tk } ∧ SetR w h' s.heap.objs.size (fun j => decide (j ∈ ns)) c ∧ c ≤ ns.length ∧ ∀ b o, s.heap.get? b = some o → h'.get? b = some o) E) F.called_set.init.plain F.entry_set_init (check_set_init_1 isS ?_)) fun r2 u2 hr2 => ?_
    · obtain ⟨⟨oc, od, oda, osl⟩, ho, hcl, nl, hdl⟩ := isL
      dsimp only at hcl hdl
      subst hcl hdl
      have ho' : (s.heap.push (setObj w)).get? l = some { cls := .type "list", dict := od, data := .seq its nl, slots := osl } := Heap.get?_push_of_some _ ho
      have g1 := F.sub_list_set; have g2 := F.sub_list_frozenset
      have g3 : (Value.type "list" == Value.type "dict") = false := by decide
      have isL1 : (s.heap.push (setObj w)).IsList l its := ⟨_, ho', rfl, nl, rfl⟩
      have below : l < s.heap.objs.size := Heap.lt_size ho
      have sz : (s.heap.push (setObj w)).objs.size = s.heap.objs.size + 1 := Heap.size_push ..
      unfold Builtin.«set.__init__» noKeywords Builtin.Frozenset.updateFrom
      generalize hPI : pyIter = PI
      wp_walk
      subst hPI
      refine wpAny_pyIter_list isL1 (wpAny_bind (wpAny_runValue ?_))
      refine set_update_ints ((Walks.list (show A.in1.in1.in1.handled = none by simp [calm]) _ l (by rw [sz]; exact Nat.ne_of_lt (Nat.lt_succ_of_lt below)) its).toS) s.heap.objs.size
        (by rw [sz]; simp only [List.mem_cons, List.mem_singleton, List.not_mem_nil, or_false, not_or]; exact ⟨Nat.ne_of_lt (Nat.lt_succ_self _), Nat.ne_of_gt below⟩) ns len room (fun i v hv => ?_) (its.size - 0) 0 _ (by omega) (Nat.zero_le _)
        ⟨⟨_, Heap.get?_push_size _ rfl, rfl, rfl⟩, isL1.push _⟩ ⟨0, Nat.le_refl 0, setR_new_at (Heap.get?_push_of_some _ atS)⟩ fun u' c' moved hc' hS' => ?_
      · have hi : i < ns.length := by rw [← len]; exact (Array.getElem?_eq_some_iff.mp hv).1
        obtain ⟨t, e⟩ := IntsAre.int_at hInt i v (by rw [Array.getElem?_toList]; exact hv)
        refine ⟨ns[i], t, List.getElem?_eq_getElem hi, ?_⟩
        rw [e, List.getD_eq_getElem?_getD, List.getElem?_eq_getElem hi] <;> rfl
      · obtain ⟨h', g', d', tk', os'⟩ := u'
        obtain rfl : g' = s.gens := moved.gens
        obtain rfl : d' = s.drawn := moved.drawn
        obtain rfl : os' = s.os := moved.os
        show wpAny _ _ _ _ _ _
        refine wpAny_pure (show wpAny _ _ (ret Value.none) _ _ _ from wpAny_pure ⟨rfl, h', tk', c', rfl, hS', by omega, fun b o e => ?_⟩)
        have lt := Heap.lt_size e
        exact moved.heap b o (by rw [sz]; simp only [List.mem_cons, List.mem_singleton, List.not_mem_nil, or_false, not_or]; exact ⟨Nat.ne_of_lt lt, Nat.ne_of_lt (Nat.lt_succ_of_lt lt)⟩) (Heap.get?_push_of_some _ (Heap.get?_push_of_some _ e))
    · match r2, hr2 with
      | .error e, hr2 => exact hr2
      | .ok .next, hr2 => exact hr2.elim
      | .ok .brk, hr2 => exact hr2.elim
      | .ok .cont, hr2 => exact hr2.elim
      | .ok (.ret v), hr2 =>
        obtain ⟨rfl, h', tk, c', rfl, hS', hc', keep⟩ := hr2
        repeat (any_goals (first | assumption | wp_step))
        exact k _ _ _ hS' hc' keep
variable {X : Cx}
def rSetLI (K : PySem.W.Frag) (w : World) : List V → Hp → VK → Prop := fun xs H Q => ∃ (a : Addr) (ns : List Int), xs = [.ref a] ∧ SqL K H a (ns.map V.int) ∧ ns.length < 60 ∧ ∀ (p : Addr) (c : Nat), c ≤ ns.length → H p = none → Q (.ref p) (upd H p (SetO w p (fun j => decide (j ∈ ns)) c))
theorem cr_setLI (hc : X.calm = true) : CallR X (.type "set") (rSetLI X.K X.w) := by
  intro pins s σ H vs us Q I r h
  obtain ⟨a, ns, rfl, ha, hl, q⟩ := h
  rw [Vals.ref1 r]
  obtain ⟨its, rv, ⟨o1, n1, g1, c1, _, d1⟩, hz⟩ := I.list ha
  refine set_of_list ns (I.ok.hd hc) ⟨o1, g1, c1, n1, d1⟩ (by simpa using intsAre_of rv) (by unfold scanBound; omega) fun h' tk c R hc' hk => ?_
  exact ⟨.ref _, _, I.laid (t' := tk) (o := SetO X.w s.heap.objs.size (fun j => decide (j ∈ ns)) c) hk (Nat.le_refl _) (setO_new R), rfl, q _ c hc' (I.hok.fresh (Nat.le_refl _))⟩
end
/-! _law_closed -/
theorem nodup_len : ∀ (n : Nat) (l : List Int), l.Nodup → (∀ x ∈ l, 0 ≤ x ∧ x < (n : Int)) → l.length ≤ n
  | 0, l, _, h => by
    cases l with
    | nil => exact Nat.le_refl _
    | cons a r => have := h a List.mem_cons_self; omega
  | n + 1, l, nd, h => by
    by_cases hm : (n : Int) ∈ l
    · have ih := nodup_len n (l.erase (n : Int)) (nd.erase _) fun x hx => by
        obtain ⟨h1, h2⟩ := nd.mem_erase_iff.mp hx
        have := h x h2
        omega
      rw [List.length_erase_of_mem hm] at ih
      omega
    · have ih := nodup_len n l nd fun x hx => by
        have := h x hx
        have : x ≠ (n : Int) := fun e => hm (by rw [← e]; exact hx)
        omega
      omega
/-- [x for x in t if ..], t of ints -/
theorem lc_fil {K : PySem.W.Frag} {te0 : TE} {a : Addr} {row : List Int} {j : Nat} {tt : TT} {σ : L2.St} {H : Hp} {Q : VK} (p : Int → Bool) (h0 : ∀ Q : VK, Q (.ref a) H → te0 σ H Q) (at_ : SqT K H a (row.map V.int)) (hl : row.length < 1000) (hj : j < σ.length)
    (hs : ∀ (n : Int) (H' : Hp) (R' : Bool → Hp → Prop), n ∈ row → Same H H' → R' (p n) H' → tt (σ.set j (some (.int n))) H' R')
    (hd : ∀ D H', Same H H' → H' D = some (.lst ((row.filter p).map V.int)) → H D = none → Q (.ref D) H') : tLc (iTup K te0) (gName j) tt (tVar j) [j] σ H Q := by
  refine h0 _ ⟨a, rfl, ⟨_, at_⟩, fun D hD => ?_⟩
  have w1 : wipe σ [j] = σ.set j none := rfl
  have w2 : ∀ x, (wipe σ [j]).set j (some x) = σ.set j (some x) := fun x => by rw [w1, List.set_set]
  refine lc_tup (xs := row.map V.int) (fun i H' => Same H H' ∧ H' D = some (.lst (((row.take i).filter p).map V.int))) ⟨same_new hD _, upd_same⟩ (fun i H' _ h => sqT_same h.1 at_) (fun i x H' hx h => ?_) (fun H' h => ?_)
  · obtain ⟨sm, hz⟩ := h
    obtain ⟨n, hn, rfl⟩ := ints_get hx
    have et : row.take (i + 1) = row.take i ++ [n] := by rw [List.take_add_one, hn]; rfl
    show wipe ((wipe σ [j]).set j (some (V.int n))) [j] = wipe σ [j] ∧ _
    rw [w2]
    refine ⟨by show (σ.set j (some (V.int n))).set j none = σ.set j none; rw [List.set_set], hs n H' _ (List.mem_of_getElem? hn) sm ?_⟩
    cases hp : p n with
    | true =>
      refine ifT rfl ⟨_, by rw [List.getElem?_set_self hj], _, hz, Nat.lt_of_lt_of_le (show _ < 1000 from ?_) (small (Nat.le_refl _)), fun b' o hb' => by rw [upd_ne (ne_of_none hb' hD)]; exact sm b' o hb', ?_⟩
      · rw [List.length_map]
        exact Nat.lt_of_le_of_lt (Nat.le_trans (List.length_filter_le _ _) (by rw [List.length_take]; omega)) hl
      · rw [upd_same, et, List.filter_append, List.map_append, List.filter_cons_of_pos hp, List.filter_nil]
        rfl
    | false =>
      refine ifF rfl ⟨sm, ?_⟩
      rw [et, List.filter_append, List.filter_cons_of_neg (by rw [hp]; decide), List.filter_nil, List.append_nil]
      exact hz
  · obtain ⟨sm, hz⟩ := h
    rw [List.length_map, List.take_length] at hz
    exact hd D H' sm hz hD
section
variable {P : Program} {w : World} {K : PySem.W.Frag} {mg : Str → Option Value} {base : Heap} {f : Addr} {fd : FuncData}
def spClosed (K : PySem.W.Frag) : Sp := fun vs H Q _ => ∃ (x y : V) (rows : List (List Int)) (is : List Int), vs = [x, y] ∧ Dp K H x (chD rows) ∧ RwOk rows ∧ (∀ ns ∈ rows, ns.Nodup) ∧ Dp K H y (.tuple (is.map .int)) ∧ is.length ≤ 25 ∧ (∀ i ∈ is, 0 ≤ i ∧ i < (rows.length : Int)) ∧
  ∀ (p : Addr) (ms : List Int) (H' : Hp), Same H H' → SqT K H' p (ms.map V.int) → ms.length ≤ rows.length → (∀ i ∈ ms, 0 ≤ i ∧ i < (rows.length : Int)) → Q (.ref p) H'
abbrev clN : List Str := ["_law_chart_here", "_law_starts", "_law_found", "_law_one", "_law_point", "_law_to"]
theorem scClosed : FnScope clN ["_law_chart_here", "_law_starts"] (defScope sClosed) := ⟨rfl, rfl, rfl, by decide +kernel, rfl, by decide +kernel, by decide +kernel⟩
theorem ok_closed {k : Nat} (F : Fun K "_law_closed" "_law_closed" sClosed f fd) (T : Free mg) (hS : mg "set" = none) (hO : mg "sorted" = none) : FnOk P w K mg base CX0 (k + 1) f fd ["_law_chart_here", "_law_starts"] (spClosed K) := by
  refine F.ok scClosed (fun vs H Q E h => ?_) (fun cdv A outer s H vs Q E hr h => ?_)
  · obtain ⟨x, y, rows, is, rfl, _⟩ := h
    rfl
  obtain ⟨x, y, rows, is, rfl, hx, hrw, hnd, hy, lis, his, q⟩ := h
  refine ⟨_, pss_cons (ps_set (i := 2) scClosed.nd rfl (.inr rfl) (pe_callTy call_list_of rfl T.list (by decide +kernel) (pa_cons (pv 1) pa_nil)))
    (pss_cons (ps_for PassesOwn.never rfl (pi_range1 rfl T.range (pa_cons (pe_callB call_len_seq rfl T.len PySem.boot_len (pa_cons (pv 0) pa_nil)) pa_nil)) (pg_name (i := 3) scClosed.nd rfl (.inl rfl))
      (pss_one (ps_for PassesOwn.never rfl (pi_list (pe_callTy call_list_of rfl T.list (by decide +kernel) (pa_cons (pv 2) pa_nil))) (pg_name (i := 4) scClosed.nd rfl (.inl rfl))
        (pss_one (ps_set (i := 2) scClosed.nd rfl (.inr rfl) (pe_op op_cat (pv 2) (pe_lc (own := [("_law_to", 5)]) (g := gName 5) (tt := tTest (tOp (rIn K true) (tVar 5) (tVar 2))) (te := tVar 5) rfl scClosed.nd (pi_tup (pe_ix ix_tup (pv 0) (pv 4) (fun _ _ => rfl)))
          (blkOk_by (own := [("_law_to", 5)]) (N := clN) (sc := defScope sClosed) (by decide +kernel))
          (fun _ _ _ _ _ => pg_name (i := 5) scClosed.nd rfl (Or.inl rfl)) (fun _ _ _ _ _ => pts_one (pt_cmpR op_notIn_seq (pv 5) (pv 2) rfl)) (fun _ _ _ _ _ => pv 5))))))))
    (pss_one (ps_ret (pe_callTy call_tuple_of rfl T.tuple (by decide +kernel) (pa_cons (pe_callB (cr_sortedSet rfl) rfl hO (by decide +kernel) (pa_cons (pe_callTy (cr_setLI rfl) rfl hS (by decide +kernel) (pa_cons (pv 2) pa_nil)) pa_nil)) pa_nil))))), ?_⟩
  obtain ⟨ya, rfl, yat⟩ := ints_at hy
  cases hx with
  | @tup ca cs _ cat ceach =>
    have lc : cs.length = rows.length := by have := dpAll_len ceach; rw [List.length_map] at this; exact this
    have hlen := hrw.len
    refine ⟨_, rfl, ya, _, rfl, .inr yat, fun p1 h1 => ?_⟩
    have n1 := same_new h1 (.lst (is.map V.int))
    refine ⟨_, rfl, ca, cs, rfl, .inr (sqT_same n1 cat), _, rfl, by omega, by rw [lc]; omega, ?_⟩
    refine for_range (lo := 0) (fun i σ H' => ∃ p o3 o4 o5 ex, σ = [some (.ref ca), some (.ref ya), some (.ref p), o3, o4, o5] ∧ Same H H' ∧ H' p = some (.lst ((is ++ ex).map V.int)) ∧ ex.Nodup ∧ ∀ x ∈ ex, 0 ≤ x ∧ x < (rows.length : Int))
      ⟨p1, _, _, _, [], rfl, n1, by rw [List.append_nil]; exact upd_same, List.nodup_nil, fun x hx => by cases hx⟩ (fun i σ H' hi h => ?_) (fun σ H' h => ?_)
    · obtain ⟨p, o3, o4, o5, ex, rfl, sm, hp, nd, hex⟩ := h
      refine ⟨_, rfl, p, _, rfl, .inl (SqL.of hp), fun l2 h2 => ⟨l2, rfl, ⟨_, SqL.of upd_same⟩, ?_⟩⟩
      have n2 := same_new h2 (.lst ((is ++ ex).map V.int))
      have sm2 := sm.trans n2
      have at2 : (upd H' l2 (.lst ((is ++ ex).map V.int))) l2 = some (.lst ((is ++ ex).map V.int)) := upd_same
      have hp2 := n2 _ _ hp
      generalize upd H' l2 (.lst ((is ++ ex).map V.int)) = G0 at sm2 at2 hp2
      refine for_list (xs := (is ++ ex).map V.int) (fun j σ G => ∃ p o4 o5 ex', σ = [some (.ref ca), some (.ref ya), some (.ref p), some (.int (0 + (i : Int))), o4, o5] ∧ Same G0 G ∧ G p = some (.lst ((is ++ ex').map V.int)) ∧ ex'.Nodup ∧ ∀ x ∈ ex', 0 ≤ x ∧ x < (rows.length : Int))
        ⟨p, _, _, ex, rfl, Same.refl _, hp2, nd, hex⟩ (fun j σ G _ h => by obtain ⟨_, _, _, _, _, s3, _⟩ := h; exact SqL.of (s3 _ _ at2)) (fun j v σ G hv h => ?_) (fun σ G h => ?_)
      · obtain ⟨p, o4, o5, ex', rfl, s3, hp3, nd3, hex3⟩ := h
        obtain ⟨pt, hpt, rfl⟩ := ints_get hv
        have hpm : 0 ≤ pt ∧ pt < (rows.length : Int) := (List.mem_append.mp (List.mem_of_getElem? hpt)).elim (his pt) (hex pt)
        have hrl : pt.toNat < rows.length := by omega
        have hr' := List.getElem?_eq_getElem hrl
        generalize rows[pt.toNat] = row at hr'
        obtain ⟨b, hb, bat⟩ := ch_row ceach hr'
        have hrm := List.mem_of_getElem? hr'
        have hrow := hrw.row row hrm
        have smG := sm2.trans s3
        have l3 := nodup_len rows.length ex' nd3 hex3
        refine ⟨_, rfl, lc_fil (row := row) (σ := [some (.ref ca), some (.ref ya), some (.ref p), some (.int (0 + (i : Int))), some (.int pt), o5]) (fun n => !decide (n ∈ is ++ ex')) (fun Q h => ⟨_, rfl, _, rfl, ca, cs, pt, _, rfl, rfl, sqT_same smG cat, atI_at hpm.1 hb, h⟩) (sqT_same smG bat) (by omega) (by simp) (fun n H2 R' hn s4 h => ?_) (fun D H2 s4 hD2 hD0 => ?_)⟩
        · refine ⟨_, rfl, _, rfl, p, _, rfl, .inl (SqL.of (s4 _ _ hp3)), rfl, flat_ints _, _, rfl, ?_⟩
          rw [if_pos rfl, inV_ints]
          exact h
        · have lf : (row.filter fun n => !decide (n ∈ is ++ ex')).length ≤ row.length := List.length_filter_le _ _
          refine ⟨p, D, _, _, rfl, rfl, s4 _ _ hp3, hD2, small (by rw [List.length_map, List.length_map, List.length_append]; omega), fun p5 h5 => ?_⟩
          refine ⟨p5, _, _, ex' ++ row.filter fun n => !decide (n ∈ is ++ ex'), rfl, s3.trans (s4.trans (same_new h5 _)), by rw [upd_same, ← List.map_append, List.append_assoc], ?_, fun x hx => ?_⟩
          · refine List.nodup_append.mpr ⟨nd3, List.Nodup.sublist List.filter_sublist (hnd row hrm), fun a ha b hb e => ?_⟩
            subst e
            have := (List.mem_filter.mp hb).2
            simp only [Bool.not_eq_true', decide_eq_false_iff_not] at this
            exact this (List.mem_append_right _ ha)
          · rcases List.mem_append.mp hx with hx | hx
            · exact hex3 x hx
            · exact hrow.2 x (List.mem_filter.mp hx).1
      · obtain ⟨p, o4, o5, ex', rfl, s3, hp3, nd3, hex3⟩ := h
        exact ⟨p, _, _, _, ex', rfl, sm2.trans s3, hp3, nd3, hex3⟩
    · obtain ⟨p, o3, o4, o5, ex, rfl, sm, hp, nd, hex⟩ := h
      have l3 := nodup_len rows.length ex nd hex
      refine ⟨_, rfl, p, _, rfl, SqL.of hp, by rw [List.length_append]; omega, fun p5 c5 hc5 h5 => ?_⟩
      have n5 := same_new h5 (SetO w p5 (fun j => decide (j ∈ is ++ ex)) c5)
      refine ⟨p5, _, c5, rfl, upd_same, by rw [List.length_append] at hc5; omega, fun ms p6 srt mem _ h6 => ?_⟩
      have n6 := same_new h6 (.lst (ms.map V.int))
      refine ⟨p6, _, rfl, .inl ⟨SqL.of upd_same, fun p7 h7 => ?_⟩⟩
      have n7 := same_new h7 (.tup (ms.map V.int))
      have hin : ∀ i ∈ ms, 0 ≤ i ∧ i < (rows.length : Int) := fun i hi => by
        have := of_decide_eq_true ((mem i).mp hi)
        exact (List.mem_append.mp this).elim (his i) (hex i)
      exact q p7 ms _ (sm.trans (n5.trans (n6.trans n7))) (SqT.of upd_same) (nodup_len _ ms (srt.imp fun h e => by omega) hin) hin
end
/-! _law_walk -/
/-- a first point of a walk -/
def tFirst (st : Addr) (cv yv : V) (rows : List (List Int)) (H : Hp) : TE := fun σ G Q => σ = [some (.ref st), some cv, some yv, none, none, none] ∧ Mv st H G ∧ 0 < rows.length ∧ ∀ n G', Mv st H G' → 0 ≤ n ∧ n < (rows.length : Int) → Q (.int n) G'
section
variable {P : Program} {w : World} {K : PySem.W.Frag} {mg : Str → Option Value} {base : Heap} {f : Addr} {fd : FuncData}
def spWalk (K : PySem.W.Frag) : Sp := fun vs H Q _ => ∃ (st : Addr) (x y : V) (rows : List (List Int)) (ss : List Int), vs = [.ref st, x, y] ∧ StAt H st ∧ Dp K (mn st H) x (chD rows) ∧ RwOk rows ∧ Dp K (mn st H) y (.tuple (ss.map .int)) ∧ ss.length < 60 ∧ (∀ i ∈ ss, 0 ≤ i ∧ i < (rows.length : Int)) ∧
  ∀ (v : V) (ns : List Int) (H' : Hp), Mv st H H' → Dp K (mn st H') v (.tuple (ns.map .int)) → ns.length ≤ 8 → (∀ i ∈ ns, 0 ≤ i ∧ i < (rows.length : Int)) → Q v H'
abbrev waN : List Str := ["_law_state_here", "_law_chart_here", "_law_starts", "_law_row", "_law_turn", "_law_nexts"]
theorem scWalk : FnScope waN ["_law_state_here", "_law_chart_here", "_law_starts"] (defScope sWalk) := ⟨rfl, rfl, rfl, by decide +kernel, rfl, by decide +kernel, by decide +kernel⟩
theorem ok_lwalk {k : Nat} (F : Fun K "_law_walk" "_law_walk" sWalk f fd) (T : Free mg) (cC : Cal P w K mg base "_law_choice" k ["_law_state_here", "_law_many"] spChoice) : FnOk P w K mg base CX0 (k + 1) f fd ["_law_state_here", "_law_chart_here", "_law_starts"] (spWalk K) := by
  refine F.ok scWalk (fun vs H Q E h => ?_) (fun cdv A outer s H vs Q E hr h => ?_)
  · obtain ⟨st, x, y, rows, ss, rfl, _⟩ := h
    rfl
  obtain ⟨st, x, y, rows, ss, rfl, sa, hx, hrw, hy, lss, hss, q⟩ := h
  have hx0 := dp_same mn_in hx
  have hy0 := dp_same mn_in hy
  obtain ⟨ya, rfl, yat⟩ := ints_at hy0
  have hlen := hrw.len
  cases hx0 with
  | @tup ca cs _ cat ceach =>
  have lc : cs.length = rows.length := by have := dpAll_len ceach; rw [List.length_map] at this; exact this
  refine ⟨_, pss_cons (ps_if (pt_cmpR (op_eqE hr.units) (pv 1) (pe_tup pa_nil) (nomark _)) (pss_one (ps_ret (pe_tup pa_nil))) pss_nil)
    (pss_cons (ps_set (i := 3) scWalk.nd rfl (.inl rfl) (pe_lst (pa_cons (pe_imp (t' := tFirst st (.ref ca) (.ref ya) rows H) (pe_ifExp (pt_cmpR (op_neE hr.units) (pv 2) (pe_tup pa_nil) (nomark _))
        (pe_ix ix_tup (pv 2) (pe_cal cC hr rfl (pa_cons (pv 0) (pa_cons (pe_callB call_len_seq rfl T.len PySem.boot_len (pa_cons (pv 2) pa_nil)) pa_nil))) (fun _ _ => rfl))
        (pe_cal cC hr rfl (pa_cons (pv 0) (pa_cons (pe_callB call_len_seq rfl T.len PySem.boot_len (pa_cons (pv 1) pa_nil)) pa_nil)))) ?first) pa_nil)))
    (pss_cons (ps_for PassesOwn.never rfl (pi_range1 rfl T.range (pa_cons (pe_cal cC hr rfl (pa_cons (pv 0) (pa_cons pe_int pa_nil))) pa_nil)) (pg_name (i := 4) scWalk.nd rfl (.inl rfl))
      (pss_cons (ps_set (i := 5) scWalk.nd rfl (.inl rfl) (pe_ix ix_tup (pv 1) (pe_ix ix_list (pv 3) (pe_un un_neg pe_int) (fun _ _ => rfl)) (fun _ _ => rfl)))
      (pss_one (ps_if (PW.pt (pw_and (pt_cmpR (op_neE hr.units) (pv 5) (pe_tup pa_nil) (nomark _)) (pw_and1 (pt_cmpR op_gt (pe_cal cC hr rfl (pa_cons (pv 0) (pa_cons pe_int pa_nil))) pe_int (nomark _)))))
        (pss_one (ps_expr (pe_bm PySem.F.plainAttrs_list PySem.F.slot_list_append PySem.F.type_list_append mt_append (pv 3) (pa_cons (pe_ix ix_tup (pv 5) (pe_cal cC hr rfl (pa_cons (pv 0) (pa_cons (pe_callB call_len_seq rfl T.len PySem.boot_len (pa_cons (pv 5) pa_nil)) pa_nil))) (fun _ _ => rfl)) pa_nil))))
        (pss_one (ps_if (pt_cmpR op_eq (pe_cal cC hr rfl (pa_cons (pv 0) (pa_cons pe_int pa_nil))) pe_int (nomark _))
          (pss_one (ps_expr (pe_bm PySem.F.plainAttrs_list PySem.F.slot_list_append PySem.F.type_list_append mt_append (pv 3) (pa_cons (pe_cal cC hr rfl (pa_cons (pv 0) (pa_cons (pe_callB call_len_seq rfl T.len PySem.boot_len (pa_cons (pv 1) pa_nil)) pa_nil))) pa_nil)))) pss_nil))))))
    (pss_one (ps_ret (pe_callTy call_tuple_of rfl T.tuple (by decide +kernel) (pa_cons (pv 3) pa_nil)))))), ?main⟩
  case first =>
    rintro σ G Q' ⟨rfl, mv, l0, h⟩
    have kt := mv.kp.kt sa
    refine ⟨_, rfl, small (by show 0 ≤ 1000; decide), fun p2 h2 => ?_⟩
    have n2 := same_new h2 (.tup [])
    have sa2 := mv.sa.same n2
    refine ⟨ya, p2, _, rfl, rfl, sqT_same n2 (sqT_kt kt yat), SqT.of upd_same, _, rfl, ?_⟩
    have mv2 : Mv st H (upd G p2 (.tup [])) := ⟨mv.kp.trans (Kp.of_same n2), sa2⟩
    cases hse : ss with
    | nil =>
      refine ifF rfl ⟨_, rfl, _, rfl, ca, cs, rfl, .inr (sqT_kt (mv2.kp.kt sa) cat), st, _, rfl, sa2, by omega, by rw [lc]; omega, fun r H3 r0 r1 mv3 => h r H3 (mv2.trans mv3) ⟨r0, by omega⟩⟩
    | cons s0 sr =>
      rw [← hse]
      have l1 : 0 < ss.length := by rw [hse]; simp
      refine ifT (by rw [hse]; rfl) ⟨_, rfl, _, rfl, _, rfl, ya, _, rfl, .inr (sqT_kt (mv2.kp.kt sa) yat), st, _, rfl, sa2, by rw [List.length_map]; omega, by rw [List.length_map]; omega, fun r H3 r0 r1 mv3 => ?_⟩
      rw [List.length_map] at r1
      have mv4 := mv2.trans mv3
      obtain ⟨n, hn⟩ : ∃ n, ss[r.toNat]? = some n := ⟨_, List.getElem?_eq_getElem (by omega)⟩
      exact ⟨ya, _, r, .int n, rfl, rfl, sqT_kt (mv4.kp.kt sa) yat, atI_at r0 (by rw [List.getElem?_map, hn]; rfl), h n H3 mv4 (hss n (List.mem_of_getElem? hn))⟩
  case main =>
    refine ⟨_, rfl, small (by show 0 ≤ 1000; decide), fun p1 h1 => ?_⟩
    have n1 := same_new h1 (.tup [])
    refine ⟨ca, p1, cs, rfl, rfl, sqT_same n1 cat, SqT.of upd_same, _, rfl, ?_⟩
    have sa1 := sa.same n1
    cases hem : cs.isEmpty with
    | true =>
      refine ifT rfl ⟨small (by show 0 ≤ 1000; decide), fun p2 h2 => ?_⟩
      have n2 := same_new h2 (.tup [])
      have sa2 := sa1.same n2
      exact q _ [] _ ⟨Kp.of_same (n1.trans n2), sa2⟩ (.tup (sqT_mn sa2 (SqT.of upd_same)) .nil) (by decide) (fun i hi => by cases hi)
    | false =>
      have l0 : 0 < rows.length := by rw [← lc]; cases cs with | nil => cases hem | cons _ _ => simp
      have rowOf : ∀ {n : Int} {G : Hp}, 0 ≤ n ∧ n < (rows.length : Int) → Mv st H G → ∃ b row, rows[n.toNat]? = some row ∧ row.length ≤ 30 ∧ (∀ i ∈ row, 0 ≤ i ∧ i < (rows.length : Int)) ∧ atI cs n = some (.ref b) ∧ SqT K G b (row.map V.int) := fun {n G} hn mv => by
        have hrl : n.toNat < rows.length := by omega
        have hr' := List.getElem?_eq_getElem hrl
        generalize rows[n.toNat] = row at hr'
        obtain ⟨b, hb, bat⟩ := ch_row ceach hr'
        have hrow := hrw.row row (List.mem_of_getElem? hr')
        exact ⟨b, row, hr', by omega, hrow.2, atI_at hn.1 hb, sqT_kt (mv.kp.kt sa) bat⟩
      refine ifF rfl ⟨rfl, ⟨Kp.of_same n1, sa1⟩, l0, fun n0 H2 mv2 h0 => ⟨small (by show 1 ≤ 1000; decide), fun R hR => ?_⟩⟩
      have nR : R ≠ st := mv2.sa.ne hR
      have hR0 : H R = none := mv2.kp.free nR hR
      have mvR : Mv st H (upd H2 R (.lst [.int n0])) := ⟨mv2.kp.upd hR0, mv2.sa.upd nR⟩
      refine ⟨_, rfl, st, 7, rfl, mvR.sa, by decide, by decide, fun r H3 r0 r1 mv3 => ⟨r, rfl, by omega, by omega, ?_⟩⟩
      refine for_range (lo := 0) (n := r.toNat) (fun i σ G => ∃ o4 o5 ns, σ = [some (.ref st), some (.ref ca), some (.ref ya), some (.ref R), o4, o5] ∧ Mv st H G ∧ G R = some (.lst (ns.map V.int)) ∧ 0 < ns.length ∧ ns.length ≤ i + 1 ∧ ∀ x ∈ ns, 0 ≤ x ∧ x < (rows.length : Int))
        ⟨_, _, [n0], rfl, mvR.trans mv3, mv3.kp _ _ nR upd_same, by simp, by simp, fun x hx => by rw [List.mem_singleton.mp hx]; exact h0⟩ (fun i σ G hi h => ?_) (fun σ G h => ?_)
      · obtain ⟨o4, o5, ns, rfl, mv, hG, l1, l2, hns⟩ := h
        obtain ⟨nl, hnl⟩ : ∃ n, ns[ns.length - 1]? = some n := ⟨_, List.getElem?_eq_getElem (by omega)⟩
        obtain ⟨b, row, hrow, lrow, hrin, hcb, bat⟩ := rowOf (hns nl (List.mem_of_getElem? hnl)) mv
        refine ⟨_, rfl, _, rfl, _, rfl, R, _, -1, _, rfl, rfl, SqL.of hG, atI_last (by rw [List.length_map]; exact l1) (by rw [List.length_map, List.getElem?_map, hnl]; rfl), ca, cs, nl, _, rfl, rfl, sqT_kt (mv.kp.kt sa) cat, hcb, ?_⟩
        refine ⟨_, rfl, small (by show 0 ≤ 1000; decide), fun p4 h4 => ?_⟩
        have n4 := same_new h4 (.tup [])
        have mv4 : Mv st H (upd G p4 (.tup [])) := ⟨mv.kp.trans (Kp.of_same n4), mv.sa.same n4⟩
        refine ⟨b, p4, _, rfl, rfl, sqT_same n4 bat, SqT.of upd_same, _, rfl, ?_⟩
        have hG4 := n4 _ _ hG
        have bat4 := sqT_same n4 bat
        generalize upd G p4 (.tup []) = G4 at mv4 hG4 bat4
        have more : ∀ {n : Int} {G5 : Hp}, Mv st G4 G5 → 0 ≤ n ∧ n < (rows.length : Int) → G5 R = some (.lst (ns.map V.int)) ∧ (ns.map V.int).length < sizeLine ∧ Mv st H (upd G5 R (.lst (ns.map V.int ++ [V.int n]))) ∧ (upd G5 R (.lst (ns.map V.int ++ [V.int n]))) R = some (.lst ((ns ++ [n]).map V.int)) ∧ 0 < (ns ++ [n]).length ∧ (ns ++ [n]).length ≤ i + 1 + 1 ∧ ∀ x ∈ ns ++ [n], 0 ≤ x ∧ x < (rows.length : Int) := fun {n G5} mv5 hn => by
          refine ⟨mv5.kp _ _ nR hG4, Nat.lt_of_lt_of_le (show _ < 1000 by rw [List.length_map]; omega) (small (Nat.le_refl _)), ⟨(mv4.trans mv5).kp.upd hR0, (mv4.trans mv5).sa.upd nR⟩, by rw [upd_same, List.map_append]; rfl, by rw [List.length_append]; omega, by rw [List.length_append]; show _ + 1 ≤ _; omega, fun x hx => ?_⟩
          rcases List.mem_append.mp hx with hx | hx
          · exact hns x hx
          · rw [List.mem_singleton.mp hx]
            exact hn
        have mvr : Mv st G4 G4 := ⟨Kp.refl st G4, mv4.sa⟩
        cases hrow' : row with
        | nil =>
          refine ifF rfl (ifF rfl ?_)
          refine ⟨_, rfl, st, 4, rfl, (mvr).sa, by decide, by decide, fun r6 G6 _ _ mv6 => ⟨rfl, _, rfl, ite2 (fun c => ?_) (fun c => ?_)⟩⟩
          · have mv46 := mv4.trans ((mvr).trans mv6)
            have hG6 := ((mvr).trans mv6).kp _ _ nR hG4
            refine ⟨_, rfl, .inl ⟨rfl, _, SqL.of hG6⟩, _, rfl, _, rfl, ca, cs, rfl, .inr (sqT_kt (mv46.kp.kt sa) cat), st, _, rfl, mv46.sa, by omega, by rw [lc]; omega, fun n G7 n0' n1' mv7 => ?_⟩
            obtain ⟨a1, a2, a3, a4, a5, a6, a7⟩ := more ((mvr).trans (mv6.trans mv7)) (n := n) ⟨n0', by rw [lc] at n1'; exact n1'⟩
            exact ⟨R, _, _, rfl, rfl, a1, a2, _, _, ns ++ [n], rfl, a3, a4, a5, a6, a7⟩
          · exact ⟨_, _, ns, rfl, mv4.trans ((mvr).trans mv6), ((mvr).trans mv6).kp _ _ nR hG4, l1, by omega, hns⟩
        | cons q0 qr =>
          rw [← hrow']
          have l3 : 0 < row.length := by rw [hrow']; simp
          refine ifT (by rw [hrow']; rfl) ⟨_, rfl, st, 8, rfl, mv4.sa, by decide, by decide, fun r5 G5 _ _ mv5 => ⟨_, _, rfl, rfl, _, rfl, ite2 (fun c5 => ?_) (fun c5 => ?_)⟩⟩
          · refine ⟨_, rfl, .inl ⟨rfl, _, SqL.of (mv5.kp _ _ nR hG4)⟩, _, rfl, _, rfl, _, rfl, b, _, rfl, .inr (sqT_kt (mv5.kp.kt mv4.sa) bat4), st, _, rfl, mv5.sa, by rw [List.length_map]; omega, by rw [List.length_map]; omega, fun r7 G7 r70 r71 mv7 => ?_⟩
            rw [List.length_map] at r71
            obtain ⟨n, hn⟩ : ∃ n, row[r7.toNat]? = some n := ⟨_, List.getElem?_eq_getElem (by omega)⟩
            obtain ⟨a1, a2, a3, a4, a5, a6, a7⟩ := more (mv5.trans mv7) (hrin n (List.mem_of_getElem? hn))
            exact ⟨b, _, r7, .int n, rfl, rfl, sqT_kt ((mv5.trans mv7).kp.kt mv4.sa) bat4, atI_at r70 (by rw [List.getElem?_map, hn]; rfl), R, _, _, rfl, rfl, a1, a2, _, _, ns ++ [n], rfl, a3, a4, a5, a6, a7⟩
          · refine (show _ from ?_)
            refine ⟨_, rfl, st, 4, rfl, (mv5).sa, by decide, by decide, fun r6 G6 _ _ mv6 => ⟨rfl, _, rfl, ite2 (fun c => ?_) (fun c => ?_)⟩⟩
            · have mv46 := mv4.trans ((mv5).trans mv6)
              have hG6 := ((mv5).trans mv6).kp _ _ nR hG4
              refine ⟨_, rfl, .inl ⟨rfl, _, SqL.of hG6⟩, _, rfl, _, rfl, ca, cs, rfl, .inr (sqT_kt (mv46.kp.kt sa) cat), st, _, rfl, mv46.sa, by omega, by rw [lc]; omega, fun n G7 n0' n1' mv7 => ?_⟩
              obtain ⟨a1, a2, a3, a4, a5, a6, a7⟩ := more ((mv5).trans (mv6.trans mv7)) (n := n) ⟨n0', by rw [lc] at n1'; exact n1'⟩
              exact ⟨R, _, _, rfl, rfl, a1, a2, _, _, ns ++ [n], rfl, a3, a4, a5, a6, a7⟩
            · exact ⟨_, _, ns, rfl, mv4.trans ((mv5).trans mv6), ((mv5).trans mv6).kp _ _ nR hG4, l1, by omega, hns⟩
      · obtain ⟨o4, o5, ns, rfl, mv, hG, l1, l2, hns⟩ := h
        refine ⟨_, rfl, R, _, rfl, .inl ⟨SqL.of hG, fun l hl => ?_⟩⟩
        have nl := same_new hl (.tup (ns.map V.int))
        have sa7 := mv.sa.same nl
        exact q _ ns _ ⟨mv.kp.trans (Kp.of_same nl), sa7⟩ (.tup (sqT_mn sa7 (SqT.of upd_same)) (dp_ints ns)) (by omega) hns
end
/-! a list that is out of sight while something is reckoned -/
section
open PySem.Spec PyProof.Rows
variable {X : Cx} {pins : List (Addr × Obj)} {σ : L2.St} {H : Hp} {s : Shared}
theorem tracked_fs (I : Inv X pins σ H s) {D : Addr} {o : HO} (hD : H D = some o) : D ∉ X.fs := fun hb => by
  obtain ⟨_, q, hq, _⟩ := I.ok.funs.mem hb
  have z := I.base.free D q hq (I.ok.frf D hb) (fun hx => I.ok.exfs D hx hb)
  rw [hD] at z
  cases z
theorem inv_hide (I : Inv X pins σ H s) {D : Addr} {l : List V} (hD : H D = some (.lst l)) : ∃ o : Obj, (∀ v, o.data ≠ .cell v) ∧ s.heap.get? D = some o ∧ Inv X (pins ++ [(D, o)]) σ (mn D H) s := by
  obtain ⟨z, its, n, rv, at_⟩ := (show ObjOk X.prog X.w H s.heap D (.lst l) from I.hok D _ hD)
  have ne : ∀ {b : Addr} {u : HO}, H b = some u → (∀ l, u ≠ .lst l) → mn D H b = some u := fun {b u} hb hn => mn_at (fun e => by rw [e, hD] at hb; cases hb; exact hn _ rfl) hb
  have no : ∀ {b : Addr}, H b = none → mn D H b = none := fun {b} hb => by unfold mn; split <;> first | rfl | exact hb
  refine ⟨_, (fun v q => by cases q), at_, ⟨I.ok, I.os, I.bare, ⟨I.base.keep, I.base.slot, fun b o h1 h2 h3 => no (I.base.free b o h1 h2 h3), I.base.there, fun b xs h1 => ne (I.base.tups b xs h1) (fun _ q => by cases q), fun b o u h1 => ne (I.base.frzs b o u h1) (fun _ q => by cases q), fun b ps h1 => ?_⟩, I.loc, I.cell, no I.free, fun y c e => no (I.freeC y c e), fun p hp => ?_, fun b u hb => ?_, I.len⟩⟩
  · obtain ⟨more, e⟩ := I.base.tbls b ps h1
    exact ⟨more, ne e (fun _ q => by cases q)⟩
  · rw [← List.append_assoc] at hp
    rcases List.mem_append.mp hp with hp | hp
    · obtain ⟨h1, h2, h3⟩ := I.pin p hp
      exact ⟨h1, no h2, h3⟩
    · rw [List.mem_singleton.mp hp]
      refine ⟨at_, by unfold mn; rw [if_pos rfl], fun e => ?_, tracked_fs I hD, fun v q => by cases q⟩
      have z := I.free
      rw [← e] at z
      rw [show H D = none from z] at hD
      cases hD
  · obtain ⟨nb, hb⟩ := mn_some hb
    exact (I.hok b u hb).stay (fun _ _ _ q => q) (fun c q => ne q (fun _ q => by cases q)) (fun c xs q => ne q (fun _ q => by cases q))
theorem inv_show {s2 : Shared} {H2 : Hp} {D : Addr} {l : List V} {o : Obj} (I : Inv X pins σ H s) (hD : H D = some (.lst l)) (at_ : s.heap.get? D = some o) (nc : ∀ v, o.data ≠ .cell v) (J : Inv X (pins ++ [(D, o)]) σ H2 s2) : H2 D = none ∧ Inv X pins σ (upd H2 D (.lst l)) s2 := by
  obtain ⟨z, its, n, rv, at'⟩ := (show ObjOk X.prog X.w H s.heap D (.lst l) from I.hok D _ hD)
  rw [at_] at at'
  obtain ⟨h1, h2, h3, h4, h5⟩ := J.pin (D, o) (List.mem_append_right _ (List.mem_append_right _ (List.mem_singleton.mpr rfl)))
  have h1 : s2.heap.get? D = some o := h1
  have h2 : H2 D = none := h2
  have h3 : D ≠ X.env.locals := h3
  have keep : ∀ {b : Addr} {u : HO}, H2 b = some u → upd H2 D (.lst l) b = some u := fun {b u} hb => by rw [upd_ne (ne_of_none hb h2)]; exact hb
  refine ⟨h2, J.ok, J.os, J.bare, ⟨J.base.keep, J.base.slot, fun b q e1 e2 e3 => ?_, J.base.there, fun b xs e => keep (J.base.tups b xs e), fun b q u e => keep (J.base.frzs b q u e), fun b ps e => ?_⟩, J.loc, J.cell, by rw [upd_ne h3.symm]; exact J.free, fun y c e => ?_, fun p hp => ?_, fun b u hb => ?_, J.len⟩
  · have nb : b ≠ D := fun z => by
      have := I.base.free b q e1 e2 e3
      rw [z, hD] at this
      cases this
    rw [upd_ne nb]
    exact J.base.free b q e1 e2 e3
  · obtain ⟨more, q⟩ := J.base.tbls b ps e
    exact ⟨more, keep q⟩
  · have nb : c ≠ D := fun z => by
      obtain ⟨v, oc, hc, dc⟩ := J.cell y c e
      rw [z, h1] at hc
      cases hc
      exact nc v dc
    rw [upd_ne nb]
    exact J.freeC y c e
  · obtain ⟨p1, p2, p3⟩ := J.pin p ((List.mem_append.mp hp).elim (fun z => List.mem_append_left _ z) (fun z => List.mem_append_right _ (List.mem_append_left _ z)))
    have nb : p.1 ≠ D := fun z => by
      have := (I.pin p hp).2.1
      rw [z, hD] at this
      cases this
    exact ⟨p1, by rw [upd_ne nb]; exact p2, p3⟩
  · by_cases nb : b = D
    · subst nb
      rw [upd_same] at hb
      cases hb
      exact ⟨z, its, n, rv, by rw [h1]; exact at'⟩
    · rw [upd_ne nb] at hb
      exact (J.hok b u hb).stay (fun _ _ _ q => q) (fun c q => keep q) (fun c xs q => keep q)
/-- e, a list of the heap out of its sight -/
def tFr (t : TE) : TE := fun σ H Q => ∃ (D : Addr) (l : List V), H D = some (.lst l) ∧ t σ (mn D H) fun v H' => H' D = none → Q v (upd H' D (.lst l))
theorem pe_fr {e : Expr} {t : TE} (h : PE X e t) : PE X e (tFr t) := by
  refine ⟨fun pins s σ H Q I ht => ?_⟩
  obtain ⟨D, l, hD, ht⟩ := ht
  obtain ⟨o, nc, at_, I1⟩ := inv_hide I hD
  refine thn (h.run _ s σ (mn D H) _ I1 ht) fun u s2 ⟨v, H2, I2, r, q⟩ => ?_
  obtain ⟨n2, I3⟩ := inv_show I hD at_ nc I2
  exact ⟨v, _, I3, r, q n2⟩
theorem mn_upd {B : Hp} {D : Addr} {o : HO} (h : B D = none) : mn D (upd B D o) = B := by
  funext b
  unfold mn
  by_cases e : b = D
  · rw [if_pos e, e, h]
  · rw [if_neg e, upd_ne e]
end
/-- the script, which nobody writes -/
def ScrOk (K : PySem.W.Frag) (H : Hp) (a : Addr) (xs : List V) : Prop := (∃ o, H a = some (.frz o (.lst xs))) ∨
  ∃ (o : Obj) (its : Array Value) (n : Nat), K.lookup a = some o ∧ o.cls = .type "list" ∧ o.dict = none ∧ o.data = .seq its n ∧ its.size ≤ sizeLine ∧ Vals xs its.toList
theorem ScrOk.kt {K : PySem.W.Frag} {H H' : Hp} {a : Addr} {xs : List V} (h : ScrOk K H a xs) (k : KT H H') : ScrOk K H' a xs := by
  rcases h with ⟨o, z⟩ | z
  · exact .inl ⟨o, k _ _ z (fun l q => by cases q)⟩
  · exact .inr z
theorem ScrOk.sq {K : PySem.W.Frag} {H : Hp} {a : Addr} {xs : List V} (h : ScrOk K H a xs) : SqL K H a xs := by
  rcases h with h | h
  · exact .inl (.inr h)
  · exact .inr h
/-! repr, where sys.modules stands in the base: no list and no dict of the law's is it -/
section
variable {X : Cx} {pins : List (Addr × Obj)} {σ : L2.St} {H : Hp} {s : Shared}
def SysB (base : Heap) : Prop := ∃ mm, base.Ns sysModules mm
theorem list_ne_sys (I : Inv X pins σ H s) (hs : SysB X.base) {r : Addr} {us : List V} (h : SqL X.K H r us) : r ≠ sysModules := by
  obtain ⟨mm, o0, es, ep, e0, d0, _⟩ := hs
  have hn := (I.bs _ _ e0).2
  intro e
  rw [e] at h
  rcases h with (z | ⟨o, z⟩) | ⟨o, its, n, hk, hc, hdn, hd, _⟩
  · rw [hn] at z
    cases z
  · rw [hn] at z
    cases z
  · have z := I.mod.kin _ _ hk
    rw [e0] at z
    cases z
    rw [d0] at hd
    cases hd
mutual
theorem Dp.rdS (I : Inv X pins σ H s) (hs : SysB X.base) : ∀ (d : PyData) (v : V) (u : Value), Dp X.K H v d → RelV v u → ∃ as, Reads s.heap u d as ∧ sysModules ∉ as
  | .none, v, u, h, r => by cases h; cases r; exact ⟨_, .none, fun z => nomatch z⟩
  | .bool b, v, u, h, r => by cases h; cases r; exact ⟨_, .bool b, fun z => nomatch z⟩
  | .int i, v, u, h, r => by cases h; obtain ⟨t, rfl⟩ := r; exact ⟨_, .int i t, fun z => nomatch z⟩
  | .str x, v, u, h, r => by cases h; obtain ⟨t, rfl⟩ := r; exact ⟨_, .str x t, fun z => nomatch z⟩
  | .list es, v, u, h, r => by
    cases h with
    | lst at_ each =>
      cases r
      have ne := list_ne_sys I hs at_
      obtain ⟨its, rv, ⟨o, n, ho, hc, _, hd⟩, _⟩ := I.list at_
      obtain ⟨as, hr, hn⟩ := Dp.rdsS I hs es _ its each rv
      refine ⟨_, .list ho hc hd hr, fun z => ?_⟩
      rcases List.mem_cons.mp z with z | z
      · exact ne z.symm
      · exact hn z
  | .tuple es, v, u, h, r => by
    cases h with
    | tup at_ each =>
      cases r
      obtain ⟨its, rv, ⟨o, ho, hc, n, hd⟩, _⟩ := I.tuple at_
      obtain ⟨as, hr, hn⟩ := Dp.rdsS I hs es _ its each rv
      exact ⟨_, .tuple ho hc hd hr, hn⟩
  | .dict kvs, v, u, h, r => by
    cases h with
    | dct at_ =>
      cases r
      obtain ⟨_, _, _, _, _, _, ns, rd⟩ := dct_reads I at_
      exact ⟨_, rd, fun z => by
        have z : sysModules ∈ [_] := z
        exact ns (List.mem_singleton.mp z).symm⟩
theorem Dp.rdsS (I : Inv X pins σ H s) (hs : SysB X.base) : ∀ (ds : List PyData) (vs : List V) (us : List Value), DpAll X.K H vs ds → Vals vs us → ∃ as, ReadsAll s.heap us ds as ∧ sysModules ∉ as
  | [], vs, us, h, r => by cases h; cases r; exact ⟨_, .nil, fun z => nomatch z⟩
  | d :: ds, vs, us, h, r => by
    cases h with
    | cons one more =>
      cases r with
      | cons r1 r2 =>
        obtain ⟨as, q1, n1⟩ := Dp.rdS I hs d _ _ one r1
        obtain ⟨bs, q2, n2⟩ := Dp.rdsS I hs ds _ _ more r2
        refine ⟨_, .cons q1 q2, fun hm => ?_⟩
        rcases List.mem_append.mp hm with hm | hm
        · exact n1 hm
        · exact n2 hm
end
end
theorem call_reprS {X : Cx} (hs : SysB X.base) (hg : X.A.guards = some []) (hu : X.A.units + 80 < cLine) : CallR X (.builtin "repr") (fun xs H Q => ∃ (a : Addr) (d : PyData), xs = [.ref a] ∧ Dp X.K H (.ref a) d ∧ d.showable = true ∧ d.depth ≤ 64 ∧ d.shown.length ≤ sizeLine ∧ Q (.str d.shown) H) := by
  intro pins s σ H xs us Q I r h
  obtain ⟨a, d, rfl, hd, h1, h3, h4, q⟩ := h
  obtain ⟨u, rfl, ru⟩ := vals1 r
  cases ru
  obtain ⟨as, hr, hn⟩ := Dp.rdS I hs d (.ref a) (.ref a) hd rfl
  exact repr_of_reads' hr h1 (fun _ => hn) hg (by omega) (fun _ _ e => e) (fun h' u tk hk => ⟨.str d.shown, H, I.kept hk, ⟨u, rfl⟩, q⟩) h4
theorem call_reprA {X : Cx} (hs : SysB X.base) (hg : X.A.guards = some []) (hu : X.A.units + 80 < cLine) : CallR X (.builtin "repr") (fun xs H Q => ∃ (v : V) (d : PyData), xs = [v] ∧ Dp X.K H v d ∧ d.showable = true ∧ d.depth ≤ 64 ∧ d.shown.length ≤ sizeLine ∧ Q (.str d.shown) H) := by
  intro pins s σ H xs us Q I r h
  obtain ⟨v, d, rfl, hd, h1, h3, h4, q⟩ := h
  have refs : ∀ a : Addr, v = .ref a → wpAny (model X.prog X.w) X.A (call (.builtin "repr") us) (EP X pins σ Q) X.xe s := fun a e => by
    subst e
    exact call_reprS hs hg hu pins s σ H _ us Q I r ⟨a, d, rfl, hd, h1, h3, h4, q⟩
  cases hd with
  | non =>
    obtain ⟨u, rfl, ru⟩ := vals1 r
    cases ru
    exact PySem.P.repr_of_none ⟨.str _, H, I.tok _, ⟨_, rfl⟩, q⟩
  | bl b =>
    obtain ⟨u, rfl, ru⟩ := vals1 r
    cases ru
    exact PySem.P.repr_of_bool ⟨.str _, H, I.tok _, ⟨_, rfl⟩, by simpa only [PyData.shown] using q⟩
  | int i =>
    obtain ⟨u, rfl, t, rfl⟩ := vals1 r
    exact PySem.P.repr_of_int (of_decide_eq_true (by simpa only [PyData.showable] using h1)) ⟨.str _, H, I.tok _, ⟨_, rfl⟩, by simpa only [PyData.shown] using q⟩
  | str x =>
    obtain ⟨u, rfl, t, rfl⟩ := vals1 r
    exact PySem.P.repr_of_str ⟨.str _, H, I.tok _, ⟨_, rfl⟩, by simpa only [PyData.shown] using q⟩ (by simpa only [PyData.shown] using h4)
  | lst _ _ => exact refs _ rfl
  | tup _ _ => exact refs _ rfl
  | dct _ => exact refs _ rfl
/-! the end of a law whose defs hold lambdas: the tables of their code are tracked, too -/
section
open PySem.Spec PyProof.Rows LamX
theorem run_law2 {P : Program} {w : World} {K : PySem.W.Frag} {mg : Str → Option Value} {base : Heap} {fa a : Addr} {fd : FuncData} {st : Stmt} {N : List Str} {k : Nat} {s : Shared} {H : Hp} {nm par : Str}
    (F : Fun K nm nm st fa fd) (S : FnScope N [par] (defScope st)) (room : Room (k + 1) callerA) (at0 : Env0 P w K mg base callerA [] s H) (bd : BindsTo s fd ⟨[.ref a], []⟩ [(par, .ref a)])
    (body : ∀ cdv, fd.code = cdv → Room k (callerA.deeper (envOfC nm (defScope st) s.heap.objs.size fa cdv)) →
      ∃ t, PSs (cxOf CX0 P w K mg base N nm (defScope st) fa cdv callerA [] s H E0).nox (defBody st) t ∧ t { nx := fun _ _ => False, rt := fun v _ => v = .bl true } (L2.start N [.ref a]) H) :
    codeAny (model P w) callerA (.call (.ref fa) ⟨[.ref a], []⟩) (CR CX0 [] P w H s (fun v _ => v = .bl true) E0) s := by
  obtain ⟨oc, od, kV, doc, pm, an, cdv, ct, osl, rfl, found, code⟩ := F.ex
  have kin : K.In s.heap := at0.mod.kin.keeps fun b o e => (at0.bs b o e).1
  have unl : s.heap.NoLimit := at0.mod.nolimit.keeps fun b o e => (at0.bs b o e).1
  have kinds : ∀ y ∈ [(par, Value.ref a)], (defScope st).names.lookup y.1 = some .local ∨ ((defScope st).names.lookup y.1 = some .cell ∧ ((cellsFrom (s.heap.objs.size + 1) (defScope st).names []).lookup y.1).isSome = true) := by
    intro y hy
    rcases List.mem_cons.mp hy with rfl | hy
    · rcases S.par par List.mem_cons_self with q | q
      · exact .inl q
      · exact .inr ⟨q, PySem.W.cellsFrom_some _ _ _ (.inl q)⟩
    · cases hy
  refine codeAny_call_function room.depth (kin _ _ found) rfl S.co S.gen rfl (PySem.W.codeRec_of kin code) (bd _ _ _ _ ?_)
  refine wpAny_newFunctionEnv_cells S.kind kinds fun env he s1 ic => ?_
  subst he
  refine ⟨unl.keeps ic.toInCall.keep, codeAny_func ?_⟩
  obtain ⟨t, ht, hq⟩ := body cdv rfl (room.deeper _)
  have start_ok := inv_start (CX := CX0) (E := E0) (us := [.ref a]) (vs := [.ref a]) S room.hd at0 rfl (.cons rfl .nil) ic
  refine wpAny_mono (ht.nox.run [] s1 _ H _ start_ok hq) (fun fl s' out => ?_) fun e s' out => out
  cases fl with
  | ret u =>
    obtain ⟨v, σ', H', J, rv, q⟩ := out
    exact ⟨v, H', J.os, J.bare, J.base, J.hok, rv, q⟩
  | next =>
    obtain ⟨_, _, _, q⟩ := out
    exact q.elim
  | brk =>
    obtain ⟨_, _, _, q⟩ := out
    exact q.elim
  | cont =>
    obtain ⟨_, _, _, q⟩ := out
    exact q.elim
/-- what the module's head leaves of tables -/
structure TabsAt (K : PySem.W.Frag) (mg : Str → Option Value) (h : Heap) (cs : List (Addr × Addr)) : Prop where
  empty : ∀ p ∈ cs, h.get? p.2 = some { cls := .none, data := .fields #[] }
  out : ∀ p ∈ cs, K.lookup p.2 = none
  heads : ∀ p ∈ cs, PySem.W.CodeHd h p.1 p.2
  sys : SysB h
  blt : ∃ (bm : Addr) (ob : Obj), mg "__builtins__" = some (.ref bm) ∧ bm ≠ builtinsNs ∧ h.get? bm = some ob ∧ ob.cls = .type "module" ∧ ob.dict = some builtinsNs ∧ ob.data = .plain
theorem law_endT {P : Program} {w : World} {K : PySem.W.Frag} {mg mb : Str → Option Value} {fa a : Addr} {cs : List (Addr × Addr)} {fd : FuncData} {st : Stmt} {N : List Str} {k : Nat} {s : Shared} {nm par : Str} {vs : List Value} {ns : List Int}
    (kin : K.In s.heap) (gl : s.heap.Ns mainGlobals mg) (bl : s.heap.Ns builtinsNs mb) (blb : ∀ x : Str, x ≠ "__name__" → mb x = bootBuiltins x) (unl : s.heap.NoLimit) (gens : s.gens = #[]) (TA : TabsAt K mg s.heap cs)
    (ha : s.heap.get? a = some { cls := .type "list", data := .seq vs.toArray }) (hi : IntsAre vs ns) (hl : ns.length ≤ sizeLine) (room : Room (k + 1) callerA)
    (F : Fun K nm nm st fa fd) (S : FnScope N [par] (defScope st)) (bd : ∀ (s : Shared) (u : Value), BindsTo s fd ⟨[u], []⟩ [(par, u)])
    (body : ∀ (base : Heap), K.In base → base.Ns mainGlobals mg → SysB base → (∀ p ∈ cs, TabB base mg p.1 p.2) → ∀ (H : Hp) cdv, fd.code = cdv → (∀ p ∈ cs, H p.2 = some (.tbl #[])) → ScrOk K H a (ns.map V.int) → Room k (callerA.deeper (envOfC nm (defScope st) s.heap.objs.size fa cdv)) →
      ∃ t, PSs (cxOf CX0 P w K mg base N nm (defScope st) fa cdv callerA [] s H E0).nox (defBody st) t ∧ t { nx := fun _ _ => False, rt := fun v _ => v = .bl true } (L2.start N [.ref a]) H) :
    codeAny (model P w) callerA (.call (.ref fa) ⟨[.ref a], []⟩) (fun r s' => r = .ok (.ret (.bool true)) ∧ OldK s.heap s'.heap ∧ s'.os = s.os ∧ AllBare s'.gens) s := by
  have vals := vals_ints hi
  have len := hi.length
  have no_tab : ∀ p ∈ cs, p.2 ≠ a := fun p hp z => by
    have e := TA.empty p hp
    rw [z, ha] at e
    have e : Data.seq vs.toArray _ = Data.fields #[] := congrArg Obj.data (Option.some.inj e)
    cases e
  -- whatever of the script is tracked
  have main : ∀ H : Hp, (∀ p ∈ cs, H p.2 = some (.tbl #[])) → ScrOk K H a (ns.map V.int) → HOk P w H s.heap →
      (∀ b u, H b = some u → (b = a ∧ K.lookup a = none ∧ ∃ o xs, u = .frz o (.lst xs)) ∨ ∃ p ∈ cs, b = p.2) →
      codeAny (model P w) callerA (.call (.ref fa) ⟨[.ref a], []⟩) (fun r s' => r = .ok (.ret (.bool true)) ∧ OldK s.heap s'.heap ∧ s'.os = s.os ∧ AllBare s'.gens) s := by
    intro H tabs scr hok alone
    have off : ∀ {b : Addr} {o : Obj}, s.heap.get? b = some o → (∀ us n, o.data ≠ .seq us n) → o.data ≠ .fields #[] → H b = none := by
      intro b o e n1 n2
      cases q : H b with
      | none => rfl
      | some u =>
        rcases alone b u q with ⟨rfl, _⟩ | ⟨p, hp, rfl⟩
        · rw [ha] at e
          cases e
          exact absurd rfl (n1 _ _)
        · rw [TA.empty p hp] at e
          cases e
          exact absurd rfl n2
    have spaces : ∀ {b : Addr} {m : Str → Option Value}, s.heap.Ns b m → (hidT s.heap H).Ns b m := by
      intro b m ⟨o, es, ep, e, d, r⟩
      refine ⟨o, es, ep, hidT_get e (off e (fun us n z => ?_) fun z => ?_), d, r⟩
      · rw [d] at z
        cases z
      · rw [d] at z
        cases z
    have kinB : K.In (hidT s.heap H) := by
      intro b o e
      refine hidT_get (kin b o e) ?_
      cases q : H b with
      | none => rfl
      | some u =>
        rcases alone b u q with ⟨rfl, z, _⟩ | ⟨p, hp, rfl⟩
        · rw [z] at e
          cases e
        · rw [TA.out p hp] at e
          cases e
    have TB : ∀ p ∈ cs, TabB (hidT s.heap H) mg p.1 p.2 := by
      intro p hp
      constructor
      · obtain ⟨o, us, x1, x2, x3, x4, x5, x6, x7, e, y1, y2, y3, y4⟩ := TA.heads p hp
        refine ⟨o, us, x1, x2, x3, x4, x5, x6, x7, hidT_get e (off e (fun vs n z => ?_) fun z => ?_), y1, y2, y3, y4⟩
        · rw [y2] at z
          cases z
        · rw [y2] at z
          cases z
          simp at y3
      · obtain ⟨bm, ob, g1, g2, g3, g4, g5, g6⟩ := TA.blt
        refine ⟨bm, ob, g1, g2, fun z => ?_, fun z => ?_, hidT_get g3 (off g3 (fun vs n z => ?_) fun z => ?_), g4, g5, g6⟩
        · obtain ⟨o, es, ep, e, d, _⟩ := gl
          rw [z, e] at g3
          cases g3
          rw [d] at g6
          cases g6
        · rw [z, TA.empty p hp] at g3
          cases g3
          cases g6
        · rw [g6] at z
          cases z
        · rw [g6] at z
          cases z
      · intro z
        obtain ⟨o, es, ep, e, d, _⟩ := gl
        rw [z, TA.empty p hp] at e
        cases e
        cases d
    obtain ⟨mc, un1, un2⟩ := unl
    have md : Mod K mg (hidT s.heap H) := ⟨kinB, spaces gl, ⟨mb, spaces bl, blb⟩, ⟨mc, spaces un1, un2⟩⟩
    have at0 : Env0 P w K mg (hidT s.heap H) callerA [] s H := by
      refine ⟨rfl, md, fun b o e => of_hidT e, Nat.le_of_eq (hidT_size _ _), trivial, fun b hb => ?_, hok, .of_eq gens⟩
      cases (show b ∈ ([] : List Addr) from hb)
    refine codeAny_mono (run_law2 F S room at0 (bd s (.ref a)) fun cdv hc hr => body _ kinB (spaces gl) (let ⟨mm, z⟩ := TA.sys; ⟨mm, spaces z⟩) TB H cdv hc tabs scr hr) fun r s' res => ?_
    match r, res with
    | .error e, res => exact (show False from res).elim
    | .ok .next, res => exact (show False from res).elim
    | .ok .brk, res => exact (show False from res).elim
    | .ok .cont, res => exact (show False from res).elim
    | .ok (.ret u), res =>
      obtain ⟨v, H', os, bare, un, hok', rv, q⟩ := res
      obtain rfl : v = .bl true := q
      obtain rfl : u = Value.bool true := rv
      have stays : ∀ b o, (∀ p ∈ cs, b ≠ p.2) → s.heap.get? b = some o → s'.heap.get? b = some o := by
        intro b o nb e
        cases q : H b with
        | none =>
          refine un.keep b o e q (fun z => ?_) (by simp)
          cases (show b ∈ ([] : List Addr) from z)
        | some u =>
          rcases alone b u q with ⟨_, _, ob, xs, rfl⟩ | ⟨p, hp, z⟩
          · obtain ⟨e1, _⟩ := hok b _ q
            obtain ⟨e2, _⟩ := hok' b _ (un.frzs b ob _ q)
            rw [e] at e1
            cases e1
            exact e2
          · exact absurd z (nb p hp)
      have grows : ∀ p ∈ cs, ∃ more : Array Value, s'.heap.get? p.2 = some { cls := .none, data := .fields more } := by
        intro p hp
        obtain ⟨more, z⟩ := un.tbls p.2 #[] (tabs p hp)
        exact ⟨_, hok' p.2 _ z⟩
      refine ⟨rfl, ⟨fun b o e => ?_, fun b o e => ?_⟩, os, bare⟩
      · by_cases nb : ∀ p ∈ cs, b ≠ p.2
        · exact .inl (stays b o nb e)
        · obtain ⟨p, hp, z⟩ : ∃ p ∈ cs, b = p.2 := by
            refine Classical.byContradiction fun no => nb fun p hp z => no ⟨p, hp, z⟩
          subst z
          obtain ⟨more, hm⟩ := grows p hp
          have e0 := TA.empty p hp
          rw [e0] at e
          cases e
          refine .inr (.inl ⟨((TA.heads p hp).tab (ps := #[]) e0).isCodeTable, rfl, #[], more, rfl, ?_⟩)
          rw [Array.empty_append]
          exact hm
      · by_cases nb : ∀ p ∈ cs, b ≠ p.2
        · exact ⟨o, stays b o nb e⟩
        · obtain ⟨p, hp, z⟩ : ∃ p ∈ cs, b = p.2 := by
            refine Classical.byContradiction fun no => nb fun p hp z => no ⟨p, hp, z⟩
          subst z
          obtain ⟨more, hm⟩ := grows p hp
          exact ⟨_, hm⟩
  -- the tables, and the script where it isn't written
  let tb : Addr → Bool := fun b => cs.any fun p => decide (b = p.2)
  have tb_in : ∀ {b}, tb b = true → ∃ p ∈ cs, b = p.2 := fun {b} z => by
    obtain ⟨p, hp, e⟩ := List.any_eq_true.mp z
    exact ⟨p, hp, of_decide_eq_true e⟩
  have in_tb : ∀ p ∈ cs, tb p.2 = true := fun p hp => List.any_eq_true.mpr ⟨p, hp, decide_eq_true rfl⟩
  cases hk : K.lookup a with
  | some o =>
    have e := kin a o hk
    rw [ha] at e
    cases e
    refine main (fun b => if tb b = true then some (.tbl #[]) else none) (fun p hp => if_pos (in_tb p hp)) (.inr ⟨_, vs.toArray, _, hk, rfl, rfl, rfl, by rw [List.size_toArray, len]; exact hl, by simpa using vals⟩) (fun b u z => ?_) (fun b u z => ?_)
    · by_cases c : tb b = true
      · obtain ⟨p, hp, rfl⟩ := tb_in c
        have z := (if_pos c).symm.trans z
        cases z
        exact TA.empty p hp
      · have z := (if_neg c).symm.trans z
        cases z
    · by_cases c : tb b = true
      · exact .inr (tb_in c)
      · have z := (if_neg c).symm.trans z
        cases z
  | none =>
    refine main (fun b => if b = a then some (.frz { cls := .type "list", data := .seq vs.toArray } (.lst (ns.map V.int))) else if tb b = true then some (.tbl #[]) else none) (fun p hp => (if_neg (no_tab p hp)).trans (if_pos (in_tb p hp))) (.inl ⟨_, if_pos rfl⟩) (fun b u z => ?_) (fun b u z => ?_)
    · by_cases c0 : b = a
      · have z := (if_pos c0).symm.trans z
        cases z
        rw [c0]
        exact ⟨ha, by rw [List.length_map]; exact hl, vs, _, vals, ha⟩
      · have z := (if_neg c0).symm.trans z
        by_cases c : tb b = true
        · obtain ⟨p, hp, rfl⟩ := tb_in c
          have z := (if_pos c).symm.trans z
          cases z
          exact TA.empty p hp
        · have z := (if_neg c).symm.trans z
          cases z
    · by_cases c0 : b = a
      · have z := (if_pos c0).symm.trans z
        exact .inl ⟨c0, hk, _, _, (Option.some.inj z).symm⟩
      · have z := (if_neg c0).symm.trans z
        by_cases c : tb b = true
        · exact .inr (tb_in c)
        · have z := (if_neg c).symm.trans z
          cases z
end
section
open PySem.Spec PyProof.Rows LamX
theorem mn_ext {st : Addr} {H H' : Hp} (e : ExtN H H') : ExtN (mn st H) (mn st H') := fun b o h n => by
  obtain ⟨n1, h1⟩ := mn_some h
  exact mn_at n1 (e b o h1 n)
theorem st_ext {st : Addr} {H H' : Hp} (h : StAt H st) (e : ExtN H H') : StAt H' st := by
  obtain ⟨x, y, z, h, ok⟩ := h
  exact ⟨x, y, z, e _ _ h (fun ps q => by cases q), ok⟩
theorem scr_ext {K : PySem.W.Frag} {H H' : Hp} {a : Addr} {xs : List V} (h : ScrOk K H a xs) (e : ExtN H H') : ScrOk K H' a xs := by
  rcases h with ⟨o, z⟩ | z
  · exact .inl ⟨o, e _ _ z (fun ps q => by cases q)⟩
  · exact .inr z
end
theorem bulk_all {k : Nat} : ∀ {l : List PyData}, (∀ z ∈ l, z.bulk ≤ k) → PyData.bulkAll l ≤ (k + 1) * l.length
  | [], _ => by simp only [PyData.bulkAll]; exact Nat.zero_le _
  | u :: v, h => by
    have h1 := h u List.mem_cons_self
    have h2 := bulk_all (l := v) fun z hz => h z (List.mem_cons_of_mem _ hz)
    simp only [PyData.bulkAll, List.length_cons]
    rw [Nat.mul_add]
    omega
section
open PySem.Spec PyProof.Rows LamX
theorem TabsG.kp {PT : List Addr} {H H' : Hp} {st : Addr} (t : TabsG PT H) (sa : StAt H st) (k : Kp st H H') : TabsG PT H' := fun P hP => by
  obtain ⟨l, hl⟩ := sa.some
  obtain ⟨ps, h1, h2⟩ := t P hP
  exact ⟨ps, k _ _ (fun z => by rw [z, hl] at h1; cases h1) h1, h2⟩
abbrev c01 : Nat := 10 ^ 29 + 1
structure ThOk (z : PyData) : Prop where
  bd : Bd (c01 + 30000) 15 z
  blk : z.bulk ≤ 2000
  dep : z.depth ≤ 12
theorem ThOk.of {c wd : Nat} {z : PyData} (b : Bd c wd z) (h1 : c ≤ c01 + 30000) (h2 : wd ≤ 15) (h3 : z.bulk ≤ 2000) (h4 : z.depth ≤ 12) : ThOk z := ⟨b.mono h1 h2, h3, h4⟩
theorem ThOk.len {z : PyData} (h : ThOk z) : z.showable = true ∧ z.depth ≤ 64 ∧ z.shown.length ≤ sizeLine := by
  have l := PyData.shown_le_bulk 40 (by decide) z (h.bd.sho (by decide))
  have b := h.blk
  exact ⟨h.bd.shw (by decide), Nat.le_trans h.dep (by decide), big (by omega)⟩
theorem lit_ok {z : PyData} (h : (bdQ c01 2 3 z && decide (z.bulk ≤ 20) && decide (z.depth ≤ 3)) = true) : ThOk z := by
  simp only [Bool.and_eq_true, decide_eq_true_eq] at h
  exact ThOk.of (bdQ_ok _ _ h.1.1) (by decide) (by decide) (by omega) (by omega)
theorem bool_len (b : Bool) : (PyData.shown (.bool b)).length ≤ sizeLine := by cases b <;> exact small (by decide)
theorem chart_is {d : PyData} (h : ChOk 12 d) : Bd c01 12 d ∧ d.bulk ≤ 156 ∧ d.depth ≤ 2 ∧ chartD d = true := by
  obtain ⟨rows, rfl, lr, ok⟩ := h
  have l12 : rows.length ≤ 12 := by omega
  refine ⟨.tup (by rw [List.length_map]; exact l12) fun z hz => ?_, ?_, ?_, ?_⟩
  · obtain ⟨ns, hn, rfl⟩ := List.mem_map.mp hz
    obtain ⟨a, b, c⟩ := ok ns hn
    refine .tup (by rw [List.length_map]; omega) fun y hy => ?_
    obtain ⟨i, hi, rfl⟩ := List.mem_map.mp hy
    have := b i hi
    exact .int (Nat.lt_of_lt_of_le (show i.natAbs < 12 by omega) (by decide))
  · rw [bulk_tup]
    have := bulk_all (k := 12) (l := rows.map fun ns => PyData.tuple (ns.map .int)) fun z hz => by
      obtain ⟨ns, hn, rfl⟩ := List.mem_map.mp hz
      obtain ⟨a, b, c⟩ := ok ns hn
      rw [bulk_tup]
      have h0 := bulk_all (k := 0) (l := ns.map PyData.int) fun y hy => by
        obtain ⟨i, _, rfl⟩ := List.mem_map.mp hy
        simp [PyData.bulk]
      rw [List.length_map] at h0
      omega
    rw [List.length_map] at this
    omega
  · rw [depth_tup]
    have := depth_all (k := 1) (l := rows.map fun ns => PyData.tuple (ns.map .int)) fun z hz => by
      obtain ⟨ns, hn, rfl⟩ := List.mem_map.mp hz
      rw [depth_tup]
      have h0 := depth_all (k := 0) (l := ns.map PyData.int) fun y hy => by
        obtain ⟨i, _, rfl⟩ := List.mem_map.mp hy
        simp [PyData.depth]
      omega
    omega
  · show (rows.map fun ns => PyData.tuple (ns.map .int)).all (pointsD _) = true
    refine List.all_eq_true.mpr fun z hz => ?_
    obtain ⟨ns, hn, rfl⟩ := List.mem_map.mp hz
    obtain ⟨a, b, c⟩ := ok ns hn
    rw [List.length_map]
    exact c
end
/-! the law -/
section
open PySem.Spec PyProof.Rows LamX
theorem chOk_rows {d : PyData} (h : ChOk 10 d) : ∃ rows : List (List Int), d = chD rows ∧ rows.length ≤ 10 ∧ RwOk rows ∧ (∀ ns ∈ rows, ns.Nodup) ∧ Bd c01 12 d ∧ d.bulk ≤ 156 ∧ d.depth ≤ 2 ∧ chartD (chD rows) = true := by
  have h12 : ChOk 12 d := by
    obtain ⟨rows, e, l, r⟩ := h
    exact ⟨rows, e, by omega, r⟩
  obtain ⟨b1, b2, b3, b4⟩ := chart_is h12
  obtain ⟨rows, rfl, l, r⟩ := h
  refine ⟨rows, rfl, by omega, ⟨by omega, fun ns hn => ⟨(r ns hn).1, (r ns hn).2.1⟩⟩, fun ns hn => ?_, b1, b2, b3, b4⟩
  exact ((pts_law ns 0).mp (r ns hn).2.2).1.imp fun h e => by omega
/-- a thing ahead of its bending -/
structure TO (z : PyData) : Prop where
  bd : Bd c01 12 z
  blk : z.bulk ≤ 200
  dep : z.depth ≤ 5
theorem int_to {ns : List Int} (l : ns.length ≤ 12) (h : ∀ i ∈ ns, 0 ≤ i ∧ i < 12) : TO (.tuple (ns.map .int)) := by
  refine ⟨.tup (by rw [List.length_map]; exact l) fun y hy => ?_, ?_, ?_⟩
  · obtain ⟨i, hi, rfl⟩ := List.mem_map.mp hy
    have := h i hi
    exact .int (Nat.lt_of_lt_of_le (show i.natAbs < 12 by omega) (by decide))
  · rw [bulk_tup]
    have h0 := bulk_all (k := 0) (l := ns.map PyData.int) fun y hy => by
      obtain ⟨i, _, rfl⟩ := List.mem_map.mp hy
      simp [PyData.bulk]
    rw [List.length_map] at h0
    omega
  · rw [depth_tup]
    have h0 := depth_all (k := 0) (l := ns.map PyData.int) fun y hy => by
      obtain ⟨i, _, rfl⟩ := List.mem_map.mp hy
      simp [PyData.depth]
    omega
theorem TO.th {z : PyData} (t : TO z) : ThOk z := ThOk.of t.bd (by decide) (by decide) (by have := t.blk; omega) (by have := t.dep; omega)
theorem TO.ben {z z' : PyData} (t : TO z) (b : Bn c01 12 z z') : ThOk z' := ThOk.of b.bd (by decide) (by decide) (by have := t.blk; have := b.blk; omega) (by have := t.dep; have := b.dep; omega)
/-- what stands -/
structure Ev (K : PySem.W.Frag) (PT : List Addr) (a : Addr) (xs : List V) (st : Addr) (cv sv gv : V) (rows : List (List Int)) (ss gs : List Int) (H : Hp) : Prop where
  scr : ScrOk K H a xs
  sa : StAt H st
  ch : Dp K (mn st H) cv (chD rows)
  so : Dp K (mn st H) sv (.tuple (ss.map .int))
  go : Dp K (mn st H) gv (.tuple (gs.map .int))
  tb : TabsG PT H
/-- the things brought together so far, at most n -/
def Ts (K : PySem.W.Frag) (st p : Addr) (n : Nat) (Pz : PyData → Prop) (H : Hp) : Prop := ∃ (vs : List V) (ds : List PyData), H p = some (.lst vs) ∧ p ≠ st ∧ DpAll K (mn st H) vs ds ∧ (∀ z ∈ ds, Pz z) ∧ vs.length ≤ n
abbrev TOt (z : PyData) : Prop := TO z ∧ tupOnly z = true
variable {P : Program} {w : World} {K : PySem.W.Frag} {mg : Str → Option Value} {base : Heap} {f c : Addr} {fd : FuncData} {PT : List Addr}
theorem Ev.mv {a st : Addr} {xs : List V} {cv sv gv : V} {rows : List (List Int)} {ss gs : List Int} {H H' : Hp} (h : Ev K PT a xs st cv sv gv rows ss gs H) (m : Mv st H H') : Ev K PT a xs st cv sv gv rows ss gs H' :=
  ⟨h.scr.kt (m.kp.kt h.sa), m.sa, dp_same (mn_kp m.kp) h.ch, dp_same (mn_kp m.kp) h.so, dp_same (mn_kp m.kp) h.go, h.tb.kp h.sa m.kp⟩
theorem Ts.mv {st p : Addr} {n : Nat} {Pz : PyData → Prop} {H H' : Hp} (t : Ts K st p n Pz H) (m : Mv st H H') : Ts K st p n Pz H' := by
  obtain ⟨vs, ds, h1, h2, h3, h4, h5⟩ := t
  exact ⟨vs, ds, m.kp _ _ h2 h1, h2, dps_same (mn_kp m.kp) h3, h4, h5⟩
theorem Ts.cat {st p p5 : Addr} {n m : Nat} {Pz : PyData → Prop} {ws : List V} {es : List PyData} {H : Hp} (t : Ts K st p n Pz H) (sa : StAt H st) (hw : DpAll K (mn st H) ws es) (hok : ∀ z ∈ es, Pz z) (lw : ws.length ≤ m) (f5 : H p5 = none) :
    ∃ vs : List V, (upd H p5 (.lst ws)) p = some (.lst vs) ∧ vs.length + ws.length ≤ n + m ∧ ∀ p6, (upd H p5 (.lst ws)) p6 = none → Mv st H (upd (upd H p5 (.lst ws)) p6 (.lst (vs ++ ws))) ∧ Ts K st p6 (n + m) Pz (upd (upd H p5 (.lst ws)) p6 (.lst (vs ++ ws))) := by
  obtain ⟨vs, ds, h1, h2, h3, h4, h5⟩ := t
  have q5 := same_new f5 (.lst ws)
  refine ⟨vs, q5 _ _ h1, by omega, fun p6 f6 => ?_⟩
  have q6 := same_new f6 (.lst (vs ++ ws))
  have q56 := q5.trans q6
  have mm := mn_kp (Kp.of_same (st := st) q56)
  exact ⟨⟨Kp.of_same q56, sa.same q56⟩, _, ds ++ es, upd_same, (sa.same q5).ne f6, dpAll_append (dps_same mm hw) (dps_same mm h3), fun z hz => (List.mem_append.mp hz).elim (h4 z) (hok z), by rw [List.length_append]; omega⟩
theorem mv_of {st : Addr} {H H' : Hp} (sa : StAt H st) (s : Same H H') : Mv st H H' := ⟨Kp.of_same s, sa.same s⟩
theorem ch_at {H : Hp} {v : V} {rows : List (List Int)} (h : Dp K H v (chD rows)) : ∃ ca cs, v = .ref ca ∧ SqT K H ca cs ∧ cs.length = rows.length := by
  cases h with
  | @tup ca cs _ cat ceach => exact ⟨ca, cs, rfl, cat, by have := dpAll_len ceach; rw [List.length_map] at this; exact this⟩
theorem Ev.len {a st : Addr} {xs : List V} {ca : Addr} {sv gv : V} {rows : List (List Int)} {ss gs : List Int} {H : Hp} (h : Ev K PT a xs st (.ref ca) sv gv rows ss gs H) : ∃ cs, SqT K H ca cs ∧ cs.length = rows.length := by
  obtain ⟨_, cs, e, h1, h2⟩ := ch_at h.ch
  cases e
  exact ⟨cs, sqT_same mn_in h1, h2⟩
theorem PsOk.pd {n : Int} {ns : List Int} (h : PsOk n ns) : pointsD n (.tuple (ns.map .int)) = true := h.2.2
theorem PsOk.sub {n : Int} {ns ms : List Int} (h : PsOk n ns) (s : ms.Sublist ns) : PsOk n ms := by
  obtain ⟨h1, h2, h3⟩ := h
  have l := s.length_le
  refine ⟨by omega, fun i hi => h2 i (s.subset hi), (pts_law ms 0).mpr ⟨((pts_law ns 0).mp h3).1.sublist s, fun i hi => h2 i (s.subset hi)⟩⟩
theorem tupOnly_ints (ns : List Int) : tupOnly (.tuple (ns.map .int)) = true := by
  show tupOnlyAll _ = true
  exact tupO_ints ns
theorem ps_imp {X : Cx} {e : Stmt} {t t' : TS} (h : PS X e t) (i : ∀ D σ H, t' D σ H → t D σ H) : PS X e t' := ⟨fun pins s σ H D I q => h.run pins s σ H D I (i D σ H q)⟩
/-- [x for x in t if ..], whatever the tests say -/
theorem lc_sub {te0 : TE} {a : Addr} {row : List Int} {j : Nat} {tt : TT} {σ : L2.St} {H : Hp} {Q : VK} (h0 : ∀ Q : VK, Q (.ref a) H → te0 σ H Q) (at_ : SqT K H a (row.map V.int)) (hl : row.length < 1000) (hj : j < σ.length)
    (hs : ∀ (n : Int) (H' : Hp) (R' : Bool → Hp → Prop), n ∈ row → Same H H' → (∀ b H'', Same H' H'' → R' b H'') → tt (σ.set j (some (.int n))) H' R')
    (hd : ∀ D H' (zs : List Int), Same H H' → H' D = some (.lst (zs.map V.int)) → zs.Sublist row → Q (.ref D) H') : tLc (iTup K te0) (gName j) tt (tVar j) [j] σ H Q := by
  refine h0 _ ⟨a, rfl, ⟨_, at_⟩, fun D hD => ?_⟩
  have w1 : wipe σ [j] = σ.set j none := rfl
  have w2 : ∀ x, (wipe σ [j]).set j (some x) = σ.set j (some x) := fun x => by rw [w1, List.set_set]
  refine lc_tup (xs := row.map V.int) (fun i H' => Same H H' ∧ ∃ zs : List Int, H' D = some (.lst (zs.map V.int)) ∧ zs.Sublist (row.take i)) ⟨same_new hD _, [], upd_same, List.nil_sublist _⟩ (fun i H' _ h => sqT_same h.1 at_) (fun i x H' hx h => ?_) (fun H' h => ?_)
  · obtain ⟨sm, zs, hz, sb⟩ := h
    obtain ⟨n, hn, rfl⟩ := ints_get hx
    have et : row.take (i + 1) = row.take i ++ [n] := by rw [List.take_add_one, hn]; rfl
    have lz := sb.length_le
    rw [List.length_take] at lz
    show wipe ((wipe σ [j]).set j (some (V.int n))) [j] = wipe σ [j] ∧ _
    rw [w2]
    refine ⟨by show (σ.set j (some (V.int n))).set j none = σ.set j none; rw [List.set_set], hs n H' _ (List.mem_of_getElem? hn) sm fun b H'' sm2 => ?_⟩
    cases b with
    | true =>
      refine ifT rfl ⟨_, by rw [List.getElem?_set_self hj], _, sm2 _ _ hz, Nat.lt_of_lt_of_le (show _ < 1000 by rw [List.length_map]; omega) (small (Nat.le_refl _)), fun b' o hb' => by rw [upd_ne (ne_of_none hb' hD)]; exact (sm.trans sm2) b' o hb', zs ++ [n], ?_, ?_⟩
      · rw [upd_same, List.map_append]
        rfl
      · rw [et]
        exact sb.append (List.Sublist.refl _)
    | false => exact ifF rfl ⟨sm.trans sm2, zs, sm2 _ _ hz, by rw [et]; exact sb.trans (List.sublist_append_left _ _)⟩
  · obtain ⟨sm, zs, hz, sb⟩ := h
    rw [List.length_map, List.take_length] at sb
    exact hd D H' zs sm hz sb
/-- what is known of a chart -/
structure RF (rows : List (List Int)) : Prop where
  l10 : rows.length ≤ 10
  rw : RwOk rows
  nd : ∀ ns ∈ rows, ns.Nodup
  bd : Bd c01 12 (chD rows)
  blk : (chD rows).bulk ≤ 156
  dep : (chD rows).depth ≤ 2
  cd : chartD (chD rows) = true
theorem PsOk.to {rows : List (List Int)} {ns : List Int} (r : RF rows) (h : PsOk rows.length ns) : TOt (.tuple (ns.map .int)) :=
  ⟨int_to (by have := h.1; have := r.l10; omega) (fun i hi => by have := h.2.1 i hi; have := r.l10; omega), tupOnly_ints ns⟩
theorem in_to {rows : List (List Int)} {ns : List Int} (r : RF rows) (l : ns.length ≤ 12) (h : ∀ i ∈ ns, 0 ≤ i ∧ i < (rows.length : Int)) : TOt (.tuple (ns.map .int)) :=
  ⟨int_to l (fun i hi => by have := h i hi; have := r.l10; omega), tupOnly_ints ns⟩
def tGoals (K : PySem.W.Frag) (PT : List Addr) : TS := fun D σ G => ∃ (a : Addr) (xs : List V) (st ca : Addr) (sv gv : V) (rows : List (List Int)) (ss gs : List Int) (o1 o3 o7 o8 o9 o10 o11 : Option V), σ = [some (.ref a), o1, some (.ref st), o3, some (.ref ca), some sv, some gv, o7, o8, o9, o10, o11] ∧
  Ev K PT a xs st (.ref ca) sv gv rows ss gs G ∧ RF rows ∧ PsOk rows.length ss ∧ PsOk rows.length gs ∧ ∀ gv' gs' G', Ev K PT a xs st (.ref ca) sv gv' rows ss gs' G' → PsOk rows.length gs' → D.nx [some (.ref a), o1, some (.ref st), o3, some (.ref ca), some sv, some gv', o7, o8, o9, o10, o11] G'
/-- a tuple of ints that was laid -/
theorem dp_laid {st p : Addr} {ms : List Int} {H : Hp} (sa : StAt H st) (h : SqT K H p (ms.map V.int)) : Dp K (mn st H) (.ref p) (.tuple (ms.map .int)) := .tup (sqT_mn sa h) (dp_ints ms)
abbrev NLaw : List Str := ["_law_script", "_law_k", "_law_state_here", "_law_turn", "_law_chart_here", "_law_starts", "_law_goals", "_law_things", "_law_thing", "_law_kept", "_law_one", "_law_lap"]
theorem scLaw : FnScope NLaw ["_law_script"] (defScope sLaw) := ⟨rfl, rfl, rfl, by decide +kernel, rfl, by decide +kernel, by decide +kernel⟩
structure Law02 (P : Program) (w : World) (K : PySem.W.Frag) (mg : Str → Option Value) (base : Heap) (PT : List Addr) (k : Nat) : Prop where
  cSt : Cal P w K mg base "_law_state" k ["_law_script", "_law_k"] (spState K)
  cC : Cal P w K mg base "_law_choice" k ["_law_state_here", "_law_many"] spChoice
  cCh : Cal P w K mg base "_law_chart" k ["_law_state_here", "_law_most"] (spChartG K)
  cS : Cal P w K mg base "_law_some" k ["_law_state_here", "_law_many"] (spSomeP K)
  cK : Cal P w K mg base "_law_closed" k ["_law_chart_here", "_law_starts"] (spClosed K)
  cA : Cal P w K mg base "_law_walk" k ["_law_state_here", "_law_chart_here", "_law_starts"] (spWalk K)
  cO : Cal P w K mg base "_law_odd" k ["_law_state_here"] (spOdd K)
  cB : Cal P w K mg base "_law_bent" k ["_law_state_here", "_law_thing"] (spBent K c01 12 5)
  cW : Cal P w K mg base "is_way" k ["chart", "starts", "goals", "thing"] (spWay K PT wayD)
  cR : Cal P w K mg base "is_bar" k ["chart", "starts", "goals", "thing"] (spWay K PT barD)
  cLW : Cal P w K mg base "_law_is_way" k ["_law_chart_here", "_law_starts", "_law_goals", "_law_thing"] (spLWay K wayD)
  cLR : Cal P w K mg base "_law_is_bar" k ["_law_chart_here", "_law_starts", "_law_goals", "_law_thing"] (spLWay K barD)
set_option maxHeartbeats 0 in
theorem law_body {k : Nat} {cdv : Value} {s : Shared} {H : Hp} {a : Addr} {ns : List Int} (T : Free mg) (sys : SysB base) (scr : ScrOk K H a (ns.map V.int)) (h63 : ns.length ≤ 63) (tbs : TabsG PT H)
    (hr : Room k (callerA.deeper (envOfC "law" (defScope sLaw) s.heap.objs.size f cdv))) (L : Law02 P w K mg base PT k) :
    ∃ t, PSs (cxOf CX0 P w K mg base NLaw "law" (defScope sLaw) f cdv callerA [] s H E0).nox (defBody sLaw) t ∧ t { nx := fun _ _ => False, rt := fun v _ => v = .bl true } (L2.start NLaw [.ref a]) H := by
  have hu : (callerA.deeper (envOfC "law" (defScope sLaw) s.heap.objs.size f cdv)).units + 80 < cLine := by
    have := hr.un
    omega
  refine ⟨_, pss_cons (ps_for PassesOwn.never rfl (pi_range1 rfl T.range (pa_cons (pe_callB (call_max2 rfl) rfl T.max (by decide +kernel) (pa_cons pe_int (pa_cons (pe_callB (call_min2 rfl) rfl T.min (by decide +kernel)
        (pa_cons (pe_callB call_len_seq rfl T.len PySem.boot_len (pa_cons (pv 0) pa_nil)) (pa_cons pe_int pa_nil))) pa_nil))) pa_nil)) (pg_name (i := 1) scLaw.nd rfl (.inl rfl))
    (pss_cons (ps_set (i := 2) scLaw.nd rfl (.inr rfl) (pe_cal L.cSt hr rfl (pa_cons (pv 0) (pa_cons (pv 1) pa_nil))))
    (pss_one (ps_for PassesOwn.never rfl (pi_range1 rfl T.range (pa_cons pe_int pa_nil)) (pg_name (i := 3) scLaw.nd rfl (.inl rfl))
      (pss_cons (ps_set (i := 4) scLaw.nd rfl (.inr rfl) (pe_cal L.cCh hr rfl (pa_cons (pv 2) (pa_cons pe_int pa_nil))))
      (pss_cons (ps_asg (pe_tup (pa_cons (pe_cal L.cS hr rfl (pa_cons (pv 2) (pa_cons (pe_callB call_len_seq rfl T.len PySem.boot_len (pa_cons (pv 4) pa_nil)) pa_nil))) (pa_cons (pe_cal L.cS hr rfl (pa_cons (pv 2) (pa_cons (pe_callB call_len_seq rfl T.len PySem.boot_len (pa_cons (pv 4) pa_nil)) pa_nil))) pa_nil)))
        (pg_tup rfl (pgs_cons (pg_name (i := 5) scLaw.nd rfl (.inr rfl)) (pgs_cons (pg_name (i := 6) scLaw.nd rfl (.inl rfl)) pgs_nil))))
      (pss_cons (ps_imp (t' := tGoals K PT) (ps_if (pt_cmpR op_eq (pe_cal L.cC hr rfl (pa_cons (pv 2) (pa_cons pe_int pa_nil))) pe_int (nomark _))
        (pss_one (ps_set (i := 6) scLaw.nd rfl (.inl rfl) (pe_callTy call_tuple_of rfl T.tuple (by decide +kernel) (pa_cons (pe_lc (own := [("_law_one", 10)]) (g := gName 10) (tt := tTest (tOp (rIn K true) (tVar 10) (tCall (spClosed K) [] E0 (tCons (tVar 4) (tCons (tVar 5) tNil))))) (te := tVar 10) rfl scLaw.nd (pi_tup (pv 6))
          (blkOk_by (own := [("_law_one", 10)]) (N := NLaw) (sc := defScope sLaw) (by decide +kernel))
          (fun _ _ _ _ _ => pg_name (i := 10) scLaw.nd rfl (Or.inl rfl)) (fun _ _ _ _ _ => pts_one (pt_cmpR op_notIn_seq (pv 10) (pe_cal L.cK hr rfl (pa_cons (pv 4) (pa_cons (pv 5) pa_nil))) rfl)) (fun _ _ _ _ _ => pv 10)) pa_nil)))) pss_nil) ?goals)
      (pss_cons (ps_setLc (i := 7) (own := [("_law_lap", 11)]) (g := gName 11) (tt := tYes) (te := tFr (tCall (spWalk K) [] E0 (tCons (tVar 2) (tCons (tVar 4) (tCons (tVar 5) tNil))))) rfl scLaw.nd rfl rfl rfl (pi_range1 rfl T.range (pa_cons pe_int pa_nil))
          (blkOk_by (own := [("_law_lap", 11)]) (N := NLaw) (sc := defScope sLaw) (by decide +kernel))
          (fun _ _ _ _ _ => pg_name (i := 11) scLaw.nd rfl (Or.inl rfl)) (fun _ _ _ _ _ => pts_nil) (fun _ _ _ _ _ => pe_fr (pe_cal L.cA hr rfl (pa_cons (pv 2) (pa_cons (pv 4) (pa_cons (pv 5) pa_nil))))))
      (pss_cons (ps_set (i := 7) scLaw.nd rfl (.inl rfl) (pe_op op_cat (pv 7) (pe_lst (pa_cons (pe_cal L.cK hr rfl (pa_cons (pv 4) (pa_cons (pv 5) pa_nil))) (pa_cons (pv 5) (pa_cons (pv 6) pa_nil))))))
      (pss_cons (ps_set (i := 7) scLaw.nd rfl (.inl rfl) (pe_op op_cat (pv 7) (pe_lst (pa_cons (pe_cal L.cS hr rfl (pa_cons (pv 2) (pa_cons (pe_callB call_len_seq rfl T.len PySem.boot_len (pa_cons (pv 4) pa_nil)) pa_nil))) (pa_cons (pe_cal L.cK hr rfl (pa_cons (pv 4) (pa_cons (pe_op op_catA (pv 5) (pv 5)) pa_nil))) (pa_cons (pe_tup pa_nil) pa_nil))))))
      (pss_cons (ps_expr (pe_bm PySem.F.plainAttrs_list PySem.F.slot_list_append PySem.F.type_list_append mt_append (pv 7) (pa_cons (pe_tupRg rfl rfl T.tuple (prg_1 rfl T.range (pe_callB call_len_seq rfl T.len PySem.boot_len (pa_cons (pv 4) pa_nil)))) pa_nil)))
      (pss_cons (ps_set (i := 7) scLaw.nd rfl (.inl rfl) (pe_op op_cat (pv 7) (pe_lst (pa_cons (pe_cal L.cK hr rfl (pa_cons (pv 4) (pa_cons (pe_op op_catA (pe_cal L.cS hr rfl (pa_cons (pv 2) (pa_cons (pe_callB call_len_seq rfl T.len PySem.boot_len (pa_cons (pv 4) pa_nil)) pa_nil))) (pv 5)) pa_nil))) (pa_cons (pe_cal L.cO hr rfl (pa_cons (pv 2) pa_nil)) pa_nil)))))
      (pss_one (ps_for PassesOwn.never rfl (pi_list (pe_op op_cat (pv 7) (pe_lc (own := [("_law_thing", 8)]) (g := gName 8) (tt := tYes) (te := tFr (tCall (spBent K c01 12 5) [] E0 (tCons (tVar 2) (tCons (tVar 8) tNil)))) rfl scLaw.nd (pi_list (pv 7))
          (blkOk_by (own := [("_law_thing", 8)]) (N := NLaw) (sc := defScope sLaw) (by decide +kernel))
          (fun _ _ _ _ _ => pg_name (i := 8) scLaw.nd rfl (Or.inl rfl)) (fun _ _ _ _ _ => pts_nil) (fun _ _ _ _ _ => pe_fr (pe_cal L.cB hr rfl (pa_cons (pv 2) (pa_cons (pv 8) pa_nil))))))) (pg_name (i := 8) scLaw.nd rfl (.inl rfl))
        (pss_cons (ps_set (i := 9) scLaw.nd rfl (.inl rfl) (pe_callB (call_reprA sys rfl hu) rfl T.repr (by decide +kernel) (pa_cons (pe_tup (pa_cons (pv 4) (pa_cons (pv 5) (pa_cons (pv 6) (pa_cons (pv 8) pa_nil))))) pa_nil)))
        (pss_cons (ps_if (pt_cmpR op_ne (pe_callB (call_reprA sys rfl hu) rfl T.repr (by decide +kernel) (pa_cons (pe_cal L.cW hr rfl (pa_cons (pv 4) (pa_cons (pv 5) (pa_cons (pv 6) (pa_cons (pv 8) pa_nil))))) pa_nil)) (pe_callB (call_reprA sys rfl hu) rfl T.repr (by decide +kernel) (pa_cons (pe_cal L.cLW hr rfl (pa_cons (pv 4) (pa_cons (pv 5) (pa_cons (pv 6) (pa_cons (pv 8) pa_nil))))) pa_nil)) (nomark _)) (pss_one (ps_ret pe_bl)) pss_nil)
        (pss_cons (ps_if (pt_cmpR op_ne (pe_callB (call_reprA sys rfl hu) rfl T.repr (by decide +kernel) (pa_cons (pe_cal L.cR hr rfl (pa_cons (pv 4) (pa_cons (pv 5) (pa_cons (pv 6) (pa_cons (pv 8) pa_nil))))) pa_nil)) (pe_callB (call_reprA sys rfl hu) rfl T.repr (by decide +kernel) (pa_cons (pe_cal L.cLR hr rfl (pa_cons (pv 4) (pa_cons (pv 5) (pa_cons (pv 6) (pa_cons (pv 8) pa_nil))))) pa_nil)) (nomark _)) (pss_one (ps_ret pe_bl)) pss_nil)
        (pss_one (ps_if (pt_cmpR op_ne (pe_callB (call_reprA sys rfl hu) rfl T.repr (by decide +kernel) (pa_cons (pe_tup (pa_cons (pv 4) (pa_cons (pv 5) (pa_cons (pv 6) (pa_cons (pv 8) pa_nil))))) pa_nil)) (pv 9) (nomark _)) (pss_one (ps_ret pe_bl)) pss_nil)))))))))))))))))))
    (pss_one (ps_ret pe_bl)), ?main⟩
  case goals =>
    rintro D σ G ⟨a, xs, st, ca, sv, gv, rows, ss, gs, o1, o3, o7, o8, o9, o10, o11, rfl, ev, rf, pss, psg, h⟩
    refine ⟨_, rfl, st, 2, rfl, ev.sa, by decide, by decide, fun r6 G6 _ _ mv6 => ⟨rfl, _, rfl, ite2 (fun c => ?_) (fun c => h gv gs G6 (ev.mv mv6) psg)⟩⟩
    have ev6 := ev.mv mv6
    obtain ⟨ga, rfl, gat⟩ := ints_at (dp_same mn_in ev6.go)
    have lgs := psg.1
    have l10 := rf.l10
    dsimp only [tAsg, tCB, tCons]
    refine lc_sub (row := gs) (σ := [some (.ref a), o1, some (.ref st), o3, some (.ref ca), some sv, some (.ref ga), o7, o8, o9, o10, o11]) (fun Q h => ⟨_, rfl, h⟩) gat (by omega) (by simp) (fun n H' R' hn sm hR => ?_) (fun D' H' zs sm hz sb => ?_)
    · have ev7 := ev6.mv (mv_of ev6.sa sm)
      refine ⟨_, rfl, _, rfl, _, rfl, .ref ca, sv, rows, ss, rfl, dp_same mn_in ev7.ch, rf.rw, rf.nd, dp_same mn_in ev7.so, by have := pss.1; omega, pss.2.1, fun q1 ms H'' sm1 hq1 lm hm => ⟨q1, _, rfl, .inr hq1, rfl, flat_ints ms, _, rfl, hR _ _ sm1⟩⟩
    · refine ⟨D', _, rfl, .inl ⟨SqL.of hz, fun p7 f7 => ?_⟩⟩
      have n7 := same_new f7 (.tup (zs.map V.int))
      have mv7 := mv_of ev6.sa (sm.trans n7)
      have ev7 := ev6.mv mv7
      exact h (.ref p7) zs _ ⟨ev7.scr, ev7.sa, ev7.ch, ev7.so, dp_laid ev7.sa (SqT.of upd_same), ev7.tb⟩ (psg.sub sb)
  case main =>
  have ll : (ns.map V.int).length = ns.length := List.length_map _
  have hm : 0 ≤ (if (if (5 : Int) < ((ns.map V.int).length : Int) then 5 else ((ns.map V.int).length : Int)) > 1 then (if (5 : Int) < ((ns.map V.int).length : Int) then 5 else ((ns.map V.int).length : Int)) else 1) ∧
      (if (if (5 : Int) < ((ns.map V.int).length : Int) then 5 else ((ns.map V.int).length : Int)) > 1 then (if (5 : Int) < ((ns.map V.int).length : Int) then 5 else ((ns.map V.int).length : Int)) else 1) ≤ 5 := by
    split <;> split <;> omega
  refine ⟨_, rfl, a, _, rfl, .inl scr.sq, _, _, rfl, _, _, rfl, _, rfl, by omega, by omega, ?_⟩
  refine for_range (lo := 0) (fun i σ H' => ∃ o1 o2 o3 o4 o5 o6 o7 o8 o9 o10 o11, σ = [some (.ref a), o1, o2, o3, o4, o5, o6, o7, o8, o9, o10, o11] ∧ ScrOk K H' a (ns.map V.int) ∧ TabsG PT H') ⟨_, _, _, _, _, _, _, _, _, _, _, rfl, scr, tbs⟩ (fun i σ H' hi h => ?_) (fun σ H' h => rfl)
  obtain ⟨o1, o2, o3, o4, o5, o6, o7, o8, o9, o10, o11, rfl, sc, tb'⟩ := h
  refine ⟨_, rfl, _, rfl, a, ns, 0 + (i : Int), rfl, sc.sq, by omega, fun st x y z hst ok => ?_⟩
  have s0 := same_new hst (.lst [.int x, .int y, .int z])
  have sa0 : StAt (upd H' st (.lst [.int x, .int y, .int z])) st := ⟨x, y, z, upd_same, ok⟩
  have sc0 := scr_ext sc (ext_same s0)
  have tb0 := tb'.same s0
  generalize upd H' st (.lst [.int x, .int y, .int z]) = H0 at sa0 sc0 tb0
  clear s0
  refine ⟨3, rfl, by decide, by decide, ?_⟩
  refine for_range (lo := 0) (n := 3) (fun j σ H' => ∃ o3 o4 o5 o6 o7 o8 o9 o10 o11, σ = [some (.ref a), some (.int (0 + (i : Int))), some (.ref st), o3, o4, o5, o6, o7, o8, o9, o10, o11] ∧ ScrOk K H' a (ns.map V.int) ∧ StAt H' st ∧ TabsG PT H') ⟨_, _, _, _, _, _, _, _, _, rfl, sc0, sa0, tb0⟩ (fun j σ H1 hj h => ?_) (fun σ H1 h => ?_)
  · obtain ⟨o3, o4, o5, o6, o7, o8, o9, o10, o11, rfl, sc1, sa1, tb1⟩ := h
    refine ⟨_, rfl, st, 10, rfl, sa1, by decide, by decide, fun cv d H2 mv2 hd2 ok2 => ?_⟩
    obtain ⟨rows, rfl, l10, hrw, hnd, bdC, blkC, depC, isC⟩ := chOk_rows ok2
    have rf : RF rows := ⟨l10, hrw, hnd, bdC, blkC, depC, isC⟩
    clear ok2 hrw hnd bdC blkC depC isC
    have sc2 := sc1.kt (mv2.kp.kt sa1)
    have tb2 := tb1.kp sa1 mv2.kp
    obtain ⟨ca, cs, rfl, cat, lc⟩ := ch_at hd2
    refine ⟨_, rfl, _, rfl, ca, cs, rfl, .inr (sqT_same mn_in cat), st, _, rfl, mv2.sa, by omega, by omega, fun sv ss H3 mv3 hs3 ps3 => ?_⟩
    have sc3 := sc2.kt (mv3.kp.kt mv2.sa)
    have tb3 := tb2.kp mv2.sa mv3.kp
    refine ⟨_, rfl, _, rfl, ca, cs, rfl, .inr (sqT_same ((mn_kp mv3.kp).trans mn_in) cat), st, _, rfl, mv3.sa, by omega, by omega, fun gv gs H4 mv4 hg4 ps4 => ?_⟩
    have sc4 := sc3.kt (mv4.kp.kt mv3.sa)
    have tb4 := tb3.kp mv3.sa mv4.kp
    rw [lc] at ps3 ps4
    have ev4 : Ev K PT a (ns.map V.int) st (.ref ca) sv gv rows ss gs H4 := ⟨sc4, mv4.sa, dp_same ((mn_kp mv3.kp).trans (mn_kp mv4.kp)) hd2, dp_same (mn_kp mv4.kp) hs3, hg4, tb4⟩
    refine ⟨small (by show 2 ≤ 1000; decide), fun p5 f5 => ⟨p5, _, rfl, SqT.of upd_same, rfl, _, _, rfl, _, _, rfl, rfl, ?_⟩⟩
    have ev5 := ev4.mv (mv_of ev4.sa (same_new f5 (.tup [sv, gv])))
    generalize upd H4 p5 (.tup [sv, gv]) = H5 at ev5
    clear ev4 sc4 tb4 hg4 mv4 sc3 tb3 hs3 mv3 cat lc sc2 tb2 hd2 mv2 sc1 sa1 tb1
    refine ⟨a, _, st, ca, sv, gv, rows, ss, gs, _, _, _, _, _, _, _, rfl, ev5, rf, ps3, ps4, fun gv gs H6 ev6 psg => ?_⟩
    clear ev5 ps4
    have l10 := rf.l10
    have lss := ps3.1
    have lgs := psg.1
    -- the walks
    refine ⟨5, rfl, by decide, by decide, fun D hD => ?_⟩
    refine lc_range (lo := 0) (n := 5) (fun l G => ∃ B vs ds, B D = none ∧ G = upd B D (.lst vs) ∧ vs.length = l ∧ Ev K PT a (ns.map V.int) st (.ref ca) sv gv rows ss gs B ∧ DpAll K (mn st B) vs ds ∧ ∀ z ∈ ds, TOt z) ⟨_, [], [], hD, rfl, rfl, ev6, .nil, fun z hz => by cases hz⟩ (fun l G hl h => ?_) (fun G h => ?_)
    · obtain ⟨B, vs, ds, hB, rfl, lv, evB, allB, okB⟩ := h
      refine ⟨rfl, yesG ⟨D, vs, upd_same, ?_⟩⟩
      rw [mn_upd hB]
      refine ⟨_, rfl, _, rfl, _, rfl, st, .ref ca, sv, rows, ss, rfl, evB.sa, evB.ch, rf.rw, evB.so, by omega, ps3.2.1, fun v ms B' mv' hv lm hm' nB' => ⟨vs, upd_same, Nat.lt_of_lt_of_le (show vs.length < 1000 by omega) (small (Nat.le_refl _)), B', vs ++ [v], ds ++ [.tuple (ms.map .int)], nB', upd_upd, by rw [List.length_append]; show _ + 1 = _; omega, evB.mv mv', dpAll_snoc hv (dps_same (mn_kp mv'.kp) allB), fun z hz => ?_⟩⟩
      rcases List.mem_append.mp hz with hz | hz
      · exact okB z hz
      · rw [List.mem_singleton.mp hz]
        exact in_to rf (by omega) hm'
    · obtain ⟨B, vs, ds, hB, rfl, lv, evB, allB, okB⟩ := h
      have mvD := mv_of evB.sa (same_new hB (.lst vs))
      have ev7 := evB.mv mvD
      have ts7 : Ts K st D 5 TOt (upd B D (.lst vs)) := ⟨vs, ds, upd_same, evB.sa.ne hB, dps_same (mn_kp mvD.kp) allB, okB, by omega⟩
      generalize upd B D (.lst vs) = H7 at ev7 ts7
      clear hB evB allB mvD
      -- closed, starts, goals
      have his : ∀ i ∈ ss, 0 ≤ i ∧ i < (rows.length : Int) := ps3.2.1
      refine ⟨_, rfl, _, rfl, _, rfl, .ref ca, sv, rows, ss, rfl, dp_same mn_in ev7.ch, rf.rw, rf.nd, dp_same mn_in ev7.so, by omega, his, fun q1 ms1 G1 sm1 hq1 lm1 hm1 => ⟨_, rfl, _, rfl, small (by show 3 ≤ 1000; decide), fun p5 f5 => ?_⟩⟩
      have mv1 := mv_of ev7.sa sm1
      have evG := ev7.mv mv1
      obtain ⟨vs1, x1, x2, x3⟩ := (ts7.mv mv1).cat (m := 3) evG.sa (.cons (dp_laid evG.sa hq1) (.cons evG.so (.cons evG.go .nil))) (fun z hz => by
        simp only [List.mem_cons, List.not_mem_nil, or_false] at hz
        rcases hz with rfl | rfl | rfl
        · exact in_to rf (by omega) hm1
        · exact PsOk.to rf ps3
        · exact PsOk.to rf psg) (by show 3 ≤ 3; decide) f5
      refine ⟨D, p5, vs1, _, rfl, rfl, x1, upd_same, small (by omega), fun p8 f8 => ?_⟩
      obtain ⟨mv8, ts8⟩ := x3 p8 f8
      have ev8 := evG.mv mv8
      generalize upd (upd G1 p5 (.lst [V.ref q1, sv, gv])) p8 (.lst (vs1 ++ [V.ref q1, sv, gv])) = H8 at ts8 ev8
      clear x1 x2 x3 mv8 f8 f5 evG mv1 hq1 sm1 ev7 ts7
      -- some, closed of twice the starts, ()
      obtain ⟨cs8, cat8, lc8⟩ := ev8.len
      refine ⟨_, rfl, _, rfl, _, rfl, ca, cs8, rfl, .inr cat8, st, _, rfl, ev8.sa, by omega, by omega, fun v1 ns1 G1 mv1 hv1 pk1 => ?_⟩
      rw [lc8] at pk1
      have ev9 := ev8.mv mv1
      obtain ⟨sa9, rfl, sat9⟩ := ints_at (dp_same mn_in ev9.so)
      refine ⟨_, rfl, _, rfl, _, rfl, catB_run sat9 sat9 (by rw [List.length_map]; omega) fun r2 G2 sm2 h2 => ?_⟩
      have mv2 := mv_of ev9.sa sm2
      have ev10 := ev9.mv mv2
      rw [← List.map_append] at h2
      refine ⟨.ref ca, .ref r2, rows, ss ++ ss, rfl, dp_same mn_in ev10.ch, rf.rw, rf.nd, .tup h2 (dp_ints _), by rw [List.length_append]; omega, fun i hi => (List.mem_append.mp hi).elim (his i) (his i), fun q3 ms3 G3 sm3 hq3 lm3 hm3 => ?_⟩
      have mv3 := mv_of ev10.sa sm3
      refine ⟨small (by show 0 ≤ 1000; decide), fun p4 f4 => ⟨small (by show 3 ≤ 1000; decide), fun p5 f5 => ?_⟩⟩
      have n4 := same_new f4 (.tup [])
      have mv4 := mv_of (ev10.mv mv3).sa n4
      have evG := (ev10.mv mv3).mv mv4
      have mvA := mv1.trans (mv2.trans (mv3.trans mv4))
      obtain ⟨vs1, x1, x2, x3⟩ := (ts8.mv mvA).cat (m := 3) evG.sa (.cons (dp_same (mn_kp (mv2.trans (mv3.trans mv4)).kp) hv1) (.cons (dp_laid evG.sa (sqT_same n4 hq3)) (.cons (.tup (sqT_mn evG.sa (SqT.of upd_same)) .nil) .nil))) (fun z hz => by
        simp only [List.mem_cons, List.not_mem_nil, or_false] at hz
        rcases hz with rfl | rfl | rfl
        · exact PsOk.to rf pk1
        · exact in_to rf (by omega) hm3
        · exact ⟨int_to (ns := []) (by decide) (fun i hi => by cases hi), rfl⟩) (by show 3 ≤ 3; decide) f5
      refine ⟨p8, p5, vs1, _, rfl, rfl, x1, upd_same, small (by omega), fun p11 f11 => ?_⟩
      obtain ⟨mv11, ts11⟩ := x3 p11 f11
      have ev11 := evG.mv mv11
      generalize upd (upd (upd G3 p4 (.tup [])) p5 (.lst [v1, V.ref q3, V.ref p4])) p11 (.lst (vs1 ++ [v1, V.ref q3, V.ref p4])) = H11 at ts11 ev11
      clear x1 x2 x3 mv11 f11 f5 evG mvA mv4 n4 f4 mv3 hq3 sm3 h2 ev10 mv2 sm2 sat9 ev9 hv1 mv1 cat8 lc8 ev8 ts8
      -- all the points, appended
      obtain ⟨cs11, cat11, lc11⟩ := ev11.len
      obtain ⟨vs, ds, at11, ne11, all11, ok11, lv11⟩ := ts11
      refine ⟨_, rfl, .inl ⟨rfl, _, SqL.of at11⟩, _, rfl, ca, cs11, rfl, .inr cat11, _, rfl, RgOk.of_le (by decide) (by omega) (by decide) (by omega), fun q12 f12 => ?_⟩
      have n12 := same_new f12 (.tup (rgV 0 (cs11.length : Int)))
      have ev12 := ev11.mv (mv_of ev11.sa n12)
      have at12 := n12 _ _ at11
      have hq12 : SqT K (upd H11 q12 (.tup (rgV 0 (cs11.length : Int)))) q12 (rgV 0 (cs11.length : Int)) := SqT.of upd_same
      have all12 := dps_same (mn_kp (Kp.of_same (st := st) n12)) all11
      generalize upd H11 q12 (.tup (rgV 0 (cs11.length : Int))) = H12 at ev12 at12 hq12 all12
      clear n12 f12 all11 at11 ev11
      obtain ⟨ms, hms, lms, rms⟩ : ∃ ms : List Int, rgV 0 (cs11.length : Int) = ms.map V.int ∧ ms.length = rows.length ∧ ∀ i ∈ ms, 0 ≤ i ∧ i < (rows.length : Int) := by
        refine ⟨(List.range ((cs11.length : Int) - 0).toNat).map fun i => (0 : Int) + (i : Nat), by unfold rgV; rw [List.map_map]; rfl, by rw [List.length_map, List.length_range]; omega, fun i hi => ?_⟩
        obtain ⟨k, hk, rfl⟩ := List.mem_map.mp hi
        have := List.mem_range.mp hk
        omega
      rw [hms] at hq12
      refine ⟨p11, vs, .ref q12, rfl, rfl, at12, Nat.lt_of_lt_of_le (show vs.length < 1000 by omega) (small (Nat.le_refl _)), ?_⟩
      have kt : KT H12 (upd H12 p11 (.lst (vs ++ [.ref q12]))) := KT.upd at12
      have ktm : KT (mn st H12) (mn st (upd H12 p11 (.lst (vs ++ [.ref q12])))) := fun b u hb hn => by
        obtain ⟨nb, hb⟩ := mn_some hb
        exact mn_at nb (kt b u hb hn)
      have tOk : ∀ {ks : List Int} {v : V}, Dp K (mn st H12) v (.tuple (ks.map .int)) → Dp K (mn st (upd H12 p11 (.lst (vs ++ [.ref q12])))) v (.tuple (ks.map .int)) := fun h => dp_kt ktm _ _ (tupOnly_ints _) h
      have sa13 : StAt (upd H12 p11 (.lst (vs ++ [.ref q12]))) st := ev12.sa.upd ne11
      have ev13 : Ev K PT a (ns.map V.int) st (.ref ca) (.ref sa9) gv rows ss gs (upd H12 p11 (.lst (vs ++ [.ref q12]))) := ⟨ev12.scr.kt kt, sa13, dp_kt ktm _ _ (tupO_rows rows) ev12.ch, tOk ev12.so, tOk ev12.go, tabs_updD ev12.tb (fun ps z => by rw [at12] at z; cases z)⟩
      have toA : ∀ ds : List PyData, (∀ z ∈ ds, TOt z) → tupOnlyAll ds = true := fun ds => by
        induction ds with
        | nil => intro _; rfl
        | cons z r ih =>
          intro h
          show (tupOnly z && tupOnlyAll r) = true
          rw [(h z List.mem_cons_self).2, ih fun y hy => h y (List.mem_cons_of_mem _ hy)]
          rfl
      have ts13 : Ts K st p11 12 TO (upd H12 p11 (.lst (vs ++ [.ref q12]))) := by
        refine ⟨vs ++ [.ref q12], ds ++ [.tuple (ms.map .int)], upd_same, ne11, dpAll_snoc (dp_laid sa13 (sqT_kt kt hq12)) (dpAll_kt ktm _ _ (toA ds ok11) all12), fun z hz => ?_, by rw [List.length_append]; show _ + 1 ≤ _; omega⟩
        rcases List.mem_append.mp hz with hz | hz
        · exact (ok11 z hz).1
        · rw [List.mem_singleton.mp hz]
          exact (in_to rf (by omega) rms).1
      generalize upd H12 p11 (.lst (vs ++ [.ref q12])) = H13 at ev13 ts13
      clear toA tOk ktm kt sa13 hq12 hms at12 all12 ok11 ev12 cat11
      -- closed of some more, an odd one
      obtain ⟨cs13, cat13, lc13⟩ := ev13.len
      refine ⟨_, rfl, _, rfl, _, rfl, _, rfl, ca, cs13, rfl, .inr cat13, st, _, rfl, ev13.sa, by omega, by omega, fun v1 ns1 G1 mv1 hv1 pk1 => ?_⟩
      rw [lc13] at pk1
      have ev14 := ev13.mv mv1
      obtain ⟨va, rfl, vat⟩ := ints_at (dp_same mn_in hv1)
      obtain ⟨_, e9, sat14⟩ := ints_at (dp_same mn_in ev14.so)
      cases e9
      have lk1 := pk1.1
      refine ⟨_, rfl, catB_run vat sat14 (by rw [List.length_map, List.length_map]; omega) fun r2 G2 sm2 h2 => ?_⟩
      have mv2 := mv_of ev14.sa sm2
      have ev15 := ev14.mv mv2
      rw [← List.map_append] at h2
      refine ⟨.ref ca, .ref r2, rows, ns1 ++ ss, rfl, dp_same mn_in ev15.ch, rf.rw, rf.nd, .tup h2 (dp_ints _), by rw [List.length_append]; omega, fun i hi => (List.mem_append.mp hi).elim (pk1.2.1 i) (his i), fun q3 ms3 G3 sm3 hq3 lm3 hm3 => ?_⟩
      have mv3 := mv_of ev15.sa sm3
      have ev16 := ev15.mv mv3
      refine ⟨_, rfl, st, rfl, ev16.sa, fun v4 d4 G4 mv4 hd4 hm4 => ⟨small (by show 2 ≤ 1000; decide), fun p5 f5 => ?_⟩⟩
      have evG := ev16.mv mv4
      have mvA := mv1.trans (mv2.trans (mv3.trans mv4))
      obtain ⟨vs1, x1, x2, x3⟩ := (ts13.mv mvA).cat (m := 2) evG.sa (.cons (dp_same (mn_kp mv4.kp) (dp_laid ev16.sa hq3)) (.cons hd4 .nil)) (fun z hz => by
        simp only [List.mem_cons, List.not_mem_nil, or_false] at hz
        rcases hz with rfl | rfl
        · exact (in_to rf (by omega) hm3).1
        · obtain ⟨q1, q2, q3⟩ := odd_is hm4
          exact ⟨q1.mono (by decide) (by decide), by omega, by omega⟩) (by show 2 ≤ 2; decide) f5
      refine ⟨p11, p5, vs1, _, rfl, rfl, x1, upd_same, small (by omega), fun p17 f17 => ?_⟩
      obtain ⟨mv17, ts17⟩ := x3 p17 f17
      have ev17 := evG.mv mv17
      generalize upd (upd G4 p5 (.lst [V.ref q3, v4])) p17 (.lst (vs1 ++ [V.ref q3, v4])) = H17 at ts17 ev17
      clear x1 x2 x3 mv17 f17 f5 evG mvA hd4 hm4 mv4 ev16 mv3 hq3 sm3 h2 ev15 mv2 sm2 sat14 vat ev14 hv1 mv1 cat13 lc13 ev13 ts13
      -- each of them bent
      obtain ⟨vs, ds, at17, ne17, all17, ok17, lv17⟩ := ts17
      have l17 := dpAll_len all17
      refine ⟨_, rfl, _, rfl, p17, rfl, ⟨vs, SqL.of at17⟩, fun D hD => ?_⟩
      refine lc_list (xs := vs) (fun l G => ∃ B ws es, B D = none ∧ G = upd B D (.lst ws) ∧ ws.length = l ∧ Ev K PT a (ns.map V.int) st (.ref ca) (.ref sa9) gv rows ss gs B ∧ B p17 = some (.lst vs) ∧ DpAll K (mn st B) vs ds ∧ DpAll K (mn st B) ws es ∧ ∀ z ∈ es, ThOk z)
        ⟨_, [], [], hD, rfl, rfl, ev17, at17, all17, .nil, fun z hz => by cases hz⟩ (fun l G _ h => ?_) (fun l v G hv h => ?_) (fun G h => ?_)
      · obtain ⟨B, ws, es, hB, rfl, _, _, atB, _⟩ := h
        exact SqL.of (by rw [upd_ne (ne_of_none atB hB)]; exact atB)
      · obtain ⟨B, ws, es, hB, rfl, lw, evB, atB, allB, allW, okW⟩ := h
        obtain ⟨d, hd, hdv⟩ := dpAll_get' allB hv
        have to := ok17 d (List.mem_of_getElem? hd)
        have hl : l < vs.length := (List.getElem?_eq_some_iff.mp hv).1
        refine ⟨rfl, yesG ⟨D, ws, upd_same, ?_⟩⟩
        rw [mn_upd hB]
        refine ⟨_, rfl, _, rfl, st, v, d, rfl, evB.sa, hdv, to.bd, to.dep, by have := to.blk; omega, fun v' d' B' mv' hv' bn nB' => ⟨ws, upd_same, Nat.lt_of_lt_of_le (show ws.length < 1000 by omega) (small (Nat.le_refl _)), B', ws ++ [v'], es ++ [d'], nB', upd_upd, by rw [List.length_append]; show _ + 1 = _; omega, evB.mv mv', mv'.kp _ _ ne17 atB, dps_same (mn_kp mv'.kp) allB, dpAll_snoc hv' (dps_same (mn_kp mv'.kp) allW), fun z hz => ?_⟩⟩
        rcases List.mem_append.mp hz with hz | hz
        · exact okW z hz
        · rw [List.mem_singleton.mp hz]
          exact to.ben bn
      · obtain ⟨B, ws, es, hB, rfl, lw, evB, atB, allB, allW, okW⟩ := h
        have nD := same_new hB (.lst ws)
        refine ⟨p17, D, vs, ws, rfl, rfl, nD _ _ atB, upd_same, small (by omega), fun p18 f18 => ⟨p18, rfl, ⟨_, SqL.of upd_same⟩, ?_⟩⟩
        have n18 := same_new f18 (.lst (vs ++ ws))
        have mv18 := mv_of evB.sa (nD.trans n18)
        have ev18 := evB.mv mv18
        have all18 : DpAll K (mn st (upd (upd B D (.lst ws)) p18 (.lst (vs ++ ws)))) (vs ++ ws) (ds ++ es) := dpAll_append (dps_same (mn_kp mv18.kp) allW) (dps_same (mn_kp mv18.kp) allB)
        have ok18 : ∀ z ∈ ds ++ es, ThOk z := fun z hz => (List.mem_append.mp hz).elim (fun y => (ok17 z y).th) (okW z)
        have at18 : (upd (upd B D (.lst ws)) p18 (.lst (vs ++ ws))) p18 = some (.lst (vs ++ ws)) := upd_same
        generalize upd (upd B D (.lst ws)) p18 (.lst (vs ++ ws)) = H18 at ev18 all18 at18
        clear mv18 n18 f18 nD okW allW allB atB evB ok17 all17
        obtain ⟨ga, rfl, _⟩ := ints_at ev18.go
        refine for_list (xs := vs ++ ws) (fun l σ G => ∃ o8 o9, σ = [some (.ref a), some (.int (0 + (i : Int))), some (.ref st), some (.int (0 + (j : Int))), some (.ref ca), some (.ref sa9), some (.ref ga), some (.ref p17), o8, o9, o10, o11] ∧ ExtN H18 G ∧ TabsG PT G)
          ⟨_, _, rfl, ExtN.refl _, ev18.tb⟩ (fun l σ G _ h => by obtain ⟨_, _, _, e, _⟩ := h; exact SqL.of (ext_lst e at18)) (fun l v σ G hv h => ?_) (fun σ G h => ?_)
        · obtain ⟨o8', o9', rfl, eG, tG⟩ := h
          obtain ⟨d, hd, hdv⟩ := dpAll_get' all18 hv
          have th := ok18 d (List.mem_of_getElem? hd)
          have lnD : ∀ es, d = .tuple es → es.length < 60 := fun es e => by
            subst e
            cases th.bd with
            | tup l _ => omega
          have bd4 : Bd (c01 + 30000) 15 (.tuple [chD rows, .tuple (ss.map .int), .tuple (gs.map .int), d]) := .tup (by show 4 ≤ 15; decide) fun z hz => by
            simp only [List.mem_cons, List.not_mem_nil, or_false] at hz
            rcases hz with rfl | rfl | rfl | rfl
            · exact rf.bd.mono (by decide) (by decide)
            · exact (PsOk.to rf ps3).1.bd.mono (by decide) (by decide)
            · exact (PsOk.to rf psg).1.bd.mono (by decide) (by decide)
            · exact th.bd
          have t4 : (PyData.tuple [chD rows, .tuple (ss.map .int), .tuple (gs.map .int), d]).showable = true ∧ (PyData.tuple [chD rows, .tuple (ss.map .int), .tuple (gs.map .int), d]).depth ≤ 64 ∧ (PyData.tuple [chD rows, .tuple (ss.map .int), .tuple (gs.map .int), d]).shown.length ≤ sizeLine := by
            have l := PyData.shown_le_bulk 40 (by decide) _ (bd4.sho (by decide))
            have b1 := (PsOk.to rf ps3).1.blk
            have b2 := (PsOk.to rf psg).1.blk
            have d1 := (PsOk.to rf ps3).1.dep
            have d2 := (PsOk.to rf psg).1.dep
            have b3 := rf.blk
            have d3 := rf.dep
            have b4 := th.blk
            have d4 := th.dep
            have b := bulk_all (k := 2000) (l := [chD rows, .tuple (ss.map .int), .tuple (gs.map .int), d]) fun z hz => by
              simp only [List.mem_cons, List.not_mem_nil, or_false] at hz
              rcases hz with rfl | rfl | rfl | rfl <;> omega
            have dd := depth_all (k := 12) (l := [chD rows, .tuple (ss.map .int), .tuple (gs.map .int), d]) fun z hz => by
              simp only [List.mem_cons, List.not_mem_nil, or_false] at hz
              rcases hz with rfl | rfl | rfl | rfl <;> omega
            rw [bulk_tup] at l
            have b : PyData.bulkAll [chD rows, .tuple (ss.map .int), .tuple (gs.map .int), d] ≤ 4 * 2001 := Nat.le_trans b (by show _ ≤ _; simp)
            exact ⟨bd4.shw (by decide), by rw [depth_tup]; omega, big (by have : [chD rows, PyData.tuple (ss.map .int), .tuple (gs.map .int), d].length = 4 := rfl; omega)⟩
          have case0 : CaseAt K G (.ref ca) (.ref sa9) (.ref ga) v rows ss gs d := ⟨dp_ext eG _ _ (dp_same mn_in ev18.ch), rf.rw, rf.cd, dp_ext eG _ _ (dp_same mn_in ev18.so), PsOk.pd ps3, dp_ext eG _ _ (dp_same mn_in ev18.go), PsOk.pd psg, dp_ext eG _ _ (dp_same mn_in hdv), lnD, by omega, by omega⟩
          refine ⟨_, rfl, _, rfl, _, rfl, _, rfl, small (by show 4 ≤ 1000; decide), fun q1 f1 => ?_⟩
          have n1 := same_new f1 (.tup [.ref ca, .ref sa9, .ref ga, v])
          have case1 := case0.same n1
          have t1 := tG.same n1
          have e1 := eG.trans (ext_same n1)
          refine ⟨.ref q1, _, rfl, .tup (SqT.of upd_same) (.cons case1.ch (.cons case1.st (.cons case1.go (.cons case1.th .nil)))), t4.1, t4.2.1, t4.2.2, ?_⟩
          generalize upd G q1 (.tup [.ref ca, .ref sa9, .ref ga, v]) = G1 at case1 t1 e1
          refine ⟨_, rfl, _, rfl, _, rfl, _, rfl, .ref ca, .ref sa9, .ref ga, v, rows, ss, gs, d, rfl, case1, t1, fun G2 x2 t2 => ?_⟩
          have case2 := case1.ext x2
          refine ⟨.bl (wayD rows ss gs d), .bool (wayD rows ss gs d), rfl, .bl _, by simp only [PyData.showable], by simp [PyData.depth], bool_len _, ?_⟩
          refine ⟨_, rfl, _, rfl, _, rfl, _, rfl, .ref ca, .ref sa9, .ref ga, v, rows, ss, gs, d, rfl, case2, fun G3 s3 => ?_⟩
          have case3 := case2.same s3
          have t3 := t2.same s3
          refine ⟨.bl (wayD rows ss gs d), .bool (wayD rows ss gs d), rfl, .bl _, by simp only [PyData.showable], by simp [PyData.depth], bool_len _, rfl, _, rfl, ifF (by rw [decide_eq_true rfl]; rfl) ?_⟩
          refine ⟨_, rfl, _, rfl, _, rfl, _, rfl, .ref ca, .ref sa9, .ref ga, v, rows, ss, gs, d, rfl, case3, t3, fun G4 x4 t4' => ?_⟩
          have case4 := case3.ext x4
          refine ⟨.bl (barD rows ss gs d), .bool (barD rows ss gs d), rfl, .bl _, by simp only [PyData.showable], by simp [PyData.depth], bool_len _, ?_⟩
          refine ⟨_, rfl, _, rfl, _, rfl, _, rfl, .ref ca, .ref sa9, .ref ga, v, rows, ss, gs, d, rfl, case4, fun G5 s5 => ?_⟩
          have case5 := case4.same s5
          have t5 := t4'.same s5
          refine ⟨.bl (barD rows ss gs d), .bool (barD rows ss gs d), rfl, .bl _, by simp only [PyData.showable], by simp [PyData.depth], bool_len _, rfl, _, rfl, ifF (by rw [decide_eq_true rfl]; rfl) ?_⟩
          refine ⟨_, rfl, _, rfl, _, rfl, _, rfl, small (by show 4 ≤ 1000; decide), fun q6 f6 => ?_⟩
          have n6 := same_new f6 (.tup [.ref ca, .ref sa9, .ref ga, v])
          have case6 := case5.same n6
          refine ⟨.ref q6, _, rfl, .tup (SqT.of upd_same) (.cons case6.ch (.cons case6.st (.cons case6.go (.cons case6.th .nil)))), t4.1, t4.2.1, t4.2.2, _, rfl, rfl, _, rfl, ifF (by rw [decide_eq_true rfl]; rfl) ?_⟩
          exact ⟨_, _, rfl, e1.trans (x2.trans ((ext_same s3).trans (x4.trans ((ext_same s5).trans (ext_same n6))))), t5.same n6⟩
        · obtain ⟨o8', o9', rfl, eG, tG⟩ := h
          exact ⟨_, _, _, _, _, _, _, _, _, rfl, scr_ext ev18.scr eG, st_ext ev18.sa eG, tG⟩
  · obtain ⟨o3, o4, o5, o6, o7, o8, o9, o10, o11, rfl, sc1, sa1, tb1⟩ := h
    exact ⟨_, _, _, _, _, _, _, _, _, _, _, rfl, sc1, tb1⟩
end
/-- a def of the text that stands under its name -/
structure Std0 (K : PySem.W.Frag) (mg : Str → Option Value) (x : Str) (st : Stmt) (f : Addr) (fd : FuncData) : Prop where
  fn : Fun K x x st f fd
  nm : mg x = some (.ref f)
structure Std (K : PySem.W.Frag) (mg : Str → Option Value) (x : Str) (st : Stmt) (ps : List Str) (f : Addr) (fd : FuncData) : Prop where
  fn : Fun K x x st f fd
  nm : mg x = some (.ref f)
  bi : Binds K fd ps []
theorem Std.cal {P : Program} {w : World} {K : PySem.W.Frag} {mg : Str → Option Value} {base : Heap} {x : Str} {st : Stmt} {ps : List Str} {f : Addr} {fd : FuncData} {k j : Nat} {sp : Sp} (D : Std K mg x st ps f fd) (F : FnOk P w K mg base CX0 k f fd ps sp) (h : k ≤ j := by omega) : Cal P w K mg base x j ps sp :=
  ⟨f, fd, F.mono h, D.nm, D.fn.kp, D.bi⟩
section
open PySem.Spec PyProof.Rows LamX
theorem all_cals {P : Program} {w : World} {K : PySem.W.Frag} {mg : Str → Option Value} {base : Heap} {PA PB PC cA cB cC : Addr} (T : Free mg) (hStr : mg "str" = none) (hAll : mg "all" = none) (hAny : mg "any" = none) (hSet : mg "set" = none) (hSo : mg "sorted" = none)
    {f0 : Addr} {d0 : FuncData} (D0 : Std K mg "is_whole" sWhole ["thing"] f0 d0) {f1 : Addr} {d1 : FuncData} (D1 : Std K mg "is_within" sWithin ["thing", "least", "most"] f1 d1) {f2 : Addr} {d2 : FuncData} (D2 : Std K mg "are_points" sPoints ["thing", "many"] f2 d2) {f3 : Addr} {d3 : FuncData} (D3 : Std K mg "is_chart" sIsChart ["thing"] f3 d3) {f4 : Addr} {d4 : FuncData} (D4 : Std K mg "check_chart" sCheckCh ["chart"] f4 d4) {f5 : Addr} {d5 : FuncData} (D5 : Std K mg "check_case" sCheckCase ["chart", "starts", "goals"] f5 d5) {f6 : Addr} {d6 : FuncData} (D6 : Std K mg "is_walk" sIsWalk ["chart", "thing"] f6 d6) {f7 : Addr} {d7 : FuncData} (D7 : Std K mg "is_way" sIsWay ["chart", "starts", "goals", "thing"] f7 d7) {f8 : Addr} {d8 : FuncData} (D8 : Std K mg "is_bar" sIsBar ["chart", "starts", "goals", "thing"] f8 d8) {f9 : Addr} {d9 : FuncData} (D9 : Std K mg "_law_cell_at" sCell ["_law_script", "_law_k"] f9 d9) {f10 : Addr} {d10 : FuncData} (D10 : Std K mg "_law_state" sState ["_law_script", "_law_k"] f10 d10) {f11 : Addr} {d11 : FuncData} (D11 : Std K mg "_law_choice" sChoice ["_law_state_here", "_law_many"] f11 d11) {f12 : Addr} {d12 : FuncData} (D12 : Std K mg "_law_whole" sLWhole ["_law_thing"] f12 d12) {f13 : Addr} {d13 : FuncData} (D13 : Std K mg "_law_odd" sOdd ["_law_state_here"] f13 d13) {f14 : Addr} {d14 : FuncData} (D14 : Std K mg "_law_bent" sBent ["_law_state_here", "_law_thing"] f14 d14) {f15 : Addr} {d15 : FuncData} (D15 : Std K mg "_law_chart" sChart ["_law_state_here", "_law_most"] f15 d15) {f16 : Addr} {d16 : FuncData} (D16 : Std K mg "_law_some" sSomeP ["_law_state_here", "_law_many"] f16 d16) {f17 : Addr} {d17 : FuncData} (D17 : Std K mg "_law_is_way" sLIsWay ["_law_chart_here", "_law_starts", "_law_goals", "_law_thing"] f17 d17) {f18 : Addr} {d18 : FuncData} (D18 : Std K mg "_law_is_bar" sLIsBar ["_law_chart_here", "_law_starts", "_law_goals", "_law_thing"] f18 d18) {f19 : Addr} {d19 : FuncData} (D19 : Std K mg "_law_walk" sWalk ["_law_state_here", "_law_chart_here", "_law_starts"] f19 d19) {f20 : Addr} {d20 : FuncData} (D20 : Std K mg "_law_closed" sClosed ["_law_chart_here", "_law_starts"] f20 d20)
    (cdA : d3.code = .ref cA) (cdB : d6.code = .ref cB) (cdC : d8.code = .ref cC) (TA : LamX.TabB base mg cA PA) (TB : LamX.TabB base mg cB PB) (TC : LamX.TabB base mg cC PC) : Law02 P w K mg base [PA, PB, PC] 12 := by
  have mA : PA ∈ [PA, PB, PC] := List.mem_cons_self
  have mB : PB ∈ [PA, PB, PC] := List.mem_cons_of_mem _ List.mem_cons_self
  have mC : PC ∈ [PA, PB, PC] := List.mem_cons_of_mem _ (List.mem_cons_of_mem _ List.mem_cons_self)
  have cW := D0.cal (j := 1) (ok_whole (P := P) (w := w) (base := base) (k := 0) D0.fn T)
  have cWi := D1.cal (j := 2) (ok_within D1.fn cW)
  have cPo := D2.cal (j := 3) (ok_points D2.fn T cWi)
  have cIs := D3.cal (j := 5) (ok_isChart (PT := [PA, PB, PC]) D3.fn cdA TA mA T hAll cPo)
  have cCk := D4.cal (j := 6) (ok_checkCh D4.fn cIs)
  have cCa := D5.cal (j := 7) (ok_checkCase (k := 6) D5.fn T cCk (cPo.mono (by omega)))
  have cWa := D6.cal (j := 7) (ok_isWalk (k := 2) (PT := [PA, PB, PC]) D6.fn cdB TB mB T hAll cWi)
  have cCh := D11.cal (j := 1) (ok_choice (P := P) (w := w) (base := base) (mg := mg) (k := 0) D11.fn)
  have cCe := D9.cal (j := 1) (ok_cell (P := P) (w := w) (base := base) (k := 0) D9.fn T)
  have cLw := D12.cal (j := 1) (ok_lwhole (P := P) (w := w) (base := base) (k := 0) D12.fn T)
  have cOd := D13.cal (j := 2) (ok_odd D13.fn T cCh)
  exact {
    cSt := D10.cal (ok_state D10.fn T cCe)
    cC := cCh.mono (by omega)
    cCh := D15.cal (ok_chart D15.fn T cCh)
    cS := D16.cal (ok_someP D16.fn T cCh)
    cK := D20.cal (ok_closed (k := 0) D20.fn T hSet hSo)
    cA := D19.cal (ok_lwalk D19.fn T cCh)
    cO := cOd.mono (by omega)
    cB := D14.cal (all_bent (k := 2) (c := c01) (wd := 12) (by decide) (by decide) D14.fn D14.nm D14.bi T hStr (cCh.mono (by omega)) (cLw.mono (by omega)) cOd 5)
    cW := D7.cal (ok_isWay D7.fn cCa cWa)
    cR := D8.cal (ok_isBar (k := 6) D8.fn cdC TC mC T hAll hAny cCa (cPo.mono (by omega)))
    cLW := D17.cal (ok_lIsWay D17.fn T cLw)
    cLR := D18.cal (ok_lIsBar D18.fn T hSet hSo cLw) }
/-- a def with its code's table -/
def Coded (K : PySem.W.Frag) (mg : Str → Option Value) (x : Str) (st : Stmt) (c Pt : Addr) : Prop := ∃ (f : Addr) (fd : FuncData) (oT : Obj) (vT : Array Value), mg x = some (.ref f) ∧ Fun K x x st f fd ∧ fd.code = .ref c ∧ K.lookup c = some oT ∧ oT.data = .fields vT ∧ vT[11]? = some (.ref Pt) ∧ K.lookup Pt = none
/-- what the top leaves -/
def Left02 (K : PySem.W.Frag) (mg : Str → Option Value) (fa : Addr) : Prop := ∃ (fd : FuncData) (cA PA cB PB cC PC : Addr), Fun K "law" "law" sLaw fa fd ∧ (∀ (s : Shared) (v : Value), BindsTo s fd ⟨[v], []⟩ [("_law_script", v)]) ∧ Free mg ∧
  Coded K mg "is_chart" sIsChart cA PA ∧ Coded K mg "is_walk" sIsWalk cB PB ∧ Coded K mg "is_bar" sIsBar cC PC ∧
  ∀ (P : Program) (w : World) (base : Heap), LamX.TabB base mg cA PA → LamX.TabB base mg cB PB → LamX.TabB base mg cC PC → Law02 P w K mg base [PA, PB, PC] 12
set_option maxHeartbeats 8000000 in
theorem all_mk {K : PySem.W.Frag} {h : Heap} {mg : Str → Option Value} {fa : Addr} (X : K.In h) (G : h.Ns mainGlobals mg) (hfa : mg "law" = some (.ref fa))
    {f0 : Addr} {od0 an0 : Option Addr} {sl0 : Array (Option Value)} {oc0 kV0 dc0 pm0 ct0 : Value} {cd0 : Value}
    (a0 : PySem.W.nsIn K mainGlobals "is_whole" = some (some (.ref f0))) (l0 : K.lookup f0 = some ⟨oc0, od0, .func (PySem.W.fnOf "is_whole" "is_whole" (defArgs sWhole) (defBody sWhole) (defScope sWhole) .none kV0 dc0 pm0 an0 cd0 ct0), sl0⟩) (c0 : PySem.W.codeIn K cd0 "is_whole" = true) (k0 : PySem.W.keepIn K (.ref f0) = true)
    {f1 : Addr} {od1 an1 : Option Addr} {sl1 : Array (Option Value)} {oc1 kV1 dc1 pm1 ct1 : Value} {cd1 : Value}
    (a1 : PySem.W.nsIn K mainGlobals "is_within" = some (some (.ref f1))) (l1 : K.lookup f1 = some ⟨oc1, od1, .func (PySem.W.fnOf "is_within" "is_within" (defArgs sWithin) (defBody sWithin) (defScope sWithin) .none kV1 dc1 pm1 an1 cd1 ct1), sl1⟩) (c1 : PySem.W.codeIn K cd1 "is_within" = true) (k1 : PySem.W.keepIn K (.ref f1) = true)
    {f2 : Addr} {od2 an2 : Option Addr} {sl2 : Array (Option Value)} {oc2 kV2 dc2 pm2 ct2 : Value} {cd2 : Value}
    (a2 : PySem.W.nsIn K mainGlobals "are_points" = some (some (.ref f2))) (l2 : K.lookup f2 = some ⟨oc2, od2, .func (PySem.W.fnOf "are_points" "are_points" (defArgs sPoints) (defBody sPoints) (defScope sPoints) .none kV2 dc2 pm2 an2 cd2 ct2), sl2⟩) (c2 : PySem.W.codeIn K cd2 "are_points" = true) (k2 : PySem.W.keepIn K (.ref f2) = true)
    {f3 : Addr} {od3 an3 : Option Addr} {sl3 : Array (Option Value)} {oc3 kV3 dc3 pm3 ct3 : Value} {cc3 : Addr}
    (a3 : PySem.W.nsIn K mainGlobals "is_chart" = some (some (.ref f3))) (l3 : K.lookup f3 = some ⟨oc3, od3, .func (PySem.W.fnOf "is_chart" "is_chart" (defArgs sIsChart) (defBody sIsChart) (defScope sIsChart) .none kV3 dc3 pm3 an3 (.ref cc3) ct3), sl3⟩) (c3 : PySem.W.codeIn K (.ref cc3) "is_chart" = true) (k3 : PySem.W.keepIn K (.ref f3) = true)
    {f4 : Addr} {od4 an4 : Option Addr} {sl4 : Array (Option Value)} {oc4 kV4 dc4 pm4 ct4 : Value} {cd4 : Value}
    (a4 : PySem.W.nsIn K mainGlobals "check_chart" = some (some (.ref f4))) (l4 : K.lookup f4 = some ⟨oc4, od4, .func (PySem.W.fnOf "check_chart" "check_chart" (defArgs sCheckCh) (defBody sCheckCh) (defScope sCheckCh) .none kV4 dc4 pm4 an4 cd4 ct4), sl4⟩) (c4 : PySem.W.codeIn K cd4 "check_chart" = true) (k4 : PySem.W.keepIn K (.ref f4) = true)
    {f5 : Addr} {od5 an5 : Option Addr} {sl5 : Array (Option Value)} {oc5 kV5 dc5 pm5 ct5 : Value} {cd5 : Value}
    (a5 : PySem.W.nsIn K mainGlobals "check_case" = some (some (.ref f5))) (l5 : K.lookup f5 = some ⟨oc5, od5, .func (PySem.W.fnOf "check_case" "check_case" (defArgs sCheckCase) (defBody sCheckCase) (defScope sCheckCase) .none kV5 dc5 pm5 an5 cd5 ct5), sl5⟩) (c5 : PySem.W.codeIn K cd5 "check_case" = true) (k5 : PySem.W.keepIn K (.ref f5) = true)
    {f6 : Addr} {od6 an6 : Option Addr} {sl6 : Array (Option Value)} {oc6 kV6 dc6 pm6 ct6 : Value} {cc6 : Addr}
    (a6 : PySem.W.nsIn K mainGlobals "is_walk" = some (some (.ref f6))) (l6 : K.lookup f6 = some ⟨oc6, od6, .func (PySem.W.fnOf "is_walk" "is_walk" (defArgs sIsWalk) (defBody sIsWalk) (defScope sIsWalk) .none kV6 dc6 pm6 an6 (.ref cc6) ct6), sl6⟩) (c6 : PySem.W.codeIn K (.ref cc6) "is_walk" = true) (k6 : PySem.W.keepIn K (.ref f6) = true)
    {f7 : Addr} {od7 an7 : Option Addr} {sl7 : Array (Option Value)} {oc7 kV7 dc7 pm7 ct7 : Value} {cd7 : Value}
    (a7 : PySem.W.nsIn K mainGlobals "is_way" = some (some (.ref f7))) (l7 : K.lookup f7 = some ⟨oc7, od7, .func (PySem.W.fnOf "is_way" "is_way" (defArgs sIsWay) (defBody sIsWay) (defScope sIsWay) .none kV7 dc7 pm7 an7 cd7 ct7), sl7⟩) (c7 : PySem.W.codeIn K cd7 "is_way" = true) (k7 : PySem.W.keepIn K (.ref f7) = true)
    {f8 : Addr} {od8 an8 : Option Addr} {sl8 : Array (Option Value)} {oc8 kV8 dc8 pm8 ct8 : Value} {cc8 : Addr}
    (a8 : PySem.W.nsIn K mainGlobals "is_bar" = some (some (.ref f8))) (l8 : K.lookup f8 = some ⟨oc8, od8, .func (PySem.W.fnOf "is_bar" "is_bar" (defArgs sIsBar) (defBody sIsBar) (defScope sIsBar) .none kV8 dc8 pm8 an8 (.ref cc8) ct8), sl8⟩) (c8 : PySem.W.codeIn K (.ref cc8) "is_bar" = true) (k8 : PySem.W.keepIn K (.ref f8) = true)
    {f9 : Addr} {od9 an9 : Option Addr} {sl9 : Array (Option Value)} {oc9 kV9 dc9 pm9 ct9 : Value} {cd9 : Value}
    (a9 : PySem.W.nsIn K mainGlobals "_law_cell_at" = some (some (.ref f9))) (l9 : K.lookup f9 = some ⟨oc9, od9, .func (PySem.W.fnOf "_law_cell_at" "_law_cell_at" (defArgs sCell) (defBody sCell) (defScope sCell) .none kV9 dc9 pm9 an9 cd9 ct9), sl9⟩) (c9 : PySem.W.codeIn K cd9 "_law_cell_at" = true) (k9 : PySem.W.keepIn K (.ref f9) = true)
    {f10 : Addr} {od10 an10 : Option Addr} {sl10 : Array (Option Value)} {oc10 kV10 dc10 pm10 ct10 : Value} {cd10 : Value}
    (a10 : PySem.W.nsIn K mainGlobals "_law_state" = some (some (.ref f10))) (l10 : K.lookup f10 = some ⟨oc10, od10, .func (PySem.W.fnOf "_law_state" "_law_state" (defArgs sState) (defBody sState) (defScope sState) .none kV10 dc10 pm10 an10 cd10 ct10), sl10⟩) (c10 : PySem.W.codeIn K cd10 "_law_state" = true) (k10 : PySem.W.keepIn K (.ref f10) = true)
    {f11 : Addr} {od11 an11 : Option Addr} {sl11 : Array (Option Value)} {oc11 kV11 dc11 pm11 ct11 : Value} {cd11 : Value}
    (a11 : PySem.W.nsIn K mainGlobals "_law_choice" = some (some (.ref f11))) (l11 : K.lookup f11 = some ⟨oc11, od11, .func (PySem.W.fnOf "_law_choice" "_law_choice" (defArgs sChoice) (defBody sChoice) (defScope sChoice) .none kV11 dc11 pm11 an11 cd11 ct11), sl11⟩) (c11 : PySem.W.codeIn K cd11 "_law_choice" = true) (k11 : PySem.W.keepIn K (.ref f11) = true)
    {f12 : Addr} {od12 an12 : Option Addr} {sl12 : Array (Option Value)} {oc12 kV12 dc12 pm12 ct12 : Value} {cd12 : Value}
    (a12 : PySem.W.nsIn K mainGlobals "_law_whole" = some (some (.ref f12))) (l12 : K.lookup f12 = some ⟨oc12, od12, .func (PySem.W.fnOf "_law_whole" "_law_whole" (defArgs sLWhole) (defBody sLWhole) (defScope sLWhole) .none kV12 dc12 pm12 an12 cd12 ct12), sl12⟩) (c12 : PySem.W.codeIn K cd12 "_law_whole" = true) (k12 : PySem.W.keepIn K (.ref f12) = true)
    {f13 : Addr} {od13 an13 : Option Addr} {sl13 : Array (Option Value)} {oc13 kV13 dc13 pm13 ct13 : Value} {cd13 : Value}
    (a13 : PySem.W.nsIn K mainGlobals "_law_odd" = some (some (.ref f13))) (l13 : K.lookup f13 = some ⟨oc13, od13, .func (PySem.W.fnOf "_law_odd" "_law_odd" (defArgs sOdd) (defBody sOdd) (defScope sOdd) .none kV13 dc13 pm13 an13 cd13 ct13), sl13⟩) (c13 : PySem.W.codeIn K cd13 "_law_odd" = true) (k13 : PySem.W.keepIn K (.ref f13) = true)
    {f14 : Addr} {od14 an14 : Option Addr} {sl14 : Array (Option Value)} {oc14 kV14 dc14 pm14 ct14 : Value} {cd14 : Value}
    (a14 : PySem.W.nsIn K mainGlobals "_law_bent" = some (some (.ref f14))) (l14 : K.lookup f14 = some ⟨oc14, od14, .func (PySem.W.fnOf "_law_bent" "_law_bent" (defArgs sBent) (defBody sBent) (defScope sBent) .none kV14 dc14 pm14 an14 cd14 ct14), sl14⟩) (c14 : PySem.W.codeIn K cd14 "_law_bent" = true) (k14 : PySem.W.keepIn K (.ref f14) = true)
    {f15 : Addr} {od15 an15 : Option Addr} {sl15 : Array (Option Value)} {oc15 kV15 dc15 pm15 ct15 : Value} {cd15 : Value}
    (a15 : PySem.W.nsIn K mainGlobals "_law_chart" = some (some (.ref f15))) (l15 : K.lookup f15 = some ⟨oc15, od15, .func (PySem.W.fnOf "_law_chart" "_law_chart" (defArgs sChart) (defBody sChart) (defScope sChart) .none kV15 dc15 pm15 an15 cd15 ct15), sl15⟩) (c15 : PySem.W.codeIn K cd15 "_law_chart" = true) (k15 : PySem.W.keepIn K (.ref f15) = true)
    {f16 : Addr} {od16 an16 : Option Addr} {sl16 : Array (Option Value)} {oc16 kV16 dc16 pm16 ct16 : Value} {cd16 : Value}
    (a16 : PySem.W.nsIn K mainGlobals "_law_some" = some (some (.ref f16))) (l16 : K.lookup f16 = some ⟨oc16, od16, .func (PySem.W.fnOf "_law_some" "_law_some" (defArgs sSomeP) (defBody sSomeP) (defScope sSomeP) .none kV16 dc16 pm16 an16 cd16 ct16), sl16⟩) (c16 : PySem.W.codeIn K cd16 "_law_some" = true) (k16 : PySem.W.keepIn K (.ref f16) = true)
    {f17 : Addr} {od17 an17 : Option Addr} {sl17 : Array (Option Value)} {oc17 kV17 dc17 pm17 ct17 : Value} {cd17 : Value}
    (a17 : PySem.W.nsIn K mainGlobals "_law_is_way" = some (some (.ref f17))) (l17 : K.lookup f17 = some ⟨oc17, od17, .func (PySem.W.fnOf "_law_is_way" "_law_is_way" (defArgs sLIsWay) (defBody sLIsWay) (defScope sLIsWay) .none kV17 dc17 pm17 an17 cd17 ct17), sl17⟩) (c17 : PySem.W.codeIn K cd17 "_law_is_way" = true) (k17 : PySem.W.keepIn K (.ref f17) = true)
    {f18 : Addr} {od18 an18 : Option Addr} {sl18 : Array (Option Value)} {oc18 kV18 dc18 pm18 ct18 : Value} {cd18 : Value}
    (a18 : PySem.W.nsIn K mainGlobals "_law_is_bar" = some (some (.ref f18))) (l18 : K.lookup f18 = some ⟨oc18, od18, .func (PySem.W.fnOf "_law_is_bar" "_law_is_bar" (defArgs sLIsBar) (defBody sLIsBar) (defScope sLIsBar) .none kV18 dc18 pm18 an18 cd18 ct18), sl18⟩) (c18 : PySem.W.codeIn K cd18 "_law_is_bar" = true) (k18 : PySem.W.keepIn K (.ref f18) = true)
    {f19 : Addr} {od19 an19 : Option Addr} {sl19 : Array (Option Value)} {oc19 kV19 dc19 pm19 ct19 : Value} {cd19 : Value}
    (a19 : PySem.W.nsIn K mainGlobals "_law_walk" = some (some (.ref f19))) (l19 : K.lookup f19 = some ⟨oc19, od19, .func (PySem.W.fnOf "_law_walk" "_law_walk" (defArgs sWalk) (defBody sWalk) (defScope sWalk) .none kV19 dc19 pm19 an19 cd19 ct19), sl19⟩) (c19 : PySem.W.codeIn K cd19 "_law_walk" = true) (k19 : PySem.W.keepIn K (.ref f19) = true)
    {f20 : Addr} {od20 an20 : Option Addr} {sl20 : Array (Option Value)} {oc20 kV20 dc20 pm20 ct20 : Value} {cd20 : Value}
    (a20 : PySem.W.nsIn K mainGlobals "_law_closed" = some (some (.ref f20))) (l20 : K.lookup f20 = some ⟨oc20, od20, .func (PySem.W.fnOf "_law_closed" "_law_closed" (defArgs sClosed) (defBody sClosed) (defScope sClosed) .none kV20 dc20 pm20 an20 cd20 ct20), sl20⟩) (c20 : PySem.W.codeIn K cd20 "_law_closed" = true) (k20 : PySem.W.keepIn K (.ref f20) = true)
    {f21 : Addr} {od21 an21 : Option Addr} {sl21 : Array (Option Value)} {oc21 kV21 dc21 pm21 ct21 : Value} {cd21 : Value}
    (a21 : PySem.W.nsIn K mainGlobals "law" = some (some (.ref f21))) (l21 : K.lookup f21 = some ⟨oc21, od21, .func (PySem.W.fnOf "law" "law" (defArgs sLaw) (defBody sLaw) (defScope sLaw) .none kV21 dc21 pm21 an21 cd21 ct21), sl21⟩) (c21 : PySem.W.codeIn K cd21 "law" = true) (k21 : PySem.W.keepIn K (.ref f21) = true)
    (z0 : PySem.W.nsIn K mainGlobals "isinstance" = some none)
    (z1 : PySem.W.nsIn K mainGlobals "int" = some none)
    (z2 : PySem.W.nsIn K mainGlobals "bool" = some none)
    (z3 : PySem.W.nsIn K mainGlobals "tuple" = some none)
    (z4 : PySem.W.nsIn K mainGlobals "len" = some none)
    (z5 : PySem.W.nsIn K mainGlobals "range" = some none)
    (z6 : PySem.W.nsIn K mainGlobals "min" = some none)
    (z7 : PySem.W.nsIn K mainGlobals "max" = some none)
    (z8 : PySem.W.nsIn K mainGlobals "sum" = some none)
    (z9 : PySem.W.nsIn K mainGlobals "list" = some none)
    (z10 : PySem.W.nsIn K mainGlobals "repr" = some none)
    (z11 : PySem.W.nsIn K mainGlobals "str" = some none)
    (z12 : PySem.W.nsIn K mainGlobals "all" = some none)
    (z13 : PySem.W.nsIn K mainGlobals "any" = some none)
    (z14 : PySem.W.nsIn K mainGlobals "set" = some none)
    (z15 : PySem.W.nsIn K mainGlobals "sorted" = some none)
    {oTA : Option Addr} {vTA : Array Value} {sTA : Array (Option Value)} {PA : Addr} (lkA : K.lookup cc3 = some ⟨.type "code", oTA, .fields vTA, sTA⟩) (pA : vTA[11]? = some (.ref PA)) (noA : K.lookup PA = none)
    {oTB : Option Addr} {vTB : Array Value} {sTB : Array (Option Value)} {PB : Addr} (lkB : K.lookup cc6 = some ⟨.type "code", oTB, .fields vTB, sTB⟩) (pB : vTB[11]? = some (.ref PB)) (noB : K.lookup PB = none)
    {oTC : Option Addr} {vTC : Array Value} {sTC : Array (Option Value)} {PC : Addr} (lkC : K.lookup cc8 = some ⟨.type "code", oTC, .fields vTC, sTC⟩) (pC : vTC[11]? = some (.ref PC)) (noC : K.lookup PC = none) :
    Left02 K mg fa := by
  have e := hfa.symm.trans (PySem.W.mg_of X G a21)
  cases e
  have T : Free mg := ⟨PySem.W.mg_none_of X G z0, PySem.W.mg_none_of X G z1, PySem.W.mg_none_of X G z2, PySem.W.mg_none_of X G z3, PySem.W.mg_none_of X G z4, PySem.W.mg_none_of X G z5, PySem.W.mg_none_of X G z6, PySem.W.mg_none_of X G z7, PySem.W.mg_none_of X G z8, PySem.W.mg_none_of X G z9, PySem.W.mg_none_of X G z10⟩
  have F0 := fun_mk (st := sWhole) l0 c0 k0
  have S0 : Std K mg "is_whole" sWhole ["thing"] f0 _ := ⟨F0, PySem.W.mg_of X G a0, F0.binds (ps := ["thing"]) fun _ _ _ _ _ _ us hl => match us, hl with | [_], _ => rfl⟩
  have F1 := fun_mk (st := sWithin) l1 c1 k1
  have S1 : Std K mg "is_within" sWithin ["thing", "least", "most"] f1 _ := ⟨F1, PySem.W.mg_of X G a1, F1.binds (ps := ["thing", "least", "most"]) fun _ _ _ _ _ _ us hl => match us, hl with | [_, _, _], _ => rfl⟩
  have F2 := fun_mk (st := sPoints) l2 c2 k2
  have S2 : Std K mg "are_points" sPoints ["thing", "many"] f2 _ := ⟨F2, PySem.W.mg_of X G a2, F2.binds (ps := ["thing", "many"]) fun _ _ _ _ _ _ us hl => match us, hl with | [_, _], _ => rfl⟩
  have F3 := fun_mk (st := sIsChart) l3 c3 k3
  have S3 : Std K mg "is_chart" sIsChart ["thing"] f3 _ := ⟨F3, PySem.W.mg_of X G a3, F3.binds (ps := ["thing"]) fun _ _ _ _ _ _ us hl => match us, hl with | [_], _ => rfl⟩
  have F4 := fun_mk (st := sCheckCh) l4 c4 k4
  have S4 : Std K mg "check_chart" sCheckCh ["chart"] f4 _ := ⟨F4, PySem.W.mg_of X G a4, F4.binds (ps := ["chart"]) fun _ _ _ _ _ _ us hl => match us, hl with | [_], _ => rfl⟩
  have F5 := fun_mk (st := sCheckCase) l5 c5 k5
  have S5 : Std K mg "check_case" sCheckCase ["chart", "starts", "goals"] f5 _ := ⟨F5, PySem.W.mg_of X G a5, F5.binds (ps := ["chart", "starts", "goals"]) fun _ _ _ _ _ _ us hl => match us, hl with | [_, _, _], _ => rfl⟩
  have F6 := fun_mk (st := sIsWalk) l6 c6 k6
  have S6 : Std K mg "is_walk" sIsWalk ["chart", "thing"] f6 _ := ⟨F6, PySem.W.mg_of X G a6, F6.binds (ps := ["chart", "thing"]) fun _ _ _ _ _ _ us hl => match us, hl with | [_, _], _ => rfl⟩
  have F7 := fun_mk (st := sIsWay) l7 c7 k7
  have S7 : Std K mg "is_way" sIsWay ["chart", "starts", "goals", "thing"] f7 _ := ⟨F7, PySem.W.mg_of X G a7, F7.binds (ps := ["chart", "starts", "goals", "thing"]) fun _ _ _ _ _ _ us hl => match us, hl with | [_, _, _, _], _ => rfl⟩
  have F8 := fun_mk (st := sIsBar) l8 c8 k8
  have S8 : Std K mg "is_bar" sIsBar ["chart", "starts", "goals", "thing"] f8 _ := ⟨F8, PySem.W.mg_of X G a8, F8.binds (ps := ["chart", "starts", "goals", "thing"]) fun _ _ _ _ _ _ us hl => match us, hl with | [_, _, _, _], _ => rfl⟩
  have F9 := fun_mk (st := sCell) l9 c9 k9
  have S9 : Std K mg "_law_cell_at" sCell ["_law_script", "_law_k"] f9 _ := ⟨F9, PySem.W.mg_of X G a9, F9.binds (ps := ["_law_script", "_law_k"]) fun _ _ _ _ _ _ us hl => match us, hl with | [_, _], _ => rfl⟩
  have F10 := fun_mk (st := sState) l10 c10 k10
  have S10 : Std K mg "_law_state" sState ["_law_script", "_law_k"] f10 _ := ⟨F10, PySem.W.mg_of X G a10, F10.binds (ps := ["_law_script", "_law_k"]) fun _ _ _ _ _ _ us hl => match us, hl with | [_, _], _ => rfl⟩
  have F11 := fun_mk (st := sChoice) l11 c11 k11
  have S11 : Std K mg "_law_choice" sChoice ["_law_state_here", "_law_many"] f11 _ := ⟨F11, PySem.W.mg_of X G a11, F11.binds (ps := ["_law_state_here", "_law_many"]) fun _ _ _ _ _ _ us hl => match us, hl with | [_, _], _ => rfl⟩
  have F12 := fun_mk (st := sLWhole) l12 c12 k12
  have S12 : Std K mg "_law_whole" sLWhole ["_law_thing"] f12 _ := ⟨F12, PySem.W.mg_of X G a12, F12.binds (ps := ["_law_thing"]) fun _ _ _ _ _ _ us hl => match us, hl with | [_], _ => rfl⟩
  have F13 := fun_mk (st := sOdd) l13 c13 k13
  have S13 : Std K mg "_law_odd" sOdd ["_law_state_here"] f13 _ := ⟨F13, PySem.W.mg_of X G a13, F13.binds (ps := ["_law_state_here"]) fun _ _ _ _ _ _ us hl => match us, hl with | [_], _ => rfl⟩
  have F14 := fun_mk (st := sBent) l14 c14 k14
  have S14 : Std K mg "_law_bent" sBent ["_law_state_here", "_law_thing"] f14 _ := ⟨F14, PySem.W.mg_of X G a14, F14.binds (ps := ["_law_state_here", "_law_thing"]) fun _ _ _ _ _ _ us hl => match us, hl with | [_, _], _ => rfl⟩
  have F15 := fun_mk (st := sChart) l15 c15 k15
  have S15 : Std K mg "_law_chart" sChart ["_law_state_here", "_law_most"] f15 _ := ⟨F15, PySem.W.mg_of X G a15, F15.binds (ps := ["_law_state_here", "_law_most"]) fun _ _ _ _ _ _ us hl => match us, hl with | [_, _], _ => rfl⟩
  have F16 := fun_mk (st := sSomeP) l16 c16 k16
  have S16 : Std K mg "_law_some" sSomeP ["_law_state_here", "_law_many"] f16 _ := ⟨F16, PySem.W.mg_of X G a16, F16.binds (ps := ["_law_state_here", "_law_many"]) fun _ _ _ _ _ _ us hl => match us, hl with | [_, _], _ => rfl⟩
  have F17 := fun_mk (st := sLIsWay) l17 c17 k17
  have S17 : Std K mg "_law_is_way" sLIsWay ["_law_chart_here", "_law_starts", "_law_goals", "_law_thing"] f17 _ := ⟨F17, PySem.W.mg_of X G a17, F17.binds (ps := ["_law_chart_here", "_law_starts", "_law_goals", "_law_thing"]) fun _ _ _ _ _ _ us hl => match us, hl with | [_, _, _, _], _ => rfl⟩
  have F18 := fun_mk (st := sLIsBar) l18 c18 k18
  have S18 : Std K mg "_law_is_bar" sLIsBar ["_law_chart_here", "_law_starts", "_law_goals", "_law_thing"] f18 _ := ⟨F18, PySem.W.mg_of X G a18, F18.binds (ps := ["_law_chart_here", "_law_starts", "_law_goals", "_law_thing"]) fun _ _ _ _ _ _ us hl => match us, hl with | [_, _, _, _], _ => rfl⟩
  have F19 := fun_mk (st := sWalk) l19 c19 k19
  have S19 : Std K mg "_law_walk" sWalk ["_law_state_here", "_law_chart_here", "_law_starts"] f19 _ := ⟨F19, PySem.W.mg_of X G a19, F19.binds (ps := ["_law_state_here", "_law_chart_here", "_law_starts"]) fun _ _ _ _ _ _ us hl => match us, hl with | [_, _, _], _ => rfl⟩
  have F20 := fun_mk (st := sClosed) l20 c20 k20
  have S20 : Std K mg "_law_closed" sClosed ["_law_chart_here", "_law_starts"] f20 _ := ⟨F20, PySem.W.mg_of X G a20, F20.binds (ps := ["_law_chart_here", "_law_starts"]) fun _ _ _ _ _ _ us hl => match us, hl with | [_, _], _ => rfl⟩
  have F21 := fun_mk (st := sLaw) l21 c21 k21
  exact ⟨_, _, _, _, _, _, _, F21, fun s v => .of_eq rfl, T, ⟨_, _, _, _, PySem.W.mg_of X G a3, F3, rfl, lkA, rfl, pA, noA⟩, ⟨_, _, _, _, PySem.W.mg_of X G a6, F6, rfl, lkB, rfl, pB, noB⟩, ⟨_, _, _, _, PySem.W.mg_of X G a8, F8, rfl, lkC, rfl, pC, noC⟩, fun P w base TA TB TC =>
    all_cals T (PySem.W.mg_none_of X G z11) (PySem.W.mg_none_of X G z12) (PySem.W.mg_none_of X G z13) (PySem.W.mg_none_of X G z14) (PySem.W.mg_none_of X G z15) S0 S1 S2 S3 S4 S5 S6 S7 S8 S9 S10 S11 S12 S13 S14 S15 S16 S17 S18 S19 S20 rfl rfl rfl TA TB TC⟩
theorem tab_of {q : Program} {loose : List Str} {mean : ExcName → Option Value} {mg mb : Str → Option Value} {h : Heap} (T : Top q loose mean mg mb h) {x : Str} (hx : (recsOf q).any (fun d => d.name == x) = true) {K : PySem.W.Frag} (KX : K.In h) {st : Stmt} {f c Pt : Addr} {fd : FuncData} (F : Fun K x x st f fd) (hm : mg x = some (.ref f)) (hc : fd.code = .ref c)
    {oT : Obj} {vT : Array Value} (lk : K.lookup c = some oT) (hd : oT.data = .fields vT) (hp : vT[11]? = some (.ref Pt)) : h.get? Pt = some { cls := .none, data := .fields #[] } ∧ PySem.W.CodeHd h c Pt := by
  obtain ⟨d, hdm, e⟩ := List.any_eq_true.mp hx
  have e : d.name = x := eq_of_beq e
  obtain ⟨a, o, fd', c', P', m1, g1, d1, c1, isC, tab⟩ := T.tab d hdm
  rw [e, hm] at m1
  cases m1
  obtain ⟨oc, od, kV, doc, pm, an, cdv, ct, osl, rfl, found, code⟩ := F.ex
  have g2 := KX _ _ found
  rw [g1] at g2
  cases g2
  cases d1
  have hc : cdv = .ref c := hc
  have c1 : cdv = .ref c' := c1
  rw [hc] at c1
  cases c1
  obtain ⟨⟨o2, vs2, e1, e2, e3, e4⟩, e5⟩ := id tab
  have g3 := KX _ _ lk
  rw [e1] at g3
  cases g3
  rw [e3] at hd
  cases hd
  rw [e4] at hp
  cases hp
  exact ⟨e5, PySem.W.CodeHd.of isC tab⟩
theorem walk {l : PySem.W.OpenLaw} {q : Program} {loose : List Str} {XP : (Str → Option Value) → Heap → Prop} {YP : World → Heap → Prop} {d : DefRec} {K : Params → PySem.W.Frag} (hn : l.most = some 63) (hdf : d.params.defaults = []) (hnm : d.name = "law") (hi : importsNone q = true) (hA : (recsOf q).any (fun d => d.name == ("is_chart" : Str)) = true) (hB : (recsOf q).any (fun d => d.name == ("is_walk" : Str)) = true) (hC : (recsOf q).any (fun d => d.name == ("is_bar" : Str)) = true)
    (hY : ∀ (w : World) (h : Heap), YP w h → (K w.params).In h)
    (F : ∀ (w : World) (mg : Str → Option Value) (fa : Addr) (h : Heap), (K w.params).In h → h.Ns mainGlobals mg → mg d.name = some (.ref fa) → Left02 (K w.params) mg fa) :
    PySem.W.WalkO q loose XP YP l.row.toRowW d [] (fun f vs => PySem.call f vs) := by
  refine Att.attach_call hn hdf fun w s0 s1 mg mb fa o pm cd doc a vs ns G Y ho hd hcd hmg hobj hints hlen hg => ?_
  have KX := hY w _ Y
  obtain ⟨fd, cA, PA, cB, PB, cC, PC, FL, bd, T, ⟨_, _, _, _, m1, F1, code1, lk1, d1, p1, n1⟩, ⟨_, _, _, _, m2, F2, code2, lk2, d2, p2, n2⟩, ⟨_, _, _, _, m3, F3, code3, lk3, d3, p3, n3⟩, cals⟩ := F w mg fa _ KX G.T.g hmg
  obtain ⟨t1, t2⟩ := tab_of G.T hA KX F1 m1 code1 lk1 d1 p1
  obtain ⟨u1, u2⟩ := tab_of G.T hB KX F2 m2 code2 lk2 d2 p2
  obtain ⟨v1, v2⟩ := tab_of G.T hC KX F3 m3 code3 lk3 d3 p3
  obtain ⟨mm, sy, _⟩ := (G.T.seer hi).mods
  have three : ∀ {Pr : Addr × Addr → Prop}, Pr (cA, PA) → Pr (cB, PB) → Pr (cC, PC) → ∀ p ∈ [(cA, PA), (cB, PB), (cC, PC)], Pr p := fun h1 h2 h3 p hp => by
    simp only [List.mem_cons, List.not_mem_nil, or_false] at hp
    rcases hp with rfl | rfl | rfl
    · exact h1
    · exact h2
    · exact h3
  refine law_endT (k := 12) (cs := [(cA, PA), (cB, PB), (cC, PC)]) KX G.T.g G.T.b G.T.builtins G.T.nolimit hg ⟨three t1 u1 v1, three n1 n2 n3, three t2 u2 v2, ⟨mm, sy⟩, G.T.bmain⟩ hobj hints (small (by omega)) ⟨rfl, by decide, by decide⟩ FL scLaw bd fun base _ _ sb TB H cdv hc tabs scr hr => ?_
  have tA := TB _ (List.mem_cons_self)
  have tB := TB _ (List.mem_cons_of_mem _ List.mem_cons_self)
  have tC := TB _ (List.mem_cons_of_mem _ (List.mem_cons_of_mem _ List.mem_cons_self))
  refine law_body (k := 12) T sb scr hlen (fun p hp => ?_) hr (cals l.prog w base tA tB tC)
  simp only [List.mem_cons, List.not_mem_nil, or_false] at hp
  rcases hp with rfl | rfl | rfl
  · exact ⟨#[], tabs _ (List.mem_cons_self), trivial⟩
  · exact ⟨#[], tabs _ (List.mem_cons_of_mem _ List.mem_cons_self), trivial⟩
  · exact ⟨#[], tabs _ (List.mem_cons_of_mem _ (List.mem_cons_of_mem _ List.mem_cons_self)), trivial⟩
end
end Gw
open PySem PySem.W PyProof.Rows
set_option maxRecDepth 100000 in
set_option maxHeartbeats 0 in
theorem PySem.Challenge.cw_giveway_k02_ways_and_bars_by_anybody_holds : PySem.Challenge.rw_giveway_k02_ways_and_bars_by_anybody.Holds := by
  w_on; o_law; k_head; (case hw => w_witness2)
  k_fill
  refine Gw.walk (l := PySem.Challenge.rw_giveway_k02_ways_and_bars_by_anybody) rfl rfl rfl (by decide +kernel) (by decide +kernel) (by decide +kernel) (by decide +kernel) (fun w h Y => PySem.W.kIn_of Y) ?F
  case F =>
    intro w mg fa h KX G hmg
    refine' Gw.all_mk KX G hmg ?a0 ?l0 ?c0 ?k0 ?a1 ?l1 ?c1 ?k1 ?a2 ?l2 ?c2 ?k2 ?a3 ?l3 ?c3 ?k3 ?a4 ?l4 ?c4 ?k4 ?a5 ?l5 ?c5 ?k5 ?a6 ?l6 ?c6 ?k6 ?a7 ?l7 ?c7 ?k7 ?a8 ?l8 ?c8 ?k8 ?a9 ?l9 ?c9 ?k9 ?a10 ?l10 ?c10 ?k10 ?a11 ?l11 ?c11 ?k11 ?a12 ?l12 ?c12 ?k12 ?a13 ?l13 ?c13 ?k13 ?a14 ?l14 ?c14 ?k14 ?a15 ?l15 ?c15 ?k15 ?a16 ?l16 ?c16 ?k16 ?a17 ?l17 ?c17 ?k17 ?a18 ?l18 ?c18 ?k18 ?a19 ?l19 ?c19 ?k19 ?a20 ?l20 ?c20 ?k20 ?a21 ?l21 ?c21 ?k21 ?z0 ?z1 ?z2 ?z3 ?z4 ?z5 ?z6 ?z7 ?z8 ?z9 ?z10 ?z11 ?z12 ?z13 ?z14 ?z15 ?lkA ?pA ?noA ?lkB ?pB ?noB ?lkC ?pC ?noC
    (case a0 => k_is)
    (case l0 => k_is)
    (case c0 => k_is)
    (case k0 => k_is)
    (case a1 => k_is)
    (case l1 => k_is)
    (case c1 => k_is)
    (case k1 => k_is)
    (case a2 => k_is)
    (case l2 => k_is)
    (case c2 => k_is)
    (case k2 => k_is)
    (case a3 => k_is)
    (case l3 => k_is)
    (case c3 => k_is)
    (case k3 => k_is)
    (case a4 => k_is)
    (case l4 => k_is)
    (case c4 => k_is)
    (case k4 => k_is)
    (case a5 => k_is)
    (case l5 => k_is)
    (case c5 => k_is)
    (case k5 => k_is)
    (case a6 => k_is)
    (case l6 => k_is)
    (case c6 => k_is)
    (case k6 => k_is)
    (case a7 => k_is)
    (case l7 => k_is)
    (case c7 => k_is)
    (case k7 => k_is)
    (case a8 => k_is)
    (case l8 => k_is)
    (case c8 => k_is)
    (case k8 => k_is)
    (case a9 => k_is)
    (case l9 => k_is)
    (case c9 => k_is)
    (case k9 => k_is)
    (case a10 => k_is)
    (case l10 => k_is)
    (case c10 => k_is)
    (case k10 => k_is)
    (case a11 => k_is)
    (case l11 => k_is)
    (case c11 => k_is)
    (case k11 => k_is)
    (case a12 => k_is)
    (case l12 => k_is)
    (case c12 => k_is)
    (case k12 => k_is)
    (case a13 => k_is)
    (case l13 => k_is)
    (case c13 => k_is)
    (case k13 => k_is)
    (case a14 => k_is)
    (case l14 => k_is)
    (case c14 => k_is)
    (case k14 => k_is)
    (case a15 => k_is)
    (case l15 => k_is)
    (case c15 => k_is)
    (case k15 => k_is)
    (case a16 => k_is)
    (case l16 => k_is)
    (case c16 => k_is)
    (case k16 => k_is)
    (case a17 => k_is)
    (case l17 => k_is)
    (case c17 => k_is)
    (case k17 => k_is)
    (case a18 => k_is)
    (case l18 => k_is)
    (case c18 => k_is)
    (case k18 => k_is)
    (case a19 => k_is)
    (case l19 => k_is)
    (case c19 => k_is)
    (case k19 => k_is)
    (case a20 => k_is)
    (case l20 => k_is)
    (case c20 => k_is)
    (case k20 => k_is)
    (case a21 => k_is)
    (case l21 => k_is)
    (case c21 => k_is)
    (case k21 => k_is)
    (case z0 => k_is)
    (case z1 => k_is)
    (case z2 => k_is)
    (case z3 => k_is)
    (case z4 => k_is)
    (case z5 => k_is)
    (case z6 => k_is)
    (case z7 => k_is)
    (case z8 => k_is)
    (case z9 => k_is)
    (case z10 => k_is)
    (case z11 => k_is)
    (case z12 => k_is)
    (case z13 => k_is)
    (case z14 => k_is)
    (case z15 => k_is)
    (case lkA => k_is)
    (case pA => rfl)
    (case noA => first | rfl | k_is)
    (case lkB => k_is)
    (case pB => rfl)
    (case noB => first | rfl | k_is)
    (case lkC => k_is)
    (case pC => rfl)
    (case noC => first | rfl | k_is)
