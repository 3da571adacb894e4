import PyProof.Rows.All
import Wide.All
import OpenK.AllK
import Wide.FinOn
import HandS.ForMost
import HandS.IsInst
import HandS.Defaults
import HandS.Conv
import HandS.TupAny
import KE.DataMinMax
import HandS.ForExc
import HandS.Lambda
import HandS.ExcIs
import HandS.Dict
import HandS.EndTab
import PyProof.FactsAll.dict
import HandS.SortKw
import HandS.GenList
import HandS.AnyAll
import HandS.RaiseMore
import HandS.FStr
import HandS.Text
import HandS.StrMore
import HandS.Nested
import HandS.ExcInit
import HandS.ExcField
import KE.KExcSuper
import KE.KSuperObj
import KE.KSuper
import KE.RegKSuper
import HandS.HotCalls
import HandS.SetFor
import HandS.Style
import HandS.TupLe
import KE.SortData
import KE.DataEq
import KE.KExcIs
import HandS.Iter
import HandS.Walk
import HandS.Steps
import HandS.ReplaceLit
import PySem.Challenge.RW_giveway_k66_texts_of_no_graph
set_option Elab.async false
set_option linter.all false
set_option maxRecDepth 100000
namespace Gw
open PySem L2
def top (i : Nat) : Stmt := PySem.Challenge.pw_giveway_k66_texts_of_no_graph.main.body.getD i (.Pass ⟨0, 0, 0, 0⟩)
abbrev sWhole : Stmt := top 22
abbrev sWithin : Stmt := top 23
abbrev sTuple : Stmt := top 24
abbrev sNumber : Stmt := top 34
abbrev sHasBox : Stmt := top 35
abbrev sTie : Stmt := top 36
abbrev sPsz : Stmt := top 37
abbrev sGsz : Stmt := top 38
abbrev sIsGraph : Stmt := top 39
abbrev sCheckG : Stmt := top 40
abbrev sSortOf : Stmt := top 41
abbrev sWholeFrom : Stmt := top 44
abbrev sPlaceText : Stmt := top 45
abbrev sBoxText : Stmt := top 46
abbrev sBoxesText : Stmt := top 47
abbrev sGraphText : Stmt := top 48
abbrev sReadBoxes : Stmt := top 50
abbrev sReadBox : Stmt := top 51
abbrev sReadPlace : Stmt := top 52
abbrev sReadNumber : Stmt := top 53
abbrev sReadGraph : Stmt := top 54
abbrev sCell : Stmt := top 56
abbrev sState : Stmt := top 57
abbrev sChoice : Stmt := top 58
abbrev sLSame : Stmt := top 59
abbrev sMarks : Stmt := top 60
abbrev sWord : Stmt := top 61
abbrev sSaid : Stmt := top 62
abbrev sLOdd : Stmt := top 63
abbrev sInner : Stmt := top 64
abbrev sSize : Stmt := top 65
abbrev sDeep : Stmt := top 66
abbrev sGraph : Stmt := top 67
abbrev sFit : Stmt := top 68
abbrev sText : Stmt := top 69
abbrev sLNumber : Stmt := top 70
abbrev sLShut : Stmt := top 71
abbrev sLPlace : Stmt := top 72
abbrev sLParts : Stmt := top 73
abbrev sLBoxes : Stmt := top 74
abbrev sLRead : Stmt := top 75
abbrev sLDue : Stmt := top 76
abbrev sLTurned : Stmt := top 77
abbrev sLaw : Stmt := top 78
abbrev sNtInit : Stmt := inClass (top 19) 0
abbrev sSgInit : Stmt := inClass (top 49) 0
abbrev sSgComes : Stmt := inClass (top 49) 1
abbrev sSgWant : Stmt := inClass (top 49) 2
abbrev sSgWord : Stmt := inClass (top 49) 3
/-! data, dicts of whole numbers among it -/
def dictK (ms : List (Int × Int)) : List (Key × V) := ms.map fun m => (Sum.inl m.1, V.int m.2)
def dictD (ms : List (Int × Int)) : List (PyData × PyData) := ms.map fun m => (PyData.int m.1, PyData.int m.2)
mutual
inductive Dp (K : PySem.W.Frag) (Hh : Hp) : V → PyData → Prop
  | non : Dp K Hh .non .none
  | bl (t : Bool) : Dp K Hh (.bl t) (.bool t)
  | int (n : Int) : Dp K Hh (.int n) (.int n)
  | str (t : Str) : Dp K Hh (.str t) (.str t)
  | lst {r : Addr} {us : List V} {es : List PyData} (at_ : SqL K Hh r us) (each : DpAll K Hh us es) : Dp K Hh (.ref r) (.list es)
  | tup {r : Addr} {us : List V} {es : List PyData} (at_ : SqT K Hh r us) (each : DpAll K Hh us es) : Dp K Hh (.ref r) (.tuple es)
  | dct {r : Addr} {ms : List (Int × Int)} (at_ : Hh r = some (.dK (dictK ms))) : Dp K Hh (.ref r) (.dict (dictD ms))
inductive DpAll (K : PySem.W.Frag) (Hh : Hp) : List V → List PyData → Prop
  | nil : DpAll K Hh [] []
  | cons {u : V} {us : List V} {e : PyData} {es : List PyData} (one : Dp K Hh u e) (more : DpAll K Hh us es) : DpAll K Hh (u :: us) (e :: es)
end
/-! no list is in it -/
mutual
def noL : PyData → Bool
  | .list _ => false
  | .tuple es => noLs es
  | _ => true
def noLs : List PyData → Bool
  | [] => true
  | e :: es => noL e && noLs es
end
theorem reads_dict {Pg : Program} {wd : World} {h : Heap} : ∀ (ms : List (Int × Int)) (vs : List (Key × Value)) (es : List DictEntry), KV (dictK ms) vs → Pairs (mixKind Pg wd) es vs →
    ReadsAll h (es.map fun e => e.key) ((dictD ms).map fun p => p.1) [] ∧ ReadsAll h (es.map fun e => e.val) ((dictD ms).map fun p => p.2) []
  | [], vs, es, kv, pr => by
    cases kv
    cases pr
    exact ⟨.nil, .nil⟩
  | m :: ms, vs, es, kv, pr => by
    cases kv with
    | cons h1 h2 =>
      cases pr with
      | cons p1 p2 p3 =>
        obtain ⟨q1, q2⟩ := reads_dict (h := h) ms _ _ h2 p3
        obtain ⟨e1, e2⟩ := h1
        rw [← e1] at p1
        have p1 : keyIs (Sum.inl m.1) _ = true := p1
        rcases keyIs_shape p1 with ⟨i, t, z1, z2⟩ | ⟨x, t, z1, z2⟩
        · cases z1
          obtain ⟨t2, e2⟩ := e2
          refine ⟨?_, ?_⟩
          · refine (show ReadsAll h (_ :: _) (PyData.int m.1 :: _) ([] ++ []) from ?_)
            dsimp only
            rw [z2]
            exact .cons (.int _ _) q1
          · refine (show ReadsAll h (_ :: _) (PyData.int m.2 :: _) ([] ++ []) from ?_)
            dsimp only
            rw [p2, e2]
            exact .cons (.int _ _) q2
        · cases z1
section
variable {X : Cx} {pins : List (Addr × Obj)} {σ : L2.St} {H : Hp} {s : Shared}
theorem dct_reads (I : Inv X pins σ H s) {r : Addr} {ms : List (Int × Int)} (h : H r = some (.dK (dictK ms))) : ∃ o es n, s.heap.get? r = some o ∧ o.ExactDict ∧ o.data = .dict es n ∧ r ≠ sysModules ∧ Reads s.heap (.ref r) (.dict (dictD ms)) (r :: [] ++ []) := by
  obtain ⟨_, ns, vs, kv, o, es, ep, g, ex, dd, _, pr, _⟩ := I.hok r _ h
  obtain ⟨q1, q2⟩ := reads_dict ms vs es.toList kv pr
  exact ⟨o, es, ep, g, ex, dd, beq_eq_false_iff_ne.mp ns, .dict g ex.1 dd q1 q2⟩
mutual
theorem Dp.rd (I : Inv X pins σ H s) : ∀ (d : PyData) (v : V) (u : Value), Dp X.K H v d → RelV v u → ∃ as, Reads s.heap u d as ∧ (noL d = true → sysModules ∉ as)
  | .none, v, u, h, r => by cases h; cases r; exact ⟨_, .none, fun _ z => nomatch z⟩
  | .bool b, v, u, h, r => by cases h; cases r; exact ⟨_, .bool b, fun _ z => nomatch z⟩
  | .int i, v, u, h, r => by cases h; obtain ⟨t, rfl⟩ := r; exact ⟨_, .int i t, fun _ z => nomatch z⟩
  | .str x, v, u, h, r => by cases h; obtain ⟨t, rfl⟩ := r; exact ⟨_, .str x t, fun _ z => nomatch z⟩
  | .list es, v, u, h, r => by
    cases h with
    | lst at_ each =>
      cases r
      obtain ⟨its, rv, ⟨o, n, ho, hc, _, hd⟩, _⟩ := I.list at_
      obtain ⟨as, hr, _⟩ := Dp.rds I es _ its each rv
      exact ⟨_, .list ho hc hd hr, fun z => by simp [noL] at z⟩
  | .tuple es, v, u, h, r => by
    cases h with
    | tup at_ each =>
      cases r
      obtain ⟨its, rv, ⟨o, ho, hc, n, hd⟩, _⟩ := I.tuple at_
      obtain ⟨as, hr, hn⟩ := Dp.rds I es _ its each rv
      exact ⟨_, .tuple ho hc hd hr, fun z => hn (by simpa only [noL] using z)⟩
  | .dict kvs, v, u, h, r => by
    cases h with
    | dct at_ =>
      cases r
      obtain ⟨_, _, _, _, _, _, ns, rd⟩ := dct_reads I at_
      exact ⟨_, rd, fun _ z => by
        have z : sysModules ∈ [_] := z
        exact ns (List.mem_singleton.mp z).symm⟩
theorem Dp.rds (I : Inv X pins σ H s) : ∀ (ds : List PyData) (vs : List V) (us : List Value), DpAll X.K H vs ds → Vals vs us → ∃ as, ReadsAll s.heap us ds as ∧ (noLs ds = true → sysModules ∉ as)
  | [], vs, us, h, r => by cases h; cases r; exact ⟨_, .nil, fun _ z => nomatch z⟩
  | d :: ds, vs, us, h, r => by
    cases h with
    | cons one more =>
      cases r with
      | cons r1 r2 =>
        obtain ⟨as, q1, n1⟩ := Dp.rd I d _ _ one r1
        obtain ⟨bs, q2, n2⟩ := Dp.rds I ds _ _ more r2
        refine ⟨_, .cons q1 q2, fun z => ?_⟩
        have z' : noL d = true ∧ noLs ds = true := by simpa [noLs] using z
        intro hm
        rcases List.mem_append.mp hm with hm | hm
        · exact n1 z'.1 hm
        · exact n2 z'.2 hm
end
end
/-! a dict against a text -/
section
open PySem.SeqAt
theorem dict_declines (l : Addr) (es : Array DictEntry) (n : Nat) (b : Str) (u : Tok) :
    Meets (Builtin.«dict.__eq__» ⟨[.ref l, .str b u], []⟩) (fun _ R s => s.heap.get? l = some { cls := .type "dict", data := .dict es n } ∧ R (.ok (.ret .notImplemented)) s) :=
  .of_wp fun prog w A R s h => by obtain ⟨hp, g, d, tk, os⟩ := s; obtain ⟨hl, h⟩ := h; have f1 := F.sub_str_dict; wp_walk using AutoSeq1.wpAny_loadPart' hl; exact ⟨_, rfl, h⟩
theorem str_declines_dict (b : Str) (u : Tok) (l : Addr) (es : Array DictEntry) (n : Nat) :
    Meets (Builtin.«str.__eq__» ⟨[.str b u, .ref l], []⟩) (fun _ R s => s.heap.get? l = some { cls := .type "dict", data := .dict es n } ∧ R (.ok (.ret .notImplemented)) s) :=
  .of_wp fun prog w A R s h => by obtain ⟨hp, g, d, tk, os⟩ := s; obtain ⟨hl, h⟩ := h; wp_walk using AutoSeq1.wpAny_loadPart' hl, wpAny_load hl; exact ⟨_, rfl, h⟩
theorem rc_dict_str {A : Around} {s : Shared} {l : Addr} {es : Array DictEntry} {n : Nat} (b : Str) (u : Tok) (ho : s.heap.get? l = some { cls := .type "dict", data := .dict es n }) (hu : A.units < cLine) : RcAt A s (.ref l) (.str b u) false := fun prog w E Q h =>
  rc_eq_decline_or (k := false) ⟨_, ho, rfl⟩ (typeIs_str s b u) (by decide) F.sub_str_dict F.slot_dict_eq F.slot_str_eq_refl
    (fun _ hq => call_meets F.slot_dict_eq ⟨_, ho, rfl⟩ F.entry_dict_eq (F.args_dict_eq_2 _ _) (dict_declines l es n b u) ⟨ho, hq⟩)
    (fun _ hq => call_meets F.slot_str_eq_refl (typeIs_str s b u) F.entry_str_eq (F.args_str_eq_2 _ _) (str_declines_dict b u l es n) ⟨ho, hq⟩)
    (fun _ hq => wpAny_of_eq (rfl : isSame (.ref l) (.str b u) = pure false) hq) (.inr hu) h
end
def OkL (_ : PyData) : Prop := True
def OkR (e : PyData) : Prop := ∃ t, e = .str t
theorem okL_mem {ds : List PyData} {d : PyData} (h : OkL (.tuple ds)) (hm : d ∈ ds) : OkL d := trivial
theorem okR_tie : OkR (.str "tie") := ⟨_, rfl⟩
/-- whatever it is against a text -/
def rEqT (K : PySem.W.Frag) : R2 := fun x y H Q => ∃ d e, Dp K H x d ∧ Dp K H y e ∧ OkL d ∧ OkR e ∧ Q (.bl (PyData.eqv d e)) H
theorem op_eqT {X : Cx} (hu : X.A.units + 64 < cLine) : OpR X (compareOp .Eq) (rEqT X.K) := by
  intro pins s σ H x y v u Q I rx ry h
  obtain ⟨d, e, hd, he, _, ⟨t, rfl⟩, q⟩ := h
  cases he
  obtain ⟨tk, rfl⟩ := ry
  have fin : ∀ b, PyData.eqv d (.str t) = b → SeqAt.RcAt X.A s v (.str t tk) b → wpAny (model X.prog X.w) X.A (compareOp .Eq v (.str t tk)) (EP X pins σ Q) X.xe s := fun b e rc => by
    refine rc X.prog X.w _ _ ⟨.bl b, H, I, rfl, ?_⟩
    rw [← e]
    exact q
  have hu' : X.A.units < cLine := by omega
  cases hd with
  | non => cases rx; exact fin false (by simp [PyData.eqv]) (SeqAt.RcAt.none_str _ _)
  | bl b => cases rx; exact fin false (by simp [PyData.eqv]) (SeqAt.RcAt.bool_str _ _ _)
  | int i => obtain ⟨k, rfl⟩ := rx; exact fin false (by simp [PyData.eqv]) (SeqAt.RcAt.int_str _ _ _ _)
  | str z => obtain ⟨k, rfl⟩ := rx; exact fin (z == t) (by simp [PyData.eqv]) (SeqAt.RcAt.str_str _ _ _ _)
  | lst at_ each =>
    cases rx
    obtain ⟨its, rv, ⟨o, n, ho, hc, _, hd⟩, _⟩ := I.list at_
    exact fin false (by simp [PyData.eqv]) (SeqAt.RcAt.list_str _ _ ⟨o, ho, hc, n, hd⟩ hu')
  | tup at_ each =>
    cases rx
    obtain ⟨its, rv, ⟨o, ho, hc, n, hd⟩, _⟩ := I.tuple at_
    exact fin false (by simp [PyData.eqv]) (SeqAt.RcAt.tuple_str _ _ ⟨o, ho, hc, n, hd⟩ hu')
  | dct at_ =>
    cases rx
    obtain ⟨⟨oc, od, oda, osl⟩, es, n, g, ⟨e1, e2, e3⟩, e4, _, _⟩ := dct_reads I at_
    dsimp only at e1 e2 e3 e4
    subst e1 e2 e3 e4
    exact fin false (by simp [PyData.eqv]) (rc_dict_str _ _ g hu')
/-- data without dicts against such -/
def rNeD (K : PySem.W.Frag) : R2 := fun x y Hh Q => ∃ d e, Dp K Hh x d ∧ Dp K Hh y e ∧ SeqAt.shaped d = true ∧ SeqAt.shaped e = true ∧ Q (.bl (!PyData.eqv d e)) Hh
theorem op_neD {X : Cx} (hu : X.A.units + 64 < cLine) : OpR X (compareOp .NotEq) (rNeD X.K) := by
  intro pins s σ Hh x y v u Q I rx ry h
  obtain ⟨d, e, hd, he, sd, se, q⟩ := h
  obtain ⟨as, r1, _⟩ := Dp.rd I d x v hd rx
  obtain ⟨bs, r2, _⟩ := Dp.rd I e y u he ry
  exact SeqAt.compareNe_shaped r1 r2 sd se hu ⟨.bl _, Hh, I, rfl, q⟩
/-! repr -/
theorem call_reprD {X : Cx} (hg : X.A.guards = some []) (hu : X.A.units + 80 < cLine) : CallR X (.builtin "repr") (fun xs H Q => ∃ (a : Addr) (d : PyData), xs = [.ref a] ∧ Dp X.K H (.ref a) d ∧ d.showable = true ∧ (d.hasDict = true → noL d = true) ∧ d.depth ≤ 64 ∧ d.shown.length ≤ sizeLine ∧ Q (.str d.shown) H) := by
  intro pins s σ H xs us Q I r h
  obtain ⟨a, d, rfl, hd, h1, h2, h3, h4, q⟩ := h
  obtain ⟨u, rfl, ru⟩ := vals1 r
  cases ru
  obtain ⟨as, hr, hn⟩ := Dp.rd I d (.ref a) (.ref a) hd rfl
  exact repr_of_reads' hr h1 (fun z => hn (h2 z)) hg (by omega) (fun _ _ e => e) (fun h' u tk hk => ⟨.str d.shown, H, I.kept hk, ⟨u, rfl⟩, q⟩) h4
/-- the names that the module leaves to the built-ins -/
structure Free (mg : Str → Option Value) : Prop where
  isi : mg "isinstance" = none
  int : mg "int" = none
  bool : mg "bool" = none
  tuple : mg "tuple" = none
  len : mg "len" = none
  range : mg "range" = none
  min : mg "min" = none
  max : mg "max" = none
  sum : mg "sum" = none
  list : mg "list" = none
  repr : mg "repr" = none
/-- a def that stands under its name and keeps a promise -/
def Cal (P : Program) (w : World) (K : PySem.W.Frag) (mg : Str → Option Value) (base : Heap) (x : Str) (k : Nat) (ps : List Str) (sp : Sp) : Prop :=
  ∃ (f : Addr) (fd : FuncData), FnOk P w K mg base CX0 k f fd ps sp ∧ mg x = some (.ref f) ∧ PySem.W.keepIn K (.ref f) = true ∧ Binds K fd ps []
theorem Cal.mono {P : Program} {w : World} {K : PySem.W.Frag} {mg : Str → Option Value} {base : Heap} {x : Str} {j k : Nat} {ps : List Str} {sp : Sp} (C : Cal P w K mg base x j ps sp) (h : j ≤ k) : Cal P w K mg base x k ps sp := by
  obtain ⟨f, fd, F, r⟩ := C
  exact ⟨f, fd, F.mono h, r⟩
theorem pe_cal {X : Cx} {x : Str} {p pos : Pos} {e : Expr} {es : List Expr} {t : TA} {k : Nat} {ps : List Str} {sp : Sp} (C : Cal X.prog X.w X.K X.mg X.base x k ps sp) (hr : Room k X.A) (hg : Gl X x) (ha : PA X (e :: es) t)
    (hdb : (x == ("__debug__" : Str)) = false := by decide) (he : starEach (e :: es) X.env = (false, eval e X.env) :: starEach es X.env := by rfl) (hpl : ((backTo pos (starEach es X.env)).any fun x => x.fst) = false := by rfl) :
    PE X (.Call (.Name x p) (e :: es) [] pos) (tCall sp [] E0 t) := by
  obtain ⟨f, fd, F, hm, hk, hb⟩ := C
  exact pe_call F hr hg hm hk hb .nil pass0 ha hdb he hpl
/-! the kinds of data -/
def kindD : PyData → String
  | .none => "NoneType"
  | .bool _ => "bool"
  | .int _ => "int"
  | .str _ => "str"
  | .list _ => "list"
  | .tuple _ => "tuple"
  | .dict _ => "dict"
theorem ty_lst {K : PySem.W.Frag} {H : Hp} {a : Addr} {xs : List V} (h : SqL K H a xs) : TyX K H (.ref a) (.type "list") := by
  rcases h with (h | ⟨o, h⟩) | ⟨o, its, n, hk, hc, _⟩
  · exact .base (.lst h)
  · exact .base (.frz h)
  · exact .kList hk hc
theorem ty_tup {K : PySem.W.Frag} {H : Hp} {a : Addr} {xs : List V} (h : SqT K H a xs) : TyX K H (.ref a) (.type "tuple") := by
  rcases h with (h | ⟨o, h⟩) | ⟨o, its, n, hk, hc, _⟩
  · exact .base (.tup h)
  · exact .fTuple h
  · exact .kTuple hk hc
theorem ty_of {K : PySem.W.Frag} {H : Hp} {x : V} {d : PyData} (h : Dp K H x d) : TyX K H x (.type (kindD d)) := by
  cases h with
  | non => exact .base .non
  | bl b => exact .base (.bl b)
  | int i => exact .base (.int i)
  | str s => exact .base (.str s)
  | lst h _ => exact ty_lst h
  | dct h => exact .base (.dK h)
  | tup h _ => exact ty_tup h
def intD : PyData → Bool
  | .int _ => true
  | .bool _ => true
  | _ => false
def boolD : PyData → Bool
  | .bool _ => true
  | _ => false
def tupleD : PyData → Bool
  | .tuple _ => true
  | _ => false
theorem kit_int {K : PySem.W.Frag} (d : PyData) : PySem.W.kitOne K (.type (kindD d)) (.type "int") = some (intD d) := by
  cases d with
  | none => exact kit_ty (show kitB "NoneType" "int" = some false by decide +kernel)
  | bool _ => exact kit_ty (show kitB "bool" "int" = some true by decide +kernel)
  | int _ => exact kit_ty (show kitB "int" "int" = some true by decide +kernel)
  | str _ => exact kit_ty (show kitB "str" "int" = some false by decide +kernel)
  | list _ => exact kit_ty (show kitB "list" "int" = some false by decide +kernel)
  | tuple _ => exact kit_ty (show kitB "tuple" "int" = some false by decide +kernel)
  | dict _ => exact kit_ty (show kitB "dict" "int" = some false by decide +kernel)
theorem kit_bool {K : PySem.W.Frag} (d : PyData) : PySem.W.kitOne K (.type (kindD d)) (.type "bool") = some (boolD d) := by
  cases d with
  | none => exact kit_ty (show kitB "NoneType" "bool" = some false by decide +kernel)
  | bool _ => exact kit_ty (show kitB "bool" "bool" = some true by decide +kernel)
  | int _ => exact kit_ty (show kitB "int" "bool" = some false by decide +kernel)
  | str _ => exact kit_ty (show kitB "str" "bool" = some false by decide +kernel)
  | list _ => exact kit_ty (show kitB "list" "bool" = some false by decide +kernel)
  | tuple _ => exact kit_ty (show kitB "tuple" "bool" = some false by decide +kernel)
  | dict _ => exact kit_ty (show kitB "dict" "bool" = some false by decide +kernel)
theorem kit_tuple {K : PySem.W.Frag} (d : PyData) : PySem.W.kitOne K (.type (kindD d)) (.type "tuple") = some (tupleD d) := by
  cases d with
  | none => exact kit_ty (show kitB "NoneType" "tuple" = some false by decide +kernel)
  | bool _ => exact kit_ty (show kitB "bool" "tuple" = some false by decide +kernel)
  | int _ => exact kit_ty (show kitB "int" "tuple" = some false by decide +kernel)
  | str _ => exact kit_ty (show kitB "str" "tuple" = some false by decide +kernel)
  | list _ => exact kit_ty (show kitB "list" "tuple" = some false by decide +kernel)
  | tuple _ => exact kit_ty (show kitB "tuple" "tuple" = some true by decide +kernel)
  | dict _ => exact kit_ty (show kitB "dict" "tuple" = some false by decide +kernel)
theorem ifT {c : Bool} {A B : Prop} (e : c = true) (h : A) : if c = true then A else B := by rw [if_pos e]; exact h
theorem ifF {c : Bool} {A B : Prop} (e : c = false) (h : B) : if c = true then A else B := by rw [if_neg (by rw [e]; decide)]; exact h
def wholeD : PyData → Bool
  | .int _ => true
  | _ => false
def withinD (lo hi : Int) : PyData → Bool
  | .int i => decide (lo ≤ i) && decide (i ≤ hi)
  | _ => false
def tupD (lo hi : Int) : PyData → Bool
  | .tuple xs => decide (lo ≤ (xs.length : Int)) && decide ((xs.length : Int) ≤ hi)
  | _ => false
theorem dpAll_len {K : PySem.W.Frag} {H : Hp} : ∀ {xs : List V} {ds : List PyData}, DpAll K H xs ds → xs.length = ds.length
  | _, _, .nil => rfl
  | _, _, .cons _ t => by rw [List.length_cons, List.length_cons, dpAll_len t]
theorem dpAll_get {K : PySem.W.Frag} {H : Hp} : ∀ {xs : List V} {ds : List PyData} {i : Nat} {d : PyData}, DpAll K H xs ds → ds[i]? = some d → ∃ x, xs[i]? = some x ∧ Dp K H x d
  | _, _, 0, _, .cons h _, e => by cases e; exact ⟨_, rfl, h⟩
  | _, _, i + 1, _, .cons _ t, e => dpAll_get (i := i) t e
  | _, _, _, _, .nil, e => by cases e
theorem dpAll_get' {K : PySem.W.Frag} {H : Hp} : ∀ {xs : List V} {ds : List PyData} {i : Nat} {x : V}, DpAll K H xs ds → xs[i]? = some x → ∃ d, ds[i]? = some d ∧ Dp K H x d
  | _, _, 0, _, .cons h _, e => by cases e; exact ⟨_, rfl, h⟩
  | _, _, i + 1, _, .cons _ t, e => dpAll_get' (i := i) t e
  | _, _, _, _, .nil, e => by cases e
section
variable {P : Program} {w : World} {K : PySem.W.Frag} {mg : Str → Option Value} {base : Heap} {f : Addr} {fd : FuncData}
def spWhole (K : PySem.W.Frag) : Sp := fun vs H Q _ => ∃ (x : V) (d : PyData), vs = [x] ∧ Dp K H x d ∧ Q (.bl (wholeD d)) H
theorem scWhole : FnScope ["thing"] ["thing"] (defScope sWhole) := ⟨rfl, rfl, rfl, by decide +kernel, rfl, by decide +kernel, by decide +kernel⟩
theorem ok_whole {k : Nat} (F : Fun K "is_whole" "is_whole" sWhole f fd) (T : Free mg) : FnOk P w K mg base CX0 (k + 1) f fd ["thing"] (spWhole K) := by
  refine F.ok scWhole (fun vs H Q E h => ?_) (fun cdv A outer s H vs Q E hr h => ?_)
  · obtain ⟨x, d, rfl, _⟩ := h
    rfl
  obtain ⟨x, d, rfl, hx, q⟩ := h
  refine ⟨_, pss_one (ps_ret (pe_and (pe_callB call_isi rfl T.isi (by decide +kernel) (pa_cons (pv 0) (pa_cons (pe_bltn (v := .ty "int") rfl T.int (by decide +kernel) rfl) pa_nil)))
    (pe_one (pe_not (pe_callB call_isi rfl T.isi (by decide +kernel) (pa_cons (pv 0) (pa_cons (pe_bltn (v := .ty "bool") rfl T.bool (by decide +kernel) rfl) pa_nil))))))), ?_⟩
  have ht := ty_of hx
  refine ⟨_, rfl, x, _, _, _, _, rfl, .ty "int", ht, kit_int d, _, rfl, ?_⟩
  cases d with
  | int i => exact ifT rfl ⟨_, rfl, _, _, _, _, _, rfl, .ty "bool", ht, kit_bool _, _, rfl, q⟩
  | bool b => exact ifT rfl ⟨_, rfl, _, _, _, _, _, rfl, .ty "bool", ht, kit_bool _, _, rfl, q⟩
  | none => exact ifF rfl q
  | str _ => exact ifF rfl q
  | list _ => exact ifF rfl q
  | tuple _ => exact ifF rfl q
  | dict _ => exact ifF rfl q
/-! is_within -/
def spWithin (K : PySem.W.Frag) : Sp := fun vs H Q _ => ∃ (x : V) (d : PyData) (lo hi : Int), vs = [x, .int lo, .int hi] ∧ Dp K H x d ∧ Q (.bl (withinD lo hi d)) H
theorem scWithin : FnScope ["thing", "least", "most"] ["thing", "least", "most"] (defScope sWithin) := ⟨rfl, rfl, rfl, by decide +kernel, rfl, by decide +kernel, by decide +kernel⟩
theorem ok_within {k : Nat} (F : Fun K "is_within" "is_within" sWithin f fd) (cW : Cal P w K mg base "is_whole" k ["thing"] (spWhole K)) : FnOk P w K mg base CX0 (k + 1) f fd ["thing", "least", "most"] (spWithin K) := by
  refine F.ok scWithin (fun vs H Q E h => ?_) (fun cdv A outer s H vs Q E hr h => ?_)
  · obtain ⟨x, d, lo, hi, rfl, _⟩ := h
    rfl
  obtain ⟨x, d, lo, hi, rfl, hx, q⟩ := h
  refine ⟨_, pss_one (ps_ret (pe_and (pe_cal cW hr rfl (pa_cons (pv 0) pa_nil)) (pe_one (pe_chain op_le op_le (pv 1) (pv 0) (pv 2))))), ?_⟩
  refine ⟨_, rfl, x, d, rfl, hx, _, rfl, ?_⟩
  cases d with
  | int i =>
    cases hx
    refine ifT rfl ⟨_, rfl, _, rfl, _, _, rfl, rfl, _, rfl, ?_⟩
    have e : withinD lo hi (.int i) = (decide (lo ≤ i) && decide (i ≤ hi)) := rfl
    rw [e] at q
    by_cases c : lo ≤ i
    · refine ifT (decide_eq_true c) ⟨_, rfl, _, _, rfl, rfl, ?_⟩
      rw [decide_eq_true c, Bool.true_and] at q
      exact q
    · refine ifF (decide_eq_false c) ?_
      rw [decide_eq_false c, Bool.false_and] at q
      exact q
  | bool b => exact ifF rfl q
  | none => exact ifF rfl q
  | str _ => exact ifF rfl q
  | list _ => exact ifF rfl q
  | tuple _ => exact ifF rfl q
  | dict _ => exact ifF rfl q
/-! is_tuple -/
def spTuple (K : PySem.W.Frag) : Sp := fun vs H Q _ => ∃ (x : V) (d : PyData) (lo hi : Int), vs = [x, .int lo, .int hi] ∧ Dp K H x d ∧ Q (.bl (tupD lo hi d)) H
theorem scTuple : FnScope ["thing", "least", "most"] ["thing", "least", "most"] (defScope sTuple) := ⟨rfl, rfl, rfl, by decide +kernel, rfl, by decide +kernel, by decide +kernel⟩
theorem ok_tuple {k : Nat} (F : Fun K "is_tuple" "is_tuple" sTuple f fd) (T : Free mg) : FnOk P w K mg base CX0 (k + 1) f fd ["thing", "least", "most"] (spTuple K) := by
  refine F.ok scTuple (fun vs H Q E h => ?_) (fun cdv A outer s H vs Q E hr h => ?_)
  · obtain ⟨x, d, lo, hi, rfl, _⟩ := h
    rfl
  obtain ⟨x, d, lo, hi, rfl, hx, q⟩ := h
  refine ⟨_, pss_one (ps_ret (pe_and (pe_callB call_isi rfl T.isi (by decide +kernel) (pa_cons (pv 0) (pa_cons (pe_bltn (v := .ty "tuple") rfl T.tuple (by decide +kernel) rfl) pa_nil)))
    (pe_one (pe_chain op_le op_le (pv 1) (pe_callB call_len_seq rfl T.len PySem.boot_len (pa_cons (pv 0) pa_nil)) (pv 2))))), ?_⟩
  have ht := ty_of hx
  refine ⟨_, rfl, x, _, _, _, _, rfl, .ty "tuple", ht, kit_tuple d, _, rfl, ?_⟩
  cases d with
  | tuple ds =>
    cases hx with
    | tup hs ha =>
      refine ifT rfl ⟨_, rfl, _, rfl, _, _, rfl, .inr hs, _, _, rfl, rfl, _, rfl, ?_⟩
      rw [dpAll_len ha]
      have e : tupD lo hi (.tuple ds) = (decide (lo ≤ (ds.length : Int)) && decide ((ds.length : Int) ≤ hi)) := rfl
      rw [e] at q
      by_cases c : lo ≤ (ds.length : Int)
      · refine ifT (decide_eq_true c) ⟨_, rfl, _, _, rfl, rfl, ?_⟩
        rw [decide_eq_true c, Bool.true_and] at q
        exact q
      · refine ifF (decide_eq_false c) ?_
        rw [decide_eq_false c, Bool.false_and] at q
        exact q
  | int _ => exact ifF rfl q
  | bool b => exact ifF rfl q
  | none => exact ifF rfl q
  | str _ => exact ifF rfl q
  | list _ => exact ifF rfl q
  | dict _ => exact ifF rfl q
end
/-- the module's numbers -/
structure Cst (mg : Str → Option Value) : Prop where
  mostBoxes : ∃ t, mg "MOST_BOXES" = some (.int 8 t)
  mostInAll : ∃ t, mg "MOST_IN_ALL" = some (.int 24 t)
  mostDeep : ∃ t, mg "MOST_DEEP" = some (.int 4 t)
  places : ∃ t, mg "PLACES" = some (.int 3 t)
  greatest : ∃ t, mg "GREATEST" = some (.int 9999 t)
  number : ∃ t, mg "NUMBER" = some (.int 0 t)
  tie : ∃ t, mg "TIE" = some (.int 1 t)
  graph : ∃ t, mg "GRAPH" = some (.int 2 t)
theorem pe_globI {X : Cx} {x : Str} {n : Int} {pos : Pos} (hg : Gl X x) (h : ∃ t, X.mg x = some (.int n t)) (hd : (x == ("__debug__" : Str)) = false := by decide) : PE X (.Name x pos) (tC (.int n)) := by
  obtain ⟨t, h⟩ := h
  exact pe_glob hg h ⟨t, rfl⟩ hd
/-! shapes -/
theorem lay_mem : ∀ {ds : List PyData} {d : PyData}, PyData.canLayAll0 ds = true → d ∈ ds → d.canLay0 = true
  | x :: r, d, h, hm => by
    simp only [PyData.canLayAll0, Bool.and_eq_true] at h
    rcases List.mem_cons.mp hm with rfl | hm
    · exact h.1
    · exact lay_mem h.2 hm
theorem depth_mem : ∀ {ds : List PyData} {d : PyData}, d ∈ ds → d.depth ≤ PyData.depthAll ds
  | x :: r, d, hm => by
    simp only [PyData.depthAll]
    rcases List.mem_cons.mp hm with rfl | hm
    · omega
    · have := depth_mem hm
      omega
theorem shaped_mem {ds : List PyData} {d : PyData} (h : SeqAt.shaped (.tuple ds) = true) (hm : d ∈ ds) : SeqAt.shaped d = true := by
  have h1 : PyData.canLayAll0 ds = true := by
    have := SeqAt.canLay_of_shaped h
    simpa only [PyData.canLay0] using this
  have h2 := SeqAt.depth_of_shaped h
  have h3 := depth_mem hm
  simp only [PyData.depth] at h2
  show (d.canLay0 && decide (d.depth ≤ 64)) = true
  rw [lay_mem h1 hm, Bool.true_and]
  exact decide_eq_true (by omega)
theorem shaped_tie : SeqAt.shaped (.str "tie") = true := by decide +kernel
/-! the mirror -/
def numD (p : PyData) : Bool := withinD (-9999) 9999 p
def tieB (m : Int) : PyData → Bool
  | .tuple [p, q] => PyData.eqv p (.str "tie") && withinD 0 (m - 1) q
  | _ => false
def optV : Option Nat → V
  | none => .non
  | some n => .int n
def sumO (f : PyData → Option Nat) : List PyData → Option Nat
  | [] => some 0
  | x :: r => match f x with
    | none => none
    | some a => match sumO f r with
      | none => none
      | some b => some (a + b)
theorem sumO_none {f : PyData → Option Nat} : ∀ {l : List PyData} {x : PyData}, x ∈ l → f x = none → sumO f l = none
  | y :: r, x, hm, h => by
    rcases List.mem_cons.mp hm with rfl | hm
    · simp only [sumO, h]
    · have ih := sumO_none hm h
      simp only [sumO, ih]
      cases f y <;> rfl
theorem sumO_snoc {f : PyData → Option Nat} : ∀ {l : List PyData} {x : PyData} {s a : Nat}, sumO f l = some s → f x = some a → sumO f (l ++ [x]) = some (s + a)
  | [], x, s, a, h, hx => by
    simp only [sumO, Option.some.injEq] at h
    subst h
    simp [sumO, hx]
  | y :: r, x, s, a, h, hx => by
    simp only [sumO] at h
    cases hy : f y with
    | none => rw [hy] at h; cases h
    | some b =>
      rw [hy] at h
      cases hr : sumO f r with
      | none => rw [hr] at h; cases h
      | some c =>
        rw [hr] at h
        have ih := sumO_snoc hr hx
        simp only [Option.some.injEq] at h
        subst h
        show sumO f (y :: (r ++ [x])) = _
        simp only [sumO, hy, ih]
        congr 1
        omega
theorem sumO_mem {f : PyData → Option Nat} {l : List PyData} {x : PyData} {s : Nat} (h : sumO f l = some s) (hm : x ∈ l) : ∃ a, f x = some a := by
  cases e : f x with
  | none => rw [sumO_none hm e] at h; cases h
  | some a => exact ⟨a, rfl⟩
theorem take_more {α : Type} {l : List α} {i : Nat} {x : α} (h : l[i]? = some x) : l.take (i + 1) = l.take i ++ [x] := by
  rw [List.take_add_one, h]
  rfl
def boxN (f : PyData → Option Nat) : PyData → Option Nat
  | .tuple ps => if ps.length = 3 then sumO f ps else none
  | _ => none
def placeN (g : PyData → Option Nat) (m : Nat) (p : PyData) : Option Nat := if numD p = true then some 0 else if tieB m p = true then some 0 else g p
def fitN (m : Nat) : Option Nat → Option Nat
  | none => none
  | some s => if m + s ≤ 24 then some (m + s) else none
def gszT (g : PyData → Option Nat) (bs : List PyData) : Option Nat := if 1 ≤ bs.length ∧ bs.length ≤ 8 then fitN bs.length (sumO (boxN (placeN g bs.length)) bs) else none
def gsz : Nat → PyData → Option Nat
  | n + 1, .tuple bs => gszT (gsz n) bs
  | _, _ => none
section
variable {P : Program} {w : World} {K : PySem.W.Frag} {mg : Str → Option Value} {base : Heap} {f : Addr} {fd : FuncData}
/-! is_number, is_place, has_box -/
def spNumber (K : PySem.W.Frag) : Sp := fun vs H Q _ => ∃ (x : V) (d : PyData), vs = [x] ∧ Dp K H x d ∧ Q (.bl (numD d)) H
theorem scNumber : FnScope ["thing"] ["thing"] (defScope sNumber) := ⟨rfl, rfl, rfl, by decide +kernel, rfl, by decide +kernel, by decide +kernel⟩
theorem ok_number {k : Nat} (F : Fun K "is_number" "is_number" sNumber f fd) (C : Cst mg) (cW : Cal P w K mg base "is_within" k ["thing", "least", "most"] (spWithin K)) : FnOk P w K mg base CX0 (k + 1) f fd ["thing"] (spNumber K) := by
  refine F.ok scNumber (fun vs H Q E h => ?_) (fun cdv A outer s H vs Q E hr h => ?_)
  · obtain ⟨x, d, rfl, _⟩ := h
    rfl
  obtain ⟨x, d, rfl, hx, q⟩ := h
  refine ⟨_, pss_one (ps_ret (pe_cal cW hr rfl (pa_cons (pv 0) (pa_cons (pe_un un_neg (pe_globI rfl C.greatest)) (pa_cons (pe_globI rfl C.greatest) pa_nil))))), ?_⟩
  exact ⟨_, rfl, _, rfl, x, d, _, _, rfl, hx, q⟩
def spHasBox (K : PySem.W.Frag) : Sp := fun vs H Q _ => ∃ (a : Addr) (xs : List V) (x : V) (d : PyData), vs = [.ref a, x] ∧ SqT K H a xs ∧ Dp K H x d ∧ Q (.bl (withinD 0 ((xs.length : Int) - 1) d)) H
theorem scHasBox : FnScope ["graph", "b"] ["graph", "b"] (defScope sHasBox) := ⟨rfl, rfl, rfl, by decide +kernel, rfl, by decide +kernel, by decide +kernel⟩
theorem ok_hasBox {k : Nat} (F : Fun K "has_box" "has_box" sHasBox f fd) (T : Free mg) (cW : Cal P w K mg base "is_within" k ["thing", "least", "most"] (spWithin K)) : FnOk P w K mg base CX0 (k + 1) f fd ["graph", "b"] (spHasBox K) := by
  refine F.ok scHasBox (fun vs H Q E h => ?_) (fun cdv A outer s H vs Q E hr h => ?_)
  · obtain ⟨a, xs, x, d, rfl, _⟩ := h
    rfl
  obtain ⟨a, xs, x, d, rfl, hs, hx, q⟩ := h
  refine ⟨_, pss_one (ps_ret (pe_cal cW hr rfl (pa_cons (pv 1) (pa_cons pe_int (pa_cons (pe_op op_sub (pe_callB call_len_seq rfl T.len PySem.boot_len (pa_cons (pv 0) pa_nil)) pe_int) pa_nil))))), ?_⟩
  exact ⟨_, rfl, _, rfl, a, xs, rfl, .inr hs, _, _, rfl, rfl, x, d, 0, _, rfl, hx, q⟩
/-! is_tie -/
def spTie (K : PySem.W.Frag) : Sp := fun vs H Q _ => ∃ (x : V) (d : PyData) (a : Addr) (xs : List V), vs = [x, .ref a] ∧ Dp K H x d ∧ OkL d ∧ SqT K H a xs ∧ Q (.bl (tieB xs.length d)) H
theorem scTie : FnScope ["thing", "graph"] ["thing", "graph"] (defScope sTie) := ⟨rfl, rfl, rfl, by decide +kernel, rfl, by decide +kernel, by decide +kernel⟩
theorem tup2 {d : PyData} (h : tupD 2 2 d = true) : ∃ p q, d = .tuple [p, q] := by
  cases d with
  | tuple ds =>
    match ds, h with
    | [], h => exact absurd h (by decide)
    | [a], h => exact absurd h (by simp [tupD])
    | [a, b], _ => exact ⟨a, b, rfl⟩
    | a :: b :: c :: r, h =>
      have : (2 : Int) ≤ ((a :: b :: c :: r).length : Int) ∧ ((a :: b :: c :: r).length : Int) ≤ 2 := by simpa [tupD] using h
      simp only [List.length_cons] at this
      omega
  | int _ => cases h
  | bool b => cases h
  | none => cases h
  | str _ => cases h
  | list _ => cases h
  | dict _ => cases h
theorem tieB_not {m : Int} {d : PyData} (h : tupD 2 2 d = false) : tieB m d = false := by
  unfold tieB
  split
  · rename_i p q
    exact absurd h (by show ¬ (true = false); decide)
  · rfl
theorem ok_tie {k : Nat} (F : Fun K "is_tie" "is_tie" sTie f fd) (cT : Cal P w K mg base "is_tuple" k ["thing", "least", "most"] (spTuple K)) (cH : Cal P w K mg base "has_box" k ["graph", "b"] (spHasBox K)) :
    FnOk P w K mg base CX0 (k + 1) f fd ["thing", "graph"] (spTie K) := by
  refine F.ok scTie (fun vs H Q E h => ?_) (fun cdv A outer s H vs Q E hr h => ?_)
  · obtain ⟨x, d, a, xs, rfl, _⟩ := h
    rfl
  obtain ⟨x, d, a, xs, rfl, hx, hsh, hs, q⟩ := h
  refine ⟨_, pss_one (ps_ret (pe_and (pe_cal cT hr rfl (pa_cons (pv 0) (pa_cons pe_int (pa_cons pe_int pa_nil))))
    (pe_and (pe_cmpR (op_eqT hr.units) (pe_ix ix_tup (pv 0) pe_int (fun _ _ => rfl)) pe_str (nomark _))
      (pe_one (pe_cal cH hr rfl (pa_cons (pv 1) (pa_cons (pe_ix ix_tup (pv 0) pe_int (fun _ _ => rfl)) pa_nil))))))), ?_⟩
  refine ⟨_, rfl, x, d, 2, 2, rfl, hx, _, rfl, ?_⟩
  cases h2 : tupD 2 2 d with
  | false =>
    rw [tieB_not h2] at q
    exact ifF rfl q
  | true =>
    obtain ⟨p, r, rfl⟩ := tup2 h2
    cases hx with
    | tup ht ha =>
      cases ha with
      | cons hp ha =>
        cases ha with
        | cons hq ha =>
          cases ha
          refine ifT rfl ⟨_, rfl, _, _, _, _, rfl, rfl, ht, rfl, p, .str "tie", hp, .str _, okL_mem hsh List.mem_cons_self, okR_tie, _, rfl, ?_⟩
          have e : tieB xs.length (.tuple [p, r]) = (PyData.eqv p (.str "tie") && withinD 0 ((xs.length : Int) - 1) r) := rfl
          rw [e] at q
          cases he : PyData.eqv p (.str "tie") with
          | false =>
            rw [he] at q
            exact ifF rfl q
          | true =>
            rw [he] at q
            exact ifT rfl ⟨_, rfl, _, rfl, _, _, _, _, rfl, rfl, ht, rfl, a, xs, _, r, rfl, hs, hq, q⟩
/-! place_size, graph_size -/
def spPsz (K : PySem.W.Frag) (n : Nat) : Sp := fun vs H Q _ => ∃ (x : V) (d : PyData) (a : Addr) (xs : List V), vs = [x, .ref a, .int n] ∧ Dp K H x d ∧ OkL d ∧ SqT K H a xs ∧ Q (optV (placeN (gsz n) xs.length d)) H
def spGsz (K : PySem.W.Frag) (n : Nat) : Sp := fun vs H Q _ => ∃ (x : V) (d : PyData), vs = [x, .int n] ∧ Dp K H x d ∧ OkL d ∧ Q (optV (gsz n d)) H
theorem scPsz : FnScope ["thing", "graph", "deep"] ["thing", "graph", "deep"] (defScope sPsz) := ⟨rfl, rfl, rfl, by decide +kernel, rfl, by decide +kernel, by decide +kernel⟩
theorem ok_psz {k n : Nat} (F : Fun K "place_size" "place_size" sPsz f fd) (cN : Cal P w K mg base "is_number" k ["thing"] (spNumber K)) (cT : Cal P w K mg base "is_tie" k ["thing", "graph"] (spTie K))
    (cG : Cal P w K mg base "graph_size" k ["thing", "deep"] (spGsz K n)) : FnOk P w K mg base CX0 (k + 1) f fd ["thing", "graph", "deep"] (spPsz K n) := by
  refine F.ok scPsz (fun vs H Q E h => ?_) (fun cdv A outer s H vs Q E hr h => ?_)
  · obtain ⟨x, d, a, xs, rfl, _⟩ := h
    rfl
  obtain ⟨x, d, a, xs, rfl, hx, hsh, hs, q⟩ := h
  refine ⟨_, pss_cons (ps_if (PW.pt (pw_or (pt_val (pe_cal cN hr rfl (pa_cons (pv 0) pa_nil))) (pw_or1 (pt_val (pe_cal cT hr rfl (pa_cons (pv 0) (pa_cons (pv 1) pa_nil))))))) (pss_one (ps_ret pe_int)) pss_nil)
    (pss_one (ps_ret (pe_cal cG hr rfl (pa_cons (pv 0) (pa_cons (pv 2) pa_nil))))), ?_⟩
  refine ⟨_, rfl, x, d, rfl, hx, _, rfl, ?_⟩
  unfold placeN at q
  cases h1 : numD d with
  | true =>
    rw [if_pos h1] at q
    exact ifT rfl (ifT rfl q)
  | false =>
    rw [if_neg (by rw [h1]; decide)] at q
    refine ifF rfl ⟨_, rfl, _, rfl, x, d, a, xs, rfl, hx, hsh, hs, _, rfl, ?_⟩
    cases h2 : tieB xs.length d with
    | true =>
      rw [if_pos h2] at q
      exact ifT rfl q
    | false =>
      rw [if_neg (by rw [h2]; decide)] at q
      exact ifF rfl ⟨_, rfl, _, rfl, x, d, rfl, hx, hsh, q⟩
end
section
variable {P : Program} {w : World} {K : PySem.W.Frag} {mg : Str → Option Value} {base : Heap} {f : Addr} {fd : FuncData}
theorem scGsz : FnScope ["thing", "deep", "total", "box", "place", "within"] ["thing", "deep"] (defScope sGsz) := ⟨rfl, rfl, rfl, by decide +kernel, rfl, by decide +kernel, by decide +kernel⟩
theorem len3 {ps : List PyData} : tupD 3 3 (.tuple ps) = decide (ps.length = 3) := by
  show (decide ((3 : Int) ≤ (ps.length : Int)) && decide ((ps.length : Int) ≤ 3)) = _
  by_cases h : ps.length = 3
  · rw [decide_eq_true h, decide_eq_true (by omega), decide_eq_true (by omega)]; rfl
  · rw [decide_eq_false h]
    by_cases h2 : (3 : Int) ≤ (ps.length : Int)
    · rw [decide_eq_false (p := (ps.length : Int) ≤ 3) (by omega), Bool.and_false]
    · rw [decide_eq_false h2, Bool.false_and]
theorem gsz_not {n : Nat} {d : PyData} (h : tupD 1 8 d = false) : gsz n d = none := by
  cases n with
  | zero => rfl
  | succ n =>
    cases d with
    | tuple bs =>
      show gszT (gsz n) bs = none
      unfold gszT
      rw [if_neg]
      intro ⟨h1, h2⟩
      have : tupD 1 8 (.tuple bs) = true := by
        show (decide ((1 : Int) ≤ (bs.length : Int)) && decide ((bs.length : Int) ≤ 8)) = true
        rw [decide_eq_true (by omega), decide_eq_true (by omega)]; rfl
      rw [this] at h
      cases h
    | int _ => rfl
    | bool b => rfl
    | none => rfl
    | str _ => rfl
    | list _ => rfl
    | dict _ => rfl
theorem tup18 {d : PyData} (h : tupD 1 8 d = true) : ∃ bs, d = .tuple bs ∧ 1 ≤ bs.length ∧ bs.length ≤ 8 := by
  cases d with
  | tuple bs =>
    have : (1 : Int) ≤ (bs.length : Int) ∧ (bs.length : Int) ≤ 8 := by simpa [tupD] using h
    exact ⟨bs, rfl, by omega, by omega⟩
  | int _ => cases h
  | bool b => cases h
  | none => cases h
  | str _ => cases h
  | list _ => cases h
  | dict _ => cases h
theorem ok_gsz {k n : Nat} (F : Fun K "graph_size" "graph_size" sGsz f fd) (T : Free mg) (C : Cst mg) (cT : Cal P w K mg base "is_tuple" k ["thing", "least", "most"] (spTuple K))
    (cP : n ≠ 0 → Cal P w K mg base "place_size" k ["thing", "graph", "deep"] (spPsz K (n - 1))) : FnOk P w K mg base CX0 (k + 1) f fd ["thing", "deep"] (spGsz K n) := by
  by_cases hn : n = 0
  · subst hn
    refine F.ok scGsz (fun vs H Q E h => ?_) (fun cdv A outer s H vs Q E hr h => ?_)
    · obtain ⟨x, d, rfl, _⟩ := h
      rfl
    obtain ⟨x, d, rfl, hx, hsh, q⟩ := h
    refine ⟨_, pss_cons (ps_if (PW.pt (pw_or (pt_cmpR op_eq (pv 1) pe_int (nomark _)) (pw_or1 (pt_not (pt_val (pe_cal cT hr rfl (pa_cons (pv 0) (pa_cons pe_int (pa_cons (pe_globI rfl C.mostBoxes) pa_nil))))))))) (pss_one (ps_ret pe_non)) pss_nil) pss_never, ?_⟩
    exact ⟨_, rfl, rfl, _, rfl, ifT (decide_eq_true rfl) (ifT rfl q)⟩
  · obtain ⟨n, rfl⟩ : ∃ m, n = m + 1 := ⟨n - 1, by omega⟩
    have cP : Cal P w K mg base "place_size" k ["thing", "graph", "deep"] (spPsz K n) := cP hn
    refine F.ok scGsz (fun vs H Q E h => ?_) (fun cdv A outer s H vs Q E hr h => ?_)
    · obtain ⟨x, d, rfl, _⟩ := h
      rfl
    obtain ⟨x, d, rfl, hx, hsh, q⟩ := h
    refine ⟨_, pss_cons (ps_if (PW.pt (pw_or (pt_cmpR op_eq (pv 1) pe_int (nomark _)) (pw_or1 (pt_not (pt_val (pe_cal cT hr rfl (pa_cons (pv 0) (pa_cons pe_int (pa_cons (pe_globI rfl C.mostBoxes) pa_nil))))))))) (pss_one (ps_ret pe_non)) pss_nil)
      (pss_cons (ps_set (i := 2) scGsz.nd rfl (.inl rfl) (pe_callB call_len_seq rfl T.len PySem.boot_len (pa_cons (pv 0) pa_nil)))
      (pss_cons (ps_for PassesOwn.never rfl (pi_tup (pv 0)) (pg_name (i := 3) scGsz.nd rfl (.inl rfl))
        (pss_cons (ps_if (pt_not (pt_val (pe_cal cT hr rfl (pa_cons (pv 3) (pa_cons (pe_globI rfl C.places) (pa_cons (pe_globI rfl C.places) pa_nil)))))) (pss_one (ps_ret pe_non)) pss_nil)
        (pss_one (ps_for PassesOwn.never rfl (pi_tup (pv 3)) (pg_name (i := 4) scGsz.nd rfl (.inl rfl))
          (pss_cons (ps_set (i := 5) scGsz.nd rfl (.inl rfl) (pe_cal cP hr rfl (pa_cons (pv 4) (pa_cons (pv 0) (pa_cons (pe_op op_sub (pv 1) pe_int) pa_nil)))))
          (pss_cons (ps_if (pt_cmpR op_isN (pv 5) pe_non (nomark _)) (pss_one (ps_ret pe_non)) pss_nil)
          (pss_one (ps_aug (i := 2) scGsz.nd rfl (.inl rfl) (pv 5) ip_add))))))))
      (pss_one (ps_ret (pe_ifExp (pt_cmpR op_le (pv 2) (pe_globI rfl C.mostInAll) (nomark _)) (pv 2) pe_non))))), ?_⟩
    refine ⟨_, rfl, rfl, _, rfl, ifF (decide_eq_false (by intro z; injection z with z; omega)) ⟨_, rfl, x, d, 1, 8, rfl, hx, _, rfl, ?_⟩⟩
    cases h18 : tupD 1 8 d with
    | false =>
      rw [gsz_not h18] at q
      exact ifT rfl q
    | true =>
      obtain ⟨bs, rfl, l1, l8⟩ := tup18 h18
      refine ifF rfl ?_
      cases hx with
      | @tup a xs _ ht ha =>
        have lx := dpAll_len ha
        refine ⟨_, rfl, a, xs, rfl, .inr ht, ?_⟩
        refine ⟨_, rfl, a, rfl, ⟨xs, ht⟩, ?_⟩
        have eg : gsz (n + 1) (.tuple bs) = fitN bs.length (sumO (boxN (placeN (gsz n) bs.length)) bs) := by
          show gszT (gsz n) bs = _
          unfold gszT
          rw [if_pos ⟨l1, l8⟩]
        rw [eg] at q
        refine for_tup (xs := xs) (fun i σ H' => ∃ (sm : Nat) (o3 o4 o5 : Option V), sumO (boxN (placeN (gsz n) bs.length)) (bs.take i) = some sm ∧ σ = [some (.ref a), some (.int ((n + 1 : Nat) : Int)), some (.int ((bs.length : Int) + (sm : Int))), o3, o4, o5] ∧ H' = H)
          ⟨0, none, none, none, rfl, by rw [lx]; show _ = [_, _, some (V.int ((bs.length : Int) + 0)), _, _, _]; rw [Int.add_zero]; rfl, rfl⟩ (fun i σ H' _ h => by obtain ⟨_, _, _, _, _, _, rfl⟩ := h; exact ht) (fun i x σ H' hxi h => ?_) (fun σ H' h => ?_)
        · obtain ⟨sm, o3, o4, o5, hsm, rfl, rfl⟩ := h
          obtain ⟨b, hb, hdb⟩ := dpAll_get' ha hxi
          have hbm : b ∈ bs := List.mem_of_getElem? hb
          have none_out : boxN (placeN (gsz n) bs.length) b = none → Q .non H' := fun e => by
            rw [sumO_none hbm e] at q
            exact q
          refine ⟨_, rfl, x, b, 3, 3, rfl, hdb, _, rfl, ?_⟩
          cases h3 : tupD 3 3 b with
          | false =>
            refine ifT rfl (none_out ?_)
            unfold boxN
            split
            · rename_i ps
              rw [len3] at h3
              rw [if_neg (of_decide_eq_false h3)]
            · rfl
          | true =>
            refine ifF rfl ?_
            cases b with
            | tuple ps =>
              rw [len3] at h3
              have l3 : ps.length = 3 := of_decide_eq_true h3
              have hshb := okL_mem hsh hbm
              cases hdb with
              | @tup ab ys _ htb hab =>
                refine ⟨_, rfl, ab, rfl, ⟨ys, htb⟩, ?_⟩
                refine for_tup (xs := ys) (fun j σ H'' => ∃ (s2 : Nat) (o4 o5 : Option V), sumO (placeN (gsz n) bs.length) (ps.take j) = some s2 ∧ σ = [some (.ref a), some (.int ((n + 1 : Nat) : Int)), some (.int ((bs.length : Int) + (sm : Int) + (s2 : Int))), some (.ref ab), o4, o5] ∧ H'' = H')
                  ⟨0, o4, o5, rfl, by show _ = [_, _, some (V.int ((bs.length : Int) + (sm : Int) + 0)), _, _, _]; rw [Int.add_zero]; rfl, rfl⟩ (fun j σ H'' _ h => by obtain ⟨_, _, _, _, _, rfl⟩ := h; exact htb) (fun j y σ H'' hyj h => ?_) (fun σ H'' h => ?_)
                · obtain ⟨s2, o4', o5', hs2, rfl, rfl⟩ := h
                  obtain ⟨p, hp, hdp⟩ := dpAll_get' hab hyj
                  have hpm : p ∈ ps := List.mem_of_getElem? hp
                  have eN : ((n + 1 : Nat) : Int) - 1 = (n : Int) := by omega
                  refine ⟨_, rfl, _, rfl, _, rfl, _, _, rfl, rfl, y, p, a, xs, congrArg (fun z => [y, V.ref a, V.int z]) eN, hdp, okL_mem hshb hpm, ht, ?_⟩
                  rw [lx]
                  cases hpn : placeN (gsz n) bs.length p with
                  | none =>
                    refine ⟨_, rfl, rfl, _, rfl, ifT (decide_eq_true rfl) (none_out ?_)⟩
                    show (if ps.length = 3 then sumO (placeN (gsz n) bs.length) ps else none) = none
                    rw [if_pos l3]
                    exact sumO_none hpm hpn
                  | some v =>
                    refine ⟨_, rfl, rfl, _, rfl, ifF (decide_eq_false (fun z => by cases z)) ?_⟩
                    refine ⟨_, rfl, _, rfl, _, _, rfl, rfl, s2 + v, some y, some (.int v), ?_, ?_, rfl⟩
                    · rw [take_more hp]
                      exact sumO_snoc hs2 hpn
                    · show [_, _, some (V.int ((bs.length : Int) + (sm : Int) + (s2 : Int) + (v : Int))), _, _, _] = [_, _, some (V.int ((bs.length : Int) + (sm : Int) + ((s2 + v : Nat) : Int))), _, _, _]
                      rw [show ((s2 + v : Nat) : Int) = (s2 : Int) + (v : Int) by omega, ← Int.add_assoc]
                      rfl
                · obtain ⟨s2, o4', o5', hs2, rfl, rfl⟩ := h
                  have ly := dpAll_len hab
                  rw [ly, List.take_length] at hs2
                  refine ⟨sm + s2, some (.ref ab), o4', o5', ?_, ?_, rfl⟩
                  · rw [take_more hb]
                    refine sumO_snoc hsm ?_
                    show (if ps.length = 3 then sumO (placeN (gsz n) bs.length) ps else none) = some s2
                    rw [if_pos l3]
                    exact hs2
                  · rw [show ((sm + s2 : Nat) : Int) = (sm : Int) + (s2 : Int) by omega, ← Int.add_assoc]
            | int _ => cases h3
            | bool b => cases h3
            | none => cases h3
            | str _ => cases h3
            | list _ => cases h3
            | dict _ => cases h3
        · obtain ⟨sm, o3, o4, o5, hsm, rfl, rfl⟩ := h
          rw [lx, List.take_length] at hsm
          rw [hsm] at q
          refine ⟨_, rfl, _, _, rfl, rfl, _, rfl, ?_⟩
          by_cases c : bs.length + sm ≤ 24
          · have q : Q (optV (if bs.length + sm ≤ 24 then some (bs.length + sm) else none)) H' := q
            rw [if_pos c] at q
            refine ifT (decide_eq_true (by omega)) ⟨_, rfl, ?_⟩
            have q : Q (.int ((bs.length + sm : Nat) : Int)) H' := q
            rw [show ((bs.length + sm : Nat) : Int) = (bs.length : Int) + (sm : Int) by omega] at q
            exact q
          · have q : Q (optV (if bs.length + sm ≤ 24 then some (bs.length + sm) else none)) H' := q
            rw [if_neg c] at q
            exact ifF (decide_eq_false (by omega)) q
end
/-! places of a good graph -/
inductive PlaceOk (n m : Nat) : PyData → Prop where
  | num {i : Int} (h1 : -9999 ≤ i) (h2 : i ≤ 9999) : PlaceOk n m (.int i)
  | tie {j : Int} (h1 : 0 ≤ j) (h2 : j < m) : PlaceOk n m (.tuple [.str "tie", .int j])
  | graph {ps r : List PyData} {k : Nat} (h : gsz n (.tuple (.tuple ps :: r)) = some k) : PlaceOk n m (.tuple (.tuple ps :: r))
theorem eqv_str {p : PyData} {x : Str} (h : PyData.eqv p (.str x) = true) : p = .str x := by
  cases p with
  | str y =>
    simp only [PyData.eqv] at h
    rw [eq_of_beq h]
  | int _ => simp [PyData.eqv] at h
  | bool _ => simp [PyData.eqv] at h
  | none => simp [PyData.eqv] at h
  | list _ => simp [PyData.eqv] at h
  | tuple _ => simp [PyData.eqv] at h
  | dict _ => simp [PyData.eqv] at h
theorem gsz_some {n : Nat} {d : PyData} {k : Nat} (h : gsz n d = some k) : ∃ m bs s, n = m + 1 ∧ d = .tuple bs ∧ 1 ≤ bs.length ∧ bs.length ≤ 8 ∧ sumO (boxN (placeN (gsz m) bs.length)) bs = some s ∧ k = bs.length + s ∧ k ≤ 24 := by
  cases n with
  | zero => cases h
  | succ m =>
    cases d with
    | tuple bs =>
      have h : gszT (gsz m) bs = some k := h
      unfold gszT at h
      by_cases hl : 1 ≤ bs.length ∧ bs.length ≤ 8
      · rw [if_pos hl] at h
        cases hs : sumO (boxN (placeN (gsz m) bs.length)) bs with
        | none => rw [hs] at h; cases h
        | some s =>
          rw [hs] at h
          have h : (if bs.length + s ≤ 24 then some (bs.length + s) else none) = some k := h
          by_cases c : bs.length + s ≤ 24
          · rw [if_pos c] at h
            cases h
            exact ⟨m, bs, s, rfl, rfl, hl.1, hl.2, hs, rfl, c⟩
          · rw [if_neg c] at h
            cases h
      · rw [if_neg hl] at h
        cases h
    | int _ => cases h
    | bool _ => cases h
    | none => cases h
    | str _ => cases h
    | list _ => cases h
    | dict _ => cases h
theorem boxN_some {f : PyData → Option Nat} {b : PyData} {k : Nat} (h : boxN f b = some k) : ∃ p q r, b = .tuple [p, q, r] ∧ sumO f [p, q, r] = some k := by
  cases b with
  | tuple ps =>
    have h : (if ps.length = 3 then sumO f ps else none) = some k := h
    by_cases l : ps.length = 3
    · rw [if_pos l] at h
      match ps, l, h with
      | [p, q, r], _, h => exact ⟨p, q, r, rfl, h⟩
    · rw [if_neg l] at h
      cases h
  | int _ => cases h
  | bool _ => cases h
  | none => cases h
  | str _ => cases h
  | list _ => cases h
  | dict _ => cases h
theorem placeN_some {n m : Nat} {p : PyData} {k : Nat} (h : placeN (gsz n) m p = some k) : PlaceOk n m p := by
  unfold placeN at h
  by_cases h1 : numD p = true
  · cases p with
    | int i =>
      have : -9999 ≤ i ∧ i ≤ 9999 := by simpa [numD, withinD] using h1
      exact .num this.1 this.2
    | tuple _ => cases h1
    | bool _ => cases h1
    | none => cases h1
    | str _ => cases h1
    | list _ => cases h1
    | dict _ => cases h1
  · rw [if_neg h1] at h
    by_cases h2 : tieB m p = true
    · unfold tieB at h2
      split at h2
      · rename_i p q
        rw [Bool.and_eq_true] at h2
        obtain ⟨e, wi⟩ := h2
        rw [eqv_str e]
        cases q with
        | int j =>
          have : 0 ≤ j ∧ j ≤ (m : Int) - 1 := by simpa [withinD] using wi
          exact .tie this.1 (by omega)
        | tuple _ => cases wi
        | bool _ => cases wi
        | none => cases wi
        | str _ => cases wi
        | list _ => cases wi
        | dict _ => cases wi
      · cases h2
    · rw [if_neg h2] at h
      obtain ⟨m', bs, s, rfl, rfl, l1, l8, hs, rfl, h24⟩ := gsz_some h
      cases bs with
      | nil => simp at l1
      | cons b r =>
        obtain ⟨a, ha⟩ := sumO_mem hs List.mem_cons_self
        obtain ⟨p, q, t, rfl, _⟩ := boxN_some ha
        exact .graph h
/-- a good graph's boxes -/
theorem box_of {n : Nat} {bs : List PyData} {k i : Nat} {b : PyData} (h : gsz (n + 1) (.tuple bs) = some k) (hb : bs[i]? = some b) : ∃ p q r, b = .tuple [p, q, r] ∧ PlaceOk n bs.length p ∧ PlaceOk n bs.length q ∧ PlaceOk n bs.length r := by
  obtain ⟨m, bs', s, e, e2, l1, l8, hs, _⟩ := gsz_some h
  cases e
  cases e2
  obtain ⟨a, ha⟩ := sumO_mem hs (List.mem_of_getElem? hb)
  obtain ⟨p, q, r, rfl, hp⟩ := boxN_some ha
  obtain ⟨_, h1⟩ := sumO_mem hp (x := p) (by simp)
  obtain ⟨_, h2⟩ := sumO_mem hp (x := q) (by simp)
  obtain ⟨_, h3⟩ := sumO_mem hp (x := r) (by simp)
  exact ⟨p, q, r, rfl, placeN_some h1, placeN_some h2, placeN_some h3⟩
def sortD : PyData → Int
  | .tuple (p :: _) => if PyData.eqv p (.str "tie") = true then 1 else 2
  | _ => 0
def placeAt (b k : Int) : PyData → Option PyData
  | .tuple bs => if 0 ≤ b ∧ b < bs.length then (match bs[b.toNat]? with
    | some (.tuple ps) => ps[k.toNat]?
    | _ => none) else none
  | _ => none
def sortAt (b k : Int) (d : PyData) : Int := match placeAt b k d with
  | some p => sortD p
  | none => 3
def numIn : PyData → Int
  | .int i => i
  | .tuple [.str _, .int j] => j
  | _ => 0
def numberAt (b k : Int) (d : PyData) : Int := match placeAt b k d with
  | some p => numIn p
  | none => 0
def bareD : PyData := .tuple [.tuple [.int 0, .int 0, .int 0]]
def graphAt (b k : Int) (d : PyData) : PyData := match placeAt b k d with
  | some p => if sortD p = 2 then p else bareD
  | none => bareD
theorem eqv_tup_str (xs : List PyData) (x : Str) : PyData.eqv (.tuple xs) (.str x) = false := by simp [PyData.eqv]
theorem eqv_str_str (x : Str) : PyData.eqv (.str x) (.str x) = true := by simp [PyData.eqv]
/-- graph[b][k], where there is such a box -/
theorem place_there {n : Nat} {bs : List PyData} {c : Nat} {b k : Int} (h : gsz (n + 1) (.tuple bs) = some c) (hb : 0 ≤ b ∧ b < bs.length) (hk : 0 ≤ k ∧ k ≤ 2) :
    ∃ ps p, bs[b.toNat]? = some (.tuple ps) ∧ ps[k.toNat]? = some p ∧ PlaceOk n bs.length p ∧ placeAt b k (.tuple bs) = some p := by
  have hl : b.toNat < bs.length := by omega
  have e := List.getElem?_eq_getElem hl
  obtain ⟨p, q, r, eb, h1, h2, h3⟩ := box_of h e
  rw [eb] at e
  have ep : ∀ x, [p, q, r][k.toNat]? = some x → placeAt b k (.tuple bs) = some x := fun x hx => by
    show (if 0 ≤ b ∧ b < bs.length then _ else none) = some x
    rw [if_pos hb, e]
    exact hx
  have hk3 : k.toNat = 0 ∨ k.toNat = 1 ∨ k.toNat = 2 := by omega
  rcases hk3 with z | z | z
  · exact ⟨_, p, e, by rw [z]; rfl, h1, ep _ (by rw [z]; rfl)⟩
  · exact ⟨_, q, e, by rw [z]; rfl, h2, ep _ (by rw [z]; rfl)⟩
  · exact ⟨_, r, e, by rw [z]; rfl, h3, ep _ (by rw [z]; rfl)⟩
theorem place_none {bs : List PyData} {b k : Int} (hb : ¬ (0 ≤ b ∧ b < bs.length)) : placeAt b k (.tuple bs) = none := by
  show (if 0 ≤ b ∧ b < bs.length then _ else none) = none
  rw [if_neg hb]
theorem atI_at {α : Type} {xs : List α} {i : Int} {v : α} (h0 : 0 ≤ i) (h : xs[i.toNat]? = some v) : atI xs i = some v := by
  have q := atI_nat h
  rw [show ((i.toNat : Nat) : Int) = i by omega] at q
  exact q
section
variable {P : Program} {w : World} {K : PySem.W.Frag} {mg : Str → Option Value} {base : Heap} {f : Addr} {fd : FuncData}
/-- graph[b][k] in the heap -/
theorem dp_place {H : Hp} {xs : List V} {bs ps : List PyData} {p : PyData} {b k : Int} (ha : DpAll K H xs bs) (hb : 0 ≤ b) (hk : 0 ≤ k) (e1 : bs[b.toNat]? = some (.tuple ps)) (e2 : ps[k.toNat]? = some p) :
    ∃ ab ys y, atI xs b = some (.ref ab) ∧ SqT K H ab ys ∧ atI ys k = some y ∧ Dp K H y p := by
  obtain ⟨x, hx, hd⟩ := dpAll_get ha e1
  cases hd with
  | @tup ab ys _ ht hy =>
    obtain ⟨y, hy1, hy2⟩ := dpAll_get hy e2
    exact ⟨ab, ys, y, atI_at hb hx, ht, atI_at hk hy1, hy2⟩
def spIsGraph (K : PySem.W.Frag) : Sp := fun vs H Q _ => ∃ (x : V) (d : PyData), vs = [x] ∧ Dp K H x d ∧ OkL d ∧ Q (.bl (gsz 4 d).isSome) H
theorem scIsGraph : FnScope ["thing"] ["thing"] (defScope sIsGraph) := ⟨rfl, rfl, rfl, by decide +kernel, rfl, by decide +kernel, by decide +kernel⟩
theorem ok_isGraph {k : Nat} (F : Fun K "is_graph" "is_graph" sIsGraph f fd) (C : Cst mg) (cG : Cal P w K mg base "graph_size" k ["thing", "deep"] (spGsz K 4)) : FnOk P w K mg base CX0 (k + 1) f fd ["thing"] (spIsGraph K) := by
  refine F.ok scIsGraph (fun vs H Q E h => ?_) (fun cdv A outer s H vs Q E hr h => ?_)
  · obtain ⟨x, d, rfl, _⟩ := h
    rfl
  obtain ⟨x, d, rfl, hx, hsh, q⟩ := h
  refine ⟨_, pss_one (ps_ret (pe_cmpR op_notN (pe_cal cG hr rfl (pa_cons (pv 0) (pa_cons (pe_globI rfl C.mostDeep) pa_nil))) pe_non (nomark _))), ?_⟩
  refine ⟨_, rfl, x, d, rfl, hx, hsh, rfl, ?_⟩
  cases e : gsz 4 d with
  | none =>
    rw [e] at q
    exact q
  | some c =>
    rw [e] at q
    exact q
def spCheckG (K : PySem.W.Frag) : Sp := fun vs H Q _ => ∃ (x : V) (d : PyData) (c : Nat), vs = [x] ∧ Dp K H x d ∧ OkL d ∧ gsz 4 d = some c ∧ Q .non H
theorem scCheckG : FnScope ["graph"] ["graph"] (defScope sCheckG) := ⟨rfl, rfl, rfl, by decide +kernel, rfl, by decide +kernel, by decide +kernel⟩
theorem ok_checkG {k : Nat} (F : Fun K "check_graph" "check_graph" sCheckG f fd) (cG : Cal P w K mg base "is_graph" k ["thing"] (spIsGraph K)) : FnOk P w K mg base CX0 (k + 1) f fd ["graph"] (spCheckG K) := by
  refine F.ok scCheckG (fun vs H Q E h => ?_) (fun cdv A outer s H vs Q E hr h => ?_)
  · obtain ⟨x, d, c, rfl, _⟩ := h
    rfl
  obtain ⟨x, d, c, rfl, hx, hsh, hg, q⟩ := h
  refine ⟨_, pss_one (ps_if (pt_not (pt_val (pe_cal cG hr rfl (pa_cons (pv 0) pa_nil)))) pss_never pss_nil), ?_⟩
  exact ⟨_, rfl, x, d, rfl, hx, hsh, _, rfl, by rw [hg]; exact ifF rfl q⟩
end
section
variable {P : Program} {w : World} {K : PySem.W.Frag} {mg : Str → Option Value} {base : Heap} {f : Addr} {fd : FuncData}
def spSortOf (K : PySem.W.Frag) : Sp := fun vs H Q _ => ∃ (x : V) (d : PyData), vs = [x] ∧ Dp K H x d ∧ OkL d ∧ d ≠ .tuple [] ∧ Q (.int (sortD d)) H
theorem scSortOf : FnScope ["place"] ["place"] (defScope sSortOf) := ⟨rfl, rfl, rfl, by decide +kernel, rfl, by decide +kernel, by decide +kernel⟩
theorem ok_sortOf {k : Nat} (F : Fun K "sort_of" "sort_of" sSortOf f fd) (T : Free mg) (C : Cst mg) : FnOk P w K mg base CX0 (k + 1) f fd ["place"] (spSortOf K) := by
  refine F.ok scSortOf (fun vs H Q E h => ?_) (fun cdv A outer s H vs Q E hr h => ?_)
  · obtain ⟨x, d, rfl, _⟩ := h
    rfl
  obtain ⟨x, d, rfl, hx, hsh, hne, q⟩ := h
  refine ⟨_, pss_cons (ps_if (pt_not (pt_val (pe_callB call_isi rfl T.isi (by decide +kernel) (pa_cons (pv 0) (pa_cons (pe_bltn (v := .ty "tuple") rfl T.tuple (by decide +kernel) rfl) pa_nil))))) (pss_one (ps_ret (pe_globI rfl C.number))) pss_nil)
    (pss_one (ps_ret (pe_ifExp (pt_cmpR (op_eqT hr.units) (pe_ix ix_tup (pv 0) pe_int (fun _ _ => rfl)) pe_str (nomark _)) (pe_globI rfl C.tie) (pe_globI rfl C.graph)))), ?_⟩
  refine ⟨_, rfl, x, _, _, _, _, rfl, .ty "tuple", ty_of hx, kit_tuple d, _, rfl, ?_⟩
  cases d with
  | tuple ds =>
    cases ds with
    | nil => exact absurd rfl hne
    | cons p r =>
      cases hx with
      | tup ht ha =>
        cases ha with
        | cons hp ha =>
          refine ifF rfl ⟨_, rfl, _, _, _, _, rfl, rfl, ht, atI_nat (j := 0) rfl, p, .str "tie", hp, .str _, okL_mem hsh List.mem_cons_self, okR_tie, _, rfl, ?_⟩
          have q : Q (.int (if PyData.eqv p (.str "tie") = true then 1 else 2)) H := q
          cases e : PyData.eqv p (.str "tie") with
          | true =>
            rw [e] at q
            exact ifT rfl q
          | false =>
            rw [e] at q
            exact ifF rfl q
  | int _ => exact ifT rfl q
  | bool _ => exact ifT rfl q
  | none => exact ifT rfl q
  | str _ => exact ifT rfl q
  | list _ => exact ifT rfl q
  | dict _ => exact ifT rfl q
def GoodG (K : PySem.W.Frag) (H : Hp) (x : V) (d : PyData) : Prop := Dp K H x d ∧ OkL d ∧ ∃ c, gsz 4 d = some c
def spSortAt (K : PySem.W.Frag) : Sp := fun vs H Q _ => ∃ (x : V) (d : PyData) (b k : Int), vs = [x, .int b, .int k] ∧ GoodG K H x d ∧ 0 ≤ k ∧ k ≤ 2 ∧ Q (.int (sortAt b k d)) H
def spNumAt (K : PySem.W.Frag) : Sp := fun vs H Q _ => ∃ (x : V) (d : PyData) (b k : Int), vs = [x, .int b, .int k] ∧ GoodG K H x d ∧ 0 ≤ k ∧ k ≤ 2 ∧ Q (.int (numberAt b k d)) H
theorem sort_kinds {n m : Nat} {p : PyData} (h : PlaceOk n m p) : (∃ i, p = .int i ∧ sortD p = 0) ∨ (∃ j, p = .tuple [.str "tie", .int j] ∧ sortD p = 1) ∨ (∃ ps r k, p = .tuple (.tuple ps :: r) ∧ gsz n p = some k ∧ sortD p = 2) := by
  cases h with
  | num _ _ => exact .inl ⟨_, rfl, rfl⟩
  | tie _ _ => exact .inr (.inl ⟨_, rfl, by show (if PyData.eqv (.str "tie") (.str "tie") = true then (1 : Int) else 2) = 1; rw [if_pos (eqv_str_str _)]⟩)
  | @graph ps r k h => exact .inr (.inr ⟨ps, r, k, rfl, h, by show (if PyData.eqv (.tuple ps) (.str "tie") = true then (1 : Int) else 2) = 2; rw [if_neg (by rw [eqv_tup_str]; decide)]⟩)
def spGraphAt (K : PySem.W.Frag) : Sp := fun vs H Q _ => ∃ (x : V) (d : PyData) (b k : Int), vs = [x, .int b, .int k] ∧ GoodG K H x d ∧ 0 ≤ k ∧ k ≤ 2 ∧ ∀ v, Dp K H v (graphAt b k d) → Q v H
end
/-! heaps: what stands, but for the state's list -/
def StOk (x y z : Int) : Prop := 0 ≤ x ∧ 0 ≤ y ∧ y < 4294967296
def StAt (H : Hp) (st : Addr) : Prop := ∃ x y z, H st = some (.lst [.int x, .int y, .int z]) ∧ StOk x y z
def Kp (st : Addr) (H H' : Hp) : Prop := ∀ b u, b ≠ st → H b = some u → H' b = some u
structure Mv (st : Addr) (H H' : Hp) : Prop where
  kp : Kp st H H'
  sa : StAt H' st
/-- what is no list stands -/
def KT (H H' : Hp) : Prop := ∀ b u, H b = some u → (∀ l, u ≠ .lst l) → H' b = some u
theorem Kp.refl (st : Addr) (H : Hp) : Kp st H H := fun _ _ _ h => h
theorem Kp.trans {st : Addr} {H H1 H2 : Hp} (a : Kp st H H1) (b : Kp st H1 H2) : Kp st H H2 := fun c u n h => b c u n (a c u n h)
theorem Kp.of_same {st : Addr} {H H' : Hp} (a : Same H H') : Kp st H H' := fun c u _ h => a c u h
theorem KT.refl (H : Hp) : KT H H := fun _ _ h _ => h
theorem KT.trans {H H1 H2 : Hp} (a : KT H H1) (b : KT H1 H2) : KT H H2 := fun c u h n => b c u (a c u h n) n
theorem KT.of_same {H H' : Hp} (a : Same H H') : KT H H' := fun c u h _ => a c u h
theorem Kp.kt {st : Addr} {H H' : Hp} (k : Kp st H H') (s : StAt H st) : KT H H' := fun b u h n => k b u (fun e => by
  obtain ⟨x, y, z, hs, _⟩ := s
  rw [e, hs] at h
  cases h
  exact n _ rfl) h
theorem KT.upd {H : Hp} {p : Addr} {l l' : List V} (h : H p = some (.lst l)) : KT H (upd H p (.lst l')) := fun b u hb n => by
  by_cases e : b = p
  · subst e
    rw [h] at hb
    cases hb
    exact absurd rfl (n l)
  · rw [upd_ne e]
    exact hb
theorem same_new {H : Hp} {p : Addr} (h : H p = none) (o : HO) : Same H (upd H p o) := fun b u q => by rw [upd_ne (ne_of_none q h)]; exact q
theorem Kp.upd {st : Addr} {H0 H : Hp} {p : Addr} {o : HO} (k : Kp st H0 H) (h : H0 p = none) : Kp st H0 (upd H p o) := fun b u n hb => by
  rw [upd_ne (ne_of_none hb h)]
  exact k b u n hb
theorem Kp.free {st : Addr} {H H' : Hp} (k : Kp st H H') {p : Addr} (n : p ≠ st) (h : H' p = none) : H p = none := by
  cases e : H p with
  | none => rfl
  | some u =>
    rw [k p u n e] at h
    cases h
theorem StAt.some {H : Hp} {st : Addr} (s : StAt H st) : ∃ l, H st = some (.lst l) := by
  obtain ⟨x, y, z, h, _⟩ := s
  exact ⟨_, h⟩
theorem StAt.ne {H : Hp} {st p : Addr} (s : StAt H st) (h : H p = none) : p ≠ st := fun e => by
  obtain ⟨l, hs⟩ := s.some
  rw [e, hs] at h
  cases h
theorem StAt.same {H H' : Hp} {st : Addr} (s : StAt H st) (k : Same H H') : StAt H' st := by
  obtain ⟨x, y, z, h, ok⟩ := s
  exact ⟨x, y, z, k _ _ h, ok⟩
theorem StAt.upd {H : Hp} {st p : Addr} {o : HO} (s : StAt H st) (n : p ≠ st) : StAt (upd H p o) st := by
  obtain ⟨x, y, z, h, ok⟩ := s
  exact ⟨x, y, z, by rw [upd_ne n.symm]; exact h, ok⟩
/-! data that is tuples, ints and texts alone -/
mutual
def tupOnly : PyData → Bool
  | .int _ | .str _ => true
  | .tuple xs => tupOnlyAll xs
  | _ => false
def tupOnlyAll : List PyData → Bool
  | [] => true
  | x :: r => tupOnly x && tupOnlyAll r
end
theorem sqT_kt {K : PySem.W.Frag} {H H' : Hp} {a : Addr} {xs : List V} (k : KT H H') (h : SqT K H a xs) : SqT K H' a xs := by
  rcases h with (h | ⟨o, h⟩) | h
  · exact .inl (.inl (k _ _ h (fun l z => by cases z)))
  · exact .inl (.inr ⟨o, k _ _ h (fun l z => by cases z)⟩)
  · exact .inr h
mutual
theorem dp_kt {K : PySem.W.Frag} {H H' : Hp} (k : KT H H') : ∀ (d : PyData) (v : V), tupOnly d = true → Dp K H v d → Dp K H' v d
  | .int i, v, _, h => by cases h; exact .int i
  | .str x, v, _, h => by cases h; exact .str x
  | .tuple ds, v, t, h => by
    cases h with
    | tup hs ha => exact .tup (sqT_kt k hs) (dpAll_kt k ds _ (by simpa only [tupOnly] using t) ha)
  | .none, v, t, h => by simp [tupOnly] at t
  | .bool _, v, t, h => by simp [tupOnly] at t
  | .list _, v, t, h => by simp [tupOnly] at t
  | .dict _, v, t, h => by simp [tupOnly] at t
theorem dpAll_kt {K : PySem.W.Frag} {H H' : Hp} (k : KT H H') : ∀ (ds : List PyData) (vs : List V), tupOnlyAll ds = true → DpAll K H vs ds → DpAll K H' vs ds
  | [], vs, _, h => by cases h; exact .nil
  | d :: ds, vs, t, h => by
    simp only [tupOnlyAll, Bool.and_eq_true] at t
    cases h with
    | cons h1 h2 => exact .cons (dp_kt k d _ t.1 h1) (dpAll_kt k ds _ t.2 h2)
end
theorem dpAll_snoc {K : PySem.W.Frag} {H : Hp} {v : V} {d : PyData} (h : Dp K H v d) : ∀ {vs : List V} {ds : List PyData}, DpAll K H vs ds → DpAll K H (vs ++ [v]) (ds ++ [d])
  | _, _, .nil => .cons h .nil
  | _, _, .cons a t => .cons a (dpAll_snoc h t)
theorem dpAll_append {K : PySem.W.Frag} {H : Hp} {ws : List V} {es : List PyData} (h : DpAll K H ws es) : ∀ {vs : List V} {ds : List PyData}, DpAll K H vs ds → DpAll K H (vs ++ ws) (ds ++ es)
  | _, _, .nil => h
  | _, _, .cons a t => .cons a (dpAll_append h t)
theorem tupOnly_snoc : ∀ {ds : List PyData} {d : PyData}, tupOnlyAll ds = true → tupOnly d = true → tupOnlyAll (ds ++ [d]) = true
  | [], d, _, h => by simp [tupOnlyAll, h]
  | x :: r, d, t, h => by
    simp only [tupOnlyAll, Bool.and_eq_true, List.cons_append] at *
    exact ⟨t.1, tupOnly_snoc t.2 h⟩
theorem small {n : Nat} (h : n ≤ 1000) : n ≤ sizeLine := Nat.le_of_lt (small1000 h)
section
variable {P : Program} {w : World} {K : PySem.W.Frag} {mg : Str → Option Value} {base : Heap} {f : Addr} {fd : FuncData}
/-! _law_cell_at -/
def spCell (K : PySem.W.Frag) : Sp := fun vs H Q _ => ∃ (a : Addr) (ns : List Int) (i : Int), vs = [.ref a, .int i] ∧ SqL K H a (ns.map V.int) ∧ 0 ≤ i ∧ ∀ n : Int, Q (.int n) H
theorem scCell : FnScope ["_law_script", "_law_k"] ["_law_script", "_law_k"] (defScope sCell) := ⟨rfl, rfl, rfl, by decide +kernel, rfl, by decide +kernel, by decide +kernel⟩
theorem ok_cell {k : Nat} (F : Fun K "_law_cell_at" "_law_cell_at" sCell f fd) (T : Free mg) : FnOk P w K mg base CX0 (k + 1) f fd ["_law_script", "_law_k"] (spCell K) := by
  refine F.ok scCell (fun vs H Q E h => ?_) (fun cdv A outer s H vs Q E hr h => ?_)
  · obtain ⟨a, ns, i, rfl, _⟩ := h
    rfl
  obtain ⟨a, ns, i, rfl, hs, h0, q⟩ := h
  refine ⟨_, pss_cons (ps_if (pt_cmpR op_lt (pv 1) (pe_callB call_len_seq rfl T.len PySem.boot_len (pa_cons (pv 0) pa_nil)) (nomark _)) (pss_one (ps_ret (pe_ix ix_list (pv 0) (pv 1) (fun _ _ => rfl)))) pss_nil) (pss_one (ps_ret pe_int)), ?_⟩
  refine ⟨_, rfl, _, rfl, a, _, rfl, .inl hs, _, _, rfl, rfl, _, rfl, ?_⟩
  refine ite2 (fun c => ?_) (fun c => q 0)
  have c : i < (((ns.map V.int).length : Nat) : Int) := of_decide_eq_true c
  have hk : i.toNat < ns.length := by rw [List.length_map] at c; omega
  exact ⟨_, rfl, _, rfl, a, _, i, .int ns[i.toNat], rfl, rfl, hs, atI_at h0 (by rw [List.getElem?_map, List.getElem?_eq_getElem hk] <;> rfl), q _⟩
/-! _law_state -/
def spState (K : PySem.W.Frag) : Sp := fun vs H Q _ => ∃ (a : Addr) (ns : List Int) (i : Int), vs = [.ref a, .int i] ∧ SqL K H a (ns.map V.int) ∧ 0 ≤ i ∧ ∀ p x y z, H p = none → StOk x y z → Q (.ref p) (upd H p (.lst [.int x, .int y, .int z]))
theorem scState : FnScope ["_law_script", "_law_k", "_law_cell"] ["_law_script", "_law_k"] (defScope sState) := ⟨rfl, rfl, rfl, by decide +kernel, rfl, by decide +kernel, by decide +kernel⟩
theorem ok_state {k : Nat} (F : Fun K "_law_state" "_law_state" sState f fd) (T : Free mg) (cC : Cal P w K mg base "_law_cell_at" k ["_law_script", "_law_k"] (spCell K)) : FnOk P w K mg base CX0 (k + 1) f fd ["_law_script", "_law_k"] (spState K) := by
  refine F.ok scState (fun vs H Q E h => ?_) (fun cdv A outer s H vs Q E hr h => ?_)
  · obtain ⟨a, ns, i, rfl, _⟩ := h
    rfl
  obtain ⟨a, ns, i, rfl, hs, h0, q⟩ := h
  refine ⟨_, pss_cons (ps_set (i := 2) scState.nd rfl (.inl rfl) (pe_cal cC hr rfl (pa_cons (pv 0) (pa_cons (pv 1) pa_nil))))
    (pss_one (ps_ret (pe_lst (pa_cons (pe_callB (call_max2 rfl) rfl T.max (by decide +kernel) (pa_cons pe_int (pa_cons (pe_op op_sub (pv 2) (pe_op op_pow pe_int pe_int)) pa_nil)))
      (pa_cons (pe_op op_add (pe_op op_mod (pv 2) pe_int) pe_int) (pa_cons pe_int pa_nil)))))), ?_⟩
  refine ⟨_, rfl, _, rfl, a, ns, i, rfl, hs, h0, fun n => ?_⟩
  refine ⟨_, rfl, _, _, rfl, rfl, ⟨by decide, by decide, by decide⟩, _, _, rfl, rfl, _, _, rfl, ?_⟩
  refine ⟨_, rfl, _, _, rfl, rfl, (by show (0 : Int) < 2147483629; decide), _, _, rfl, rfl, small (by show 3 ≤ 1000; decide), fun p hp => ?_⟩
  refine q p _ _ _ hp ⟨?_, ?_, ?_⟩
  · split <;> omega
  · have := Int.emod_nonneg n (show (2147483629 : Int) ≠ 0 by decide)
    omega
  · have := Int.emod_lt_of_pos n (show (0 : Int) < 2147483629 by decide)
    omega
/-! _law_choice -/
def spChoice : Sp := fun vs H Q _ => ∃ (st : Addr) (many : Int), vs = [.ref st, .int many] ∧ StAt H st ∧ 0 < many ∧ many < 1000000 ∧ ∀ r H', 0 ≤ r → r < many → Mv st H H' → Q (.int r) H'
theorem scChoice : FnScope ["_law_state_here", "_law_many", "_law_found", "_law_mixed"] ["_law_state_here", "_law_many"] (defScope sChoice) := ⟨rfl, rfl, rfl, by decide +kernel, rfl, by decide +kernel, by decide +kernel⟩
theorem mv_upd {H : Hp} {st : Addr} {x y z : Int} (ok : StOk x y z) : Mv st H (upd H st (.lst [.int x, .int y, .int z])) :=
  ⟨fun b u n h => by rw [upd_ne n]; exact h, ⟨x, y, z, upd_same, ok⟩⟩
theorem ok_choice {k : Nat} (F : Fun K "_law_choice" "_law_choice" sChoice f fd) : FnOk P w K mg base CX0 (k + 1) f fd ["_law_state_here", "_law_many"] spChoice := by
  refine F.ok scChoice (fun vs H Q E h => ?_) (fun cdv A outer s H vs Q E hr h => ?_)
  · obtain ⟨st, many, rfl, _⟩ := h
    rfl
  obtain ⟨st, many, rfl, ⟨x, y, z, hst, hx, hy, hy2⟩, h0, hm, q⟩ := h
  refine ⟨_, pss_cons (ps_if (pt_cmpR op_gt (pe_ix ix_list (pv 0) pe_int (fun _ _ => rfl)) pe_int (nomark _))
      (pss_cons (ps_set (i := 2) scChoice.nd rfl (.inl rfl) (pe_op op_mod (pe_ix ix_list (pv 0) pe_int (fun _ _ => rfl)) (pv 1)))
      (pss_cons (ps_asg (pe_op op_fdiv (pe_ix ix_list (pv 0) pe_int (fun _ _ => rfl)) (pv 1)) (pg_sub (pv 0) pe_int set_list))
      (pss_one (ps_ret (pv 2))))) pss_nil)
    (pss_cons (ps_asg (pe_op op_add (pe_ix ix_list (pv 0) pe_int (fun _ _ => rfl)) pe_int) (pg_sub (pv 0) pe_int set_list))
    (pss_cons (ps_asg (pe_op op_mod (pe_op op_add (pe_op op_add (pe_op op_mul (pe_ix ix_list (pv 0) pe_int (fun _ _ => rfl)) pe_int) pe_int) (pe_ix ix_list (pv 0) pe_int (fun _ _ => rfl))) pe_int) (pg_sub (pv 0) pe_int set_list))
    (pss_cons (ps_set (i := 3) scChoice.nd rfl (.inl rfl) (pe_op op_mod (pe_op op_add (pe_op op_add (pe_op op_mul (pe_ix ix_list (pv 0) pe_int (fun _ _ => rfl)) (pe_ix ix_list (pv 0) pe_int (fun _ _ => rfl))) (pe_op op_mul pe_int (pe_ix ix_list (pv 0) pe_int (fun _ _ => rfl)))) pe_int) pe_int))
    (pss_cons (ps_set (i := 3) scChoice.nd rfl (.inl rfl) (pe_op op_mod (pe_op op_add (pe_op op_mul (pv 3) (pv 3)) (pe_op op_mul pe_int (pv 3))) pe_int))
    (pss_one (ps_ret (pe_op op_mod (pe_op op_fdiv (pv 3) pe_int) (pv 1)))))))), ?_⟩
  have rd : ∀ {H : Hp} {x y z : Int}, H st = some (.lst [.int x, .int y, .int z]) → SqL K H st [.int x, .int y, .int z] := fun h => SqL.of h
  refine ⟨_, rfl, st, _, 0, _, rfl, rfl, rd hst, rfl, _, _, rfl, rfl, _, rfl, ?_⟩
  refine ite2 (fun c => ?_) (fun c => ?_)
  · refine ⟨_, rfl, st, _, 0, _, rfl, rfl, rd hst, rfl, _, rfl, _, _, rfl, rfl, h0, ?_⟩
    refine ⟨_, rfl, st, _, 0, _, rfl, rfl, rd hst, rfl, _, rfl, _, _, rfl, rfl, ⟨h0, by omega⟩, ?_⟩
    refine ⟨_, rfl, st, _, 0, 0, rfl, rfl, hst, rfl, ?_⟩
    refine ⟨_, rfl, q _ _ (Int.emod_nonneg x (by omega)) (Int.emod_lt_of_pos x h0) (mv_upd (x := x / many) (y := y) (z := z) ⟨Int.ediv_nonneg hx (by omega), hy, hy2⟩)⟩
  · refine ⟨_, rfl, st, _, 2, _, rfl, rfl, rd hst, rfl, _, _, rfl, rfl, ?_⟩
    refine ⟨_, rfl, st, _, 2, 2, rfl, rfl, hst, rfl, ?_⟩
    refine ⟨_, rfl, st, _, 1, _, rfl, rfl, rd upd_same, rfl, _, _, rfl, rfl, .inl ⟨by omega, by omega⟩, _, _, rfl, rfl, _, rfl, st, _, 2, _, rfl, rfl, rd upd_same, rfl, _, _, rfl, rfl, _, _, rfl, rfl, (by show (0 : Int) < 2147483647; decide), ?_⟩
    refine ⟨_, rfl, st, _, 1, 1, rfl, rfl, upd_same, rfl, ?_⟩
    rw [upd_upd]
    have b1 := Int.emod_nonneg (y * 48271 + 29 + (z + 1)) (show (2147483647 : Int) ≠ 0 by decide)
    have b2 := Int.emod_lt_of_pos (y * 48271 + 29 + (z + 1)) (show (0 : Int) < 2147483647 by decide)
    generalize hv : (y * 48271 + 29 + (z + 1)) % 2147483647 = v at b1 b2
    show tSeq _ _ _ _ (upd H st (.lst [.int x, .int ((y * 48271 + 29 + (z + 1)) % 2147483647), .int (z + 1)]))
    rw [hv]
    refine ⟨_, rfl, st, _, 1, _, rfl, rfl, rd upd_same, rfl, _, rfl, st, _, 1, _, rfl, rfl, rd upd_same, rfl, _, _, rfl, rfl, .inl ⟨by omega, by omega⟩, _, rfl, st, _, 1, _, rfl, rfl, rd upd_same, rfl, _, _, rfl, rfl, .inl ⟨by decide, by decide⟩, _, _, rfl, rfl, _, _, rfl, rfl, _, _, rfl, rfl, (by show (0 : Int) < 2147483629; decide), ?_⟩
    have c1 := Int.emod_nonneg (v * v + 39373 * v + 7) (show (2147483629 : Int) ≠ 0 by decide)
    have c2 := Int.emod_lt_of_pos (v * v + 39373 * v + 7) (show (0 : Int) < 2147483629 by decide)
    refine ⟨_, rfl, _, rfl, _, _, rfl, rfl, .inl ⟨by omega, by omega⟩, _, rfl, _, _, rfl, rfl, .inl ⟨by decide, by decide⟩, _, _, rfl, rfl, _, _, rfl, rfl, (by show (0 : Int) < 2147483587; decide), ?_⟩
    refine ⟨_, rfl, _, _, rfl, rfl, ⟨by decide, by decide⟩, _, rfl, _, _, rfl, rfl, h0, ?_⟩
    exact q _ _ (Int.emod_nonneg _ (by omega)) (Int.emod_lt_of_pos _ h0) (mv_upd ⟨hx, b1, by omega⟩)
end
section
open PySem.Spec PyProof.Rows LamX
theorem okC {P : Program} {w : World} {K : PySem.W.Frag} {mg : Str → Option Value} {base : Heap} {x qual : Str} {st : Stmt} {f c : Addr} {fd : FuncData} {N ps : List Str} {k : Nat} {sp : Sp} (F : Fun K x qual st f fd) (hc : fd.code = .ref c) (S : FnScope N ps (defScope st)) (len : ∀ vs H Q E, sp vs H Q E → vs.length = ps.length)
    (hbody : ∀ (A : Around) (outer : List Env) (s : Shared) (H : Hp) (vs : List V) (Q : VK) (E : XK), Room k (A.deeper (envOfC qual (defScope st) s.heap.objs.size f (.ref c))) → sp vs H Q E →
      ∃ t, PSs (cxOf CX0 P w K mg base N qual (defScope st) f (.ref c) A outer s H E).nox (defBody st) t ∧ t { nx := fun _ H' => Q .non H', rt := Q } (L2.start N vs) H) : FnOk P w K mg base CX0 (k + 1) f fd ps sp := by
  obtain ⟨oc, od, kV, doc, pm, an, cdv, ct, osl, rfl, lk, hcd⟩ := F.ex
  obtain rfl : cdv = .ref c := hc
  refine fn_of lk hcd S len fun A outer s H vs Q E hr hsp => ?_
  obtain ⟨t, h, q⟩ := hbody A outer s H vs Q E hr hsp
  exact ⟨t, h.nox, q⟩
mutual
theorem dp_ext {K : PySem.W.Frag} {H H' : Hp} (e : ExtN H H') : ∀ (d : PyData) (v : V), Dp K H v d → Dp K H' v d
  | .none, v, h => by cases h; exact .non
  | .bool b, v, h => by cases h; exact .bl b
  | .int i, v, h => by cases h; exact .int i
  | .str x, v, h => by cases h; exact .str x
  | .list es, v, h => by
    cases h with
    | lst at_ each =>
      refine .lst ?_ (dp_exts e es _ each)
      rcases at_ with (z | ⟨o, z⟩) | z
      · exact .inl (.inl (e _ _ z fun ps q => by cases q))
      · exact .inl (.inr ⟨o, e _ _ z fun ps q => by cases q⟩)
      · exact .inr z
  | .tuple es, v, h => by
    cases h with
    | tup at_ each =>
      refine .tup ?_ (dp_exts e es _ each)
      rcases at_ with (z | ⟨o, z⟩) | z
      · exact .inl (.inl (e _ _ z fun ps q => by cases q))
      · exact .inl (.inr ⟨o, e _ _ z fun ps q => by cases q⟩)
      · exact .inr z
  | .dict kvs, v, h => by
    cases h with
    | dct at_ => exact .dct (e _ _ at_ fun ps q => by cases q)
theorem dp_exts {K : PySem.W.Frag} {H H' : Hp} (e : ExtN H H') : ∀ (ds : List PyData) (vs : List V), DpAll K H vs ds → DpAll K H' vs ds
  | [], vs, h => by cases h; exact .nil
  | d :: ds, vs, h => by
    cases h with
    | cons one more => exact .cons (dp_ext e d _ one) (dp_exts e ds _ more)
end
theorem tabs_upd {T : List (Addr × Str)} {H : Hp} {fa : Addr} {l l' : List V} (t : Tabs T H) (h : H fa = some (.lst l)) : Tabs T (upd H fa (.lst l')) := by
  intro p hp
  obtain ⟨ps, h1, h2, h3⟩ := t p hp
  refine ⟨ps, ?_, h2, fun pos cv hc => ?_⟩
  · rw [upd_ne (show p.1 ≠ fa from fun z => by rw [z, h] at h1; cases h1)]
    exact h1
  · obtain ⟨c, e1, e2⟩ := h3 pos cv hc
    refine ⟨c, e1, ?_⟩
    rw [upd_ne (show c ≠ fa from fun z => by rw [z, h] at e2; cases e2)]
    exact e2
theorem ext_upd {H0 H : Hp} {fa : Addr} {o : HO} (e : ExtN H0 H) (h : ∀ u, H0 fa = some u → ∃ ps, u = .tbl ps) : ExtN H0 (upd H fa o) := fun b u hb n => by
  have nb : b ≠ fa := fun z => by
    rw [z] at hb
    obtain ⟨ps, q⟩ := h u hb
    exact n ps q
  rw [upd_ne nb]
  exact e b u hb n
theorem ext_lst {H H' : Hp} {p : Addr} {l : List V} (e : ExtN H H') (h : H p = some (.lst l)) : H' p = some (.lst l) := e _ _ h fun ps q => by cases q
theorem ext_same {H H' : Hp} (s : Same H H') : ExtN H H' := fun b o h _ => s b o h
end
/-! all(.. for ..) and any(.. for ..), whatever is walked, the element may call defs -/
section
open PySem.Spec PyProof.Rows
/-- the generator expression's own frame, woken from the frames of X -/
def gxCx (X : Cx) (A : Around) (s : Shared) (H : Hp) (ce : Env) (fp : List Addr) (pn : List (Addr × Obj)) : Cx where
  prog := X.prog
  w := X.w
  K := X.K
  mg := X.mg
  base := X.base
  A := A
  N := X.N
  s_0 := s
  H_0 := H
  env := ce
  outer := X.stack
  stack := ce :: X.stack
  ex := fp
  fn := fun _ => false
  calm := true
  pn := pn
  xe := fun _ _ => False
theorem inv_sh {X : Cx} {pins : List (Addr × Obj)} {σ : L2.St} {H : Hp} {s s' : Shared} (I : Inv X pins σ H s) (h1 : s'.heap = s.heap) (h2 : s'.os = s.os) (h3 : AllBare s'.gens) : Inv X pins σ H s' :=
  ⟨I.ok, h2.trans I.os, h3, by rw [h1]; exact I.base, by rw [h1]; exact I.loc, by rw [h1]; exact I.cell, I.free, I.freeC, by rw [h1]; exact I.pin, by rw [h1]; exact I.hok, I.len⟩
section
variable {X : Cx} {pins : List (Addr × Obj)} {σ : L2.St} {H : Hp} {s : Shared}
theorem gx_start {A : Around} {scope : Scope} {own : List (Str × Nat)} {fp : List Addr} {code : Value} {a : Addr} {go : Obj} {h5 : Heap} {g5 : Array GenState} {t5 : Nat} {m0 : Str → Option Value}
    (I : Inv X pins σ H s) (hN : X.N.Nodup) (ok : BlkOk X.N X.env.scope scope own) (nocell : ∀ y ∈ scope.names, y.2 ≠ .cell) (hA : A.handled = none)
    (hfr : A.frames = some (genEnv scope (cloFrom X.env.cells scope.names []) s.heap.objs.size code builtinsNs X.env :: X.stack)) (hfp : ∀ b ∈ fp, FpOk X pins H b ∧ b < s.heap.objs.size)
    (hns : h5.Ns s.heap.objs.size m0) (kp : ∀ b o, s.heap.get? b = some o → h5.get? b = some o) (hgo : h5.get? a = some go) (ha : s.heap.objs.size < a) (hgd : ∀ v, go.data ≠ .cell v) (hg : AllBare g5) :
    Inv (gxCx X A s H (genEnv scope (cloFrom X.env.cells scope.names []) s.heap.objs.size code builtinsNs X.env) fp [(a, go)]) [] (wipe σ (own.map (·.2))) H { s with heap := h5, gens := g5, toks := t5 } := by
  have cm : ∀ {y c}, (cloFrom X.env.cells scope.names []).lookup y = some c → X.env.cells.lookup y = some c := fun {y c} e => by
    rcases cloFrom_mem (PySem.mem_of_lookup e) with hm | ⟨h1, h2⟩
    · cases hm
    · have hy : ∃ c1, X.env.cells.lookup y = some c1 := by
        rcases ok.free _ h1 rfl with k | k
        · exact I.ok.has _ (.inl k)
        · exact I.ok.has _ (.inr k)
      obtain ⟨c1, hc⟩ := hy
      have e2 : c = c1 := by
        rw [h2, hc] <;> rfl
      rw [e2]
      exact hc
  have look : ∀ {y}, scope.names.lookup y = some .free → ∃ c, (cloFrom X.env.cells scope.names []).lookup y = some c := fun {y} hl =>
    mem_lookup (cloFrom_has (cells := X.env.cells) (acc := []) (PySem.mem_of_lookup hl : (y, NameKind.free) ∈ scope.names))
  have cellK : ∀ {c : Addr} {v : Option Value}, s.heap.IsCell c v → h5.IsCell c v := fun {c v} ⟨o, ho, hd⟩ => ⟨o, kp _ _ ho, hd⟩
  refine ⟨⟨I.ok.mod, ok.kind, I.ok.glob, rfl, Nat.le_refl _, fun y z c e1 e2 => I.ok.inj y z c (cm e1) (cm e2), fun y hy => ?_, fun y c z _ => ?_, fun _ => hA, hfr, .inr ⟨rfl, rfl⟩, fun b hb => ⟨?_, fun y c e => ?_⟩, I.bs, Nat.le_trans I.ok.bsz I.sz, fun b o e hb => ?_, fun b hb z => ?_, I.stack, I.stkFree⟩,
    rfl, hg, Un.kept kp, ⟨m0, hns, fun i y v e1 e2 e3 => ?_⟩, fun y c e => ?_, I.hok.fresh (Nat.le_refl _), fun y c e => I.freeC y c (cm e), fun p hp => ?_, I.hok.kept kp, ?_⟩
  · have hy : scope.names.lookup y = some .cell ∨ scope.names.lookup y = some .free := hy
    rcases hy with hy | hy
    · exact absurd rfl (nocell _ (PySem.mem_of_lookup hy))
    · exact look hy
  · have z : false = true := z
    cases z
  · exact Nat.ne_of_lt (hfp b hb).2
  · exact (hfp b hb).1.2.2.2.2.1 y c (cm e)
  · rcases (hfp b hb).1.2.2.2.1 with z | z
    · exact I.ok.noex b o e z
    · have h1 : b < X.base.objs.size := Heap.lt_size e
      exact absurd (Nat.lt_of_lt_of_le h1 (Nat.le_trans I.ok.bsz z)) (Nat.lt_irrefl _)
  · rcases List.mem_cons.mp (I.stkSub b z) with z | z
    · exact (hfp b hb).1.2.1 z
    · exact (hfp b hb).1.2.2.1 z
  · obtain ⟨e2, nv⟩ := wipe_some e2
    have e3 : Vis scope y := e3
    rcases e3 with k | k | k
    · rcases ok.own _ (PySem.mem_of_lookup k) (.inl rfl) with z | z
      · obtain ⟨p, hp, ep⟩ := List.mem_map.mp z
        have e4 := ok.ix p hp
        rw [show p.1 = y from ep] at e4
        exact absurd (List.mem_map.mpr ⟨p, hp, nodup_ix hN e4 e1⟩) nv
      · exact absurd (List.mem_of_getElem? e1) z
    · exact absurd rfl (nocell _ (PySem.mem_of_lookup k))
    · obtain ⟨m, hn, hl⟩ := I.loc
      have hvis : Vis X.env.scope y := (ok.free _ (PySem.mem_of_lookup k) rfl).elim (fun k => .inr (.inl k)) (fun k => .inr (.inr k))
      obtain ⟨u, r, q⟩ := hl i y v e1 e2 hvis
      obtain ⟨c2, h2⟩ := look k
      refine ⟨u, r, .inr ⟨.inr k, c2, h2, ?_⟩⟩
      have c1 := cm h2
      rcases q with ⟨k', _⟩ | ⟨_, c3, e', z⟩
      · have k' : X.env.scope.names.lookup y = some .local := k'
        rcases ok.free _ (PySem.mem_of_lookup k) rfl with k2 | k2 <;> rw [show X.env.scope.names.lookup y = _ from k2] at k' <;> cases k'
      · rw [c1] at e'
        cases e'
        exact cellK z
  · obtain ⟨u, z⟩ := I.cell y c (cm e)
    exact ⟨u, cellK z⟩
  · have hp : p ∈ [(a, go)] ++ [] := hp
    rw [List.append_nil] at hp
    rw [List.mem_singleton.mp hp]
    refine ⟨hgo, I.hok.fresh (Nat.le_of_lt ha), Nat.ne_of_gt ha, fun z => ?_, hgd⟩
    rcases List.mem_cons.mp (I.stkSub a z) with z | z
    · have h1 := I.lt
      rw [z] at ha
      exact absurd (Nat.lt_trans ha h1) (Nat.lt_irrefl _)
    · exact I.nofs (Nat.le_of_lt ha) z
  · rw [wipe_length]
    exact I.len
end
/-- what stands where the generator ends, and where it hands out a truth -/
def GxE (Z : Cx) (σ0 : L2.St) (Qe : Hp → Prop) : Nat → Shared → Shared → Prop := fun _ _ s1 => ∃ H, Inv Z [] σ0 H s1 ∧ Qe H
def GxY (Z : Cx) (e : Bool) (Qn : Hp → Prop) : Protocol := fun _ _ v s kap => ∃ (c : Bool) (H : Hp) (σ' : L2.St), v = .bool c ∧ Inv Z [] σ' H s ∧ (c = e → ∀ s' : Shared, s'.heap = s.heap → s'.os = s.os → AllBare s'.gens → kap (.send .none) s') ∧ (c ≠ e → Qn H)
abbrev gxTurn (J : It) (g : TG) (tt : TT) (te : TE) (vs : List Nat) (σ0 : L2.St) (e : Bool) (Qe Qn : Hp → Prop) (W : Nat → Nat → Hp → Prop) : Prop :=
  ∀ i m H, W i m H → (J.stop i H ∧ Qe H) ∨ (J.go i H ∧ ∃ Nx : Hp → Prop, (∀ H', Nx H' → ∃ m', m' < m ∧ W (i + 1) m' H') ∧ ∀ x H', J.yld i H x H' → g x σ0 H' fun σ2 H2 => wipe σ2 vs = σ0 ∧ tt σ2 H2 fun b H3 =>
    if b = true then te σ2 H3 fun y H4 => ∃ c, y = .bl c ∧ (c = e → Nx H4) ∧ (c ≠ e → Qn H4) else Nx H3)
section
variable {X : Cx} {A0 : Around} {s1 : Shared} {H1 : Hp} {ce : Env} {fp : List Addr} {pn : List (Addr × Obj)} {elt tg iter : Expr} {ifs : List Expr} {scope : Scope} {gpos : Pos} {it : Addr} {tn : Nat → Heap → Prop} {J : It} {g : TG} {tt : TT} {te : TE} {vs : List Nat} {σ0 : L2.St} {e : Bool} {Qe Qn : Hp → Prop} {W : Nat → Nat → Hp → Prop}
abbrev gxCode (elt tg iter : Expr) (ifs : List Expr) (scope : Scope) (gpos : Pos) (it : Addr) (ce : Env) : Code := .compLoop (.GeneratorExp elt [⟨tg, iter, ifs, 0⟩] scope gpos) 0 (.ref it) .none ce
abbrev gxZ (X : Cx) (A0 : Around) (s1 : Shared) (H1 : Hp) (ce : Env) (fp : List Addr) (pn : List (Addr × Obj)) (elt tg iter : Expr) (ifs : List Expr) (scope : Scope) (gpos : Pos) (it : Addr) : Cx := gxCx X (A0.over (gxCode elt tg iter ifs scope gpos it ce) []) s1 H1 ce fp pn
theorem gx_fp {Z : Cx} (hZ : Z = gxZ X A0 s1 H1 ce fp pn elt tg iter ifs scope gpos it) (hpn : ∀ p ∈ pn, p.1 ∉ fp) {σ' : L2.St} {H' : Hp} {s' : Shared} (I : Inv Z [] σ' H' s') (hn : ∀ b ∈ fp, H' b = none) : ∀ b ∈ fp, FpOk Z [] H' b := by
  subst hZ
  intro b hb
  refine ⟨hn b hb, (I.ok.exf b hb).1, I.ok.exfs b hb, .inl hb, fun x c e => (I.ok.exf b hb).2 x c e, fun p hp z => ?_⟩
  have hp : p ∈ pn := by
    rcases List.mem_append.mp hp with hp | hp
    · exact hp
    · cases hp
  exact hpn p hp (by rw [z]; exact hb)
theorem seg_gx {Z : Cx} (hZ : Z = gxZ X A0 s1 H1 ce fp pn elt tg iter ifs scope gpos it) (hpn : ∀ p ∈ pn, p.1 ∉ fp) (hco : ce.scope.isCoroutine = false) (T : Turn X.prog X.w X.K tg J fp it tn) (pg : PG Z tg g) (pt : PTs Z ifs tt) (pe : PE Z elt te) (turn : gxTurn J g tt te vs σ0 e Qe Qn W) :
    ∀ (m i n : Nat) (s₀ s : Shared) (H : Hp), m < n → W i m H → Inv Z [] σ0 H s → tn i s.heap → (∀ b ∈ fp, H b = none) →
      Seg (model X.prog X.w) A0 (fun n s₀ r s1 => r = .ok .next ∧ GxE Z σ0 Qe n s₀ s1) (GxY Z e Qn) n s₀ (gxCode elt tg iter ifs scope gpos it ce) ((model X.prog X.w).den (gxCode elt tg iter ifs scope gpos it ce)) [] s := by
  intro m
  induction m using Nat.strongRecOn with
  | ind m ih =>
    intro i n s₀ s H hmn w0 I st nf
    have fpo := gx_fp hZ hpn I nf
    show Seg _ A0 _ _ _ s₀ _ ((compTurn (.GeneratorExp elt [⟨tg, iter, ifs, 0⟩] scope gpos) 0 (.ref it) .none ce).onRaise (leaving ce)) [] s
    rw [compTurn_gen, Sem.onRaise_eq_wrap]
    refine seg_bind_wrap (wpAny_standAt ?_)
    rcases turn i m H w0 with ⟨stop, qe⟩ | ⟨go, Nx, hNx, step⟩
    · have td := T.done Z (by rw [hZ]; rfl) (by rw [hZ]; rfl) (by rw [hZ]; rfl) (by rw [hZ]; rfl) i [] s σ0 H (fun _ _ => False) I fpo st stop
      have hA : Z.A = A0.over (gxCode elt tg iter ifs scope gpos it ce) [] := by rw [hZ]; rfl
      rw [hA] at td
      refine seg_bind_wrap (wpAny_mono td (fun r s2 hr => ?_) fun _ _ z => z.elim)
      obtain ⟨rfl, I2⟩ := hr
      exact seg_end (.ok .next) ⟨rfl, H, I2, qe⟩
    · have hA : Z.A = A0.over (gxCode elt tg iter ifs scope gpos it ce) [] := by rw [hZ]; rfl
      have hE : Z.env = ce := by rw [hZ]; rfl
      have hPr : Z.prog = X.prog := by rw [hZ]; rfl
      have hWd : Z.w = X.w := by rw [hZ]; rfl
      have hXe : Z.xe = fun _ _ => False := by rw [hZ]; rfl
      have ti := T.item Z hPr hWd (by rw [hZ]; rfl) (by rw [hZ]; rfl) i [] s σ0 H (fun _ _ => False) I fpo st go
      rw [hA] at ti
      refine seg_bind_wrap (wpAny_mono ti (fun r s2 hr => ?_) fun _ _ z => z.elim)
      obtain ⟨u, rfl, ti⟩ := hr
      refine seg_bind_wrap (wpAny_mono ti (fun _ s7 h7 => ?_) fun _ _ z => z.elim)
      obtain ⟨x, H7, I7, r7, y7, st7, n7⟩ := h7
      have I7' := I7.pinned (gx_fp hZ hpn I7 n7) (T.obj _ _ st7)
      have ta := pg.run _ s7 _ H7 x u _ I7' r7 (step x H7 y7)
      rw [hPr, hWd, hA, hE, hXe] at ta
      refine seg_bind_wrap (wpAny_mono ta (fun _ s8 h8 => ?_) fun _ _ z => z.elim)
      obtain ⟨σ8, H8, I8, hw8, q8⟩ := h8
      have tt' := pt.run _ s8 σ8 H8 _ I8 q8
      rw [hPr, hWd, hA, hE, hXe] at tt'
      refine seg_bind_wrap (wpAny_mono tt' (fun b s9 h9 => ?_) fun _ _ z => z.elim)
      obtain ⟨H9, I9, q9⟩ := h9
      -- what stands at the next turn
      have next : ∀ {sn s' : Shared} {H' : Hp}, Inv Z ([] ++ pinsAt fp s7.heap) σ8 H' sn → s'.heap = sn.heap → s'.os = sn.os → AllBare s'.gens → Inv Z [] σ0 H' s' ∧ tn (i + 1) s'.heap ∧ ∀ b ∈ fp, H' b = none := fun {sn s' H'} I' e1 e2 e3 => by
        have pin' : ∀ b ∈ fp, ∀ o, s7.heap.get? b = some o → sn.heap.get? b = some o ∧ H' b = none := fun b hb o eo =>
          let z := I'.pin (b, o) (List.mem_append_right _ (List.mem_append_right _ (mem_pinsAt hb eo)))
          ⟨z.1, z.2.1⟩
        have hl : σ0.length = σ8.length := by rw [← hw8, wipe_length]
        have I'' : Inv Z [] σ0 H' sn := (I'.unpinned (pins := [])).weak hl fun j v ev => by
          rw [← hw8] at ev
          exact (wipe_some ev).1
        refine ⟨inv_sh I'' e1 e2 e3, ?_, fun b hb => ?_⟩
        · rw [e1]
          exact T.keep _ _ _ st7 fun b hb o eo => (pin' b hb o eo).1
        · obtain ⟨o, eo, _⟩ := T.obj _ _ st7 b hb
          exact (pin' b hb o eo).2
      cases b with
      | false =>
        simp only [Bool.false_eq_true, if_false] at q9 ⊢
        obtain ⟨m', hm, w'⟩ := hNx _ q9
        obtain ⟨J1, J2, J3⟩ := next I9 rfl rfl I9.bare
        exact seg_again rfl (ih m' hm (i + 1) n s₀ s9 H9 (by omega) w' J1 J2 J3)
      | true =>
        simp only [if_true] at q9 ⊢
        have out : ∀ v, yieldOut ce v = yieldValue v := fun v => by simp only [yieldOut, hco, Bool.false_eq_true, if_false]
        simp only [out]
        rw [Sem.bind_eq_wrap', Sem.bind_eq_wrap']; rw [Sem.wrap_wrap, Sem.wrap_wrap]
        have tel := pe.run _ s9 σ8 H9 _ I9 q9
        rw [hPr, hWd, hA, hE, hXe] at tel
        refine seg_wrap (wpAny_mono tel (fun y s10 h10 => ?_) fun _ _ z => z.elim)
        obtain ⟨yv, H10, I10, r10, cb, rfl, qn, qx⟩ := h10
        obtain rfl : y = Value.bool cb := r10
        obtain ⟨n', rfl⟩ : ∃ n', n = n' + 1 := ⟨n - 1, by omega⟩
        refine seg_at (seg_yield rfl rfl rfl ⟨cb, H10, σ8, rfl, I10.unpinned, fun hc s' e1 e2 e3 => ?_, qx⟩)
        obtain ⟨m', hm, w'⟩ := hNx _ (qn hc)
        obtain ⟨J1, J2, J3⟩ := next I10 e1 e2 e3
        exact seg_again rfl (ih m' hm (i + 1) n' s' s' H10 (by omega) w' J1 J2 J3)
/-- its begin -/
theorem seg_gx0 {Z : Cx} (hZ : Z = gxZ X A0 s1 H1 ce fp pn elt tg iter ifs scope gpos it) (hpn : ∀ p ∈ pn, p.1 ∉ fp) (hco : ce.scope.isCoroutine = false) (T : Turn X.prog X.w X.K tg J fp it tn) (pg : PG Z tg g) (pt : PTs Z ifs tt) (pe : PE Z elt te) (turn : gxTurn J g tt te vs σ0 e Qe Qn W)
    {m n : Nat} {s₀ s : Shared} {H : Hp} (hmn : m < n) (w0 : W 0 m H) (I : Inv Z [] σ0 H s) (st : tn 0 s.heap) (nf : ∀ b ∈ fp, H b = none) :
    Seg (model X.prog X.w) A0 (fun n s₀ r s1 => r = .ok .next ∧ GxE Z σ0 Qe n s₀ s1) (GxY Z e Qn) n s₀ (.compStart (.GeneratorExp elt [⟨tg, iter, ifs, 0⟩] scope gpos) 0 (.ref it) .none ce) ((model X.prog X.w).den (.compStart (.GeneratorExp elt [⟨tg, iter, ifs, 0⟩] scope gpos) 0 (.ref it) .none ce)) [] s := by
  have loop := seg_gx hZ hpn hco T pg pt pe turn m 0 n s₀ s H hmn w0 I st nf
  show Seg _ A0 _ _ _ s₀ _ ((compStart (.GeneratorExp elt [⟨tg, iter, ifs, 0⟩] scope gpos) 0 (.ref it) .none ce).onRaise (leaving ce)) [] s
  unfold compStart
  rw [Sem.onRaise_eq_wrap]
  show Seg _ A0 _ _ _ s₀ _ ((ask >>= _).wrap _ _ _ _) [] s
  refine seg_bind_wrap (wpAny_askSetting ?_)
  split
  · exact seg_again rfl loop
  · refine seg_bind_wrap (wpAny_rule ?_)
    show Seg _ A0 _ _ _ s₀ _ ((standAt iter.pos >>= _).wrap _ _ _ _) [] s
    exact seg_bind_wrap (wpAny_standAt (seg_bind_wrap (T.self _ 0 s _ _ st (seg_again rfl loop))))
end
theorem un_kept {fs ex : List Addr} {H H' : Hp} {h h1 h2 : Heap} (u : Un fs ex H H' h h1) (k : ∀ b o, h1.get? b = some o → h2.get? b = some o) : Un fs ex H H' h h2 := u.trans (Un.kept k)
/-- all, over it -/
theorem gx_all {Z : Cx} {A : Around} {a : Addr} {g : Nat} {σ0 : L2.St} {Qe Qn : Hp → Prop} {R : Result → Shared → Prop} (hh : A.handled = none) (hd : A.depth < recursionLimit) (isG : ∀ {σ' : L2.St} {H' : Hp} {s' : Shared}, Inv Z [] σ' H' s' → s'.heap.IsGen a g)
    (hE : ∀ (s' : Shared) (H' : Hp), s'.os = Z.s_0.os → AllBare s'.gens → Un Z.fs Z.ex Z.H_0 H' Z.s_0.heap s'.heap → HOk Z.prog Z.w H' s'.heap → Qe H' → R (.ok (.ret (.bool true))) s')
    (hN : ∀ (s' : Shared) (H' : Hp), s'.os = Z.s_0.os → AllBare s'.gens → Un Z.fs Z.ex Z.H_0 H' Z.s_0.heap s'.heap → HOk Z.prog Z.w H' s'.heap → Qn H' → R (.ok (.ret (.bool false))) s') :
    ∀ (m : Nat) (s : Shared), s.heap.IsGen a g → s.heap.NoLimit → (∃ gs, s.gens[g]? = some gs ∧ gs.Goes (model Z.prog Z.w) A.in1.in1 (fun n s₀ r s1 => r = .ok .next ∧ GxE Z σ0 Qe n s₀ s1) (GxY Z true Qn) m (.send .none) (s.setGen g .running)) →
      codeAny (model Z.prog Z.w) A (.builtin "all.loop" ⟨[.ref a], []⟩) R s := by
  intro m
  induction m with
  | zero =>
    intro s hg hl ⟨gs, hgs, goes⟩
    refine codeAny_builtin F.entry_all_loop ?_
    rw [Around.under_plainId F.plain_all_loop _]
    show wpAny _ A.in1 (pyNext (.ref a) >>= _) _ _ s
    refine wpAny_bind (wpAny_pyNext_genexpQ (A := A.in1) hh hl hd hg hgs goes (fun v s1 gs' hbare hv => ?_) (fun s1 hp h' hk => ?_))
    · obtain ⟨c, H', σ', rfl, I, more, last⟩ := hv
      have b1 := allBare_setGen (g := g) I.bare hbare
      refine wpAny_bind (wpAny_holding (wpAny_truthy_bool (wpAny_bind (wpAny_letGo ?_))))
      cases c with
      | true => exact False.elim (more rfl s1 rfl rfl I.bare)
      | false =>
        simp only [Bool.false_eq_true, if_false]
        exact wpAny_bind (wpAny_rule (wpAny_pure (hN _ H' I.os b1 I.base I.hok (last (by decide)))))
    · obtain ⟨H', I, q⟩ := hp
      exact wpAny_bind (wpAny_rule (wpAny_pure (hE _ H' I.os (allBare_setGen I.bare rfl) (un_kept I.base hk) (I.hok.kept hk) q)))
  | succ m ih =>
    intro s hg hl ⟨gs, hgs, goes⟩
    have hgl : g < s.gens.size := (Array.getElem?_eq_some_iff.mp hgs).1
    refine codeAny_builtin F.entry_all_loop ?_
    rw [Around.under_plainId F.plain_all_loop _]
    show wpAny _ A.in1 (pyNext (.ref a) >>= _) _ _ s
    refine wpAny_bind (GenW.wpAny_gsz (n := g + 1) hgl (wpAny_pyNext_genexpQ (A := A.in1) hh hl hd hg hgs goes (fun v s1 gs' hbare hv => ?_) (fun s1 hp h' hk => ?_)))
    · intro hsz
      obtain ⟨c, H', σ', rfl, I, more, last⟩ := hv
      have b1 := allBare_setGen (g := g) I.bare hbare
      refine wpAny_bind (wpAny_holding (wpAny_truthy_bool (wpAny_bind (wpAny_letGo ?_))))
      cases c with
      | true =>
        simp only [if_true]
        have hsz1 : g < s1.gens.size := by
          have q : (s1.setGen g gs').gens.size = s1.gens.size := GenW.setGen_size _ _ _
          have hsz' : g + 1 ≤ (s1.setGen g gs').gens.size := hsz
          omega
        refine wpAny_pure ⟨plainId_quiet F.plain_all_loop _, ih (s1.setGen g gs') (isG (s' := s1) I) I.nolimit ⟨gs', setGen_at hsz1, ?_⟩⟩
        exact more rfl _ rfl rfl (allBare_setGen (s := s1.setGen g gs') b1 rfl)
      | false =>
        simp only [Bool.false_eq_true, if_false]
        exact wpAny_bind (wpAny_rule (wpAny_pure (hN _ H' I.os b1 I.base I.hok (last (by decide)))))
    · intro hsz
      obtain ⟨H', I, q⟩ := hp
      exact wpAny_bind (wpAny_rule (wpAny_pure (hE _ H' I.os (allBare_setGen I.bare rfl) (un_kept I.base hk) (I.hok.kept hk) q)))
/-- any, over it -/
theorem gx_any {Z : Cx} {A : Around} {a : Addr} {g : Nat} {σ0 : L2.St} {Qe Qn : Hp → Prop} {R : Result → Shared → Prop} (hh : A.handled = none) (hd : A.depth < recursionLimit) (isG : ∀ {σ' : L2.St} {H' : Hp} {s' : Shared}, Inv Z [] σ' H' s' → s'.heap.IsGen a g)
    (hE : ∀ (s' : Shared) (H' : Hp), s'.os = Z.s_0.os → AllBare s'.gens → Un Z.fs Z.ex Z.H_0 H' Z.s_0.heap s'.heap → HOk Z.prog Z.w H' s'.heap → Qe H' → R (.ok (.ret (.bool false))) s')
    (hN : ∀ (s' : Shared) (H' : Hp), s'.os = Z.s_0.os → AllBare s'.gens → Un Z.fs Z.ex Z.H_0 H' Z.s_0.heap s'.heap → HOk Z.prog Z.w H' s'.heap → Qn H' → R (.ok (.ret (.bool true))) s') :
    ∀ (m : Nat) (s : Shared), s.heap.IsGen a g → s.heap.NoLimit → (∃ gs, s.gens[g]? = some gs ∧ gs.Goes (model Z.prog Z.w) A.in1.in1 (fun n s₀ r s1 => r = .ok .next ∧ GxE Z σ0 Qe n s₀ s1) (GxY Z false Qn) m (.send .none) (s.setGen g .running)) →
      codeAny (model Z.prog Z.w) A (.builtin "any.loop" ⟨[.ref a], []⟩) R s := by
  intro m
  induction m with
  | zero =>
    intro s hg hl ⟨gs, hgs, goes⟩
    refine codeAny_builtin F.entry_any_loop ?_
    rw [Around.under_plainId F.plain_any_loop _]
    show wpAny _ A.in1 (pyNext (.ref a) >>= _) _ _ s
    refine wpAny_bind (wpAny_pyNext_genexpQ (A := A.in1) hh hl hd hg hgs goes (fun v s1 gs' hbare hv => ?_) (fun s1 hp h' hk => ?_))
    · obtain ⟨c, H', σ', rfl, I, more, last⟩ := hv
      have b1 := allBare_setGen (g := g) I.bare hbare
      refine wpAny_bind (wpAny_holding (wpAny_truthy_bool (wpAny_bind (wpAny_letGo ?_))))
      cases c with
      | false => exact False.elim (more rfl s1 rfl rfl I.bare)
      | true =>
        simp only [if_true]
        exact wpAny_bind (wpAny_rule (wpAny_pure (hN _ H' I.os b1 I.base I.hok (last (by decide)))))
    · obtain ⟨H', I, q⟩ := hp
      exact wpAny_bind (wpAny_rule (wpAny_pure (hE _ H' I.os (allBare_setGen I.bare rfl) (un_kept I.base hk) (I.hok.kept hk) q)))
  | succ m ih =>
    intro s hg hl ⟨gs, hgs, goes⟩
    have hgl : g < s.gens.size := (Array.getElem?_eq_some_iff.mp hgs).1
    refine codeAny_builtin F.entry_any_loop ?_
    rw [Around.under_plainId F.plain_any_loop _]
    show wpAny _ A.in1 (pyNext (.ref a) >>= _) _ _ s
    refine wpAny_bind (GenW.wpAny_gsz (n := g + 1) hgl (wpAny_pyNext_genexpQ (A := A.in1) hh hl hd hg hgs goes (fun v s1 gs' hbare hv => ?_) (fun s1 hp h' hk => ?_)))
    · intro hsz
      obtain ⟨c, H', σ', rfl, I, more, last⟩ := hv
      have b1 := allBare_setGen (g := g) I.bare hbare
      refine wpAny_bind (wpAny_holding (wpAny_truthy_bool (wpAny_bind (wpAny_letGo ?_))))
      cases c with
      | false =>
        simp only [Bool.false_eq_true, if_false]
        have hsz1 : g < s1.gens.size := by
          have q : (s1.setGen g gs').gens.size = s1.gens.size := GenW.setGen_size _ _ _
          have hsz' : g + 1 ≤ (s1.setGen g gs').gens.size := hsz
          omega
        refine wpAny_pure ⟨plainId_quiet F.plain_any_loop _, ih (s1.setGen g gs') (isG (s' := s1) I) I.nolimit ⟨gs', setGen_at hsz1, ?_⟩⟩
        exact more rfl _ rfl rfl (allBare_setGen (s := s1.setGen g gs') b1 rfl)
      | true =>
        simp only [if_true]
        exact wpAny_bind (wpAny_rule (wpAny_pure (hN _ H' I.os b1 I.base I.hok (last (by decide)))))
    · intro hsz
      obtain ⟨H', I, q⟩ := hp
      exact wpAny_bind (wpAny_rule (wpAny_pure (hE _ H' I.os (allBare_setGen I.bare rfl) (un_kept I.base hk) (I.hok.kept hk) q)))
/-- the generator stands ready to be walked -/
def GxReady (X : Cx) (pins : List (Addr × Obj)) (σ : L2.St) (e : Bool) (Qe Qn : Hp → Prop) (a : Addr) (s5 : Shared) : Prop :=
  ∃ (g m : Nat) (Z : Cx) (σ0 : L2.St), Z.prog = X.prog ∧ Z.w = X.w ∧ s5.heap.IsGen a g ∧ s5.heap.NoLimit ∧ (∀ {σ' : L2.St} {H' : Hp} {s' : Shared}, Inv Z [] σ' H' s' → s'.heap.IsGen a g) ∧
    (∃ gs, s5.gens[g]? = some gs ∧ gs.Goes (model Z.prog Z.w) X.A.in1.in1 (fun n s₀ r s1 => r = .ok .next ∧ GxE Z σ0 Qe n s₀ s1) (GxY Z e Qn) m (.send .none) (s5.setGen g .running)) ∧
    ∀ (s' : Shared) (H' : Hp), s'.os = Z.s_0.os → AllBare s'.gens → Un Z.fs Z.ex Z.H_0 H' Z.s_0.heap s'.heap → HOk Z.prog Z.w H' s'.heap → Inv X pins σ H' s'
theorem gx_room {A : Around} {k : Nat} {elt tg iter : Expr} {ifs : List Expr} {scope : Scope} {gpos : Pos} {it : Addr} {ce : Env} (r : Room (k + 1) A) : Room k (A.in1.in1.over (gxCode elt tg iter ifs scope gpos it ce) []) :=
  ⟨r.hd, by have := r.dp; show A.depth + 1 + 3 * k + 5 < _; omega, by have := r.un; show A.units + 1 + 1 + 3 + 16 * k + 200 < _; omega⟩
theorem gx_frames {A : Around} {st : List Env} {elt tg iter : Expr} {ifs : List Expr} {scope : Scope} {gpos : Pos} {it : Addr} {ce : Env} (h : A.frames = some st) : (A.in1.in1.over (gxCode elt tg iter ifs scope gpos it ce) []).frames = some (ce :: st) := by
  obtain ⟨hd, d, fr, gs, u⟩ := A
  obtain rfl : fr = some st := h
  rfl
abbrev tQuant (P : Addr) (wi : TI) (g : TG) (tt : TT) (te : TE) (vs : List Nat) (e : Bool) : TE := fun σ H Q => wi σ H fun J H1 => GxR.TabG H1 P ∧ ∀ H2, GxR.Tabbed P H1 H2 → ∃ W : Nat → Nat → Hp → Prop, (∃ m, W 0 m H2) ∧ gxTurn J g tt te vs (wipe σ vs) e (fun H => Q (.bl e) H) (fun H => Q (.bl (!e)) H) W
theorem gx_eval {X : Cx} {pins : List (Addr × Obj)} {σ : L2.St} {H : Hp} {s : Shared} {c P : Addr} {elt tg iter : Expr} {ifs : List Expr} {scope : Scope} {own : List (Str × Nat)} {gpos : Pos} {wi : TI} {g : TG} {tt : TT} {te : TE} {e : Bool} {k : Nat} {Q : VK} {Q' : Value → Shared → Prop}
    (hN : X.N.Nodup) (hr : Room (k + 1) X.A) (TB : LamX.TabB X.base X.mg c P) (hcode : X.env.code = .ref c) (ok : BlkOk X.N X.env.scope scope own) (nocell : ∀ y ∈ scope.names, y.2 ≠ .cell) (hco : scope.isCoroutine = false) (dot : scope.names.lookup (".0" : Str) = some NameKind.local)
    (hi : PI X tg iter wi)
    (hg : ∀ (A : Around) (s : Shared) (H : Hp) (cl : List (Str × Addr)) (C : Addr) (code : Value) (bi : Addr) (fp : List Addr) (pn : List (Addr × Obj)), Room k A → PG (gxCx X A s H (genEnv scope cl C code bi X.env) fp pn) tg g)
    (ht : ∀ (A : Around) (s : Shared) (H : Hp) (cl : List (Str × Addr)) (C : Addr) (code : Value) (bi : Addr) (fp : List Addr) (pn : List (Addr × Obj)), Room k A → PTs (gxCx X A s H (genEnv scope cl C code bi X.env) fp pn) ifs tt)
    (he : ∀ (A : Around) (s : Shared) (H : Hp) (cl : List (Str × Addr)) (C : Addr) (code : Value) (bi : Addr) (fp : List Addr) (pn : List (Addr × Obj)), Room k A → PE (gxCx X A s H (genEnv scope cl C code bi X.env) fp pn) elt te)
    (hs : ∀ v, genFold iter X.env v = pure v) (I : Inv X pins σ H s) (h : tQuant P wi g tt te (own.map (·.2)) e σ H Q)
    (hQ : ∀ a s5, GxReady X pins σ e (fun H => Q (.bl e) H) (fun H => Q (.bl (!e)) H) a s5 → Q' (.ref a) s5) :
    wpAny (model X.prog X.w) X.A (eval (.GeneratorExp elt [⟨tg, iter, ifs, 0⟩] scope gpos) X.env) Q' X.xe s := by
  have hfree : ∀ y ∈ scope.names, y.2 = .free → ∃ c, X.env.cells.lookup y.1 = some c := fun y hy ey => by
    rcases ok.free y hy ey with z | z
    · exact I.ok.has _ (.inl z)
    · exact I.ok.has _ (.inr z)
  refine wpAny_GeneratorExp_make hco (closure_ok hfree) nocell dot ok.kind hr.depth ?_ hs
  refine thn (hi.run pins s σ H _ I h) fun xv s1 hx => thn hx fun itv s2 h2 => ?_
  obtain ⟨it, fp, tn, J, H2, rfl, I2, T, st2, f2, ⟨ps, hP, tro⟩, q⟩ := h2
  refine ⟨I2.nolimit, ?_⟩
  have hPs : s2.heap.get? P = some { cls := .none, data := .fields ps } := I2.hok P _ hP
  have cd : PySem.W.CodeHd s2.heap c P := TB.code.keeps fun b u z => I2.bk b u z
  have szf : ∀ b ∈ fp, b < s2.heap.objs.size := fun b hb => by
    obtain ⟨o, eo, _⟩ := T.obj _ _ st2 b hb
    exact Heap.lt_size eo
  -- behind the code object
  have cont : ∀ (code : Value) (h3 : Heap) (tk : Nat) (ps' : Array Value), Heap.ExtBut P s2.heap h3 → s2.heap.objs.size ≤ h3.objs.size → h3.get? P = some { cls := .none, data := .fields ps' } → (∃ more, ps' = ps ++ more) → TriplesOk ps'.toList →
      wpAny (model X.prog X.w) X.A (builtinsFor X.env.globals X.env.builtins) (fun bi s4 => ∀ h', h'.Ns s4.heap.objs.size (fun y => if y = ".0" then some (.ref it) else none) → Heap.SameBut s4.heap.objs.size (s4.heap.push { cls := .type "frame", data := .dict #[] }) h' →
        Q' (.ref h'.objs.size) { s4 with
          gens := s4.gens.push (.fresh (.compStart (.GeneratorExp elt [⟨tg, iter, ifs, 0⟩] scope gpos) 0 (.ref it) .none (genEnv scope (cloFrom X.env.cells scope.names []) s4.heap.objs.size code bi X.env)))
          toks := s4.toks + 1 + 1 + 1
          heap := h'.push { cls := .type "generator", data := .fields #[.int s4.gens.size 0, .str "<genexpr>" (s4.toks + 1), .str (X.env.qual ++ "<genexpr>") (s4.toks + 1 + 1)] } }) X.xe { s2 with heap := h3, toks := tk } := by
    intro code h3 tk ps' hx hsz hP3 ⟨more, em⟩ tro'
    obtain ⟨bm, ob, e1, e2, e3, e4, e5, e6, e7, e8⟩ := TB.bm
    have keep3 : ∀ b u, b ≠ P → s2.heap.get? b = some u → h3.get? b = some u := fun b u hb z => hx b u hb z
    refine wpAny_builtinsFor (m := X.mg) (by rw [I2.ok.glob]; exact (I2.mod.glob.keeps I2.bk).extBut hx TB.gP) e1 e2 (keep3 _ _ e4 (I2.bk _ _ e5)) e6 e7 e8 ?_
    intro h' hns hsame
    have J4 := GxR.inv_tab (more := more) (h' := h3) (g' := s2.gens) (d' := s2.drawn) (t' := tk) I2 hP keep3 (by rw [← em]; exact hP3) I2.bare
    have tabbed : GxR.Tabbed P H2 (upd H2 P (.tbl (ps ++ more))) := ⟨⟨ps ++ more, upd_same, by rw [← em]; exact tro'⟩, fun b hb => upd_ne hb⟩
    obtain ⟨W, ⟨m0, w0⟩, turn⟩ := q _ tabbed
    have hsz' : h'.objs.size = h3.objs.size + 1 := by rw [hsame.1, Heap.size_push]
    have kp5 : ∀ (go : Obj) b o, h3.get? b = some o → (h'.push go).get? b = some o := fun go b o eo => Heap.get?_push_of_some _ (hsame.extBut b o (Nat.ne_of_lt (Heap.lt_size eo)) (Heap.get?_push_of_some _ eo))
    have fpP : ∀ b ∈ fp, b ≠ P := fun b hb z => by
      have := (f2 b hb).1
      rw [z, hP] at this
      cases this
    have nf : ∀ b ∈ fp, upd H2 P (.tbl (ps ++ more)) b = none := fun b hb => by rw [upd_ne (fpP b hb)]; exact (f2 b hb).1
    have f3 : ∀ b ∈ fp, FpOk X pins (upd H2 P (.tbl (ps ++ more))) b ∧ b < h3.objs.size := fun b hb => ⟨⟨nf b hb, (f2 b hb).2⟩, Nat.lt_of_lt_of_le (szf b hb) hsz⟩
    refine hQ _ _ ?_
    show GxReady X pins σ e _ _ h'.objs.size { s2 with
      gens := s2.gens.push (.fresh (.compStart (.GeneratorExp elt [⟨tg, iter, ifs, 0⟩] scope gpos) 0 (.ref it) .none (genEnv scope (cloFrom X.env.cells scope.names []) h3.objs.size code builtinsNs X.env)))
      toks := tk + 1 + 1 + 1
      heap := h'.push { cls := .type "generator", data := .fields #[.int s2.gens.size 0, .str "<genexpr>" (tk + 1), .str (X.env.qual ++ "<genexpr>") (tk + 1 + 1)] } }
    generalize hgo : ({ cls := .type "generator", data := .fields #[.int s2.gens.size 0, .str "<genexpr>" (tk + 1), .str (X.env.qual ++ "<genexpr>") (tk + 1 + 1)] } : Obj) = go
    have goC : go.cls = .type "generator" := by rw [← hgo]
    have goD : go.data = .fields #[.int s2.gens.size 0, .str "<genexpr>" (tk + 1), .str (X.env.qual ++ "<genexpr>") (tk + 1 + 1)] := by rw [← hgo]
    have goS : go.slots = #[] := by rw [← hgo]
    have at5 : (h'.push go).get? h'.objs.size = some go := by rw [← hgo]; exact Heap.get?_push_size _ rfl
    have isG : ∀ h : Heap, h.get? h'.objs.size = some go → h.IsGen h'.objs.size s2.gens.size := fun h eo => ⟨go, _, _, eo, goC, goD, goS⟩
    generalize hst : GenState.fresh (.compStart (.GeneratorExp elt [⟨tg, iter, ifs, 0⟩] scope gpos) 0 (.ref it) .none (genEnv scope (cloFrom X.env.cells scope.names []) h3.objs.size code builtinsNs X.env)) = fr
    have bare5 : AllBare (s2.gens.push fr) := I2.bare.push (by rw [← hst]; rfl)
    have rm := gx_room (elt := elt) (tg := tg) (iter := iter) (ifs := ifs) (scope := scope) (gpos := gpos) (it := it) (ce := genEnv scope (cloFrom X.env.cells scope.names []) h3.objs.size code builtinsNs X.env) hr
    obtain ⟨ce, hce⟩ : ∃ ce, ce = genEnv scope (cloFrom X.env.cells scope.names []) h3.objs.size code builtinsNs X.env := ⟨_, rfl⟩
    obtain ⟨s4, hs4⟩ : ∃ s4 : Shared, s4 = { s2 with heap := h3, gens := s2.gens, drawn := s2.drawn, toks := tk } := ⟨_, rfl⟩
    obtain ⟨H4, hH4⟩ : ∃ H4, H4 = upd H2 P (.tbl (ps ++ more)) := ⟨_, rfl⟩
    obtain ⟨Z, hZ⟩ : ∃ Z, Z = gxZ X X.A.in1.in1 s4 H4 ce fp [(h'.objs.size, go)] elt tg iter ifs scope gpos it := ⟨_, rfl⟩
    have J4' : Inv X pins σ H4 s4 := by rw [hs4, hH4]; exact J4
    have Z0 : Inv Z [] (wipe σ (own.map (·.2))) H4 { s2 with heap := h'.push go, gens := s2.gens.push fr, toks := tk + 1 + 1 + 1 } := by
      rw [hZ, hs4, hH4, hce]
      exact gx_start (A := X.A.in1.in1.over (gxCode elt tg iter ifs scope gpos it (genEnv scope (cloFrom X.env.cells scope.names []) h3.objs.size code builtinsNs X.env)) []) (a := h'.objs.size) (go := go) (h5 := h'.push go) (g5 := s2.gens.push fr) (t5 := tk + 1 + 1 + 1) (code := code) J4 hN ok nocell rm.hd (gx_frames J4.ok.frames) f3 (hns.push _) (kp5 go) at5 (by show h3.objs.size < _; omega) (fun v z => by rw [goD] at z; cases z) bare5
    rw [← hH4] at w0
    refine ⟨s2.gens.size, m0 + 1, Z, wipe σ (own.map (·.2)), by rw [hZ]; rfl, by rw [hZ]; rfl, isG _ at5, Z0.nolimit, fun {σ' H' s'} IZ => ?_, ⟨fr, Array.getElem?_push_size .., ?_⟩, fun s' H' os bare un hok => ?_⟩
    · refine isG _ (IZ.pin (h'.objs.size, go) (List.mem_append_left _ ?_)).1
      rw [hZ]
      exact List.mem_cons_self
    · rw [← hst, show Z.prog = X.prog by rw [hZ]; rfl, show Z.w = X.w by rw [hZ]; rfl, ← hce]
      refine ⟨rfl, seg_gx0 (H := H4) hZ (fun p hp z => ?_) (by rw [hce]; exact hco) T (by rw [hZ, hce]; exact hg _ _ _ _ _ _ _ _ _ rm) (by rw [hZ, hce]; exact ht _ _ _ _ _ _ _ _ _ rm) (by rw [hZ, hce]; exact he _ _ _ _ _ _ _ _ _ rm) turn (Nat.lt_succ_self _) w0 (inv_sh Z0 rfl rfl (allBare_setGen (by show AllBare (s2.gens.push _); rw [hce, hst]; exact bare5) rfl)) ?_ fun b hb => by rw [hH4]; exact nf b hb⟩
      · rw [List.mem_singleton.mp hp] at z
        have z1 := (f3 _ z).2
        have z2 : h'.objs.size < h3.objs.size := z1
        omega
      · exact T.keep _ _ _ st2 fun b hb o eo => kp5 go b o (keep3 b o (fpP b hb) eo)
    · refine J4'.call' (ch := fp) ?_ ?_ ?_ bare fun b hb => ?_
      · rw [os, hZ]
        rfl
      · rw [hZ] at un
        exact un
      · rw [hZ] at hok
        exact hok
      · have z := (f3 b hb).1
        exact ⟨z.2.2.2.1, z.2.1, z.2.2.2.2.1, z.2.2.2.2.2⟩
  cases hf : codeAmong gpos ps.toList with
  | none =>
    refine wpAny_genexprCodeX hcode (cd.code hPs tro) (cd.tab hPs) hf fun c' h' tk hx hge hlt hco' _ htab' _ => ?_
    obtain ⟨o1, us, y1, y2, y3, y4, y5, y6, y7, y8, _, _, _, _, _, _, _, _, _, htr, _⟩ := hco'
    exact cont _ h' tk _ hx (Nat.le_trans hge (Nat.le_of_lt hlt)) htab'.2 ⟨_, rfl⟩ htr
  | some cv =>
    refine wpAny_genexprCode_hit hcode (cd.code hPs tro) hf ?_
    exact cont cv s2.heap s2.toks ps (Heap.ExtBut.refl _ _) (Nat.le_refl _) hPs ⟨#[], by simp⟩ tro
end
section
variable {X : Cx} {c P : Addr} {elt tg iter : Expr} {ifs : List Expr} {scope : Scope} {own : List (Str × Nat)} {p pos gpos : Pos} {wi : TI} {g : TG} {tt : TT} {te : TE} {k : Nat}
theorem pe_allG (hN : X.N.Nodup) (hr : Room (k + 1) X.A) (hg : Gl X "all") (hm : X.mg "all" = none) (hb : bootBuiltins "all" = some (.builtin "all")) (TB : LamX.TabB X.base X.mg c P) (hcode : X.env.code = .ref c) (ok : BlkOk X.N X.env.scope scope own) (nocell : ∀ y ∈ scope.names, y.2 ≠ .cell) (hco : scope.isCoroutine = false) (dot : scope.names.lookup (".0" : Str) = some NameKind.local)
    (hi : PI X tg iter wi)
    (pg : ∀ (A : Around) (s : Shared) (H : Hp) (cl : List (Str × Addr)) (C : Addr) (code : Value) (bi : Addr) (fp : List Addr) (pn : List (Addr × Obj)), Room k A → PG (gxCx X A s H (genEnv scope cl C code bi X.env) fp pn) tg g)
    (pt : ∀ (A : Around) (s : Shared) (H : Hp) (cl : List (Str × Addr)) (C : Addr) (code : Value) (bi : Addr) (fp : List Addr) (pn : List (Addr × Obj)), Room k A → PTs (gxCx X A s H (genEnv scope cl C code bi X.env) fp pn) ifs tt)
    (pe : ∀ (A : Around) (s : Shared) (H : Hp) (cl : List (Str × Addr)) (C : Addr) (code : Value) (bi : Addr) (fp : List Addr) (pn : List (Addr × Obj)), Room k A → PE (gxCx X A s H (genEnv scope cl C code bi X.env) fp pn) elt te)
    (hs : ∀ v, genFold iter X.env v = pure v)
    (he : starEach [.GeneratorExp elt [⟨tg, iter, ifs, 0⟩] scope gpos] X.env = (false, eval (.GeneratorExp elt [⟨tg, iter, ifs, 0⟩] scope gpos) X.env) :: starEach [] X.env := by rfl) :
    PE X (.Call (.Name "all" p) [.GeneratorExp elt [⟨tg, iter, ifs, 0⟩] scope gpos] [] pos) (tQuant P wi g tt te (own.map (·.2)) true) := by
  refine ⟨fun pins s σ H Q I h => ?_⟩
  refine wpAny_Call_Name_kw (ld_blt I hg hm hb ?_)
  refine PyProof.Rows.callWith_builtin1 ?_ he (by rfl)
  rw [he]
  show wpAny _ _ (spliced ((false, eval (.GeneratorExp elt [⟨tg, iter, ifs, 0⟩] scope gpos) X.env) :: backTo pos (starEach [] X.env))) _ _ s
  refine Calls.spliced_cons (gx_eval hN hr TB hcode ok nocell hco dot hi pg pt pe hs I h fun a s5 hR => ?_)
  obtain ⟨gi, m, Z, σ0, e1, e2, isG, nl, isG', goes, back⟩ := hR
  refine Calls.spliced_nil ?_
  refine call_function_tree F.kind_all F.plain_all F.entry_all (F.args_all1 _) ?_
  unfold Builtin.«all»
  refine wpAny_bind ?_
  show wpAny _ _ (pure (Value.ref a)) _ _ s5
  refine wpAny_pure (wpAny_bind (wpAny_pyIter_gen isG (wpAny_pure ⟨plainId_quiet F.plain_all_loop _, ?_⟩)))
  rw [← e1, ← e2]
  exact gx_all hr.hd (by have := hr.dp; omega) isG' (fun s' H' o1 o2 o3 o4 q => ⟨.bl true, H', back s' H' o1 o2 o3 o4, rfl, q⟩) (fun s' H' o1 o2 o3 o4 q => ⟨.bl false, H', back s' H' o1 o2 o3 o4, rfl, q⟩) m s5 isG nl goes
theorem pe_anyG (hN : X.N.Nodup) (hr : Room (k + 1) X.A) (hg : Gl X "any") (hm : X.mg "any" = none) (hb : bootBuiltins "any" = some (.builtin "any")) (TB : LamX.TabB X.base X.mg c P) (hcode : X.env.code = .ref c) (ok : BlkOk X.N X.env.scope scope own) (nocell : ∀ y ∈ scope.names, y.2 ≠ .cell) (hco : scope.isCoroutine = false) (dot : scope.names.lookup (".0" : Str) = some NameKind.local)
    (hi : PI X tg iter wi)
    (pg : ∀ (A : Around) (s : Shared) (H : Hp) (cl : List (Str × Addr)) (C : Addr) (code : Value) (bi : Addr) (fp : List Addr) (pn : List (Addr × Obj)), Room k A → PG (gxCx X A s H (genEnv scope cl C code bi X.env) fp pn) tg g)
    (pt : ∀ (A : Around) (s : Shared) (H : Hp) (cl : List (Str × Addr)) (C : Addr) (code : Value) (bi : Addr) (fp : List Addr) (pn : List (Addr × Obj)), Room k A → PTs (gxCx X A s H (genEnv scope cl C code bi X.env) fp pn) ifs tt)
    (pe : ∀ (A : Around) (s : Shared) (H : Hp) (cl : List (Str × Addr)) (C : Addr) (code : Value) (bi : Addr) (fp : List Addr) (pn : List (Addr × Obj)), Room k A → PE (gxCx X A s H (genEnv scope cl C code bi X.env) fp pn) elt te)
    (hs : ∀ v, genFold iter X.env v = pure v)
    (he : starEach [.GeneratorExp elt [⟨tg, iter, ifs, 0⟩] scope gpos] X.env = (false, eval (.GeneratorExp elt [⟨tg, iter, ifs, 0⟩] scope gpos) X.env) :: starEach [] X.env := by rfl) :
    PE X (.Call (.Name "any" p) [.GeneratorExp elt [⟨tg, iter, ifs, 0⟩] scope gpos] [] pos) (tQuant P wi g tt te (own.map (·.2)) false) := by
  refine ⟨fun pins s σ H Q I h => ?_⟩
  refine wpAny_Call_Name_kw (ld_blt I hg hm hb ?_)
  refine PyProof.Rows.callWith_builtin1 ?_ he (by rfl)
  rw [he]
  show wpAny _ _ (spliced ((false, eval (.GeneratorExp elt [⟨tg, iter, ifs, 0⟩] scope gpos) X.env) :: backTo pos (starEach [] X.env))) _ _ s
  refine Calls.spliced_cons (gx_eval hN hr TB hcode ok nocell hco dot hi pg pt pe hs I h fun a s5 hR => ?_)
  obtain ⟨gi, m, Z, σ0, e1, e2, isG, nl, isG', goes, back⟩ := hR
  refine Calls.spliced_nil ?_
  refine call_function_tree F.kind_any F.plain_any F.entry_any (F.args_any1 _) ?_
  unfold Builtin.«any»
  refine wpAny_bind ?_
  show wpAny _ _ (pure (Value.ref a)) _ _ s5
  refine wpAny_pure (wpAny_bind (wpAny_pyIter_gen isG (wpAny_pure ⟨plainId_quiet F.plain_any_loop _, ?_⟩)))
  rw [← e1, ← e2]
  exact gx_any hr.hd (by have := hr.dp; omega) isG' (fun s' H' o1 o2 o3 o4 q => ⟨.bl false, H', back s' H' o1 o2 o3 o4, rfl, q⟩) (fun s' H' o1 o2 o3 o4 q => ⟨.bl true, H', back s' H' o1 o2 o3 o4, rfl, q⟩) m s5 isG nl goes
end
theorem yesG {σ : L2.St} {H : Hp} {R : Bool → Hp → Prop} (h : R true H) : tYes σ H R := h
theorem and3 {a b : Bool} (h : (a && b) = true) : a = true ∧ b = true := by
  cases a <;> cases b <;> first | exact ⟨rfl, rfl⟩ | cases h
theorem sqT_same {K : PySem.W.Frag} {H H' : Hp} {r : Addr} {xs : List V} (s : Same H H') (h : SqT K H r xs) : SqT K H' r xs := sqT_kt (KT.of_same s) h
theorem dps_same {K : PySem.W.Frag} {H H' : Hp} (s : Same H H') {ds : List PyData} {vs : List V} (h : DpAll K H vs ds) : DpAll K H' vs ds := dp_exts (ext_same s) ds vs h
theorem dp_same {K : PySem.W.Frag} {H H' : Hp} (s : Same H H') {d : PyData} {v : V} (h : Dp K H v d) : Dp K H' v d := dp_ext (ext_same s) d v h
theorem none_of_same {H G : Hp} {p : Addr} (s : Same H G) (h : G p = none) : H p = none := by
  cases e : H p with
  | none => rfl
  | some u => rw [s p u e] at h; cases h
theorem same_upd2 {H G : Hp} {D : Addr} {o : HO} (s : Same H G) (h : H D = none) : Same H (upd G D o) := fun b u hb => by
  rw [upd_ne (fun e => by rw [e, h] at hb; cases hb)]
  exact s b u hb
/-! place_text, box_text, boxes_text, graph_text -/
def itS (i : Int) : Str := toString i
def plT (g : PyData → Str) : PyData → Str
  | .int i => itS i
  | .tuple [.str z, .int j] => if z = "tie" then Str.empty ++ "~" ++ itS j else Str.empty ++ "(" ++ g (.tuple [.str z, .int j]) ++ ")"
  | d => Str.empty ++ "(" ++ g d ++ ")"
def bxT (g : PyData → Str) : PyData → Str
  | .tuple ps => Str.empty ++ "[" ++ Txt.join " " (ps.map (plT g)) ++ "]"
  | _ => ""
def gT : Nat → PyData → Str
  | n + 1, .tuple bs => Txt.join "" (bs.map (bxT (gT n)))
  | _, _ => ""
/-- places, boxes, graphs of the kind -/
def plB (gb : PyData → Bool) (m : Nat) : PyData → Bool
  | .int i => decide (-9999 ≤ i ∧ i ≤ 9999)
  | .tuple [.str z, .int j] => decide (z = "tie" ∧ 0 ≤ j ∧ j < (m : Int))
  | .tuple (.tuple x :: r) => gb (.tuple (.tuple x :: r))
  | _ => false
def bxB (gb : PyData → Bool) (m : Nat) : PyData → Bool
  | .tuple [p, q, r] => plB gb m p && (plB gb m q && plB gb m r)
  | _ => false
def grB : Nat → PyData → Bool
  | n + 1, .tuple bs => decide (1 ≤ bs.length ∧ bs.length ≤ 8) && bs.all (bxB (grB n) bs.length)
  | _, _ => false
/-- how long its text is -/
def lenG : Nat → Nat
  | 0 => 0
  | n + 1 => 24 * lenG n + 200
section
open PySem.Spec PyProof.Rows LamX
variable {P : Program} {w : World} {K : PySem.W.Frag} {mg : Str → Option Value} {base : Heap} {f : Addr} {fd : FuncData}
theorem pl_cases {gb : PyData → Bool} {m : Nat} {d : PyData} (h : plB gb m d = true) : (∃ i, d = .int i ∧ -9999 ≤ i ∧ i ≤ 9999) ∨ (∃ j, d = .tuple [.str "tie", .int j] ∧ 0 ≤ j ∧ j < (m : Int)) ∨ (∃ x r, d = .tuple (.tuple x :: r) ∧ gb d = true) := by
  unfold plB at h
  split at h
  · have := of_decide_eq_true h
    exact .inl ⟨_, rfl, this⟩
  · obtain ⟨rfl, h1⟩ := of_decide_eq_true h
    exact .inr (.inl ⟨_, rfl, h1⟩)
  · exact .inr (.inr ⟨_, _, rfl, h⟩)
  · cases h
theorem log_ok {n : Nat} (h : n ≤ 9999) : n.log2 < 1920 := by
  by_cases e : n = 0
  · subst e
    decide
  · exact Nat.lt_of_lt_of_le ((Nat.log2_lt e).mpr (show n < 2 ^ 14 by omega)) (by decide)
theorem itS_len {i : Int} (h0 : -9999 ≤ i) (h1 : i ≤ 9999) : (itS i).length ≤ 5 := by
  have := PySem.int_text_length_le10 (a := i) (k := 4) (by decide) (by omega)
  show (Str.ofString (toString i)).length ≤ 5
  rw [PySem.ofString_length]
  exact this
theorem one_len (z : Str) (n : Nat) (h : z.length = n) : (Str.empty ++ z).length = n := by
  rw [Str.length_append, h]
  show 0 + n = n
  omega
theorem lenG_le : ∀ n, n ≤ 4 → lenG n ≤ 3000000
  | 0, _ => by decide
  | 1, _ => by decide
  | 2, _ => by decide
  | 3, _ => by decide
  | 4, _ => by decide
  | n + 5, h => by omega
def spBoxes (K : PySem.W.Frag) (n : Nat) : Sp := fun vs H Q _ => ∃ (x : V) (d : PyData), vs = [x] ∧ Dp K H x d ∧ grB n d = true ∧ (gT n d).length ≤ lenG n ∧ ∀ H', Same H H' → Q (.str (gT n d)) H'
def spPlaceT (K : PySem.W.Frag) (n : Nat) : Sp := fun vs H Q _ => ∃ (x : V) (d : PyData) (m : Nat), vs = [x] ∧ Dp K H x d ∧ m ≤ 8 ∧ plB (grB n) m d = true ∧ (∀ d', grB n d' = true → (gT n d').length ≤ lenG n) ∧ ∀ H', Same H H' → Q (.str (plT (gT n) d)) H'
theorem scPlaceT : FnScope ["place", "sort"] ["place"] (defScope sPlaceText) := ⟨rfl, rfl, rfl, by decide +kernel, rfl, by decide +kernel, by decide +kernel⟩
theorem ok_placeText {k n : Nat} (hn : n ≤ 4) (F : Fun K "place_text" "place_text" sPlaceText f fd) (T : Free mg) (hS : mg "str" = none) (C : Cst mg) (cS : Cal P w K mg base "sort_of" k ["place"] (spSortOf K)) (cG : Cal P w K mg base "boxes_text" k ["graph"] (spBoxes K n)) : FnOk P w K mg base CX0 (k + 1) f fd ["place"] (spPlaceT K n) := by
  refine F.ok scPlaceT (fun vs H Q E h => ?_) (fun cdv A outer s H vs Q E hr h => ?_)
  · obtain ⟨x, d, m, rfl, _⟩ := h
    rfl
  obtain ⟨x, d, m, rfl, hx, m8, hd, hl, q⟩ := h
  refine ⟨_, pss_cons (ps_set (i := 1) scPlaceT.nd rfl (.inl rfl) (pe_cal cS hr rfl (pa_cons (pv 0) pa_nil)))
    (pss_cons (ps_if (pt_cmpR op_eq (pv 1) (pe_globI rfl C.number) (nomark _)) (pss_one (ps_ret (pe_callTy call_str_int rfl hS (by decide +kernel) (pa_cons (pv 0) pa_nil)))) pss_nil)
    (pss_one (ps_ret (pe_ifExp (pt_cmpR op_eq (pv 1) (pe_globI rfl C.tie) (nomark _)) (pe_joined (.cons pe_str (.cons (pe_fmt (pe_ix ix_tup (pv 0) pe_int (fun _ _ => rfl))) .nil)))
      (pe_joined (.cons pe_str (.cons (pe_fmt (pe_cal cG hr rfl (pa_cons (pv 0) pa_nil))) (.cons pe_str .nil)))))))), ?_⟩
  have L := lenG_le n hn
  have sl : (16777216 : Nat) = sizeLine := rfl
  have o1 : ("~" : Str).length = 1 := by decide +kernel
  have o2 : ("(" : Str).length = 1 := by decide +kernel
  have o3 : (")" : Str).length = 1 := by decide +kernel
  rcases pl_cases hd with ⟨i, rfl, i0, i1⟩ | ⟨j, rfl, j0, j1⟩ | ⟨y, r, rfl, hg⟩
  · cases hx
    refine ⟨_, rfl, _, .int i, rfl, .int i, trivial, (fun e => by cases e), ?_⟩
    refine ⟨_, rfl, rfl, _, rfl, ifT rfl ⟨_, rfl, i, rfl, log_ok (by omega), q H (Same.refl H)⟩⟩
  · have hx' := hx
    cases hx with
    | @tup a zs _ at_ each =>
    cases each with
    | @cons u us _ _ e1 e2 =>
    cases e1
    cases e2 with
    | @cons u2 us2 _ _ e3 e4 =>
    cases e3
    cases e4
    have sd : sortD (.tuple [.str "tie", .int j]) = 1 := by
      show (if PyData.eqv (.str "tie") (.str "tie") = true then (1 : Int) else 2) = 1
      exact if_pos (by simp [PyData.eqv])
    refine ⟨_, rfl, _, _, rfl, hx', trivial, (fun e => by cases e), ?_⟩
    rw [sd]
    refine ⟨_, rfl, rfl, _, rfl, ifF rfl ⟨_, rfl, rfl, _, rfl, ifT rfl ?_⟩⟩
    have l5 := itS_len (i := j) (by omega) (by omega)
    refine ⟨"~", rfl, by rw [one_len _ 1 o1, ← sl]; decide, _, rfl, a, _, 1, .int j, rfl, rfl, at_, atI_at (by decide) rfl, .inr ⟨j, rfl, log_ok (by omega), itS j, rfl, ?_, ?_⟩⟩
    · rw [Str.length_append, one_len _ 1 o1, ← sl]
      omega
    · have e : plT (gT n) (.tuple [.str "tie", .int j]) = Str.empty ++ "~" ++ itS j := by
        show (if ("tie" : Str) = "tie" then Str.empty ++ "~" ++ itS j else Str.empty ++ "(" ++ gT n (.tuple [.str "tie", .int j]) ++ ")") = _
        exact if_pos rfl
      rw [e] at q
      exact q H (Same.refl H)
  · have hx' := hx
    cases hx with
    | @tup a zs _ at_ each =>
    have sd : sortD (.tuple (.tuple y :: r)) = 2 := by
      show (if PyData.eqv (.tuple y) (.str "tie") = true then (1 : Int) else 2) = 2
      exact if_neg (by simp [PyData.eqv])
    refine ⟨_, rfl, _, _, rfl, hx', trivial, (fun e => by cases e), ?_⟩
    rw [sd]
    refine ⟨_, rfl, rfl, _, rfl, ifF rfl ⟨_, rfl, rfl, _, rfl, ifF rfl ?_⟩⟩
    have lg := hl _ hg
    refine ⟨"(", rfl, by rw [one_len _ 1 o2, ← sl]; decide, _, rfl, .ref a, _, rfl, hx', hg, lg, fun H' s' => .inl ⟨_, rfl, by rw [← sl]; omega, _, rfl, by rw [Str.length_append, one_len _ 1 o2, ← sl]; omega, ")", rfl, by rw [Str.length_append, Str.length_append, one_len _ 1 o2, o3, ← sl]; omega, ?_⟩⟩
    exact q H' s'
theorem plT_len {n m : Nat} {d : PyData} (m8 : m ≤ 8) (h : plB (grB n) m d = true) (hl : ∀ d', grB n d' = true → (gT n d').length ≤ lenG n) : (plT (gT n) d).length ≤ lenG n + 6 := by
  have o1 : ("~" : Str).length = 1 := by decide +kernel
  have o2 : ("(" : Str).length = 1 := by decide +kernel
  have o3 : (")" : Str).length = 1 := by decide +kernel
  rcases pl_cases h with ⟨i, rfl, i0, i1⟩ | ⟨j, rfl, j0, j1⟩ | ⟨y, r, rfl, hg⟩
  · have := itS_len i0 i1
    show (itS i).length ≤ _
    omega
  · have e : plT (gT n) (.tuple [.str "tie", .int j]) = Str.empty ++ "~" ++ itS j := by
      show (if ("tie" : Str) = "tie" then Str.empty ++ "~" ++ itS j else Str.empty ++ "(" ++ gT n (.tuple [.str "tie", .int j]) ++ ")") = _
      exact if_pos rfl
    have l5 := itS_len (i := j) (by omega) (by omega)
    rw [e, Str.length_append, one_len _ 1 o1]
    omega
  · have lg := hl _ hg
    show (Str.empty ++ "(" ++ gT n (.tuple (.tuple y :: r)) ++ ")").length ≤ _
    rw [Str.length_append, Str.length_append, one_len _ 1 o2, o3]
    omega
theorem join_len (sep : Str) (ys : List Str) {L : Nat} (h : ∀ y ∈ ys, y.length ≤ L) : (Txt.join sep ys).length ≤ (L + sep.length) * ys.length ∧ (ys.map (·.length)).sum + ys.length * sep.length ≤ (L + sep.length) * ys.length := by
  have s : (ys.map (·.length)).sum ≤ L * ys.length := by
    induction ys with
    | nil => exact Nat.zero_le _
    | cons y ys ih =>
      have := ih fun z hz => h z (List.mem_cons_of_mem _ hz)
      have h1 := h y List.mem_cons_self
      rw [List.map_cons, List.sum_cons, List.length_cons, Nat.mul_add, Nat.mul_one]
      omega
  have e : (Txt.join sep ys).length = (ys.map (·.length)).sum + (ys.length - 1) * sep.length := size_glued sep ys
  have m : (ys.length - 1) * sep.length ≤ ys.length * sep.length := Nat.mul_le_mul_right _ (Nat.sub_le _ _)
  rw [Nat.add_mul, Nat.mul_comm sep.length ys.length]
  omega
def spBoxT (K : PySem.W.Frag) (n : Nat) : Sp := fun vs H Q _ => ∃ (x : V) (d : PyData) (m : Nat), vs = [x] ∧ Dp K H x d ∧ m ≤ 8 ∧ bxB (grB n) m d = true ∧ (∀ d', grB n d' = true → (gT n d').length ≤ lenG n) ∧ ∀ H', Same H H' → Q (.str (bxT (gT n) d)) H'
theorem scBoxT : FnScope ["box", "places", "place"] ["box"] (defScope sBoxText) := ⟨rfl, rfl, rfl, by decide +kernel, rfl, by decide +kernel, by decide +kernel⟩
theorem bx_all {gb : PyData → Bool} {m : Nat} {d : PyData} (h : bxB gb m d = true) : ∃ ps, d = .tuple ps ∧ ps.length = 3 ∧ ∀ p ∈ ps, plB gb m p = true := by
  unfold bxB at h
  split at h
  · have h := and3 h
    have h2 := and3 h.2
    refine ⟨_, rfl, rfl, fun p hp => ?_⟩
    simp only [List.mem_cons, List.not_mem_nil, or_false] at hp
    rcases hp with rfl | rfl | rfl
    · exact h.1
    · exact h2.1
    · exact h2.2
  · cases h
theorem bxT_len {n m : Nat} {d : PyData} (m8 : m ≤ 8) (h : bxB (grB n) m d = true) (hl : ∀ d', grB n d' = true → (gT n d').length ≤ lenG n) : (bxT (gT n) d).length ≤ 3 * lenG n + 25 := by
  have o1 : ("[" : Str).length = 1 := by decide +kernel
  have o2 : ("]" : Str).length = 1 := by decide +kernel
  have o3 : (" " : Str).length = 1 := by decide +kernel
  obtain ⟨ps, rfl, l3, each⟩ := bx_all h
  obtain ⟨j1, _⟩ := join_len " " (ps.map (plT (gT n))) (L := lenG n + 6) fun y hy => by
    obtain ⟨p, hp, rfl⟩ := List.mem_map.mp hy
    exact plT_len m8 (each p hp) hl
  rw [List.length_map, l3, o3] at j1
  show (Str.empty ++ "[" ++ Txt.join " " (ps.map (plT (gT n))) ++ "]").length ≤ _
  rw [Str.length_append, Str.length_append, one_len _ 1 o1, o2]
  omega
theorem ok_boxText {k n : Nat} (hn : n ≤ 4) (F : Fun K "box_text" "box_text" sBoxText f fd) (cP : Cal P w K mg base "place_text" k ["place"] (spPlaceT K n)) : FnOk P w K mg base CX0 (k + 1) f fd ["box"] (spBoxT K n) := by
  refine F.ok scBoxT (fun vs H Q E h => ?_) (fun cdv A outer s H vs Q E hr h => ?_)
  · obtain ⟨x, d, m, rfl, _⟩ := h
    rfl
  obtain ⟨x, d, m, rfl, hx, m8, hd, hl, q⟩ := h
  refine ⟨_, pss_cons (ps_set (i := 1) scBoxT.nd rfl (.inl rfl) (pe_bm PySem.F.plainAttrs_str PySem.F.slot_str_join PySem.F.type_str_join mt_join pe_str (pa_cons
      (pe_lc (own := [("place", 2)]) (g := gName 2) (tt := tYes) (te := tCall (spPlaceT K n) [] E0 (tCons (tVar 2) tNil)) rfl scBoxT.nd (pi_tup (pv 0))
        (blkOk_by (own := [("place", 2)]) (N := ["box", "places", "place"]) (sc := defScope sBoxText) (by decide +kernel))
        (fun _ _ _ _ _ => pg_name (i := 2) scBoxT.nd rfl (Or.inl rfl)) (fun _ _ _ _ _ => pts_nil) (fun _ _ _ _ _ => pe_cal cP hr rfl (pa_cons (pv 2) pa_nil))) pa_nil)))
    (pss_one (ps_ret (pe_joined (.cons pe_str (.cons (pe_fmt (pv 1)) (.cons pe_str .nil)))))), ?_⟩
  have L := lenG_le n hn
  have sl : (16777216 : Nat) = sizeLine := rfl
  have o1 : ("[" : Str).length = 1 := by decide +kernel
  have o2 : ("]" : Str).length = 1 := by decide +kernel
  have o3 : (" " : Str).length = 1 := by decide +kernel
  obtain ⟨ps, rfl, l3, each⟩ := bx_all hd
  cases hx with
  | @tup a xs _ at_ deach =>
  have lx := dpAll_len deach
  refine ⟨rfl, _, rfl, a, rfl, ⟨xs, at_⟩, fun D hD => ?_⟩
  refine lc_tup (xs := xs) (fun i G => Same H G ∧ G D = some (.lst (((ps.take i).map (plT (gT n))).map V.str))) ⟨same_new hD _, by rw [upd_same]; rfl⟩ (fun i G _ h => sqT_same h.1 at_) (fun i v G hv h => ?_) (fun G h => ?_)
  · obtain ⟨sG, gD⟩ := h
    obtain ⟨d, hd, hdv⟩ := dpAll_get' (dps_same sG deach) hv
    have il := (List.getElem?_eq_some_iff.mp hd).1
    refine ⟨rfl, yesG ⟨_, rfl, v, d, m, rfl, hdv, m8, each d (List.mem_of_getElem? hd), hl, fun G1 s1 => ⟨_, s1 _ _ gD, ?_, same_upd2 (sG.trans s1) hD, ?_⟩⟩⟩
    · rw [List.length_map, List.length_map, List.length_take]
      exact Nat.lt_of_lt_of_le (show _ < 1000 by omega) (small (Nat.le_refl _))
    · rw [upd_same, take_more hd, List.map_append, List.map_append]
      rfl
  · obtain ⟨sG, gD⟩ := h
    rw [lx, List.take_length] at gD
    obtain ⟨j1, j2⟩ := join_len " " (ps.map (plT (gT n))) (L := lenG n + 6) fun y hy => by
      obtain ⟨p, hp, rfl⟩ := List.mem_map.mp hy
      exact plT_len m8 (each p hp) hl
    rw [List.length_map, l3, o3] at j1 j2
    refine ⟨" ", D, ps.map (plT (gT n)), rfl, rfl, .inl (SqL.of gD), by rw [List.length_map, l3, o3]; omega, ?_⟩
    refine ⟨"[", rfl, by rw [one_len _ 1 o1, ← sl]; decide, _, rfl, .inl ⟨_, rfl, by rw [← sl]; omega, _, rfl, by rw [Str.length_append, one_len _ 1 o1, ← sl]; omega, "]", rfl, by rw [Str.length_append, Str.length_append, one_len _ 1 o1, o2, ← sl]; omega, ?_⟩⟩
    exact q G sG
theorem gT_len : ∀ (n : Nat) (d : PyData), grB n d = true → (gT n d).length ≤ lenG n
  | 0, d, h => by cases d <;> cases h
  | n + 1, d, h => by
    cases d with
    | tuple bs =>
      have h := and3 (show (decide (1 ≤ bs.length ∧ bs.length ≤ 8) && bs.all (bxB (grB n) bs.length)) = true from h)
      obtain ⟨l1, l8⟩ := of_decide_eq_true h.1
      obtain ⟨j1, _⟩ := join_len "" (bs.map (bxT (gT n))) (L := 3 * lenG n + 25) fun y hy => by
        obtain ⟨b, hb, rfl⟩ := List.mem_map.mp hy
        exact bxT_len l8 (List.all_eq_true.mp h.2 b hb) (gT_len n)
      rw [List.length_map, show ("" : Str).length = 0 from rfl] at j1
      have : (3 * lenG n + 25 + 0) * bs.length ≤ (3 * lenG n + 25 + 0) * 8 := Nat.mul_le_mul_left _ l8
      show (Txt.join "" (bs.map (bxT (gT n)))).length ≤ 24 * lenG n + 200
      omega
    | _ => cases h
theorem scBoxesT : FnScope ["graph", "box"] ["graph"] (defScope sBoxesText) := ⟨rfl, rfl, rfl, by decide +kernel, rfl, by decide +kernel, by decide +kernel⟩
theorem ok_boxesText {k n : Nat} (hn : n + 1 ≤ 4) (F : Fun K "boxes_text" "boxes_text" sBoxesText f fd) (cB : Cal P w K mg base "box_text" k ["box"] (spBoxT K n)) : FnOk P w K mg base CX0 (k + 1) f fd ["graph"] (spBoxes K (n + 1)) := by
  refine F.ok scBoxesT (fun vs H Q E h => ?_) (fun cdv A outer s H vs Q E hr h => ?_)
  · obtain ⟨x, d, rfl, _⟩ := h
    rfl
  obtain ⟨x, d, rfl, hx, hd, hl, q⟩ := h
  refine ⟨_, pss_one (ps_ret (pe_bm PySem.F.plainAttrs_str PySem.F.slot_str_join PySem.F.type_str_join mt_join pe_str (pa_cons
      (pe_lc (own := [("box", 1)]) (g := gName 1) (tt := tYes) (te := tCall (spBoxT K n) [] E0 (tCons (tVar 1) tNil)) rfl scBoxesT.nd (pi_tup (pv 0))
        (blkOk_by (own := [("box", 1)]) (N := ["graph", "box"]) (sc := defScope sBoxesText) (by decide +kernel))
        (fun _ _ _ _ _ => pg_name (i := 1) scBoxesT.nd rfl (Or.inl rfl)) (fun _ _ _ _ _ => pts_nil) (fun _ _ _ _ _ => pe_cal cB hr rfl (pa_cons (pv 1) pa_nil))) pa_nil))), ?_⟩
  have L := lenG_le (n + 1) hn
  cases d with
  | tuple bs =>
    have h := and3 (show (decide (1 ≤ bs.length ∧ bs.length ≤ 8) && bs.all (bxB (grB n) bs.length)) = true from hd)
    obtain ⟨l1, l8⟩ := of_decide_eq_true h.1
    cases hx with
    | @tup a xs _ at_ deach =>
    have lx := dpAll_len deach
    refine ⟨rfl, _, rfl, a, rfl, ⟨xs, at_⟩, fun D hD => ?_⟩
    refine lc_tup (xs := xs) (fun i G => Same H G ∧ G D = some (.lst (((bs.take i).map (bxT (gT n))).map V.str))) ⟨same_new hD _, by rw [upd_same]; rfl⟩ (fun i G _ h => sqT_same h.1 at_) (fun i v G hv h => ?_) (fun G h => ?_)
    · obtain ⟨sG, gD⟩ := h
      obtain ⟨d, hd, hdv⟩ := dpAll_get' (dps_same sG deach) hv
      have il := (List.getElem?_eq_some_iff.mp hd).1
      refine ⟨rfl, yesG ⟨_, rfl, v, d, bs.length, rfl, hdv, l8, List.all_eq_true.mp h.2 d (List.mem_of_getElem? hd), gT_len n, fun G1 s1 => ⟨_, s1 _ _ gD, ?_, same_upd2 (sG.trans s1) hD, ?_⟩⟩⟩
      · rw [List.length_map, List.length_map, List.length_take]
        exact Nat.lt_of_lt_of_le (show _ < 1000 by omega) (small (Nat.le_refl _))
      · rw [upd_same, take_more hd, List.map_append, List.map_append]
        rfl
    · obtain ⟨sG, gD⟩ := h
      rw [lx, List.take_length] at gD
      obtain ⟨_, j2⟩ := join_len "" (bs.map (bxT (gT n))) (L := 3 * lenG n + 25) fun y hy => by
        obtain ⟨b, hb, rfl⟩ := List.mem_map.mp hy
        exact bxT_len l8 (List.all_eq_true.mp h.2 b hb) (gT_len n)
      rw [List.length_map, show ("" : Str).length = 0 from rfl] at j2
      have : (3 * lenG n + 25 + 0) * bs.length ≤ (3 * lenG n + 25 + 0) * 8 := Nat.mul_le_mul_left _ l8
      have e : lenG (n + 1) = 24 * lenG n + 200 := rfl
      exact ⟨"", D, bs.map (bxT (gT n)), rfl, rfl, .inl (SqL.of gD), by rw [List.length_map, show ("" : Str).length = 0 from rfl]; omega, q G sG⟩
  | _ => cases hd
theorem all_boxes {k : Nat} {fb fp : Addr} {fdb fdp : FuncData} (F : Fun K "boxes_text" "boxes_text" sBoxesText f fd) (FB : Fun K "box_text" "box_text" sBoxText fb fdb) (FP : Fun K "place_text" "place_text" sPlaceText fp fdp)
    (hm : mg "boxes_text" = some (.ref f)) (hmb : mg "box_text" = some (.ref fb)) (hmp : mg "place_text" = some (.ref fp)) (hb : Binds K fd ["graph"] []) (hbb : Binds K fdb ["box"] []) (hbp : Binds K fdp ["place"] []) (T : Free mg) (hS : mg "str" = none) (C : Cst mg)
    (cS : Cal P w K mg base "sort_of" k ["place"] (spSortOf K)) : ∀ n, n ≤ 4 → FnOk P w K mg base CX0 (k + 3 * n) f fd ["graph"] (spBoxes K n)
  | 0, _ => ⟨(fun vs H Q E h => by obtain ⟨x, d, _, _, h, _⟩ := h; cases d <;> cases h), (fun A outer s H args us vs Q E hr he hb hv h => by obtain ⟨x, d, _, _, h, _⟩ := h; cases d <;> cases h)⟩
  | n + 1, hn => by
    have ih := all_boxes F FB FP hm hmb hmp hb hbb hbp T hS C cS n (by omega)
    have cG : Cal P w K mg base "boxes_text" (k + 3 * n) ["graph"] (spBoxes K n) := ⟨f, fd, ih, hm, F.kp, hb⟩
    have cP : Cal P w K mg base "place_text" (k + 3 * n + 1) ["place"] (spPlaceT K n) := ⟨fp, fdp, ok_placeText (by omega) FP T hS C (cS.mono (by omega)) cG, hmp, FP.kp, hbp⟩
    have cB : Cal P w K mg base "box_text" (k + 3 * n + 2) ["box"] (spBoxT K n) := ⟨fb, fdb, ok_boxText (by omega) FB cP, hmb, FB.kp, hbb⟩
    exact (ok_boxesText (k := k + 3 * n + 2) hn F cB).mono (by omega)
def spGraphT (K : PySem.W.Frag) : Sp := fun vs H Q _ => ∃ (x : V) (d : PyData) (c : Nat), vs = [x] ∧ Dp K H x d ∧ grB 4 d = true ∧ gsz 4 d = some c ∧ ∀ H', Same H H' → Q (.str (gT 4 d)) H'
theorem scGraphT : FnScope ["graph"] ["graph"] (defScope sGraphText) := ⟨rfl, rfl, rfl, by decide +kernel, rfl, by decide +kernel, by decide +kernel⟩
theorem ok_graphText {k : Nat} (F : Fun K "graph_text" "graph_text" sGraphText f fd) (cC : Cal P w K mg base "check_graph" k ["graph"] (spCheckG K)) (cB : Cal P w K mg base "boxes_text" k ["graph"] (spBoxes K 4)) : FnOk P w K mg base CX0 (k + 1) f fd ["graph"] (spGraphT K) := by
  refine F.ok scGraphT (fun vs H Q E h => ?_) (fun cdv A outer s H vs Q E hr h => ?_)
  · obtain ⟨x, d, c, rfl, _⟩ := h
    rfl
  obtain ⟨x, d, c, rfl, hx, hd, hc, q⟩ := h
  refine ⟨_, pss_cons (ps_expr (pe_cal cC hr rfl (pa_cons (pv 0) pa_nil))) (pss_one (ps_ret (pe_cal cB hr rfl (pa_cons (pv 0) pa_nil)))), ?_⟩
  exact ⟨_, rfl, x, d, c, rfl, hx, trivial, hc, _, rfl, x, d, rfl, hx, hd, gT_len 4 d hd, q⟩
end
/-! _law_text -/
theorem empty_app (s : Str) : Str.empty ++ s = s := by
  show (⟨#[] ++ s.cps⟩ : Str) = s
  simp
section
open PySem.Spec PyProof.Rows LamX
variable {P : Program} {w : World} {K : PySem.W.Frag} {mg : Str → Option Value} {base : Heap} {f : Addr} {fd : FuncData}
def spLText (K : PySem.W.Frag) (n : Nat) : Sp := fun vs H Q _ => ∃ (x : V) (d : PyData), vs = [x] ∧ Dp K H x d ∧ grB n d = true ∧ ∀ H', Same H H' → Q (.str (gT n d)) H'
abbrev ltxN : List Str := ["_law_graph_here", "_law_rows", "_law_box", "_law_words", "_law_place_here"]
theorem scLText : FnScope ltxN ["_law_graph_here"] (defScope sText) := ⟨rfl, rfl, rfl, by decide +kernel, rfl, by decide +kernel, by decide +kernel⟩
set_option maxHeartbeats 1000000 in
theorem ok_ltext {k n : Nat} (hn : n + 1 ≤ 4) (F : Fun K "_law_text" "_law_text" sText f fd) (T : Free mg) (hS : mg "str" = none) (cT : Cal P w K mg base "_law_text" k ["_law_graph_here"] (spLText K n)) : FnOk P w K mg base CX0 (k + 1) f fd ["_law_graph_here"] (spLText K (n + 1)) := by
  refine F.ok scLText (fun vs H Q E h => ?_) (fun cdv A outer s H vs Q E hr h => ?_)
  · obtain ⟨x, d, rfl, _⟩ := h
    rfl
  obtain ⟨x, d, rfl, hx, hd, q⟩ := h
  refine ⟨_, (pss_cons (ps_set (i := 1) scLText.nd rfl (.inl rfl) (pe_lst pa_nil))
      (pss_cons (ps_for PassesOwn.never rfl (pi_tup (pv 0)) (pg_name (i := 2) scLText.nd rfl (.inl rfl)) (pss_cons (ps_set (i := 3) scLText.nd rfl (.inl rfl) (pe_lst pa_nil))
      (pss_cons (ps_for PassesOwn.never rfl (pi_tup (pv 2)) (pg_name (i := 4) scLText.nd rfl (.inl rfl)) (pss_one (ps_if (pt_val (pe_callB call_isi rfl T.isi (by decide +kernel) (pa_cons (pv 4) (pa_cons (pe_bltn (v := .ty "int") rfl T.int (by decide +kernel) rfl) pa_nil)))) (pss_one (ps_expr (pe_bm PySem.F.plainAttrs_list PySem.F.slot_list_append PySem.F.type_list_append mt_append (pv 3) (pa_cons (pe_callTy call_str_int rfl hS (by decide +kernel) (pa_cons (pv 4) pa_nil)) pa_nil)))) (pss_one (ps_if (pt_cmpR (op_eqT hr.units) (pe_ix ix_tup (pv 4) pe_int (fun _ _ => rfl)) pe_str (nomark _)) (pss_one (ps_expr (pe_bm PySem.F.plainAttrs_list PySem.F.slot_list_append PySem.F.type_list_append mt_append (pv 3) (pa_cons (pe_op op_add_str pe_str (pe_callTy call_str_int rfl hS (by decide +kernel) (pa_cons (pe_ix ix_tup (pv 4) pe_int (fun _ _ => rfl)) pa_nil))) pa_nil)))) (pss_one (ps_expr (pe_bm PySem.F.plainAttrs_list PySem.F.slot_list_append PySem.F.type_list_append mt_append (pv 3) (pa_cons (pe_op op_add_str (pe_op op_add_str pe_str (pe_cal cT hr rfl (pa_cons (pv 4) pa_nil))) pe_str) pa_nil)))))))))
      (pss_one (ps_expr (pe_bm PySem.F.plainAttrs_list PySem.F.slot_list_append PySem.F.type_list_append mt_append (pv 1) (pa_cons (pe_op op_add_str (pe_op op_add_str pe_str (pe_bm PySem.F.plainAttrs_str PySem.F.slot_str_join PySem.F.type_str_join mt_join pe_str (pa_cons (pv 3) pa_nil))) pe_str) pa_nil)))))))
      (pss_one (ps_ret (pe_bm PySem.F.plainAttrs_str PySem.F.slot_str_join PySem.F.type_str_join mt_join pe_str (pa_cons (pv 1) pa_nil)))))), ?_⟩
  have L := lenG_le n (by omega)
  have L1 := lenG_le (n + 1) hn
  have sl : (16777216 : Nat) = sizeLine := rfl
  have o1 : ("[" : Str).length = 1 := by decide +kernel
  have o2 : ("]" : Str).length = 1 := by decide +kernel
  have o3 : (" " : Str).length = 1 := by decide +kernel
  have o4 : ("~" : Str).length = 1 := by decide +kernel
  have o5 : ("(" : Str).length = 1 := by decide +kernel
  have o6 : (")" : Str).length = 1 := by decide +kernel
  cases d with
  | tuple bs =>
    have h := and3 (show (decide (1 ≤ bs.length ∧ bs.length ≤ 8) && bs.all (bxB (grB n) bs.length)) = true from hd)
    obtain ⟨l1, l8⟩ := of_decide_eq_true h.1
    cases hx with
    | @tup a xs _ at_ deach =>
    have lx := dpAll_len deach
    refine ⟨small (Nat.zero_le _), fun R hR => ?_⟩
    have nR := same_new hR (.lst [])
    refine ⟨_, rfl, a, rfl, ⟨xs, sqT_same nR at_⟩, ?_⟩
    refine for_tup (xs := xs) (fun i σ G => ∃ (o2 o3 o4 : Option V), σ = [some (.ref a), some (.ref R), o2, o3, o4] ∧ Same H G ∧ G R = some (.lst (((bs.take i).map (bxT (gT n))).map V.str))) ⟨_, _, _, rfl, nR, by rw [upd_same]; rfl⟩ (fun i σ G _ h => by obtain ⟨_, _, _, _, e, _⟩ := h; exact sqT_same e at_) (fun i v σ G hv h => ?_) (fun σ G h => ?_)
    · obtain ⟨p2, p3, p4, rfl, sG, gR⟩ := h
      obtain ⟨d, hd', hdv⟩ := dpAll_get' deach hv
      have il := (List.getElem?_eq_some_iff.mp hd').1
      have hbx := List.all_eq_true.mp h.2 d (List.mem_of_getElem? hd')
      obtain ⟨ps, rfl, l3, each⟩ := bx_all hbx
      cases hdv with
      | @tup ba ys _ bat beach =>
      have ly := dpAll_len beach
      refine ⟨small (Nat.zero_le _), fun Wd hW => ?_⟩
      have nW := same_new hW (.lst [])
      refine ⟨_, rfl, ba, rfl, ⟨ys, sqT_same (sG.trans nW) bat⟩, ?_⟩
      have nWH : H Wd = none := none_of_same sG hW
      have neW : R ≠ Wd := fun e => by rw [← e, gR] at hW; cases hW
      refine for_tup (xs := ys) (fun j σ G' => ∃ (o4 : Option V), σ = [some (.ref a), some (.ref R), some (.ref ba), some (.ref Wd), o4] ∧ Same H G' ∧ G' R = some (.lst (((bs.take i).map (bxT (gT n))).map V.str)) ∧ G' Wd = some (.lst (((ps.take j).map (plT (gT n))).map V.str))) ⟨_, rfl, sG.trans nW, nW _ _ gR, by rw [upd_same]; rfl⟩ (fun j σ G' _ h => by obtain ⟨_, _, e, _⟩ := h; exact sqT_same e bat) (fun j pv_ σ G' hpv h => ?_) (fun σ G' h => ?_)
      · obtain ⟨q4, rfl, s1, g1, g2⟩ := h
        obtain ⟨p, hp, hpd⟩ := dpAll_get' (dps_same s1 beach) hpv
        have jl := (List.getElem?_eq_some_iff.mp hp).1
        have hpl := each p (List.mem_of_getElem? hp)
        have put : ∀ {G2 : Hp} {t : Str}, Same G' G2 → t = plT (gT n) p → G2 Wd = some (.lst (((ps.take j).map (plT (gT n))).map V.str)) ∧ ((((ps.take j).map (plT (gT n))).map V.str).length < sizeLine) ∧ Same H (upd G2 Wd (.lst ((((ps.take j).map (plT (gT n))).map V.str) ++ [.str t]))) ∧ (upd G2 Wd (.lst ((((ps.take j).map (plT (gT n))).map V.str) ++ [.str t]))) R = some (.lst (((bs.take i).map (bxT (gT n))).map V.str)) ∧ (upd G2 Wd (.lst ((((ps.take j).map (plT (gT n))).map V.str) ++ [.str t]))) Wd = some (.lst (((ps.take (j + 1)).map (plT (gT n))).map V.str)) := fun {G2 t} s2 et => by
          refine ⟨s2 _ _ g2, ?_, same_upd2 (s1.trans s2) nWH, by rw [upd_ne neW]; exact s2 _ _ g1, ?_⟩
          · rw [List.length_map, List.length_map, List.length_take]
            exact Nat.lt_of_lt_of_le (show _ < 1000 by omega) (small (Nat.le_refl _))
          · rw [upd_same, take_more hp, List.map_append, List.map_append, et]
            rfl
        refine ⟨_, rfl, pv_, _, _, _, _, rfl, .ty "int", ty_of hpd, kit_int p, _, rfl, ?_⟩
        rcases pl_cases hpl with ⟨i', rfl, i0, i1⟩ | ⟨j', rfl, j0, j1⟩ | ⟨y, r, rfl, hg⟩
        · cases hpd
          obtain ⟨z1, z2, z3, z4, z5⟩ := put (Same.refl G') (t := itS i') rfl
          exact ifT rfl ⟨_, rfl, .inl ⟨rfl, _, SqL.of g2⟩, _, rfl, i', rfl, log_ok (by omega), Wd, _, _, rfl, rfl, z1, z2, _, rfl, z3, z4, z5⟩
        · cases hpd with
          | @tup da zs _ dat each2 =>
          cases each2 with
          | @cons u us _ _ e1 e2 =>
          cases e2 with
          | @cons u2 us2 _ _ e3 e4 =>
          cases e3
          cases e4
          have e : plT (gT n) (.tuple [.str "tie", .int j']) = "~" ++ itS j' := by
            show (if ("tie" : Str) = "tie" then Str.empty ++ "~" ++ itS j' else Str.empty ++ "(" ++ gT n (.tuple [.str "tie", .int j']) ++ ")") = _
            rw [if_pos rfl, empty_app]
          have l5 := itS_len (i := j') (by omega) (by omega)
          obtain ⟨z1, z2, z3, z4, z5⟩ := put (Same.refl G') (t := "~" ++ itS j') e.symm
          refine ifF rfl ⟨_, rfl, da, _, 0, u, rfl, rfl, dat, atI_at (by decide) rfl, .str "tie", .str "tie", e1, .str _, trivial, okR_tie, _, rfl, ?_⟩
          refine ifT (by simp [PyData.eqv]) ⟨_, rfl, .inl ⟨rfl, _, SqL.of g2⟩, _, rfl, da, _, 1, .int j', rfl, rfl, dat, atI_at (by decide) rfl, j', rfl, log_ok (by omega), "~", itS j', rfl, rfl, by rw [o4, ← sl]; omega, Wd, _, _, rfl, rfl, z1, z2, _, rfl, z3, z4, z5⟩
        · have hpd' := hpd
          cases hpd with
          | @tup da zs _ dat each2 =>
          cases each2 with
          | @cons u us _ _ e1 e2 =>
          have lg := gT_len n _ hg
          have e : plT (gT n) (.tuple (.tuple y :: r)) = "(" ++ gT n (.tuple (.tuple y :: r)) ++ ")" := by
            show Str.empty ++ "(" ++ gT n (.tuple (.tuple y :: r)) ++ ")" = _
            rw [empty_app]
          refine ifF rfl ⟨_, rfl, da, _, 0, u, rfl, rfl, dat, atI_at (by decide) rfl, .tuple y, .str "tie", e1, .str _, trivial, okR_tie, _, rfl, ?_⟩
          refine ifF (by simp [PyData.eqv]) ⟨_, rfl, .inl ⟨rfl, _, SqL.of g2⟩, _, rfl, .ref da, _, rfl, hpd', hg, fun G2 s2 => ?_⟩
          obtain ⟨z1, z2, z3, z4, z5⟩ := put s2 (t := "(" ++ gT n (.tuple (.tuple y :: r)) ++ ")") e.symm
          exact ⟨"(", _, rfl, rfl, by rw [o5, ← sl]; omega, _, ")", rfl, rfl, by rw [Str.length_append, o5, o6, ← sl]; omega, Wd, _, _, rfl, rfl, z1, z2, _, rfl, z3, z4, z5⟩
      · obtain ⟨q4, rfl, s1, g1, g2⟩ := h
        rw [ly, List.take_length] at g2
        obtain ⟨j1, j2⟩ := join_len " " (ps.map (plT (gT n))) (L := lenG n + 6) fun y hy => by
          obtain ⟨p, hp, rfl⟩ := List.mem_map.mp hy
          exact plT_len l8 (each p hp) (gT_len n)
        rw [List.length_map, l3, o3] at j1 j2
        refine ⟨_, rfl, .inl ⟨rfl, _, SqL.of g1⟩, rfl, _, rfl, " ", Wd, ps.map (plT (gT n)), rfl, rfl, .inl (SqL.of g2), by rw [List.length_map, l3, o3]; omega, "[", _, rfl, rfl, by rw [o1, ← sl]; omega, _, "]", rfl, rfl, by rw [Str.length_append, o1, o2, ← sl]; omega, R, _, _, rfl, rfl, g1, ?_, _, _, _, rfl, same_upd2 s1 hR, ?_⟩
        · rw [List.length_map, List.length_map, List.length_take]
          exact Nat.lt_of_lt_of_le (show _ < 1000 by omega) (small (Nat.le_refl _))
        · rw [upd_same, take_more hd', List.map_append, List.map_append]
          show some (HO.lst (_ ++ [V.str _])) = some (HO.lst (_ ++ [V.str (Str.empty ++ "[" ++ Txt.join " " (ps.map (plT (gT n))) ++ "]")]))
          rw [empty_app]
    · obtain ⟨p2, p3, p4, rfl, sG, gR⟩ := h
      rw [lx, List.take_length] at gR
      obtain ⟨_, j2⟩ := join_len "" (bs.map (bxT (gT n))) (L := 3 * lenG n + 25) fun y hy => by
        obtain ⟨b, hb, rfl⟩ := List.mem_map.mp hy
        exact bxT_len l8 (List.all_eq_true.mp h.2 b hb) (gT_len n)
      rw [List.length_map, show ("" : Str).length = 0 from rfl] at j2
      have : (3 * lenG n + 25 + 0) * bs.length ≤ (3 * lenG n + 25 + 0) * 8 := Nat.mul_le_mul_left _ l8
      have e : lenG (n + 1) = 24 * lenG n + 200 := rfl
      exact ⟨rfl, _, rfl, "", R, bs.map (bxT (gT n)), rfl, rfl, .inl (SqL.of gR), by rw [List.length_map, show ("" : Str).length = 0 from rfl]; omega, q G sG⟩
  | _ => cases hd
end
/-! the sizes of the drawn form -/
def szP (g : PyData → Nat) : PyData → Nat
  | .tuple (.tuple x :: r) => g (.tuple (.tuple x :: r))
  | _ => 0
def szB (g : PyData → Nat) : PyData → Nat
  | .tuple ps => (ps.map (szP g)).sum
  | _ => 0
def szG : Nat → PyData → Nat
  | n + 1, .tuple bs => bs.length + (bs.map (szB (szG n))).sum
  | _, _ => 0
theorem le_sumM {f : PyData → Nat} : ∀ {l : List PyData} {x : PyData}, x ∈ l → f x ≤ (l.map f).sum
  | y :: l, x, h => by
    rw [List.map_cons, List.sum_cons]
    rcases List.mem_cons.mp h with rfl | h
    · exact Nat.le_add_right _ _
    · exact Nat.le_trans (le_sumM h) (Nat.le_add_left _ _)
theorem sumO_of {f : PyData → Option Nat} {g : PyData → Nat} : ∀ {l : List PyData}, (∀ x ∈ l, f x = some (g x)) → sumO f l = some ((l.map g).sum)
  | [], _ => rfl
  | x :: l, h => by
    have h1 := h x List.mem_cons_self
    have h2 := sumO_of (l := l) fun y hy => h y (List.mem_cons_of_mem _ hy)
    simp only [sumO, h1, h2, List.map_cons, List.sum_cons]
theorem placeN_of {n m : Nat} {p : PyData} (ih : ∀ d, grB n d = true → szG n d ≤ 24 → gsz n d = some (szG n d)) (h : plB (grB n) m p = true) (hs : szP (szG n) p ≤ 24) : placeN (gsz n) m p = some (szP (szG n) p) := by
  unfold placeN
  rcases pl_cases h with ⟨i, rfl, i0, i1⟩ | ⟨j, rfl, j0, j1⟩ | ⟨y, r, rfl, hg⟩
  · rw [if_pos (show numD (.int i) = true by
      show (decide ((-9999 : Int) ≤ i) && decide (i ≤ 9999)) = true
      rw [decide_eq_true i0, decide_eq_true i1]
      rfl)]
    rfl
  · rw [if_neg (show ¬ numD (.tuple [.str "tie", .int j]) = true by intro h; cases h), if_pos (show tieB m (.tuple [.str "tie", .int j]) = true by
      show (PyData.eqv (.str "tie") (.str "tie") && (decide ((0 : Int) ≤ j) && decide (j ≤ (m : Int) - 1))) = true
      rw [decide_eq_true j0, decide_eq_true (show j ≤ (m : Int) - 1 by omega)]
      simp [PyData.eqv])]
    rfl
  · rw [if_neg (show ¬ numD (.tuple (.tuple y :: r)) = true by intro h; cases h), if_neg (show ¬ tieB m (.tuple (.tuple y :: r)) = true by
      intro h
      unfold tieB at h
      split at h
      · rename_i p q e
        have ep : p = .tuple y := by
          injection e with e
          injection e with e1 e2
          exact e1.symm
        rw [ep, show PyData.eqv (.tuple y) (.str "tie") = false by simp [PyData.eqv]] at h
        cases h
      · cases h)]
    exact ih _ hg hs
theorem gsz_of : ∀ (n : Nat) (d : PyData), grB n d = true → szG n d ≤ 24 → gsz n d = some (szG n d)
  | 0, d, h, _ => by cases d <;> cases h
  | n + 1, d, h, hs => by
    cases d with
    | tuple bs =>
      have h := and3 (show (decide (1 ≤ bs.length ∧ bs.length ≤ 8) && bs.all (bxB (grB n) bs.length)) = true from h)
      have hl := of_decide_eq_true h.1
      have hs : bs.length + (bs.map (szB (szG n))).sum ≤ 24 := hs
      have e : sumO (boxN (placeN (gsz n) bs.length)) bs = some ((bs.map (szB (szG n))).sum) := sumO_of fun b hb => by
        obtain ⟨ps, rfl, l3, each⟩ := bx_all (List.all_eq_true.mp h.2 b hb)
        have lb := le_sumM (f := szB (szG n)) hb
        show (if ps.length = 3 then sumO (placeN (gsz n) bs.length) ps else none) = some ((ps.map (szP (szG n))).sum)
        rw [if_pos l3]
        refine sumO_of fun p hp => placeN_of (gsz_of n) (each p hp) ?_
        have lp := le_sumM (f := szP (szG n)) hp
        have : szB (szG n) (.tuple ps) = (ps.map (szP (szG n))).sum := rfl
        omega
      show gszT (gsz n) bs = some (bs.length + (bs.map (szB (szG n))).sum)
      unfold gszT
      rw [if_pos hl, e]
      show (if bs.length + (bs.map (szB (szG n))).sum ≤ 24 then some (bs.length + (bs.map (szB (szG n))).sum) else none) = _
      exact if_pos hs
    | _ => cases h
/-! the graphs straight within -/
def isG : PyData → Bool
  | .tuple (q :: _) => !PyData.eqv q (.str "tie")
  | _ => false
def boxInner : PyData → List PyData
  | .tuple ps => ps.filter isG
  | _ => []
def innerD : PyData → List PyData
  | .tuple bs => bs.flatMap boxInner
  | _ => []
theorem tupOnly_mem : ∀ {ds : List PyData} {d : PyData}, tupOnlyAll ds = true → d ∈ ds → tupOnly d = true
  | x :: r, d, h, hm => by
    simp only [tupOnlyAll, Bool.and_eq_true] at h
    rcases List.mem_cons.mp hm with rfl | hm
    · exact h.1
    · exact tupOnly_mem h.2 hm
theorem tupOnly_tup {ds : List PyData} (h : tupOnly (.tuple ds) = true) : tupOnlyAll ds = true := by simpa only [tupOnly] using h
theorem tupOnly_all : ∀ {l : List PyData}, (∀ z ∈ l, tupOnly z = true) → tupOnlyAll l = true
  | [], _ => rfl
  | u :: v, h => by
    simp only [tupOnlyAll, Bool.and_eq_true]
    exact ⟨h u List.mem_cons_self, tupOnly_all fun z hz => h z (List.mem_cons_of_mem _ hz)⟩
theorem inner_mem {bs : List PyData} {p : PyData} (h : p ∈ bs.flatMap boxInner) : ∃ ps, .tuple ps ∈ bs ∧ p ∈ ps := by
  obtain ⟨b, hb, hp⟩ := List.mem_flatMap.mp h
  cases b with
  | tuple ps => exact ⟨ps, hb, (List.mem_filter.mp hp).1⟩
  | int _ => cases hp
  | bool _ => cases hp
  | none => cases hp
  | str _ => cases hp
  | list _ => cases hp
  | dict _ => cases hp
theorem isG_int (i : Int) : isG (.int i) = false := rfl
theorem isG_tie (j : Int) : isG (.tuple [.str "tie", .int j]) = false := by
  show (!PyData.eqv (.str "tie") (.str "tie")) = false
  rw [eqv_str_str]
  rfl
theorem isG_graph (ps r : List PyData) : isG (.tuple (.tuple ps :: r)) = true := by
  show (!PyData.eqv (.tuple ps) (.str "tie")) = true
  rw [eqv_tup_str]
  rfl
theorem placeN_val {n m : Nat} {p : PyData} {a : Nat} (h : placeN (gsz n) m p = some a) : (isG p = false ∧ a = 0) ∨ (isG p = true ∧ gsz n p = some a) := by
  have ok := placeN_some h
  cases ok with
  | @num i h1 h2 =>
    refine .inl ⟨rfl, ?_⟩
    unfold placeN at h
    rw [if_pos (show numD (.int i) = true by show (decide (-9999 ≤ i) && decide (i ≤ 9999)) = true; rw [decide_eq_true h1, decide_eq_true h2]; rfl)] at h
    cases h
    rfl
  | @tie j h1 h2 =>
    refine .inl ⟨isG_tie j, ?_⟩
    unfold placeN at h
    rw [if_neg (show ¬ numD (.tuple [.str "tie", .int j]) = true by intro z; cases z)] at h
    rw [if_pos (show tieB m (.tuple [.str "tie", .int j]) = true by
      show (PyData.eqv (.str "tie") (.str "tie") && (decide (0 ≤ j) && decide (j ≤ (m : Int) - 1))) = true
      rw [eqv_str_str, decide_eq_true h1, decide_eq_true (by omega)]; rfl)] at h
    cases h
    rfl
  | @graph ps r k hg =>
    refine .inr ⟨isG_graph ps r, ?_⟩
    unfold placeN at h
    rw [if_neg (show ¬ numD (.tuple (.tuple ps :: r)) = true by intro z; cases z)] at h
    rw [if_neg (show ¬ tieB m (.tuple (.tuple ps :: r)) = true by
      unfold tieB
      split
      · rename_i e
        cases e
        rw [eqv_tup_str]
        intro z
        cases z
      · intro z
        cases z)] at h
    exact h
theorem sumO_cons {f : PyData → Option Nat} {x : PyData} {r : List PyData} {s : Nat} (h : sumO f (x :: r) = some s) : ∃ a b, f x = some a ∧ sumO f r = some b ∧ s = a + b := by
  simp only [sumO] at h
  cases hx : f x with
  | none => rw [hx] at h; cases h
  | some a =>
    rw [hx] at h
    cases hr : sumO f r with
    | none => rw [hr] at h; cases h
    | some b =>
      rw [hr] at h
      simp only [Option.some.injEq] at h
      exact ⟨a, b, rfl, rfl, h.symm⟩
theorem sumO_cons' {f : PyData → Option Nat} {x : PyData} {r : List PyData} {a b : Nat} (h1 : f x = some a) (h2 : sumO f r = some b) : sumO f (x :: r) = some (a + b) := by
  simp only [sumO, h1, h2]
theorem sumO_append {f : PyData → Option Nat} {l' : List PyData} {b : Nat} (h2 : sumO f l' = some b) : ∀ {l : List PyData} {a : Nat}, sumO f l = some a → sumO f (l ++ l') = some (a + b)
  | [], a, h => by
    simp only [sumO, Option.some.injEq] at h
    subst h
    rw [Nat.zero_add]
    exact h2
  | x :: r, a, h => by
    obtain ⟨u, v, h1, h3, rfl⟩ := sumO_cons h
    rw [List.cons_append, sumO_cons' h1 (sumO_append h2 h3), Nat.add_assoc]
theorem places_inner {n m : Nat} : ∀ {ps : List PyData} {s : Nat}, sumO (placeN (gsz n) m) ps = some s → sumO (gsz n) (ps.filter isG) = some s
  | [], s, h => h
  | p :: r, s, h => by
    obtain ⟨u, v, h1, h3, rfl⟩ := sumO_cons h
    have ih := places_inner h3
    rcases placeN_val h1 with ⟨e, rfl⟩ | ⟨e, e2⟩
    · rw [List.filter_cons_of_neg (by rw [e]; decide), Nat.zero_add]
      exact ih
    · rw [List.filter_cons_of_pos e]
      exact sumO_cons' e2 ih
theorem boxes_inner {n m : Nat} : ∀ {bs : List PyData} {s : Nat}, sumO (boxN (placeN (gsz n) m)) bs = some s → sumO (gsz n) (bs.flatMap boxInner) = some s
  | [], s, h => h
  | b :: r, s, h => by
    obtain ⟨u, v, h1, h3, rfl⟩ := sumO_cons h
    have ih := boxes_inner h3
    obtain ⟨p, q, t, rfl, hp⟩ := boxN_some h1
    rw [List.flatMap_cons]
    exact sumO_append ih (places_inner hp)
/-! good graphs are of tuples, ints and texts alone -/
theorem lay_all : ∀ {l : List PyData}, (∀ z ∈ l, z.canLay0 = true) → PyData.canLayAll0 l = true
  | [], _ => by simp only [PyData.canLayAll0]
  | u :: v, h => by
    simp only [PyData.canLayAll0, Bool.and_eq_true]
    exact ⟨h u List.mem_cons_self, lay_all fun z hz => h z (List.mem_cons_of_mem _ hz)⟩
theorem depth_all {k : Nat} : ∀ {l : List PyData}, (∀ z ∈ l, z.depth ≤ k) → PyData.depthAll l ≤ k
  | [], _ => by simp only [PyData.depthAll]; exact Nat.zero_le _
  | u :: v, h => by
    have h1 := h u List.mem_cons_self
    have h2 := depth_all (l := v) fun z hz => h z (List.mem_cons_of_mem _ hz)
    simp only [PyData.depthAll]
    omega
def Shp (k : Nat) (d : PyData) : Prop := tupOnly d = true ∧ d.canLay0 = true ∧ d.depth ≤ k
theorem shp_tup {k : Nat} {l : List PyData} (h : ∀ z ∈ l, Shp k z) : Shp (k + 1) (.tuple l) := by
  refine ⟨?_, ?_, ?_⟩
  · simp only [tupOnly]
    exact tupOnly_all fun z hz => (h z hz).1
  · simp only [PyData.canLay0]
    exact lay_all fun z hz => (h z hz).2.1
  · simp only [PyData.depth]
    have := depth_all fun z hz => (h z hz).2.2
    omega
theorem shp_mono {j k : Nat} {d : PyData} (h : Shp j d) (l : j ≤ k) : Shp k d := ⟨h.1, h.2.1, by have := h.2.2; omega⟩
theorem shp_int (k : Nat) (i : Int) : Shp k (.int i) := ⟨rfl, by simp only [PyData.canLay0], by simp only [PyData.depth]; exact Nat.zero_le _⟩
theorem shp_tie (k : Nat) (j : Int) : Shp (k + 1) (.tuple [.str "tie", .int j]) := by
  refine shp_tup fun z hz => ?_
  rcases List.mem_cons.mp hz with rfl | hz
  · exact ⟨rfl, by decide +kernel, by simp only [PyData.depth]; exact Nat.zero_le _⟩
  · rcases List.mem_cons.mp hz with rfl | hz
    · exact shp_int k j
    · cases hz
theorem good_shape : ∀ (n : Nat) (d : PyData) (c : Nat), gsz n d = some c → Shp (2 * n + 1) d
  | 0, d, c, h => by cases h
  | n + 1, d, c, h => by
    obtain ⟨m, bs, s, e, rfl, l1, l8, hs, _⟩ := gsz_some h
    cases e
    refine shp_mono (shp_tup (k := 2 * n + 2) fun b hb => ?_) (by omega)
    obtain ⟨a, ha⟩ := sumO_mem hs hb
    obtain ⟨p, q, r, rfl, hp⟩ := boxN_some ha
    refine shp_mono (shp_tup (k := 2 * n + 1) fun z hz => ?_) (by omega)
    obtain ⟨u, hu⟩ := sumO_mem hp hz
    cases placeN_some hu with
    | num _ _ => exact shp_int _ _
    | tie _ _ => exact shp_mono (shp_tie 0 _) (by omega)
    | graph hg => exact good_shape n _ _ hg
theorem shp_shaped {k : Nat} {d : PyData} (h : Shp k d) (l : k ≤ 64) : SeqAt.shaped d = true := by
  show (d.canLay0 && decide (d.depth ≤ 64)) = true
  rw [h.2.1, Bool.true_and]
  exact decide_eq_true (by have := h.2.2; omega)
theorem place_shape {n m : Nat} {p : PyData} {a : Nat} (h : placeN (gsz n) m p = some a) : Shp (2 * n + 1) p := by
  cases placeN_some h with
  | num _ _ => exact shp_int _ _
  | tie _ _ => exact shp_mono (shp_tie 0 _) (by omega)
  | graph hg => exact good_shape n _ _ hg
theorem box_shape {n m : Nat} {p : PyData} {a : Nat} (h : boxN (placeN (gsz n) m) p = some a) : Shp (2 * n + 2) p := by
  obtain ⟨p, q, r, rfl, hp⟩ := boxN_some h
  refine shp_tup fun z hz => ?_
  obtain ⟨u, hu⟩ := sumO_mem hp hz
  exact place_shape hu
theorem placeN_graph {n m : Nat} {d : PyData} {c : Nat} (h : gsz n d = some c) : placeN (gsz n) m d = some c := by
  obtain ⟨n', bs, s, rfl, rfl, l1, l8, hs, rfl, h24⟩ := gsz_some h
  cases bs with
  | nil => simp at l1
  | cons b r =>
    obtain ⟨a, ha⟩ := sumO_mem hs List.mem_cons_self
    obtain ⟨p, q, t, rfl, _⟩ := boxN_some ha
    unfold placeN
    rw [if_neg (show ¬ numD (.tuple (.tuple [p, q, t] :: r)) = true by intro z; cases z)]
    rw [if_neg (show ¬ tieB m (.tuple (.tuple [p, q, t] :: r)) = true by
      unfold tieB
      split
      · rename_i e
        cases e
        rw [eqv_tup_str]
        intro z
        cases z
      · intro z
        cases z)]
    exact h
theorem placeN_num {g : PyData → Option Nat} {m : Nat} {i : Int} (h1 : -9999 ≤ i) (h2 : i ≤ 9999) : placeN g m (.int i) = some 0 := by
  unfold placeN
  rw [if_pos (show numD (.int i) = true by show (decide (-9999 ≤ i) && decide (i ≤ 9999)) = true; rw [decide_eq_true h1, decide_eq_true h2]; rfl)]
theorem placeN_tie {g : PyData → Option Nat} {m : Nat} {j : Int} (h1 : 0 ≤ j) (h2 : j < m) : placeN g m (.tuple [.str "tie", .int j]) = some 0 := by
  unfold placeN
  rw [if_neg (show ¬ numD (.tuple [.str "tie", .int j]) = true by intro z; cases z)]
  rw [if_pos (show tieB m (.tuple [.str "tie", .int j]) = true by
    show (PyData.eqv (.str "tie") (.str "tie") && (decide (0 ≤ j) && decide (j ≤ (m : Int) - 1))) = true
    rw [eqv_str_str, decide_eq_true h1, decide_eq_true (by omega)]; rfl)]
theorem Mv.trans {st : Addr} {H H1 H2 : Hp} (a : Mv st H H1) (b : Mv st H1 H2) : Mv st H H2 := ⟨a.kp.trans b.kp, b.sa⟩
theorem Mv.same {st : Addr} {H H1 H2 : Hp} (a : Mv st H H1) (b : Same H1 H2) : Mv st H H2 := ⟨a.kp.trans (Kp.of_same b), a.sa.same b⟩
/-! the two lists that _law_graph fills -/
structure OuterSt (K : PySem.W.Frag) (st fa : Addr) (H0 : Hp) (m many : Nat) (room : Int) (fs : List V) (ds : List PyData) (lf : Int) (H : Hp) : Prop where
  mv : Mv st H0 H
  hf : H fa = some (.lst fs)
  df : DpAll K H fs ds
  su : ∃ s : Nat, sumO (boxN (placeN (gsz m) many)) ds = some s ∧ lf = room - s
  nn : 0 ≤ lf
structure InnerSt (K : PySem.W.Frag) (st fa pa : Addr) (H0 : Hp) (m many : Nat) (rest : Int) (fs : List V) (ds : List PyData) (ps : List V) (es : List PyData) (lf : Int) (H : Hp) : Prop where
  mv : Mv st H0 H
  hf : H fa = some (.lst fs)
  hp : H pa = some (.lst ps)
  df : DpAll K H fs ds
  dp : DpAll K H ps es
  su : ∃ s : Nat, sumO (placeN (gsz m) many) es = some s ∧ lf = rest - s
  nn : 0 ≤ lf
section
variable {K : PySem.W.Frag} {st fa pa : Addr} {H0 H H' : Hp} {m many : Nat} {rest room lf : Int} {fs ps : List V} {ds es : List PyData}
theorem InnerSt.tup (g : InnerSt K st fa pa H0 m many rest fs ds ps es lf H) : tupOnlyAll es = true := by
  obtain ⟨s, hs, _⟩ := g.su
  exact tupOnly_all fun z hz => by
    obtain ⟨u, hu⟩ := sumO_mem hs hz
    exact (place_shape hu).1
theorem InnerSt.go (g : InnerSt K st fa pa H0 m many rest fs ds ps es lf H) (td : tupOnlyAll ds = true) (n1 : fa ≠ st) (n2 : pa ≠ st) (k : Mv st H H') : InnerSt K st fa pa H0 m many rest fs ds ps es lf H' := by
  have kt := k.kp.kt g.mv.sa
  exact ⟨g.mv.trans k, k.kp _ _ n1 g.hf, k.kp _ _ n2 g.hp, dpAll_kt kt _ _ td g.df, dpAll_kt kt _ _ g.tup g.dp, g.su, g.nn⟩
theorem InnerSt.same (g : InnerSt K st fa pa H0 m many rest fs ds ps es lf H) (td : tupOnlyAll ds = true) (k : Same H H') : InnerSt K st fa pa H0 m many rest fs ds ps es lf H' := by
  have kt := KT.of_same k
  exact ⟨g.mv.same k, k _ _ g.hf, k _ _ g.hp, dpAll_kt kt _ _ td g.df, dpAll_kt kt _ _ g.tup g.dp, g.su, g.nn⟩
theorem InnerSt.push (g : InnerSt K st fa pa H0 m many rest fs ds ps es lf H) (td : tupOnlyAll ds = true) (h0 : H0 pa = none) (n2 : pa ≠ st) (n3 : fa ≠ pa) {v : V} {d : PyData} {c : Nat} (hv : Dp K H v d) (hc : placeN (gsz m) many d = some c) (hl : 0 ≤ lf - c) :
    InnerSt K st fa pa H0 m many rest fs ds (ps ++ [v]) (es ++ [d]) (lf - c) (upd H pa (.lst (ps ++ [v]))) := by
  have kt := KT.upd (l' := ps ++ [v]) g.hp
  obtain ⟨s, hs, e⟩ := g.su
  exact ⟨⟨g.mv.kp.upd h0, g.mv.sa.upd n2⟩, by rw [upd_ne n3]; exact g.hf, upd_same, dpAll_kt kt _ _ td g.df, dpAll_snoc (dp_kt kt _ _ (place_shape hc).1 hv) (dpAll_kt kt _ _ g.tup g.dp), ⟨s + c, sumO_snoc hs hc, by omega⟩, hl⟩
theorem OuterSt.tup (g : OuterSt K st fa H0 m many room fs ds lf H) : tupOnlyAll ds = true := by
  obtain ⟨s, hs, _⟩ := g.su
  exact tupOnly_all fun z hz => by
    obtain ⟨u, hu⟩ := sumO_mem hs hz
    exact (box_shape hu).1
theorem OuterSt.push (g : InnerSt K st fa pa H0 m many rest fs ds ps es lf H) (td : tupOnlyAll ds = true) (h0 : H0 fa = none) (n1 : fa ≠ st) (l3 : es.length = 3) (su : ∃ s : Nat, sumO (boxN (placeN (gsz m) many)) ds = some s ∧ rest = room - s) {tp : Addr} (ht : H tp = none) :
    OuterSt K st fa H0 m many room (fs ++ [.ref tp]) (ds ++ [.tuple es]) lf (upd (upd H tp (.tup ps)) fa (.lst (fs ++ [.ref tp]))) := by
  have s1 := same_new ht (.tup ps)
  have hf := s1 _ _ g.hf
  have kt := KT.upd (l' := fs ++ [.ref tp]) hf
  have kt2 := (KT.of_same s1).trans kt
  have nft : tp ≠ fa := (ne_of_none g.hf ht).symm
  obtain ⟨s, hs, e⟩ := g.su
  obtain ⟨s0, hs0, e0⟩ := su
  refine ⟨⟨(g.mv.kp.trans (Kp.of_same s1)).upd h0, (g.mv.sa.same s1).upd n1⟩, upd_same, dpAll_snoc (.tup (SqT.of ?_) (dpAll_kt kt2 _ _ g.tup g.dp)) (dpAll_kt kt2 _ _ td g.df), ⟨s0 + s, sumO_snoc hs0 ?_, by omega⟩, g.nn⟩
  · rw [upd_ne nft]
    exact upd_same
  · show (if es.length = 3 then sumO (placeN (gsz m) many) es else none) = some s
    rw [if_pos l3]
    exact hs
end
/-! the shape of the drawn form, _law_inner -/
theorem pl_shp {n m : Nat} {p : PyData} (ih : ∀ d, grB n d = true → Shp (2 * n + 1) d) (h : plB (grB n) m p = true) : Shp (2 * n + 1) p := by
  rcases pl_cases h with ⟨i, rfl, _⟩ | ⟨j, rfl, _⟩ | ⟨y, r, rfl, hg⟩
  · exact shp_int _ _
  · exact shp_mono (shp_tie 0 _) (by omega)
  · exact ih _ hg
theorem gr_is {n : Nat} {d : PyData} (h : grB n d = true) : ∃ m bs, n = m + 1 ∧ d = .tuple bs ∧ 1 ≤ bs.length ∧ bs.length ≤ 8 ∧ ∀ b ∈ bs, bxB (grB m) bs.length b = true := by
  cases n with
  | zero => cases d <;> cases h
  | succ n =>
    cases d with
    | tuple bs =>
      have h := and3 (show (decide (1 ≤ bs.length ∧ bs.length ≤ 8) && bs.all (bxB (grB n) bs.length)) = true from h)
      obtain ⟨l1, l8⟩ := of_decide_eq_true h.1
      exact ⟨n, bs, rfl, rfl, l1, l8, List.all_eq_true.mp h.2⟩
    | _ => cases h
theorem bx3 {gb : PyData → Bool} {m : Nat} {b : PyData} (h : bxB gb m b = true) : ∃ p q r, b = .tuple [p, q, r] ∧ ∀ z ∈ [p, q, r], plB gb m z = true := by
  obtain ⟨ps, rfl, l3, each⟩ := bx_all h
  match ps, l3 with
  | [p, q, r], _ => exact ⟨p, q, r, rfl, each⟩
theorem grB_shp : ∀ (n : Nat) (d : PyData), grB n d = true → Shp (2 * n + 1) d
  | 0, d, h => by cases d <;> cases h
  | n + 1, d, h => by
    obtain ⟨m, bs, e, rfl, l1, l8, hall⟩ := gr_is h
    cases e
    refine shp_mono (shp_tup (k := 2 * n + 2) fun b hb => ?_) (by omega)
    obtain ⟨p, q, r, rfl, hpl⟩ := bx3 (hall b hb)
    exact shp_mono (shp_tup (k := 2 * n + 1) fun z hz => pl_shp (grB_shp n) (hpl z hz)) (by omega)
section
open PySem.Spec PyProof.Rows LamX
section
variable {P : Program} {w : World} {K : PySem.W.Frag} {mg : Str → Option Value} {base : Heap} {f : Addr} {fd : FuncData}
/-! _law_inner -/
def spInner (K : PySem.W.Frag) : Sp := fun vs H Q _ => ∃ (x : V) (d : PyData) (n : Nat), vs = [x] ∧ Dp K H x d ∧ n ≤ 4 ∧ grB n d = true ∧
  ∀ p ls H', Same H H' → H' p = some (.lst ls) → ls.length ≤ 24 → DpAll K H' ls (innerD d) → Q (.ref p) H'
theorem scInner : FnScope ["_law_graph_here", "_law_found", "_law_box", "_law_place_here"] ["_law_graph_here"] (defScope sInner) := ⟨rfl, rfl, rfl, by decide +kernel, rfl, by decide +kernel, by decide +kernel⟩
theorem ok_inner {k : Nat} (F : Fun K "_law_inner" "_law_inner" sInner f fd) (T : Free mg) : FnOk P w K mg base CX0 (k + 1) f fd ["_law_graph_here"] (spInner K) := by
  refine F.ok scInner (fun vs H Q E h => ?_) (fun cdv A outer s H vs Q E hr h => ?_)
  · obtain ⟨x, d, n, rfl, _⟩ := h
    rfl
  obtain ⟨x, d, n, rfl, hx, n4, hg, q⟩ := h
  have shp := grB_shp n d hg
  have hsh := shp_shaped shp (by omega)
  have hto := shp.1
  refine ⟨_, pss_cons (ps_set (i := 1) scInner.nd rfl (.inl rfl) (pe_lst pa_nil))
    (pss_cons (ps_for PassesOwn.never rfl (pi_tup (pv 0)) (pg_name (i := 2) scInner.nd rfl (.inl rfl))
      (pss_one (ps_set (i := 1) scInner.nd rfl (.inl rfl) (pe_op op_cat (pv 1)
        (pe_lc (own := [("_law_place_here", 3)]) (g := gName 3) (tt := tAnd (tB (tCB (rIsi K) (tCons (tVar 3) (tCons (tC (.ty "tuple")) tNil)))) (tTest (tOp (rNeD K) (tOp (rIxT K) (tVar 3) (tC (.int 0))) (tC (.str "tie"))))) (te := tVar 3) rfl scInner.nd (pi_tup (pv 2)) (blkOk_by (own := [("_law_place_here", 3)]) (N := ["_law_graph_here", "_law_found", "_law_box", "_law_place_here"]) (sc := defScope sInner) (by decide +kernel))
          (fun _ _ _ _ _ => pg_name (i := 3) scInner.nd rfl (Or.inl rfl))
          (fun _ _ _ _ _ => pts_one (PW.pt (pw_and (pt_val (pe_callB call_isi rfl T.isi (by decide +kernel) (pa_cons (pv 3) (pa_cons (pe_bltn (v := .ty "tuple") rfl T.tuple (by decide +kernel) rfl) pa_nil))))
            (pw_and1 (pt_cmpR (op_neD hr.units) (pe_ix ix_tup (pv 3) pe_int (fun _ _ => rfl)) pe_str (nomark _))))))
          (fun _ _ _ _ _ => pv 3))))))
    (pss_one (ps_ret (pv 1)))), ?_⟩
  obtain ⟨m, bs, rfl, rfl, l1, l8, hall⟩ := gr_is hg
  have hta := tupOnly_tup hto
  cases hx with
  | @tup a xs _ ht ha =>
    have lx := dpAll_len ha
    refine ⟨small (by show 0 ≤ 1000; decide), fun fa hfa => ?_⟩
    refine ⟨_, rfl, a, rfl, ⟨xs, sqT_kt (KT.of_same (same_new hfa _)) ht⟩, ?_⟩
    refine for_tup (xs := xs) (fun i σ H' => ∃ (fa : Addr) (acc : List V) (o2 o3 : Option V), σ = [some (.ref a), some (.ref fa), o2, o3] ∧ Same H H' ∧ H' fa = some (.lst acc) ∧ acc.length ≤ 3 * i ∧ DpAll K H' acc ((bs.take i).flatMap boxInner))
      ⟨fa, [], none, none, rfl, same_new hfa _, upd_same, Nat.le_refl _, .nil⟩ (fun i σ H' _ h => by obtain ⟨_, _, _, _, _, sm, _⟩ := h; exact sqT_kt (KT.of_same sm) ht) (fun i y σ H' hyi h => ?_) (fun σ H' h => ?_)
    · obtain ⟨fa, acc, o2, o3, rfl, sm, hf, hl, hacc⟩ := h
      obtain ⟨b, hb, hdb⟩ := dpAll_get' ha hyi
      have hbm : b ∈ bs := List.mem_of_getElem? hb
      obtain ⟨p, q', r, rfl, hpl⟩ := bx3 (hall b hbm)
      have htb := tupOnly_tup (tupOnly_mem hta hbm)
      have hshb := shaped_mem hsh hbm
      cases hdb with
      | @tup ab ys _ hty hay =>
        have ly := dpAll_len hay
        refine ⟨_, rfl, _, rfl, ab, rfl, ⟨ys, sqT_kt (KT.of_same sm) hty⟩, fun D hD => ?_⟩
        refine lc_tup (xs := ys) (fun j H2 => Same H' H2 ∧ ∃ zs : List V, H2 D = some (.lst zs) ∧ zs.length ≤ j ∧ DpAll K H2 zs (([p, q', r].take j).filter isG)) ⟨same_new hD _, [], upd_same, Nat.le_refl _, .nil⟩
          (fun j H2 _ h => sqT_kt (KT.of_same (sm.trans h.1)) hty) (fun j z H2 hz h => ?_) (fun H2 h => ?_)
        · obtain ⟨s2, zs, hz2, hzl, hzd⟩ := h
          obtain ⟨pd, hpd, hdz⟩ := dpAll_get' hay hz
          have hpm : pd ∈ [p, q', r] := List.mem_of_getElem? hpd
          have hj3 : j < 3 := (List.getElem?_eq_some_iff.mp hpd).1
          have hdz2 : Dp K H2 z pd := dp_kt (KT.of_same (sm.trans s2)) pd z (tupOnly_mem htb hpm) hdz
          have etk := take_more hpd
          have skip : isG pd = false → Same H' H2 ∧ ∃ zs : List V, H2 D = some (.lst zs) ∧ zs.length ≤ j + 1 ∧ DpAll K H2 zs (([p, q', r].take (j + 1)).filter isG) := fun e =>
            ⟨s2, zs, hz2, by omega, by rw [etk, List.filter_append, List.filter_cons_of_neg (by rw [e]; decide), List.filter_nil, List.append_nil]; exact hzd⟩
          refine ⟨rfl, _, rfl, z, _, _, _, _, rfl, .ty "tuple", ty_of hdz2, kit_tuple pd, _, rfl, ?_⟩
          rcases pl_cases (hpl pd hpm) with ⟨i', rfl, _⟩ | ⟨j', rfl, _⟩ | ⟨qs, r', rfl, _⟩
          · exact ifF rfl (ifF rfl (skip rfl))
          · cases hdz2 with
            | tup htz haz =>
              cases haz with
              | cons h1 haz =>
                refine ifT rfl ⟨_, rfl, _, _, _, _, rfl, rfl, htz, atI_nat (j := 0) rfl, .str "tie", .str "tie", h1, .str _, shaped_tie, shaped_tie, _, rfl, ?_⟩
                rw [eqv_str_str]
                exact ifF rfl (skip (isG_tie j'))
          · cases hdz2 with
            | @tup az _ _ htz haz =>
              cases haz with
              | cons h1 haz' =>
                refine ifT rfl ⟨_, rfl, _, _, _, _, rfl, rfl, htz, atI_nat (j := 0) rfl, .tuple qs, .str "tie", h1, .str _, shaped_mem (shaped_mem hshb hpm) List.mem_cons_self, shaped_tie, _, rfl, ?_⟩
                rw [eqv_tup_str]
                refine ifT rfl ⟨_, rfl, zs, hz2, Nat.lt_of_lt_of_le (show zs.length < 1000 by omega) (small (Nat.le_refl _)), ?_, zs ++ [.ref az], upd_same, by rw [List.length_append, List.length_singleton]; omega, ?_⟩
                · exact fun bb u e => by rw [upd_ne (ne_of_none e hD)]; exact s2 bb u e
                · rw [etk, List.filter_append, List.filter_cons_of_pos (isG_graph qs r'), List.filter_nil]
                  have hk2 := KT.upd (l' := zs ++ [.ref az]) hz2
                  refine dpAll_snoc (dp_kt hk2 _ _ (tupOnly_mem htb hpm) (.tup htz (.cons h1 haz'))) ?_
                  exact dpAll_kt hk2 _ _ (tupOnly_all fun z hz => tupOnly_mem htb (List.mem_of_mem_take (List.mem_filter.mp hz).1)) hzd
        · obtain ⟨s2, zs, hz2, hzl, hzd⟩ := h
          rw [ly] at hzl hzd
          have hzd : DpAll K H2 zs ([p, q', r].filter isG) := hzd
          have hzl : zs.length ≤ 3 := hzl
          have hi8 : i < bs.length := (List.getElem?_eq_some_iff.mp hb).1
          refine ⟨fa, D, acc, zs, rfl, rfl, s2 _ _ hf, hz2, small (by omega), fun p' hp' => ?_⟩
          have s3 : Same H2 (upd H2 p' (.lst (acc ++ zs))) := same_new hp' _
          refine ⟨p', acc ++ zs, _, _, rfl, sm.trans (s2.trans s3), upd_same, by rw [List.length_append]; omega, ?_⟩
          rw [take_more hb, List.flatMap_append, List.flatMap_cons, List.flatMap_nil, List.append_nil]
          refine dpAll_append (dpAll_kt (KT.of_same s3) _ _ ?_ hzd) (dpAll_kt (KT.of_same (s2.trans s3)) _ _ ?_ hacc)
          · exact tupOnly_all fun z hz => tupOnly_mem htb (List.mem_filter.mp hz).1
          · refine tupOnly_all fun z hz => ?_
            obtain ⟨ps', h1, h2⟩ := inner_mem hz
            exact tupOnly_mem (tupOnly_tup (tupOnly_mem hta (List.mem_of_mem_take h1))) h2
    · obtain ⟨fa, acc, o2, o3, rfl, sm, hf, hl, hacc⟩ := h
      rw [lx] at hl
      rw [lx, List.take_length] at hacc
      exact ⟨_, rfl, q fa acc H' sm hf (by omega) hacc⟩
end
end
def maxI (d : Int) : List Int → Int
  | [] => d
  | n :: r => r.foldl max n
theorem call_maxD {X : Cx} (hc : X.calm = true) (hu : X.A.units + 64 < cLine) : CallRK X (.builtin "max") ["default"] (fun xs zs H Q => ∃ (a : Addr) (ns : List Int) (d : Int), xs = [.ref a] ∧ zs = [.int d] ∧ SqL X.K H a (ns.map V.int) ∧ Q (.int (maxI d ns)) H) := by
  intro pins s σ H xs zs us ws Q I r rz h
  obtain ⟨a, ns, d, rfl, rfl, hs, q⟩ := h
  obtain ⟨u, rfl, ru⟩ := vals1 r
  obtain ⟨w', rfl, rw'⟩ := vals1 rz
  cases ru
  obtain ⟨t, rfl⟩ := rw'
  obtain ⟨its, rv, pl, hz⟩ := I.list hs
  have da : ∀ ns : List Int, DpAll X.K H (ns.map V.int) (ns.map PyData.int) := fun ns => by
    induction ns with
    | nil => exact .nil
    | cons n r ih => exact .cons (.int n) ih
  obtain ⟨as, hr, _⟩ := Dp.rds I (ns.map PyData.int) _ its (da ns) rv
  have dp0 : ∀ ns : List Int, PyData.depthAll (ns.map PyData.int) = 0 := fun ns => by
    induction ns with
    | nil => simp [PyData.depthAll]
    | cons n r ih => simp [PyData.depthAll, PyData.depth, ih]
  refine PySem.W.max_list_default (vs := its.toArray) (I.ok.hd hc) pl.isList hr ⟨fun x hx y hy => ?_, fun x hx => ?_⟩ (by rw [dp0]; omega) (fun e h' tk hk => ?_) (fun y ys i v h' tk bs e hv hrd hk => ?_)
  · obtain ⟨i, _, rfl⟩ := List.mem_map.mp hx
    obtain ⟨j, _, rfl⟩ := List.mem_map.mp hy
    simp [PySem.W.alike]
  · obtain ⟨i, _, rfl⟩ := List.mem_map.mp hx
    intro z
    cases z
  · cases ns with
    | nil => exact ⟨.int d, H, I.kept hk, ⟨t, rfl⟩, q⟩
    | cons n r => cases e
  · cases ns with
    | nil => cases e
    | cons n r =>
      cases e
      rw [PySem.W.maxD_ints] at hrd
      cases hrd
      exact ⟨.int (r.foldl max n), H, I.kept hk, ⟨_, rfl⟩, q⟩
theorem fold_max : ∀ (r : List Int) (n : Int), (r.foldl max n = n ∨ r.foldl max n ∈ r) ∧ n ≤ r.foldl max n ∧ ∀ x ∈ r, x ≤ r.foldl max n
  | [], n => ⟨.inl rfl, Int.le_refl _, fun x h => by cases h⟩
  | a :: r, n => by
    obtain ⟨h1, h2, h3⟩ := fold_max r (max n a)
    rw [List.foldl_cons]
    refine ⟨?_, by omega, fun x hx => ?_⟩
    · rcases h1 with h1 | h1
      · rw [h1]
        by_cases c : n ≤ a
        · exact .inr (by rw [Int.max_eq_right c]; exact List.mem_cons_self)
        · exact .inl (Int.max_eq_left (by omega))
      · exact .inr (List.mem_cons_of_mem _ h1)
    · rcases List.mem_cons.mp hx with rfl | hx
      · omega
      · exact h3 x hx
theorem maxI_mem {d : Int} {l : List Int} (h : l ≠ []) : maxI d l ∈ l ∧ ∀ x ∈ l, x ≤ maxI d l := by
  cases l with
  | nil => exact absurd rfl h
  | cons n r =>
    obtain ⟨h1, h2, h3⟩ := fold_max r n
    refine ⟨?_, fun x hx => ?_⟩
    · rcases h1 with h1 | h1
      · show r.foldl max n ∈ n :: r
        rw [h1]
        exact List.mem_cons_self
      · exact List.mem_cons_of_mem _ h1
    · rcases List.mem_cons.mp hx with rfl | hx
      · exact h2
      · exact h3 x hx
/-! _law_size, _law_deep -/
theorem pl_isG {n m : Nat} {p : PyData} (h : plB (grB n) m p = true) : (isG p = false ∧ szP (szG n) p = 0) ∨ (isG p = true ∧ grB n p = true ∧ szP (szG n) p = szG n p) := by
  rcases pl_cases h with ⟨i, rfl, _⟩ | ⟨j, rfl, _⟩ | ⟨y, r, rfl, hg⟩
  · exact .inl ⟨rfl, rfl⟩
  · exact .inl ⟨isG_tie j, rfl⟩
  · exact .inr ⟨isG_graph y r, hg, rfl⟩
theorem box_sum {n m : Nat} : ∀ {ps : List PyData}, (∀ p ∈ ps, plB (grB n) m p = true) → ((ps.filter isG).map (szG n)).sum = (ps.map (szP (szG n))).sum
  | [], _ => rfl
  | p :: ps, h => by
    have ih := box_sum (ps := ps) fun z hz => h z (List.mem_cons_of_mem _ hz)
    rcases pl_isG (h p List.mem_cons_self) with ⟨h1, h2⟩ | ⟨h1, _, h2⟩
    · rw [List.filter_cons_of_neg (by rw [h1]; decide), List.map_cons, List.sum_cons, h2, ih]
      omega
    · rw [List.filter_cons_of_pos h1, List.map_cons, List.sum_cons, List.map_cons, List.sum_cons, h2, ih]
theorem inner_sum {n m : Nat} : ∀ {bs : List PyData}, (∀ b ∈ bs, bxB (grB n) m b = true) → ((bs.flatMap boxInner).map (szG n)).sum = (bs.map (szB (szG n))).sum ∧ ∀ z ∈ bs.flatMap boxInner, grB n z = true
  | [], _ => ⟨rfl, fun z h => by cases h⟩
  | b :: bs, h => by
    obtain ⟨i1, i2⟩ := inner_sum (bs := bs) fun z hz => h z (List.mem_cons_of_mem _ hz)
    obtain ⟨p, q, r, rfl, hpl⟩ := bx3 (h b List.mem_cons_self)
    rw [List.flatMap_cons, List.map_append, List.sum_append, i1, List.map_cons, List.sum_cons]
    refine ⟨congrArg (· + _) (box_sum hpl), fun z hz => ?_⟩
    rcases List.mem_append.mp hz with hz | hz
    · obtain ⟨h1, h2⟩ := List.mem_filter.mp (show z ∈ [p, q, r].filter isG from hz)
      rcases pl_isG (hpl z h1) with ⟨e, _⟩ | ⟨_, e, _⟩
      · rw [e] at h2
        cases h2
      · exact e
    · exact i2 z hz
section
open PySem.Spec PyProof.Rows LamX
variable {P : Program} {w : World} {K : PySem.W.Frag} {mg : Str → Option Value} {base : Heap} {f : Addr} {fd : FuncData}
def spLSize (K : PySem.W.Frag) (n : Nat) : Sp := fun vs H Q _ => ∃ (x : V) (d : PyData), vs = [x] ∧ Dp K H x d ∧ n ≤ 4 ∧ grB n d = true ∧ ∀ H', Same H H' → Q (.int (szG n d : Nat)) H'
theorem scLSize : FnScope ["_law_graph_here", "_law_inner_here"] ["_law_graph_here"] (defScope sSize) := ⟨rfl, rfl, rfl, by decide +kernel, rfl, by decide +kernel, by decide +kernel⟩
theorem ok_lsize {k n : Nat} (F : Fun K "_law_size" "_law_size" sSize f fd) (T : Free mg) (cI : Cal P w K mg base "_law_inner" k ["_law_graph_here"] (spInner K)) (cS : Cal P w K mg base "_law_size" k ["_law_graph_here"] (spLSize K n)) : FnOk P w K mg base CX0 (k + 1) f fd ["_law_graph_here"] (spLSize K (n + 1)) := by
  refine F.ok scLSize (fun vs H Q E h => ?_) (fun cdv A outer s H vs Q E hr h => ?_)
  · obtain ⟨x, d, rfl, _⟩ := h
    rfl
  obtain ⟨x, d, rfl, hx, n4, hg, q⟩ := h
  refine ⟨_, pss_one (ps_ret (pe_op op_add (pe_callB call_len_seq rfl T.len PySem.boot_len (pa_cons (pv 0) pa_nil)) (pe_callB (cr_sum rfl) rfl T.sum (by decide +kernel) (pa_cons
    (pe_lc (own := [("_law_inner_here", 1)]) (g := gName 1) (tt := tYes) (te := tCall (spLSize K n) [] E0 (tCons (tVar 1) tNil)) rfl scLSize.nd (pi_list (pe_cal cI hr rfl (pa_cons (pv 0) pa_nil)))
      (blkOk_by (own := [("_law_inner_here", 1)]) (N := ["_law_graph_here", "_law_inner_here"]) (sc := defScope sSize) (by decide +kernel))
      (fun _ _ _ _ _ => pg_name (i := 1) scLSize.nd rfl (Or.inl rfl)) (fun _ _ _ _ _ => pts_nil) (fun _ _ _ _ _ => pe_cal cS hr rfl (pa_cons (pv 1) pa_nil))) pa_nil)))), ?_⟩
  obtain ⟨m, bs, e, rfl, l1, l8, hall⟩ := gr_is hg
  cases e
  obtain ⟨isum, igr⟩ := inner_sum hall
  cases hx with
  | @tup a xs _ ht ha =>
    have lx := dpAll_len ha
    refine ⟨_, rfl, a, xs, rfl, .inr ht, ?_⟩
    refine ⟨_, rfl, .ref a, .tuple bs, n + 1, rfl, .tup ht ha, n4, hg, fun p ls H1 s1 hp hl hd => ?_⟩
    refine ⟨p, rfl, ⟨ls, SqL.of hp⟩, fun D hD => ?_⟩
    have hd : DpAll K H1 ls (bs.flatMap boxInner) := hd
    have ll := dpAll_len hd
    refine lc_list (xs := ls) (fun j H2 => Same H1 H2 ∧ H2 D = some (.lst ((((bs.flatMap boxInner).take j).map fun z => ((szG n z : Nat) : Int)).map V.int))) ⟨same_new hD _, by rw [upd_same]; rfl⟩
      (fun j H2 _ h => SqL.of (h.1 _ _ hp)) (fun j z H2 hz h => ?_) (fun H2 h => ?_)
    · obtain ⟨s2, hk⟩ := h
      obtain ⟨pd, hpd, hdz⟩ := dpAll_get' (dps_same s2 hd) hz
      have hj : j < ls.length := (List.getElem?_eq_some_iff.mp hz).1
      refine ⟨rfl, yesG ⟨_, rfl, z, pd, rfl, hdz, by omega, igr pd (List.mem_of_getElem? hpd), fun H3 s3 => ⟨_, s3 _ _ hk, ?_, same_upd2 (s2.trans s3) hD, ?_⟩⟩⟩
      · rw [List.length_map, List.length_map, List.length_take]
        exact Nat.lt_of_lt_of_le (show _ < 1000 by omega) (small (Nat.le_refl _))
      · rw [upd_same, take_more hpd, List.map_append, List.map_append]
        rfl
    · obtain ⟨s2, hk⟩ := h
      rw [ll, List.take_length] at hk
      refine ⟨D, _, rfl, SqL.of hk, _, _, rfl, rfl, ?_⟩
      have es : ∀ l : List PyData, (l.map fun z => ((szG n z : Nat) : Int)).sum = (((l.map (szG n)).sum : Nat) : Int) := fun l => by
        induction l with
        | nil => rfl
        | cons z l ih => rw [List.map_cons, List.sum_cons, List.map_cons, List.sum_cons, ih]; omega
      have r := q H2 (s1.trans s2)
      rw [lx, es, isum]
      have e : ((szG (n + 1) (.tuple bs) : Nat) : Int) = (bs.length : Int) + (((bs.map (szB (szG n))).sum : Nat) : Int) := by
        show ((bs.length + (bs.map (szB (szG n))).sum : Nat) : Int) = _
        omega
      rw [e] at r
      exact r
theorem all_lsize {k : Nat} (F : Fun K "_law_size" "_law_size" sSize f fd) (hm : mg "_law_size" = some (.ref f)) (hb : Binds K fd ["_law_graph_here"] []) (T : Free mg) (cI : Cal P w K mg base "_law_inner" k ["_law_graph_here"] (spInner K)) : ∀ n, FnOk P w K mg base CX0 (k + n) f fd ["_law_graph_here"] (spLSize K n)
  | 0 => ⟨(fun vs H Q E h => by obtain ⟨x, d, _, _, _, h, _⟩ := h; cases d <;> cases h), (fun A outer s H args us vs Q E hr he hb hv h => by obtain ⟨x, d, _, _, _, h, _⟩ := h; cases d <;> cases h)⟩
  | n + 1 => ok_lsize (k := k + n) F T (cI.mono (by omega)) ⟨f, fd, all_lsize F hm hb T cI n, hm, F.kp, hb⟩
def spLDeep (K : PySem.W.Frag) (n : Nat) : Sp := fun vs H Q _ => ∃ (x : V) (d : PyData), vs = [x] ∧ Dp K H x d ∧ n ≤ 4 ∧ grB n d = true ∧ ∀ (c : Int) H', Same H H' → 0 ≤ c → c ≤ n → Q (.int c) H'
theorem scLDeep : FnScope ["_law_graph_here", "_law_inner_here"] ["_law_graph_here"] (defScope sDeep) := ⟨rfl, rfl, rfl, by decide +kernel, rfl, by decide +kernel, by decide +kernel⟩
theorem ok_ldeep {k n : Nat} (F : Fun K "_law_deep" "_law_deep" sDeep f fd) (T : Free mg) (cI : Cal P w K mg base "_law_inner" k ["_law_graph_here"] (spInner K)) (cS : Cal P w K mg base "_law_deep" k ["_law_graph_here"] (spLDeep K n)) : FnOk P w K mg base CX0 (k + 1) f fd ["_law_graph_here"] (spLDeep K (n + 1)) := by
  refine F.ok scLDeep (fun vs H Q E h => ?_) (fun cdv A outer s H vs Q E hr h => ?_)
  · obtain ⟨x, d, rfl, _⟩ := h
    rfl
  obtain ⟨x, d, rfl, hx, n4, hg, q⟩ := h
  refine ⟨_, pss_one (ps_ret (pe_op op_add pe_int (pe_callBK (call_maxD rfl hr.units) rfl T.max (by decide +kernel) (pa_cons
    (pe_lc (own := [("_law_inner_here", 1)]) (g := gName 1) (tt := tYes) (te := tCall (spLDeep K n) [] E0 (tCons (tVar 1) tNil)) rfl scLDeep.nd (pi_list (pe_cal cI hr rfl (pa_cons (pv 0) pa_nil)))
      (blkOk_by (own := [("_law_inner_here", 1)]) (N := ["_law_graph_here", "_law_inner_here"]) (sc := defScope sDeep) (by decide +kernel))
      (fun _ _ _ _ _ => pg_name (i := 1) scLDeep.nd rfl (Or.inl rfl)) (fun _ _ _ _ _ => pts_nil) (fun _ _ _ _ _ => pe_cal cS hr rfl (pa_cons (pv 1) pa_nil))) pa_nil) (pk_cons pe_int pk_nil)))), ?_⟩
  obtain ⟨m, bs, e, rfl, l1, l8, hall⟩ := gr_is hg
  cases e
  obtain ⟨_, igr⟩ := inner_sum hall
  refine ⟨_, rfl, x, .tuple bs, n + 1, rfl, hx, n4, hg, fun p ls H1 s1 hp hl hd => ?_⟩
  refine ⟨p, rfl, ⟨ls, SqL.of hp⟩, fun D hD => ?_⟩
  have hd : DpAll K H1 ls (bs.flatMap boxInner) := hd
  have ll := dpAll_len hd
  refine lc_list (xs := ls) (fun j H2 => Same H1 H2 ∧ ∃ ks : List Int, H2 D = some (.lst (ks.map V.int)) ∧ ks.length = j ∧ ∀ c ∈ ks, 0 ≤ c ∧ c ≤ (n : Int)) ⟨same_new hD _, [], upd_same, rfl, fun c h => by cases h⟩
    (fun j H2 _ h => SqL.of (h.1 _ _ hp)) (fun j z H2 hz h => ?_) (fun H2 h => ?_)
  · obtain ⟨s2, ks, hk, lk, rk⟩ := h
    obtain ⟨pd, hpd, hdz⟩ := dpAll_get' (dps_same s2 hd) hz
    have hj : j < ls.length := (List.getElem?_eq_some_iff.mp hz).1
    refine ⟨rfl, yesG ⟨_, rfl, z, pd, rfl, hdz, by omega, igr pd (List.mem_of_getElem? hpd), fun c H3 s3 c0 c1 => ⟨_, s3 _ _ hk, ?_, same_upd2 (s2.trans s3) hD, ks ++ [c], ?_, by rw [List.length_append, lk]; rfl, fun c' hc => ?_⟩⟩⟩
    · rw [List.length_map]
      exact Nat.lt_of_lt_of_le (show _ < 1000 by omega) (small (Nat.le_refl _))
    · rw [upd_same, List.map_append]
      rfl
    · rcases List.mem_append.mp hc with hc | hc
      · exact rk c' hc
      · rw [List.mem_singleton.mp hc]
        exact ⟨c0, c1⟩
  · obtain ⟨s2, ks, hk, lk, rk⟩ := h
    refine ⟨D, ks, 0, rfl, rfl, SqL.of hk, _, _, rfl, rfl, ?_⟩
    have b : 0 ≤ maxI 0 ks ∧ maxI 0 ks ≤ (n : Int) := by
      cases ks with
      | nil => exact ⟨Int.le_refl _, by show (0 : Int) ≤ n; omega⟩
      | cons c cs => exact rk _ (maxI_mem (d := 0) (l := c :: cs) (by simp)).1
    exact q _ H2 (s1.trans s2) (by omega) (by omega)
theorem all_ldeep {k : Nat} (F : Fun K "_law_deep" "_law_deep" sDeep f fd) (hm : mg "_law_deep" = some (.ref f)) (hb : Binds K fd ["_law_graph_here"] []) (T : Free mg) (cI : Cal P w K mg base "_law_inner" k ["_law_graph_here"] (spInner K)) : ∀ n, FnOk P w K mg base CX0 (k + n) f fd ["_law_graph_here"] (spLDeep K n)
  | 0 => ⟨(fun vs H Q E h => by obtain ⟨x, d, _, _, _, h, _⟩ := h; cases d <;> cases h), (fun A outer s H args us vs Q E hr he hb hv h => by obtain ⟨x, d, _, _, _, h, _⟩ := h; cases d <;> cases h)⟩
  | n + 1 => ok_ldeep (k := k + n) F T (cI.mono (by omega)) ⟨f, fd, all_ldeep F hm hb T cI n, hm, F.kp, hb⟩
end
/-! _law_graph -/
theorem bx_tup {n m : Nat} {b : PyData} (h : bxB (grB n) m b = true) : tupOnly b = true := by
  obtain ⟨p, q, r, rfl, hpl⟩ := bx3 h
  exact (shp_tup (k := 2 * n + 1) fun z hz => pl_shp (grB_shp n) (hpl z hz)).1
section
open PySem.Spec PyProof.Rows LamX
variable {P : Program} {w : World} {K : PySem.W.Frag} {mg : Str → Option Value} {base : Heap} {f : Addr} {fd : FuncData}
def spLGraph (K : PySem.W.Frag) (n : Nat) : Sp := fun vs H Q _ => ∃ (st : Addr) (most : Int), vs = [.ref st, .int (n : Nat), .int most] ∧ 1 ≤ n ∧ n ≤ 4 ∧ 1 ≤ most ∧ most ≤ 8 ∧ StAt H st ∧ ∀ v d H', Mv st H H' → Dp K H' v d → grB n d = true → Q v H'
abbrev lgN : List Str := ["_law_state_here", "_law_deep_here", "_law_most", "_law_many", "_law_boxes_here", "_law_turn", "_law_box", "_law_place_here", "_law_way"]
theorem scLGraph : FnScope lgN ["_law_state_here", "_law_deep_here", "_law_most"] (defScope sGraph) := ⟨rfl, rfl, rfl, by decide +kernel, rfl, by decide +kernel, by decide +kernel⟩
/-- a list of ours: its parts, kept through draws -/
structure Lx (K : PySem.W.Frag) (st : Addr) (H G : Hp) (R : Addr) (vs : List V) (ds : List PyData) : Prop where
  mv : Mv st H G
  nH : H R = none
  ne : R ≠ st
  at_ : G R = some (.lst vs)
  dp : DpAll K G vs ds
  tup : ∀ d ∈ ds, tupOnly d = true
theorem Lx.move {st : Addr} {H G G' : Hp} {R : Addr} {vs : List V} {ds : List PyData} (b : Lx K st H G R vs ds) (m : Mv st G G') : Lx K st H G' R vs ds :=
  ⟨⟨b.mv.kp.trans m.kp, m.sa⟩, b.nH, b.ne, m.kp _ _ b.ne b.at_, dpAll_kt (m.kp.kt b.mv.sa) _ _ (tupOnly_all b.tup) b.dp, b.tup⟩
theorem Lx.put {st : Addr} {H G : Hp} {R : Addr} {vs : List V} {ds : List PyData} {v : V} {d : PyData} (b : Lx K st H G R vs ds) (hv : Dp K G v d) (ht : tupOnly d = true) : Lx K st H (upd G R (.lst (vs ++ [v]))) R (vs ++ [v]) (ds ++ [d]) := by
  have kt : KT G (upd G R (.lst (vs ++ [v]))) := KT.upd b.at_
  have tp : ∀ e ∈ ds ++ [d], tupOnly e = true := fun e he => by
    rcases List.mem_append.mp he with he | he
    · exact b.tup e he
    · rw [List.mem_singleton.mp he]
      exact ht
  exact ⟨⟨b.mv.kp.upd b.nH, b.mv.sa.upd b.ne⟩, b.nH, b.ne, upd_same, dpAll_kt kt _ _ (tupOnly_all tp) (dpAll_snoc hv b.dp), tp⟩
/-- another list of ours is written -/
theorem Lx.other {st : Addr} {H G : Hp} {R S : Addr} {vs ws ws' : List V} {ds : List PyData} (b : Lx K st H G R vs ds) (h : G S = some (.lst ws)) (n : R ≠ S) (ns : S ≠ st) (hS : H S = none) : Lx K st H (upd G S (.lst ws')) R vs ds :=
  ⟨⟨b.mv.kp.upd hS, b.mv.sa.upd ns⟩, b.nH, b.ne, by rw [upd_ne n]; exact b.at_, dpAll_kt (KT.upd h) _ _ (tupOnly_all b.tup) b.dp, b.tup⟩
set_option maxHeartbeats 1000000 in
theorem ok_lgraph {k n : Nat} (F : Fun K "_law_graph" "_law_graph" sGraph f fd) (T : Free mg) (cC : Cal P w K mg base "_law_choice" k ["_law_state_here", "_law_many"] spChoice) (cG : Cal P w K mg base "_law_graph" k ["_law_state_here", "_law_deep_here", "_law_most"] (spLGraph K n)) : FnOk P w K mg base CX0 (k + 1) f fd ["_law_state_here", "_law_deep_here", "_law_most"] (spLGraph K (n + 1)) := by
  refine F.ok scLGraph (fun vs H Q E h => ?_) (fun cdv A outer s H vs Q E hr h => ?_)
  · obtain ⟨st, most, rfl, _⟩ := h
    rfl
  obtain ⟨st, most, rfl, n1, n4, m1, m8, sa, q⟩ := h
  refine ⟨_, pss_cons (ps_set (i := 3) scLGraph.nd rfl (.inl rfl) (pe_op op_add pe_int (pe_cal cC hr rfl (pa_cons (pv 0) (pa_cons (pv 2) pa_nil)))))
    (pss_cons (ps_set (i := 4) scLGraph.nd rfl (.inl rfl) (pe_lst pa_nil))
    (pss_cons (ps_for PassesOwn.never rfl (pi_range1 rfl T.range (pa_cons (pv 3) pa_nil)) (pg_name (i := 5) scLGraph.nd rfl (.inl rfl))
      (pss_cons (ps_set (i := 6) scLGraph.nd rfl (.inl rfl) (pe_lst pa_nil))
      (pss_cons (ps_for PassesOwn.never rfl (pi_range1 rfl T.range (pa_cons pe_int pa_nil)) (pg_name (i := 7) scLGraph.nd rfl (.inl rfl))
        (pss_cons (ps_set (i := 8) scLGraph.nd rfl (.inl rfl) (pe_cal cC hr rfl (pa_cons (pv 0) (pa_cons pe_int pa_nil))))
        (pss_one (ps_if (PW.pt (pw_and (pt_cmpR op_eq (pv 8) pe_int (nomark _)) (pw_and1 (pt_cmpR op_gt (pv 1) pe_int (nomark _)))))
          (pss_one (ps_expr (pe_bm PySem.F.plainAttrs_list PySem.F.slot_list_append PySem.F.type_list_append mt_append (pv 6) (pa_cons (pe_cal cG hr rfl (pa_cons (pv 0) (pa_cons (pe_op op_sub (pv 1) pe_int) (pa_cons pe_int pa_nil)))) pa_nil))))
          (pss_one (ps_if (pt_cmpR op_lt (pv 8) pe_int (nomark _))
            (pss_one (ps_expr (pe_bm PySem.F.plainAttrs_list PySem.F.slot_list_append PySem.F.type_list_append mt_append (pv 6) (pa_cons (pe_tup (pa_cons pe_str (pa_cons (pe_cal cC hr rfl (pa_cons (pv 0) (pa_cons (pv 3) pa_nil))) pa_nil))) pa_nil))))
            (pss_one (ps_expr (pe_bm PySem.F.plainAttrs_list PySem.F.slot_list_append PySem.F.type_list_append mt_append (pv 6) (pa_cons (pe_ix ix_list (pe_lst (pa_cons pe_int (pa_cons pe_int (pa_cons (pe_un un_neg pe_int) (pa_cons pe_int (pa_cons (pe_un un_neg pe_int) (pa_cons (pe_op op_sub (pe_cal cC hr rfl (pa_cons (pv 0) (pa_cons pe_int pa_nil))) pe_int) pa_nil))))))) (pe_cal cC hr rfl (pa_cons (pv 0) (pa_cons pe_int pa_nil))) (fun _ _ => rfl)) pa_nil))))))))))
      (pss_one (ps_expr (pe_bm PySem.F.plainAttrs_list PySem.F.slot_list_append PySem.F.type_list_append mt_append (pv 4) (pa_cons (pe_callTy call_tuple_of rfl T.tuple (by decide +kernel) (pa_cons (pv 6) pa_nil)) pa_nil)))))))
    (pss_one (ps_ret (pe_callTy call_tuple_of rfl T.tuple (by decide +kernel) (pa_cons (pv 4) pa_nil)))))), ?_⟩
  refine ⟨_, rfl, _, rfl, st, most, rfl, sa, by omega, by omega, fun r H1 r0 r1 mv1 => ⟨_, _, rfl, rfl, ?_⟩⟩
  refine ⟨small (Nat.zero_le _), fun B hB => ?_⟩
  have nBst := mv1.sa.ne hB
  have nBH : H B = none := mv1.kp.free nBst hB
  have sB := same_new hB (.lst [])
  have b0 : Lx K st H (upd H1 B (.lst [])) B [] [] := ⟨⟨mv1.kp.trans (Kp.of_same sB), mv1.sa.same sB⟩, nBH, nBst, upd_same, .nil, fun d h => by cases h⟩
  refine ⟨_, rfl, 1 + r, rfl, by omega, by omega, ?_⟩
  refine for_range (lo := 0) (n := (1 + r).toNat) (fun i σ G => ∃ (vs : List V) (ds : List PyData) (o5 o6 o7 o8 : Option V), σ = [some (.ref st), some (.int ((n + 1 : Nat) : Int)), some (.int most), some (.int (1 + r)), some (.ref B), o5, o6, o7, o8] ∧ Lx K st H G B vs ds ∧ ds.length = i ∧ ∀ d ∈ ds, bxB (grB n) (1 + r).toNat d = true)
    ⟨[], [], _, _, _, _, rfl, b0, rfl, fun d h => by cases h⟩ (fun i σ G hi h => ?_) (fun σ G h => ?_)
  · obtain ⟨vs, ds, o5, o6, o7, o8, rfl, b, li, okb⟩ := h
    refine ⟨small (Nat.zero_le _), fun X hX => ?_⟩
    have nXst := b.mv.sa.ne hX
    have nXH : H X = none := b.mv.kp.free nXst hX
    have neBX : B ≠ X := fun e => by rw [← e, b.at_] at hX; cases hX
    have sX := same_new hX (.lst [])
    have bB := b.move ⟨Kp.of_same sX, b.mv.sa.same sX⟩
    have bX : Lx K st H (upd G X (.lst [])) X [] [] := ⟨bB.mv, nXH, nXst, upd_same, .nil, fun d h => by cases h⟩
    refine ⟨3, rfl, by decide, by decide, ?_⟩
    refine for_range (lo := 0) (n := 3) (fun j σ G => ∃ (xs : List V) (es : List PyData) (o7 o8 : Option V), σ = [some (.ref st), some (.int ((n + 1 : Nat) : Int)), some (.int most), some (.int (1 + r)), some (.ref B), some (.int (0 + (i : Int))), some (.ref X), o7, o8] ∧ Lx K st H G B vs ds ∧ Lx K st H G X xs es ∧ es.length = j ∧ ∀ e ∈ es, plB (grB n) (1 + r).toNat e = true)
      ⟨[], [], _, _, rfl, bB, bX, rfl, fun d h => by cases h⟩ (fun j σ G hj h => ?_) (fun σ G h => ?_)
    · obtain ⟨xs, es, o7, o8, rfl, cB, cX, lj, oke⟩ := h
      refine ⟨_, rfl, st, 6, rfl, cB.mv.sa, by decide, by decide, fun wy G1 w0 w1 mvw => ?_⟩
      have dB := cB.move mvw
      have dX := cX.move mvw
      have lxs := dpAll_len dX.dp
      have put : ∀ (G2 : Hp) (v : V) (e : PyData), Mv st G1 G2 → Dp K G2 v e → tupOnly e = true → plB (grB n) (1 + r).toNat e = true → G2 X = some (.lst xs) ∧ xs.length < sizeLine ∧ Lx K st H (upd G2 X (.lst (xs ++ [v]))) B vs ds ∧ Lx K st H (upd G2 X (.lst (xs ++ [v]))) X (xs ++ [v]) (es ++ [e]) ∧ (es ++ [e]).length = j + 1 ∧ ∀ z ∈ es ++ [e], plB (grB n) (1 + r).toNat z = true := fun G2 v e m hv ht hp => by
        have eB := dB.move m
        have eX := dX.move m
        refine ⟨eX.at_, Nat.lt_of_lt_of_le (show _ < 1000 by omega) (small (Nat.le_refl _)), eB.other eX.at_ neBX nXst nXH, eX.put hv ht, by rw [List.length_append, lj]; rfl, fun z hz => ?_⟩
        rcases List.mem_append.mp hz with hz | hz
        · exact oke z hz
        · rw [List.mem_singleton.mp hz]
          exact hp
      have num : ∀ c : Int, -9999 ≤ c → c ≤ 9999 → plB (grB n) (1 + r).toNat (.int c) = true := fun c c0 c1 => decide_eq_true ⟨c0, c1⟩
      have draw : ∀ (X1 : Prop), X1 → X1 := fun _ h => h
      have rest : ∀ (P1 : Prop), P1 → P1 := fun _ h => h
      by_cases cw : wy = 0 ∧ 1 < n + 1
      · refine ⟨_, rfl, rfl, _, rfl, ifT (by rw [cw.1]; exact decide_eq_true rfl) ⟨_, rfl, _, _, rfl, rfl, _, rfl, ifT (decide_eq_true (by omega)) ?_⟩⟩
        refine ⟨_, rfl, .inl ⟨rfl, _, SqL.of dX.at_⟩, _, rfl, _, rfl, _, _, rfl, rfl, st, 2, ?_, by omega, by omega, by decide, by decide, dX.mv.sa, fun v d G2 m hv hg => ?_⟩
        · show [V.ref st, V.int (((n + 1 : Nat) : Int) - 1), V.int 2] = _
          rw [show ((n + 1 : Nat) : Int) - 1 = (n : Nat) by omega]
        · have hsh := grB_shp n d hg
          have hpl : plB (grB n) (1 + r).toNat d = true := by
            obtain ⟨m', bs, e, rfl, l1, l8, hall⟩ := gr_is hg
            cases bs with
            | nil => cases l1
            | cons b1 br =>
              obtain ⟨p1, p2, p3, rfl, _⟩ := bx3 (hall b1 List.mem_cons_self)
              exact hg
          obtain ⟨z1, z2, z3, z4, z5, z6⟩ := put G2 v d m hv hsh.1 hpl
          exact ⟨X, _, _, rfl, rfl, z1, z2, _, _, _, _, rfl, z3, z4, z5, z6⟩
      · by_cases cz : wy = 0
        · refine ⟨_, rfl, rfl, _, rfl, ifT (by rw [cz]; exact decide_eq_true rfl) ⟨_, rfl, _, _, rfl, rfl, _, rfl, ifF (decide_eq_false (fun z => cw ⟨cz, by omega⟩)) ⟨_, rfl, _, _, rfl, rfl, _, rfl, ?_⟩⟩⟩
          by_cases c3 : wy < 3
          · refine ifT (decide_eq_true c3) ⟨_, rfl, .inl ⟨rfl, _, SqL.of dX.at_⟩, _, rfl, _, rfl, st, 1 + r, rfl, dX.mv.sa, by omega, by omega, fun u G2 u0 u1 m => ⟨small (by show 2 ≤ 1000; decide), fun p hp => ?_⟩⟩
            have sp := same_new hp (.tup [.str "tie", .int u])
            obtain ⟨z1, z2, z3, z4, z5, z6⟩ := put _ (.ref p) (.tuple [.str "tie", .int u]) ⟨m.kp.trans (Kp.of_same sp), m.sa.same sp⟩ (.tup (SqT.of upd_same) (.cons (.str _) (.cons (.int _) .nil))) rfl (decide_eq_true ⟨rfl, u0, by omega⟩)
            exact ⟨X, _, _, rfl, rfl, z1, z2, _, _, _, _, rfl, z3, z4, z5, z6⟩
          · refine ifF (decide_eq_false c3) ⟨_, rfl, .inl ⟨rfl, _, SqL.of dX.at_⟩, 1, rfl, 9999, rfl, _, rfl, st, 19999, rfl, dX.mv.sa, by decide, by decide, fun u G2 u0 u1 m2 => ⟨_, _, rfl, rfl, small (by show 6 ≤ 1000; decide), fun pl hpl => ?_⟩⟩
            have spl := same_new hpl (.lst [.int 0, .int 1, .int (-1), .int 9999, .int (-9999), .int (u - 9999)])
            have nps : pl ≠ st := m2.sa.ne hpl
            refine ⟨_, rfl, st, 6, rfl, m2.sa.same spl, by decide, by decide, fun y G3 y0 y1 m3 => ?_⟩
            obtain ⟨c, hc, c0, c1⟩ : ∃ c : Int, atI [V.int 0, .int 1, .int (-1), .int 9999, .int (-9999), .int (u - 9999)] y = some (.int c) ∧ -9999 ≤ c ∧ c ≤ 9999 := by
              have : y = 0 ∨ y = 1 ∨ y = 2 ∨ y = 3 ∨ y = 4 ∨ y = 5 := by omega
              rcases this with rfl | rfl | rfl | rfl | rfl | rfl
              · exact ⟨_, atI_at (by decide) rfl, by omega, by omega⟩
              · exact ⟨_, atI_at (by decide) rfl, by omega, by omega⟩
              · exact ⟨_, atI_at (by decide) rfl, by omega, by omega⟩
              · exact ⟨_, atI_at (by decide) rfl, by omega, by omega⟩
              · exact ⟨_, atI_at (by decide) rfl, by omega, by omega⟩
              · exact ⟨_, atI_at (by decide) rfl, by omega, by omega⟩
            have m13 : Mv st G1 G3 := ⟨(m2.kp.trans (Kp.of_same spl)).trans m3.kp, m3.sa⟩
            obtain ⟨z1, z2, z3, z4, z5, z6⟩ := put G3 (.int c) (.int c) m13 (.int c) rfl (num c c0 c1)
            exact ⟨pl, _, y, .int c, rfl, rfl, SqL.of (m3.kp _ _ nps upd_same), hc, X, _, _, rfl, rfl, z1, z2, _, _, _, _, rfl, z3, z4, z5, z6⟩
        · refine ⟨_, rfl, rfl, _, rfl, ifF (decide_eq_false (fun z => cz (by injection z))) ⟨_, rfl, _, _, rfl, rfl, _, rfl, ?_⟩⟩
          by_cases c3 : wy < 3
          · refine ifT (decide_eq_true c3) ⟨_, rfl, .inl ⟨rfl, _, SqL.of dX.at_⟩, _, rfl, _, rfl, st, 1 + r, rfl, dX.mv.sa, by omega, by omega, fun u G2 u0 u1 m => ⟨small (by show 2 ≤ 1000; decide), fun p hp => ?_⟩⟩
            have sp := same_new hp (.tup [.str "tie", .int u])
            obtain ⟨z1, z2, z3, z4, z5, z6⟩ := put _ (.ref p) (.tuple [.str "tie", .int u]) ⟨m.kp.trans (Kp.of_same sp), m.sa.same sp⟩ (.tup (SqT.of upd_same) (.cons (.str _) (.cons (.int _) .nil))) rfl (decide_eq_true ⟨rfl, u0, by omega⟩)
            exact ⟨X, _, _, rfl, rfl, z1, z2, _, _, _, _, rfl, z3, z4, z5, z6⟩
          · refine ifF (decide_eq_false c3) ⟨_, rfl, .inl ⟨rfl, _, SqL.of dX.at_⟩, 1, rfl, 9999, rfl, _, rfl, st, 19999, rfl, dX.mv.sa, by decide, by decide, fun u G2 u0 u1 m2 => ⟨_, _, rfl, rfl, small (by show 6 ≤ 1000; decide), fun pl hpl => ?_⟩⟩
            have spl := same_new hpl (.lst [.int 0, .int 1, .int (-1), .int 9999, .int (-9999), .int (u - 9999)])
            have nps : pl ≠ st := m2.sa.ne hpl
            refine ⟨_, rfl, st, 6, rfl, m2.sa.same spl, by decide, by decide, fun y G3 y0 y1 m3 => ?_⟩
            obtain ⟨c, hc, c0, c1⟩ : ∃ c : Int, atI [V.int 0, .int 1, .int (-1), .int 9999, .int (-9999), .int (u - 9999)] y = some (.int c) ∧ -9999 ≤ c ∧ c ≤ 9999 := by
              have : y = 0 ∨ y = 1 ∨ y = 2 ∨ y = 3 ∨ y = 4 ∨ y = 5 := by omega
              rcases this with rfl | rfl | rfl | rfl | rfl | rfl
              · exact ⟨_, atI_at (by decide) rfl, by omega, by omega⟩
              · exact ⟨_, atI_at (by decide) rfl, by omega, by omega⟩
              · exact ⟨_, atI_at (by decide) rfl, by omega, by omega⟩
              · exact ⟨_, atI_at (by decide) rfl, by omega, by omega⟩
              · exact ⟨_, atI_at (by decide) rfl, by omega, by omega⟩
              · exact ⟨_, atI_at (by decide) rfl, by omega, by omega⟩
            have m13 : Mv st G1 G3 := ⟨(m2.kp.trans (Kp.of_same spl)).trans m3.kp, m3.sa⟩
            obtain ⟨z1, z2, z3, z4, z5, z6⟩ := put G3 (.int c) (.int c) m13 (.int c) rfl (num c c0 c1)
            exact ⟨pl, _, y, .int c, rfl, rfl, SqL.of (m3.kp _ _ nps upd_same), hc, X, _, _, rfl, rfl, z1, z2, _, _, _, _, rfl, z3, z4, z5, z6⟩
    · obtain ⟨xs, es, o7, o8, rfl, cB, cX, lj, oke⟩ := h
      refine ⟨_, rfl, .inl ⟨rfl, _, SqL.of cB.at_⟩, _, rfl, X, xs, rfl, .inl ⟨SqL.of cX.at_, fun p hp => ?_⟩⟩
      have sp := same_new hp (.tup xs)
      have eB := cB.move ⟨Kp.of_same sp, cB.mv.sa.same sp⟩
      have lvs := dpAll_len eB.dp
      have hbx : bxB (grB n) (1 + r).toNat (.tuple es) = true := by
        match es, lj, oke with
        | [e1, e2, e3], _, oke =>
          show (plB _ _ e1 && (plB _ _ e2 && plB _ _ e3)) = true
          rw [oke e1 (by simp), oke e2 (by simp), oke e3 (by simp)]
          rfl
      refine ⟨B, _, _, rfl, rfl, eB.at_, Nat.lt_of_lt_of_le (show _ < 1000 by omega) (small (Nat.le_refl _)), vs ++ [.ref p], ds ++ [.tuple es], _, _, _, _, rfl, eB.put (.tup (SqT.of upd_same) (dps_same sp cX.dp)) (bx_tup hbx), by rw [List.length_append, li]; rfl, fun z hz => ?_⟩
      rcases List.mem_append.mp hz with hz | hz
      · exact okb z hz
      · rw [List.mem_singleton.mp hz]
        exact hbx
  · obtain ⟨vs, ds, o5, o6, o7, o8, rfl, b, li, okb⟩ := h
    refine ⟨_, rfl, B, vs, rfl, .inl ⟨SqL.of b.at_, fun p hp => ?_⟩⟩
    have sp := same_new hp (.tup vs)
    refine q (.ref p) (.tuple ds) _ ⟨b.mv.kp.trans (Kp.of_same sp), b.mv.sa.same sp⟩ (.tup (SqT.of upd_same) (dps_same sp b.dp)) ?_
    show (decide (1 ≤ ds.length ∧ ds.length ≤ 8) && ds.all (bxB (grB n) ds.length)) = true
    rw [li, decide_eq_true (show 1 ≤ (1 + r).toNat ∧ (1 + r).toNat ≤ 8 by omega), Bool.true_and, List.all_eq_true]
    exact okb
end
/-! _law_fit -/
theorem pl_mono {g g' : PyData → Bool} {m : Nat} {p : PyData} (h : ∀ d, g d = true → g' d = true) (hp : plB g m p = true) : plB g' m p = true := by
  rcases pl_cases hp with ⟨i, rfl, i0, i1⟩ | ⟨j, rfl, j0, j1⟩ | ⟨y, r, rfl, hg⟩
  · exact decide_eq_true ⟨i0, i1⟩
  · exact decide_eq_true ⟨rfl, j0, j1⟩
  · exact h _ hg
theorem bx_mono {g g' : PyData → Bool} {m : Nat} {b : PyData} (h : ∀ d, g d = true → g' d = true) (hb : bxB g m b = true) : bxB g' m b = true := by
  obtain ⟨p, q, r, rfl, hpl⟩ := bx3 hb
  show (plB g' m p && (plB g' m q && plB g' m r)) = true
  rw [pl_mono h (hpl p (by simp)), pl_mono h (hpl q (by simp)), pl_mono h (hpl r (by simp))]
  rfl
theorem grB_up : ∀ (n : Nat) (d : PyData), grB n d = true → grB (n + 1) d = true
  | 0, d, h => by cases d <;> cases h
  | n + 1, d, h => by
    obtain ⟨m, bs, e, rfl, l1, l8, hall⟩ := gr_is h
    cases e
    show (decide (1 ≤ bs.length ∧ bs.length ≤ 8) && bs.all (bxB (grB (n + 1)) bs.length)) = true
    rw [decide_eq_true ⟨l1, l8⟩, Bool.true_and, List.all_eq_true]
    exact fun b hb => bx_mono (grB_up n) (hall b hb)
theorem grB_le {n m : Nat} (h : n ≤ m) {d : PyData} (hd : grB n d = true) : grB m d = true := by
  induction h with
  | refl => exact hd
  | step _ ih => exact grB_up _ _ ih
section
open PySem.Spec PyProof.Rows LamX
variable {P : Program} {w : World} {K : PySem.W.Frag} {mg : Str → Option Value} {base : Heap} {f : Addr} {fd : FuncData}
theorem all_lgraph {k : Nat} (F : Fun K "_law_graph" "_law_graph" sGraph f fd) (hm : mg "_law_graph" = some (.ref f)) (hb : Binds K fd ["_law_state_here", "_law_deep_here", "_law_most"] []) (T : Free mg) (cC : Cal P w K mg base "_law_choice" k ["_law_state_here", "_law_many"] spChoice) : ∀ n, FnOk P w K mg base CX0 (k + n) f fd ["_law_state_here", "_law_deep_here", "_law_most"] (spLGraph K n)
  | 0 => ⟨(fun vs H Q E h => by obtain ⟨st, most, _, h, _⟩ := h; omega), (fun A outer s H args us vs Q E hr he hb hv h => by obtain ⟨st, most, _, h, _⟩ := h; omega)⟩
  | n + 1 => ok_lgraph (k := k + n) F T (cC.mono (by omega)) ⟨f, fd, all_lgraph F hm hb T cC n, hm, F.kp, hb⟩
def spLGraphA (K : PySem.W.Frag) : Sp := fun vs H Q E => ∃ n, n ≤ 4 ∧ spLGraph K n vs H Q E
theorem FnOk.anyL {k : Nat} {ps : List Str} (F : ∀ n, n ≤ 4 → FnOk P w K mg base CX0 k f fd ps (spLGraph K n)) : FnOk P w K mg base CX0 k f fd ps (spLGraphA K) :=
  ⟨fun vs H Q E ⟨n, hn, h⟩ => (F n hn).len vs H Q E h, fun A outer s H args us vs Q E h1 h2 h3 h4 ⟨n, hn, h⟩ => (F n hn).run A outer s H args us vs Q E h1 h2 h3 h4 h⟩
def spLFit (K : PySem.W.Frag) : Sp := fun vs H Q _ => ∃ (st : Addr), vs = [.ref st] ∧ StAt H st ∧ ∀ v d H', Mv st H H' → Dp K H' v d → grB 4 d = true → szG 4 d ≤ 24 → Q v H'
theorem scLFit : FnScope ["_law_state_here", "_law_graph_here"] ["_law_state_here"] (defScope sFit) := ⟨rfl, rfl, rfl, by decide +kernel, rfl, by decide +kernel, by decide +kernel⟩
theorem ok_lfit {k : Nat} (F : Fun K "_law_fit" "_law_fit" sFit f fd) (T : Free mg) (cC : Cal P w K mg base "_law_choice" k ["_law_state_here", "_law_many"] spChoice) (cG : Cal P w K mg base "_law_graph" k ["_law_state_here", "_law_deep_here", "_law_most"] (spLGraphA K)) (cS : Cal P w K mg base "_law_size" k ["_law_graph_here"] (spLSize K 4)) (cD : Cal P w K mg base "_law_deep" k ["_law_graph_here"] (spLDeep K 4)) : FnOk P w K mg base CX0 (k + 1) f fd ["_law_state_here"] (spLFit K) := by
  refine F.ok scLFit (fun vs H Q E h => ?_) (fun cdv A outer s H vs Q E hr h => ?_)
  · obtain ⟨st, rfl, _⟩ := h
    rfl
  obtain ⟨st, rfl, sa, q⟩ := h
  refine ⟨_, pss_cons (ps_set (i := 1) scLFit.nd rfl (.inl rfl) (pe_cal cG hr rfl (pa_cons (pv 0) (pa_cons (pe_op op_add pe_int (pe_cal cC hr rfl (pa_cons (pv 0) (pa_cons pe_int pa_nil)))) (pa_cons (pe_ix ix_list (pe_lst (pa_cons pe_int (pa_cons pe_int (pa_cons pe_int pa_nil)))) (pe_cal cC hr rfl (pa_cons (pv 0) (pa_cons pe_int pa_nil))) (fun _ _ => rfl)) pa_nil)))))
    (pss_one (ps_ret (pe_ifExp (PW.pt (pw_and (pt_cmpR op_lt (pe_cal cS hr rfl (pa_cons (pv 1) pa_nil)) pe_int (nomark _)) (pw_and1 (pt_cmpR op_lt (pe_cal cD hr rfl (pa_cons (pv 1) pa_nil)) pe_int (nomark _))))) (pv 1) (pe_tup (pa_cons (pe_tup (pa_cons pe_int (pa_cons pe_int (pa_cons pe_int pa_nil)))) pa_nil))))), ?_⟩
  refine ⟨_, rfl, _, rfl, st, 4, rfl, sa, by decide, by decide, fun r H1 r0 r1 m1 => ⟨_, _, rfl, rfl, small (by show 3 ≤ 1000; decide), fun pl hpl => ?_⟩⟩
  have sp := same_new hpl (.lst [.int 1, .int 3, .int 8])
  have nps : pl ≠ st := m1.sa.ne hpl
  refine ⟨_, rfl, st, 3, rfl, m1.sa.same sp, by decide, by decide, fun y H2 y0 y1 m2 => ?_⟩
  obtain ⟨c, hc, c0, c1⟩ : ∃ c : Int, atI [V.int 1, .int 3, .int 8] y = some (.int c) ∧ 1 ≤ c ∧ c ≤ 8 := by
    have : y = 0 ∨ y = 1 ∨ y = 2 := by omega
    rcases this with rfl | rfl | rfl
    · exact ⟨_, atI_at (by decide) rfl, by omega, by omega⟩
    · exact ⟨_, atI_at (by decide) rfl, by omega, by omega⟩
    · exact ⟨_, atI_at (by decide) rfl, by omega, by omega⟩
  have m12 : Mv st H H2 := ⟨(m1.kp.trans (Kp.of_same sp)).trans m2.kp, m2.sa⟩
  refine ⟨pl, _, y, .int c, rfl, rfl, SqL.of (m2.kp _ _ nps upd_same), hc, (1 + r).toNat, by omega, st, c, ?_, by omega, by omega, c0, c1, m2.sa, fun v d H3 m3 hv hg => ?_⟩
  · show [V.ref st, V.int (1 + r), V.int c] = _
    rw [show (((1 + r).toNat : Nat) : Int) = 1 + r by omega]
  have g4 := grB_le (show (1 + r).toNat ≤ 4 by omega) hg
  have tp := (grB_shp 4 d g4).1
  have m13 : Mv st H H3 := ⟨m12.kp.trans m3.kp, m3.sa⟩
  have bare : ∀ (G : Hp) (p1 p2 : Addr), Mv st H G → G p1 = none → (upd G p1 (.tup [.int 0, .int 0, .int 0])) p2 = none → Q (.ref p2) (upd (upd G p1 (.tup [.int 0, .int 0, .int 0])) p2 (.tup [.ref p1])) := fun G p1 p2 m h1 h2 => by
    have s1 := same_new h1 (.tup [.int 0, .int 0, .int 0])
    have s2 := same_new h2 (.tup [.ref p1])
    exact q (.ref p2) (.tuple [.tuple [.int 0, .int 0, .int 0]]) _ ⟨m.kp.trans (Kp.of_same (s1.trans s2)), m.sa.same (s1.trans s2)⟩ (.tup (SqT.of upd_same) (.cons (.tup (SqT.of (s2 _ _ upd_same)) (.cons (.int _) (.cons (.int _) (.cons (.int _) .nil)))) .nil)) (by decide +kernel) (by decide +kernel)
  refine ⟨_, rfl, v, d, rfl, hv, by omega, g4, fun H4 s4 => ⟨_, _, rfl, rfl, _, rfl, ?_⟩⟩
  have m14 : Mv st H H4 := ⟨m13.kp.trans (Kp.of_same s4), m13.sa.same s4⟩
  by_cases cs : szG 4 d < 25
  · refine ifT (decide_eq_true (by omega)) ⟨_, rfl, v, d, rfl, dp_same s4 hv, by omega, g4, fun c H5 s5 c0 c1 => ⟨_, _, rfl, rfl, _, rfl, ?_⟩⟩
    have m15 : Mv st H H5 := ⟨m14.kp.trans (Kp.of_same s5), m14.sa.same s5⟩
    exact ifT (decide_eq_true (by omega)) ⟨_, rfl, q v d H5 m15 (dp_same (s4.trans s5) hv) g4 (by omega)⟩
  · exact ifF (decide_eq_false (by omega)) ⟨small (by show 3 ≤ 1000; decide), fun p1 h1 => ⟨small (by show 1 ≤ 1000; decide), fun p2 h2 => bare H4 p1 p2 m14 h1 h2⟩⟩
end
/-- tables of generator expressions, tables of lambdas, apart -/
structure TbP where
  g : List Addr
  t : List (Addr × Str)
  ap : ∀ p ∈ t, p.1 ∉ g
def TabsG (PT : TbP) (H : Hp) : Prop := (∀ P ∈ PT.g, GxR.TabG H P) ∧ LamX.Tabs PT.t H
theorem TabsG.same {PT : TbP} {H H' : Hp} (t : TabsG PT H) (s : Same H H') : TabsG PT H' := ⟨fun P hP => by
  obtain ⟨ps, h, ok⟩ := t.1 P hP
  exact ⟨ps, s _ _ h, ok⟩, t.2.ext s⟩
/-- tables stay where all of that kind does -/
theorem TabsG.keep {PT : TbP} {H H' : Hp} (t : TabsG PT H) (e : ∀ b u, H b = some u → ((∃ ps, u = .tbl ps) ∨ ∃ φ, u = .ext φ) → H' b = some u) : TabsG PT H' := ⟨fun P hP => by
  obtain ⟨ps, h, ok⟩ := t.1 P hP
  exact ⟨ps, e _ _ h (.inl ⟨_, rfl⟩), ok⟩, fun p hp => by
  obtain ⟨ps, h1, h2, h3⟩ := t.2 p hp
  refine ⟨ps, e _ _ h1 (.inl ⟨_, rfl⟩), h2, fun pos cv hc => ?_⟩
  obtain ⟨c, e1, e2⟩ := h3 pos cv hc
  exact ⟨c, e1, e _ _ e2 (.inr ⟨_, rfl⟩)⟩⟩
theorem tabbed_ext {P : Addr} {H H' : Hp} (t : GxR.TabG H P) (b : GxR.Tabbed P H H') : LamX.ExtN H H' := fun c o h n => by
  by_cases e : c = P
  · subst e
    obtain ⟨ps, h', _⟩ := t
    rw [h] at h'
    cases h'
    exact absurd rfl (n ps)
  · rw [b.2 c e]
    exact h
theorem TabsG.tabbed {PT : TbP} {P : Addr} {H H' : Hp} (t : TabsG PT H) (hP : P ∈ PT.g) (b : GxR.Tabbed P H H') : TabsG PT H' := ⟨fun Q hQ => by
  by_cases e : Q = P
  · rw [e]
    exact b.1
  · obtain ⟨ps, h, ok⟩ := t.1 Q hQ
    exact ⟨ps, by rw [b.2 Q e]; exact h, ok⟩, fun p hp => by
  obtain ⟨ps, h1, h2, h3⟩ := t.2 p hp
  have n : p.1 ≠ P := fun e => PT.ap p hp (by rw [e]; exact hP)
  obtain ⟨qs, hq, _⟩ := t.1 P hP
  refine ⟨ps, by rw [b.2 _ n]; exact h1, h2, fun pos cv hc => ?_⟩
  obtain ⟨c, e1, e2⟩ := h3 pos cv hc
  refine ⟨c, e1, ?_⟩
  rw [b.2 c (fun z => by rw [z, hq] at e2; exact LamX.codeO_ne _ (Option.some.inj e2).symm)]
  exact e2⟩
/-- a generator over a tuple -/
theorem all_take {α : Type} {p : α → Bool} {l : List α} {i : Nat} {x : α} (h : l[i]? = some x) : (l.take (i + 1)).all p = ((l.take i).all p && p x) := by
  have hi : i < l.length := by
    obtain ⟨q, _⟩ := List.getElem?_eq_some_iff.mp h
    exact q
  rw [List.take_add_one, h]
  simp [List.all_append]
theorem tabsG_upd {PT : TbP} {H : Hp} {D : Addr} {l l' : List V} (t : TabsG PT H) (h : H D = some (.lst l)) : TabsG PT (upd H D (.lst l')) := ⟨fun P hP => by
  obtain ⟨ps, h1, ok⟩ := t.1 P hP
  exact ⟨ps, by rw [upd_ne (fun z => by rw [z, h] at h1; cases h1)]; exact h1, ok⟩, fun p hp => by
  obtain ⟨ps, h1, h2, h3⟩ := t.2 p hp
  refine ⟨ps, by rw [upd_ne (fun z => by rw [z, h] at h1; cases h1)]; exact h1, h2, fun pos cv hc => ?_⟩
  obtain ⟨c, e1, e2⟩ := h3 pos cv hc
  refine ⟨c, e1, ?_⟩
  rw [upd_ne (fun z => by rw [z, h] at e2; cases e2)]
  exact e2⟩
/-! the class Signs -/
section
variable {p : Addr} {H H1 H2 : Hp}
/-- all but what stands at p, and tables, stays -/
def XP (p : Addr) (H H' : Hp) : Prop := ∀ b u, b ≠ p → H b = some u → (∀ ps, u ≠ .tbl ps) → H' b = some u
theorem XP.refl (p : Addr) (H : Hp) : XP p H H := fun _ _ _ h _ => h
theorem XP.trans (a : XP p H H1) (b : XP p H1 H2) : XP p H H2 := fun c u n h t => b c u n (a c u n h t) t
theorem XP.of_same (s : Same H H1) : XP p H H1 := fun _ _ _ h _ => s _ _ h
theorem XP.of_ext (s : LamX.ExtN H H1) : XP p H H1 := fun _ _ _ h t => s _ _ h t
theorem XP.upd (o : HO) : XP p H (upd H p o) := fun b u n h _ => by rw [upd_ne n]; exact h
/-- at q stood nothing that stays -/
def Loose (q : Addr) (H : Hp) : Prop := ∀ u, H q = some u → ∃ ps, u = .tbl ps
theorem XP.free {q : Addr} (a : XP p H H1) (n : q ≠ p) (h : H1 q = none) : Loose q H := fun u hu => by
  cases u with
  | tbl ps => exact ⟨ps, rfl⟩
  | _ =>
    have := a q _ n hu (fun ps z => by cases z)
    rw [h] at this
    cases this
theorem XP.put {q : Addr} {o : HO} (a : XP p H H1) (h : Loose q H) : XP p H (L2.upd H1 q o) := fun b u n hb t => by
  have nq : b ≠ q := fun z => by
    rw [z] at hb
    obtain ⟨ps, e⟩ := h u hb
    exact t ps e
  rw [upd_ne nq]
  exact a b u n hb t
/-- nothing but what stands at p has moved -/
def Only (p : Addr) (H H' : Hp) : Prop := ∀ b, b ≠ p → H' b = H b
theorem Only.upd (o : HO) : Only p H (L2.upd H p o) := fun b n => upd_ne n
theorem Only.trans (a : Only p H H1) (b : Only p H1 H2) : Only p H H2 := fun c n => (b c n).trans (a c n)
theorem Only.xp (a : Only p H H1) : XP p H H1 := fun b u n h _ => by rw [a b n]; exact h
end
/-- an instance stands at p -/
def InsAt (p : Addr) (H : Hp) : Prop := ∃ C dx fs, H p = some (.ins C dx fs)
theorem sqL_xp {K : PySem.W.Frag} {p : Addr} {H H' : Hp} (e : XP p H H') (i : InsAt p H) {a : Addr} {xs : List V} (h : SqL K H a xs) : SqL K H' a xs := by
  obtain ⟨C, dx, fs, hp⟩ := i
  rcases h with (z | ⟨o, z⟩) | z
  · exact .inl (.inl (e _ _ (fun q => by rw [q, hp] at z; cases z) z fun ps q => by cases q))
  · exact .inl (.inr ⟨o, e _ _ (fun q => by rw [q, hp] at z; cases z) z fun ps q => by cases q⟩)
  · exact .inr z
theorem sqT_xp {K : PySem.W.Frag} {p : Addr} {H H' : Hp} (e : XP p H H') (i : InsAt p H) {a : Addr} {xs : List V} (h : SqT K H a xs) : SqT K H' a xs := by
  obtain ⟨C, dx, fs, hp⟩ := i
  rcases h with (z | ⟨o, z⟩) | z
  · exact .inl (.inl (e _ _ (fun q => by rw [q, hp] at z; cases z) z fun ps q => by cases q))
  · exact .inl (.inr ⟨o, e _ _ (fun q => by rw [q, hp] at z; cases z) z fun ps q => by cases q⟩)
  · exact .inr z
mutual
theorem dp_xp {K : PySem.W.Frag} {p : Addr} {H H' : Hp} (e : XP p H H') (i : InsAt p H) : ∀ (d : PyData) (v : V), Dp K H v d → Dp K H' v d
  | .none, v, h => by cases h; exact .non
  | .bool b, v, h => by cases h; exact .bl b
  | .int i, v, h => by cases h; exact .int i
  | .str x, v, h => by cases h; exact .str x
  | .list es, v, h => by
    cases h with
    | lst at_ each => exact .lst (sqL_xp e i at_) (dp_xps e i es _ each)
  | .tuple es, v, h => by
    cases h with
    | tup at_ each => exact .tup (sqT_xp e i at_) (dp_xps e i es _ each)
  | .dict kvs, v, h => by
    cases h with
    | dct at_ => exact .dct (e _ _ (fun q => by obtain ⟨C, dx, fs, hp⟩ := i; rw [q, hp] at at_; cases at_) at_ fun ps q => by cases q)
theorem dp_xps {K : PySem.W.Frag} {p : Addr} {H H' : Hp} (e : XP p H H') (i : InsAt p H) : ∀ (ds : List PyData) (vs : List V), DpAll K H vs ds → DpAll K H' vs ds
  | [], vs, h => by cases h; exact .nil
  | d :: ds, vs, h => by
    cases h with
    | cons one more => exact .cons (dp_xp e i d _ one) (dp_xps e i ds _ more)
end
theorem tabsG_only {PT : TbP} {H H' : Hp} {p : Addr} (t : TabsG PT H) (i : InsAt p H) (o : Only p H H') : TabsG PT H' := t.keep fun b u hb n => by
  rw [o _ (fun e => by
    obtain ⟨C, dx, fs, hp⟩ := i
    rw [e, hp] at hb
    rcases n with ⟨_, rfl⟩ | ⟨_, rfl⟩ <;> cases hb)]
  exact hb
theorem th_ : ¬ (("text" : Str) = "here") := by decide +kernel
theorem ht_ : ¬ (("here" : Str) = "text") := by decide +kernel
def sgF (t : Str) (n : Nat) : List (Str × V) := putF "here" (.int n) (putF "text" (.str t) [])
theorem sgF_eq (t : Str) (n : Nat) : sgF t n = ([("text", V.str t), ("here", V.int n)] : List (Str × V)) := by
  show (if ("text" : Str) = "here" then [(("text" : Str), V.int n)] else (("text" : Str), V.str t) :: putF "here" (V.int n) []) = ([("text", V.str t), ("here", V.int n)] : List (Str × V))
  rw [if_neg th_]
  all_goals rfl
theorem sgF_text (t : Str) (n : Nat) : (sgF t n).lookup ("text" : Str) = some (.str t) := by
  unfold sgF
  rw [lookup_putF, if_neg th_, lookup_putF, if_pos rfl]
theorem sgF_here (t : Str) (n : Nat) : (sgF t n).lookup ("here" : Str) = some (.int n) := by
  unfold sgF
  rw [lookup_putF, if_pos rfl]
theorem sgF_no (t : Str) (n : Nat) {m : Str} (h1 : ¬ m = "here") (h2 : ¬ m = "text") : (sgF t n).lookup m = none := by
  unfold sgF
  rw [lookup_putF, if_neg h1, lookup_putF, if_neg h2]
  all_goals rfl
theorem sgF_put (t : Str) (n m : Nat) : putF "here" (.int m) (sgF t n) = sgF t m := by
  rw [sgF_eq, sgF_eq]
  show (if ("text" : Str) = "here" then _ else (("text" : Str), V.str t) :: (if ("here" : Str) = "here" then [(("here" : Str), V.int m)] else _)) = ([("text", V.str t), ("here", V.int m)] : List (Str × V))
  rw [if_neg th_, if_pos rfl]
/-- at p stands a Signs of the text t; r is still to be read -/
def RestAt (C : Addr) (t : Str) (p : Addr) (r : List Nat) (H : Hp) : Prop := ∃ (dx : Addr) (n : Nat), H p = some (.ins C dx (sgF t n)) ∧ t.cps.toList.drop n = r ∧ n ≤ t.length
theorem RestAt.ins {C : Addr} {H : Hp} {p : Addr} {t : Str} {r : List Nat} (h : RestAt C t p r H) : InsAt p H := by
  obtain ⟨dx, n, h, _⟩ := h
  exact ⟨_, _, _, h⟩
theorem RestAt.ext {C : Addr} {H H' : Hp} {p : Addr} {t : Str} {r : List Nat} (h : RestAt C t p r H) (e : LamX.ExtN H H') : RestAt C t p r H' := by
  obtain ⟨dx, n, h, q⟩ := h
  exact ⟨dx, n, e _ _ h (fun ps z => by cases z), q⟩
theorem RestAt.same {C : Addr} {H H' : Hp} {p : Addr} {t : Str} {r : List Nat} (h : RestAt C t p r H) (e : Same H H') : RestAt C t p r H' := by
  obtain ⟨dx, n, h, q⟩ := h
  exact ⟨dx, n, e _ _ h, q⟩
theorem RestAt.put {C : Addr} {H : Hp} {p q : Addr} {t : Str} {r : List Nat} {o : HO} (h : RestAt C t p r H) (n : p ≠ q) : RestAt C t p r (upd H q o) := by
  obtain ⟨dx, m, h, z⟩ := h
  exact ⟨dx, m, by rw [upd_ne n]; exact h, z⟩
structure SgC (K : PySem.W.Frag) (mg : Str → Option Value) (C : Addr) : Prop where
  cl : Cls K C
  nT : NoAttr K C "text"
  nH : NoAttr K C "here"
  mgC : mg "Signs" = some (.ref C)
/-! texts as lists of signs -/
theorem cut_here (t : Str) (n m : Nat) : cutS t (some (n : Int)) (some (m : Int)) = ⟨((t.cps.toList.drop n).take (m - n)).toArray⟩ := by
  unfold cutS
  rw [HT.sIx_nat, HT.sIx_nat]
  have l : t.cps.toList.length = t.length := by simp [Str.length]
  congr 2
  rcases Nat.le_total n t.length with h | h
  · rw [Nat.min_eq_left h]
    rcases Nat.le_total m t.length with g | g
    · rw [Nat.min_eq_left g]
    · rw [Nat.min_eq_right g, List.take_of_length_le (by rw [List.length_drop, l]; omega), List.take_of_length_le (by rw [List.length_drop, l]; omega)]
  · rw [Nat.min_eq_right h, List.drop_of_length_le (by rw [l]; omega), List.drop_of_length_le (by rw [l]; omega), List.take_nil, List.take_nil]
theorem one_at (t : Str) (n : Nat) {z : Str} {c : Nat} (hz : z.cps.toList = [c]) : decide (V.str (cutS t (some (n : Int)) (some ((n : Int) + 1))) = V.str z) = decide (t.cps.toList[n]? = some c) := by
  have e : ((n : Int) + 1) = ((n + 1 : Nat) : Int) := by omega
  rw [e, cut_here, show n + 1 - n = 1 by omega]
  have ez : z = ⟨#[c]⟩ := by
    cases z with
    | mk a =>
      have h2 : a.toList = [c] := hz
      have h3 : a = #[c] := by
        rw [← a.toArray_toList, h2]
      rw [h3]
  rw [ez]
  have hd : (t.cps.toList.drop n).take 1 = (t.cps.toList[n]?).toList := by
    rw [← List.head?_drop]
    cases t.cps.toList.drop n with
    | nil => rfl
    | cons a l => rfl
  rw [Bool.eq_iff_iff, decide_eq_true_eq, decide_eq_true_eq, hd]
  cases t.cps.toList[n]? with
  | none =>
    constructor
    · intro h
      have h : (⟨(#[] : Array Nat)⟩ : Str) = ⟨#[c]⟩ := V.str.inj h
      have := congrArg (fun x : Str => x.cps.size) h
      cases this
    · intro h
      cases h
  | some a =>
    constructor
    · intro h
      have h : (⟨(#[a] : Array Nat)⟩ : Str) = ⟨#[c]⟩ := V.str.inj h
      have h2 : #[a] = #[c] := congrArg Str.cps h
      have h3 := congrArg Array.toList h2
      exact congrArg some (List.cons.inj h3).1
    · intro h
      cases h
      rfl
/-! the signs of numbers -/
def itL (i : Int) : List Nat := if i < 0 then 45 :: TL.numL (-i).toNat else TL.numL i.toNat
theorem it_tl (i : Int) : (itS i).cps.toList = itL i := by
  cases i with
  | ofNat n =>
    show (Str.ofString (toString ((n : Nat) : Int))).cps.toList = _
    rw [PySem.W.KIN.signs_num]
    show _ = if ((n : Nat) : Int) < 0 then _ else TL.numL ((n : Nat) : Int).toNat
    rw [if_neg (by omega), Int.toNat_natCast]
    rfl
  | negSucc m =>
    show (Str.ofString ("-" ++ toString (m + 1))).cps.toList = _
    rw [Str.ofString_eq_toList]
    show (("-" ++ toString (m + 1)).toList.map Char.toNat).toArray.toList = if Int.negSucc m < 0 then 45 :: TL.numL (-Int.negSucc m).toNat else _
    rw [if_pos (Int.negSucc_lt_zero m), String.toList_append, List.map_append]
    show 45 :: (Nat.repr (m + 1)).toList.map Char.toNat = 45 :: TL.numL (m + 1)
    rw [Nat.toList_repr]
    rfl
def digB (c : Nat) : Bool := decide (48 ≤ c) && decide (c ≤ 57)
theorem numL_dig (n : Nat) : (TL.numL n).all digB = true := by
  rw [List.all_eq_true]
  intro c hc
  have := TL.numL_digits n c hc
  unfold digB
  rw [decide_eq_true this.1, decide_eq_true this.2]
  rfl
/-- the signs behind a minus, where there is one -/
def figs : List Nat → List Nat
  | 45 :: l => l
  | l => l
theorem rp_tl (z m : Str) (hm : m.cps.toList = [45]) : (Txt.removeprefix z m).cps.toList = figs z.cps.toList := by
  have em : m.cps = #[45] := by rw [← Array.toArray_toList (xs := m.cps), hm]
  have lm : m.length = 1 := by show m.cps.size = 1; rw [em]; rfl
  have lz : z.cps.toList.length = z.length := by simp [Str.length]
  rw [PySem.StrLaws.removeprefix_eq, lm]
  have es : Builtin.Str.subAt z m 0 = (z.cps.extract 0 1 == #[45]) := by
    unfold Builtin.Str.subAt
    rw [lm, em]
  rw [es]
  cases hz : z.cps.toList with
  | nil =>
    have : z.length = 0 := by rw [← lz, hz]; rfl
    rw [if_neg (by rw [decide_eq_false (by omega), Bool.false_and]; decide), hz]
    rfl
  | cons c l =>
    have l1 : 1 ≤ z.length := by rw [← lz, hz, List.length_cons]; omega
    have ex : (z.cps.extract 0 1).toList = [c] := by
      rw [Array.toList_extract, hz]
      rfl
    have ee : (z.cps.extract 0 1 == #[45]) = decide (c = 45) := by
      rw [Bool.eq_iff_iff, beq_iff_eq, decide_eq_true_eq]
      constructor
      · intro h
        rw [h] at ex
        exact (List.cons.inj ex).1.symm
      · intro h
        subst h
        rw [← Array.toArray_toList (xs := z.cps.extract 0 1), ex]
    rw [ee, decide_eq_true (show 0 + 1 ≤ z.length by omega), Bool.true_and]
    by_cases c45 : c = 45
    · subst c45
      rw [if_pos (decide_eq_true rfl)]
      show ((45 :: l).drop 1).take (z.length - 1) = l
      rw [List.drop_succ_cons, List.drop_zero, List.take_of_length_le]
      rw [hz, List.length_cons] at lz
      omega
    · rw [if_neg (by rw [decide_eq_false c45]; decide), hz]
      show c :: l = figs (c :: l)
      unfold figs
      split
      · rename_i e
        exact absurd (List.cons.inj e).1 c45
      · rfl
/-- the number that a word of at most m signs writes -/
def wfD (m : Int) (z : Str) : Option Int :=
  if (figs z.cps.toList ≠ [] ∧ (z.length : Int) ≤ m ∧ (figs z.cps.toList).all digB = true) then
    match PySem.intText? z with
    | some n => if itS n = z then some n else none
    | none => none
  else none
theorem fig_len : ∀ l : List Nat, (figs l).length ≤ l.length
  | [] => Nat.le_refl _
  | c :: l => by
    unfold figs
    split
    · rename_i e
      rw [e, List.length_cons]
      omega
    · exact Nat.le_refl _
theorem all_dig {l : List Nat} (h : l.all digB = true) : NumText.AllDigits l := fun c hc => by
  have := List.all_eq_true.mp h c hc
  unfold digB at this
  rw [Bool.and_eq_true, decide_eq_true_eq, decide_eq_true_eq] at this
  exact this
theorem str_tl {a b : Str} (h : a.cps.toList = b.cps.toList) : a = b := by
  cases a; cases b
  congr 1
  exact Array.toList_inj.mp h
/-- a number's own text is read -/
theorem wfD_it {i m : Int} (h0 : -9999 ≤ i) (h1 : i ≤ 9999) (hm : 5 ≤ m) : wfD m (itS i) = some i := by
  have l5 := itS_len h0 h1
  have e := it_tl i
  have ef : figs (itS i).cps.toList = TL.numL i.natAbs := by
    rw [e]
    unfold itL
    split
    · rw [show (-i).toNat = i.natAbs by omega]
      rfl
    · rw [show i.toNat = i.natAbs by omega]
      have hd := TL.numL_digits i.natAbs
      cases hn : TL.numL i.natAbs with
      | nil => rfl
      | cons c l =>
        rw [hn] at hd
        have := hd c List.mem_cons_self
        unfold figs
        split
        · rename_i q
          have := (List.cons.inj q).1
          omega
        · rfl
  have hi : PySem.intText? (itS i) = some i := by
    by_cases c : i < 0
    · have e2 : (itS i).cps.toList = 45 :: TL.numL (-i).toNat := by rw [e]; unfold itL; rw [if_pos c]
      rw [PySem.intText_neg e2 (TL.numL_digits _) (TL.numL_ne _) (by omega), TL.numL_val]
      congr 1
      omega
    · have e2 : (itS i).cps.toList = TL.numL i.toNat := by rw [e]; unfold itL; rw [if_neg c]
      have := PySem.intText_digits (x := itS i) (by rw [e2]; exact TL.numL_digits _) (by rw [e2]; exact TL.numL_ne _) (by omega)
      rw [this, e2, TL.numL_val]
      congr 1
      omega
  unfold wfD
  rw [ef, hi, if_pos ⟨TL.numL_ne _, by omega, numL_dig _⟩]
  show (if itS i = itS i then some i else none) = some i
  rw [if_pos rfl]
/-! takeWhile, step by step -/
theorem tw_step (q : Nat → Bool) : ∀ (l : List Nat) (j c : Nat), j ≤ (l.takeWhile q).length → l[j]? = some c → (q c = true → j + 1 ≤ (l.takeWhile q).length) ∧ (q c = false → j = (l.takeWhile q).length)
  | [], j, c, _, h => by cases h
  | a :: l, j, c, hj, h => by
    rw [List.takeWhile_cons] at hj ⊢
    cases ha : q a with
    | true =>
      rw [ha, if_pos rfl] at hj
      rw [if_pos rfl]
      cases j with
      | zero =>
        cases h
        exact ⟨fun _ => (by rw [List.length_cons]; omega), fun z => (by rw [ha] at z; cases z)⟩
      | succ j =>
        rw [List.length_cons] at hj ⊢
        obtain ⟨r1, r2⟩ := tw_step q l j c (by omega) h
        exact ⟨fun z => (by have := r1 z; omega), fun z => (by have := r2 z; omega)⟩
    | false =>
      rw [ha, if_neg (by decide)] at hj
      rw [if_neg (by decide)]
      have j0 : j = 0 := by simpa using hj
      subst j0
      cases h
      exact ⟨fun z => (by rw [ha] at z; cases z), fun _ => rfl⟩
theorem tw_le (q : Nat → Bool) (l : List Nat) : (l.takeWhile q).length ≤ l.length := by
  have := (List.takeWhile_prefix q (l := l)).length_le
  exact this
theorem tw_take (q : Nat → Bool) (l : List Nat) : l.take (l.takeWhile q).length = l.takeWhile q := by
  have := List.takeWhile_prefix q (l := l)
  exact (List.prefix_iff_eq_take.mp this).symm
theorem tw_app {q : Nat → Bool} : ∀ {a r : List Nat}, (∀ c ∈ a, q c = true) → (∀ c l, r = c :: l → q c = false) → (a ++ r).takeWhile q = a
  | [], r, _, h => by
    cases r with
    | nil => rfl
    | cons c l =>
      rw [List.nil_append, List.takeWhile_cons, h c l rfl, if_neg (by decide)]
  | x :: a, r, h1, h2 => by
    rw [List.cons_append, List.takeWhile_cons, h1 x List.mem_cons_self, if_pos rfl, tw_app (fun c hc => h1 c (List.mem_cons_of_mem _ hc)) h2]
/-! methods: a method of the class at C that keeps a promise -/
section
open PySem.Spec PyProof.Rows LamX
def MetC (P : Program) (w : World) (K : PySem.W.Frag) (mg : Str → Option Value) (base : Heap) (C : Addr) (m : Str) (k : Nat) (ps : List Str) (sp : Sp) : Prop :=
  ∃ (f : Addr) (fd : FuncData), FnOk P w K mg base CX0 k f fd ps sp ∧ Cls K C ∧ Meth K C m f ∧ Binds K fd ps []
theorem MetC.mono {P : Program} {w : World} {K : PySem.W.Frag} {mg : Str → Option Value} {base : Heap} {C : Addr} {m : Str} {j k : Nat} {ps : List Str} {sp : Sp} (M : MetC P w K mg base C m j ps sp) (h : j ≤ k) : MetC P w K mg base C m k ps sp := by
  obtain ⟨f, fd, F, r⟩ := M
  exact ⟨f, fd, F.mono h, r⟩
theorem pe_met {X : Cx} {C : Addr} {m : Str} {k : Nat} {ps : List Str} {sp : Sp} {pos apos : Pos} {e o : Expr} {es : List Expr} {ta : TE} {t : TA} {pl : Sem Bool} (M : MetC X.prog X.w X.K X.mg X.base C m k ps sp) (hr : Room k X.A) (he : PE X o ta) (ha : PA X (e :: es) t)
    (hst : starEach (e :: es) X.env = (false, eval e X.env) :: starEach es X.env := by rfl) (hpl : ((backTo pos (starEach es X.env)).any fun x => x.fst) = false := by rfl)
    (ht : eval (.Call (.Attribute o m apos) (e :: es) [] pos) X.env = (do
      let ov ← eval o X.env
      standAt apos.atName
      let (f, first) ← holding [ov] (getMethod ov m pl)
      callWith pos f first (backTo pos (starEach (e :: es) X.env)) (backToKw pos (keywordEach [] X.env))) := by rfl) :
    PE X (.Call (.Attribute o m apos) (e :: es) [] pos) (tMeth C m sp [] E0 ta t) := by
  obtain ⟨f, fd, F, c, hm, b⟩ := M
  exact pe_meth (pl := pl) he c hm F hr b .nil pass0 ha hst hpl ht
theorem pe_met0 {X : Cx} {C : Addr} {m : Str} {k : Nat} {ps : List Str} {sp : Sp} {pos apos : Pos} {o : Expr} {ta : TE} {pl : Sem Bool} (M : MetC X.prog X.w X.K X.mg X.base C m k ps sp) (hr : Room k X.A) (he : PE X o ta)
    (ht : eval (.Call (.Attribute o m apos) [] [] pos) X.env = (do
      let ov ← eval o X.env
      standAt apos.atName
      let (f, first) ← holding [ov] (getMethod ov m pl)
      callWith pos f first (backTo pos (starEach [] X.env)) (backToKw pos (keywordEach [] X.env))) := by rfl) :
    PE X (.Call (.Attribute o m apos) [] [] pos) (tMeth C m sp [] E0 ta tNil) := by
  obtain ⟨f, fd, F, c, hm, b⟩ := M
  exact pe_meth0 (pl := pl) he c hm F hr b .nil pass0 ht
variable {P : Program} {w : World} {K : PySem.W.Frag} {mg : Str → Option Value} {base : Heap} {f : Addr} {fd : FuncData}
def spSgInit (C : Addr) : Sp := fun vs H Q _ => ∃ (p dx : Addr) (t : Str), vs = [.ref p, .str t] ∧ H p = some (.ins C dx []) ∧ Q .non (upd H p (.ins C dx (sgF t 0)))
theorem scSgInit : FnScope ["self", "text"] ["self", "text"] (defScope sSgInit) := ⟨rfl, rfl, rfl, by decide +kernel, rfl, by decide +kernel, by decide +kernel⟩
theorem ok_sgInit {k : Nat} {C : Addr} (F : Fun K "__init__" "Signs.__init__" sSgInit f fd) (T : SgC K mg C) : FnOk P w K mg base CX0 (k + 1) f fd ["self", "text"] (spSgInit C) := by
  refine F.ok scSgInit (fun vs H Q E h => ?_) (fun cdv A outer s H vs Q E hr h => ?_)
  · obtain ⟨p, dx, t, rfl, _⟩ := h
    rfl
  obtain ⟨p, dx, t, rfl, hp, q⟩ := h
  refine ⟨_, pss_cons (ps_fld (pv 0) (pv 1) rfl) (pss_one (ps_fld (pv 0) pe_int rfl)), ?_⟩
  refine ⟨_, rfl, _, rfl, p, C, dx, _, rfl, hp, T.cl, T.nT, (by show 0 < 1000; decide), _, rfl, p, C, dx, _, rfl, upd_same, T.cl, T.nH, (by show 1 < 1000; decide), ?_⟩
  rw [upd_upd]
  exact q
def spComes (C : Addr) : Sp := fun vs H Q _ => ∃ (p : Addr) (t z : Str) (r : List Nat) (c : Nat), vs = [.ref p, .str z] ∧ z.cps.toList = [c] ∧ RestAt C t p r H ∧ t.length ≤ sizeLine ∧ Q (.bl (decide (r.head? = some c))) H
theorem scComes : FnScope ["self", "sign"] ["self", "sign"] (defScope sSgComes) := ⟨rfl, rfl, rfl, by decide +kernel, rfl, by decide +kernel, by decide +kernel⟩
theorem ok_comes {k : Nat} {C : Addr} (F : Fun K "comes" "Signs.comes" sSgComes f fd) (T : SgC K mg C) : FnOk P w K mg base CX0 (k + 1) f fd ["self", "sign"] (spComes C) := by
  refine F.ok scComes (fun vs H Q E h => ?_) (fun cdv A outer s H vs Q E hr h => ?_)
  · obtain ⟨p, t, z, r, c, rfl, _⟩ := h
    rfl
  obtain ⟨p, t, z, r, c, rfl, hz, ⟨dx, n, hp, rfl, hn⟩, hl, q⟩ := h
  refine ⟨_, pss_one (ps_ret (pe_cmpR op_eq (pe_slice sl_str (pe_fld (pv 0) rfl) (po_some (pe_fld (pv 0) rfl)) (po_some (pe_op op_add (pe_fld (pv 0) rfl) pe_int))) (pv 1) (nomark _))), ?_⟩
  refine ⟨_, rfl, p, C, dx, _, _, rfl, hp, T.cl, T.nT, sgF_text _ _, _, rfl, p, C, dx, _, _, rfl, hp, T.cl, T.nH, sgF_here _ _, _, rfl, _, rfl, p, C, dx, _, _, rfl, hp, T.cl, T.nH, sgF_here _ _, _, _, rfl, rfl, _, rfl, t, rfl, hl, _, rfl, rfl, ?_⟩
  show Q (V.bl (decide (V.str (cutS t (some (n : Int)) (some ((n : Int) + 1))) = V.str z))) H
  rw [one_at t n hz]
  rw [List.head?_drop] at q
  exact q
def spWant (C : Addr) : Sp := fun vs H Q _ => ∃ (p : Addr) (t z : Str) (r : List Nat) (c : Nat), vs = [.ref p, .str z] ∧ z.cps.toList = [c] ∧ RestAt C t p (c :: r) H ∧ t.length ≤ sizeLine ∧ ∀ H', Only p H H' → RestAt C t p r H' → Q .non H'
theorem scWant : FnScope ["self", "sign"] ["self", "sign"] (defScope sSgWant) := ⟨rfl, rfl, rfl, by decide +kernel, rfl, by decide +kernel, by decide +kernel⟩
theorem ok_want {k : Nat} {C : Addr} (F : Fun K "want" "Signs.want" sSgWant f fd) (T : SgC K mg C) (cC : MetC P w K mg base C "comes" k ["self", "sign"] (spComes C)) : FnOk P w K mg base CX0 (k + 1) f fd ["self", "sign"] (spWant C) := by
  refine F.ok scWant (fun vs H Q E h => ?_) (fun cdv A outer s H vs Q E hr h => ?_)
  · obtain ⟨p, t, z, r, c, rfl, _⟩ := h
    rfl
  obtain ⟨p, t, z, r, c, rfl, hz, hR, hl, q⟩ := h
  obtain ⟨dx, n, hp, hd, hn⟩ := id hR
  refine ⟨_, pss_cons (ps_if (pt_not (pt_val (pe_met cC hr (pv 0) (pa_cons (pv 1) pa_nil)))) pss_never pss_nil) (pss_one (ps_fldaug (pv 0) pe_int in_add)), ?_⟩
  refine ⟨_, rfl, p, dx, _, rfl, hp, sgF_no _ _ (by decide +kernel) (by decide +kernel), _, rfl, p, t, z, _, c, rfl, hz, hR, hl, _, rfl, ?_⟩
  rw [decide_eq_true (show (c :: r).head? = some c from rfl)]
  refine ifF rfl ⟨_, rfl, p, C, dx, _, _, rfl, hp, T.cl, T.nH, sgF_here _ _, _, _, rfl, rfl, dx, _, hp, (by rw [sgF_eq]; show 2 < 1000; decide), ?_⟩
  show Q .non (upd H p (.ins C dx (putF "here" (.int ((n + 1 : Nat) : Int)) (sgF t n))))
  rw [sgF_put]
  have lt : t.cps.toList.length = t.length := by simp [Str.length]
  have ld := congrArg List.length hd
  rw [List.length_drop, lt, List.length_cons] at ld
  refine q _ (Only.upd _) ⟨dx, n + 1, upd_same, ?_, by omega⟩
  rw [← List.tail_drop, hd]
  rfl
theorem upd_id {H : Hp} {a : Addr} {o : HO} (h : H a = some o) : upd H a o = H := by
  funext b
  by_cases e : b = a
  · rw [e, upd_same, h]
  · rw [upd_ne e]
def stopS : Str := " []()"
def wordB (c : Nat) : Bool := !decide (c ∈ stopS.cps.toList)
def spWord (C : Addr) : Sp := fun vs H Q _ => ∃ (p : Addr) (t : Str) (r : List Nat), vs = [.ref p] ∧ RestAt C t p r H ∧ t.length ≤ sizeLine ∧ ∀ H', Only p H H' → RestAt C t p (r.drop (r.takeWhile wordB).length) H' → Q (.str ⟨(r.takeWhile wordB).toArray⟩) H'
theorem scWord : FnScope ["self", "first"] ["self"] (defScope sSgWord) := ⟨rfl, rfl, rfl, by decide +kernel, rfl, by decide +kernel, by decide +kernel⟩
theorem ok_word {k : Nat} {C : Addr} (F : Fun K "word" "Signs.word" sSgWord f fd) (T : SgC K mg C) (hLen : mg "len" = none) : FnOk P w K mg base CX0 (k + 1) f fd ["self"] (spWord C) := by
  refine F.ok scWord (fun vs H Q E h => ?_) (fun cdv A outer s H vs Q E hr h => ?_)
  · obtain ⟨p, t, r, rfl, _⟩ := h
    rfl
  obtain ⟨p, t, r, rfl, ⟨dx, n, hp, rfl, hn⟩, hl, q⟩ := h
  refine ⟨_, pss_cons (ps_set (i := 1) scWord.nd rfl (.inl rfl) (pe_fld (pv 0) rfl))
    (pss_cons (ps_while PassesOwn.never (PW.pt (pw_and (pt_cmpR op_lt (pe_fld (pv 0) rfl) (pe_callB call_len_str rfl hLen PySem.boot_len (pa_cons (pe_fld (pv 0) rfl) pa_nil)) (nomark _))
        (pw_and1 (pt_cmpR op_notIn_sign (pe_ix ix_str (pe_fld (pv 0) rfl) (pe_fld (pv 0) rfl) (fun _ _ => rfl)) pe_str rfl))))
      (pss_one (ps_fldaug (pv 0) pe_int in_add)))
    (pss_one (ps_ret (pe_slice sl_str (pe_fld (pv 0) rfl) (po_some (pv 1)) (po_some (pe_fld (pv 0) rfl)))))), ?_⟩
  have lt : t.cps.toList.length = t.length := by simp [Str.length]
  refine ⟨_, rfl, p, C, dx, _, _, rfl, hp, T.cl, T.nH, sgF_here _ _, ?_⟩
  refine ⟨fun m σ G => ∃ j, m = t.length - (n + j) ∧ j ≤ ((t.cps.toList.drop n).takeWhile wordB).length ∧ σ = [some (.ref p), some (.int (n : Nat))] ∧ G = upd H p (.ins C dx (sgF t (n + j))), ⟨_, 0, rfl, Nat.zero_le _, rfl, (by rw [Nat.add_zero, upd_id hp])⟩, ?_⟩
  rintro m σ G ⟨j, rfl, hj, rfl, rfl⟩
  have fin : j = ((t.cps.toList.drop n).takeWhile wordB).length → tRet (tSl rSlS (tFld K (tVar 0) "text") (tPart (tVar 1)) (tPart (tFld K (tVar 0) "here"))) { nx := fun _ H' => Q .non H', rt := Q } [some (.ref p), some (.int (n : Nat))] (upd H p (.ins C dx (sgF t (n + j)))) := fun e => by
    refine ⟨_, rfl, p, C, dx, _, _, rfl, upd_same, T.cl, T.nT, sgF_text _ _, _, rfl, _, rfl, _, rfl, p, C, dx, _, _, rfl, upd_same, T.cl, T.nH, sgF_here _ _, _, rfl, t, rfl, hl, ?_⟩
    rw [cut_here, show n + j - n = j by omega, e, tw_take]
    refine q _ (Only.upd _) ⟨dx, n + ((t.cps.toList.drop n).takeWhile wordB).length, upd_same, by rw [List.drop_drop], ?_⟩
    have := tw_le wordB (t.cps.toList.drop n)
    rw [List.length_drop, lt] at this
    omega
  refine ⟨_, rfl, p, C, dx, _, _, rfl, upd_same, T.cl, T.nH, sgF_here _ _, _, rfl, p, C, dx, _, _, rfl, upd_same, T.cl, T.nT, sgF_text _ _, t, rfl, hl, _, _, rfl, rfl, _, rfl, ?_⟩
  by_cases c1 : n + j < t.length
  · refine ifT (decide_eq_true (by omega)) ?_
    have hget : (t.cps.toList.drop n)[j]? = some (t.cps.toList[n + j]'(by omega)) := by
      rw [List.getElem?_drop, List.getElem?_eq_getElem (by omega)]
    obtain ⟨r1, r2⟩ := tw_step wordB (t.cps.toList.drop n) j _ hj hget
    refine ⟨_, rfl, p, C, dx, _, _, rfl, upd_same, T.cl, T.nT, sgF_text _ _, _, rfl, p, C, dx, _, _, rfl, upd_same, T.cl, T.nH, sgF_here _ _, t, _, t.cps.toList[n + j]'(by omega), rfl, rfl, hl, atI_at (by omega) (by rw [Int.toNat_natCast, List.getElem?_eq_getElem (by omega)]), _, stopS, rfl, rfl, _, rfl, ?_⟩
    cases hb : wordB (t.cps.toList[n + j]'(by omega)) with
    | true =>
      refine ifT hb ⟨_, fun σ' H' h => h, ?_⟩
      refine ⟨_, rfl, p, C, dx, _, _, rfl, upd_same, T.cl, T.nH, sgF_here _ _, _, _, rfl, rfl, dx, _, upd_same, (by rw [sgF_eq]; show 2 < 1000; decide), ?_⟩
      refine ⟨t.length - (n + (j + 1)), by omega, j + 1, rfl, r1 hb, rfl, ?_⟩
      show upd (upd H p (.ins C dx (sgF t (n + j)))) p (.ins C dx (putF "here" (.int ((n + j + 1 : Nat) : Int)) (sgF t (n + j)))) = _
      rw [sgF_put, upd_upd]
      rfl
    | false => exact ifF hb (fin (r2 hb))
  · refine ifF (decide_eq_false (by omega)) (ifF rfl (fin ?_))
    have := tw_le wordB (t.cps.toList.drop n)
    rw [List.length_drop, lt] at this
    omega
end
theorem gx_str {x : Str} {g : TG} {tt : TT} {te : TE} {vs : List Nat} {σ0 : L2.St} {e : Bool} {Qe Qn : Hp → Prop} {H : Hp} (Pv : Nat → Hp → Prop) (h0 : Pv 0 H)
    (hs : ∀ i c H, x.cps[i]? = some c → Pv i H → g (.str ⟨#[c]⟩) σ0 H fun σ2 H2 => wipe σ2 vs = σ0 ∧ tt σ2 H2 fun b H3 => if b = true then te σ2 H3 fun y H4 => ∃ c, y = .bl c ∧ (c = e → Pv (i + 1) H4) ∧ (c ≠ e → Qn H4) else Pv (i + 1) H3) (hd : ∀ H, Pv x.cps.size H → Qe H) :
    ∃ W : Nat → Nat → Hp → Prop, (∃ m, W 0 m H) ∧ gxTurn (Its x) g tt te vs σ0 e Qe Qn W := by
  refine ⟨fun i m H => m = x.cps.size - i ∧ i ≤ x.cps.size ∧ Pv i H, ⟨x.cps.size, rfl, Nat.zero_le _, h0⟩, ?_⟩
  rintro i m H ⟨rfl, hi, p⟩
  by_cases hlt : i < x.cps.size
  · refine .inr ⟨hlt, Pv (i + 1), fun H' p' => ⟨x.cps.size - (i + 1), by omega, rfl, hlt, p'⟩, fun v H' y => ?_⟩
    obtain ⟨rfl, c, hc, rfl⟩ := y
    exact hs i c _ hc p
  · have e : i = x.cps.size := by omega
    exact .inl ⟨by show x.cps.size ≤ i; omega, hd H (by rw [← e]; exact p)⟩
theorem lt_one (a b : Nat) : decide (([a] : List Nat) < [b]) = decide (a < b) := by
  rw [Bool.eq_iff_iff, decide_eq_true_eq, decide_eq_true_eq]
  constructor
  · intro h
    cases h with
    | rel h => exact h
    | cons h => cases h
  · intro h
    exact List.Lex.rel h
/-! a < b <= c <= d -/
section
open PySem.Spec PyProof.Rows LamX
def tChain3 (r r' r'' : R2) (ta tb tc td : TE) : TT := fun σ H Q => ta σ H fun x H1 => tb σ H1 fun y H2 => r x y H2 fun z H3 => ∃ k, z = .bl k ∧ (if k = true then tc σ H3 fun w' H4 => r' y w' H4 fun z' H5 => ∃ k', z' = .bl k' ∧ (if k' = true then td σ H5 fun w2 H6 => r'' w' w2 H6 fun z2 H7 => ∃ k2, z2 = .bl k2 ∧ Q k2 H7 else Q false H5) else Q false H3)
theorem pt_chain3 {X : Cx} {a b c d : Expr} {op op' op'' : CmpOp} {r r' r'' : R2} {ta tb tc td : TE} {pos : Pos} (ho : OpR X (compareOp op) r) (ho' : OpR X (compareOp op') r') (ho'' : OpR X (compareOp op'') r'') (ha : PE X a ta) (hb : PE X b tb) (hc : PE X c tc) (hd : PE X d td)
    (hm : lastMarks [op, op', op''] [b, c, d] = false := by with_unfolding_all rfl) : PT X (.Compare a [op, op', op''] [b, c, d] pos) (tChain3 r r' r'' ta tb tc td) := by
  refine ⟨fun pins s σ H Q I h => ?_⟩
  refine isTrue_chain (thn (ha.run pins s σ H _ I h) fun v s1 ⟨x, H1, I1, r1, q1⟩ => test_link (thn (hb.run pins s1 σ H1 _ I1 q1) fun u s2 ⟨y, H2, I2, r2, q2⟩ =>
    thn (ho pins s2 σ H2 x y v u _ I2 r1 r2 q2) fun d s3 ⟨z, H3, I3, r3, k, e, q3⟩ => ?_)) hm
  subst e
  cases r3
  refine wpAny_truthy_bool ?_
  cases k with
  | false => exact ite_ff ⟨H3, I3, q3⟩
  | true =>
    refine ite_tt (test_link (thn (hc.run pins s3 σ H3 _ I3 q3) fun w' s4 ⟨z', H4, I4, r4, q4⟩ => thn (ho' pins s4 σ H4 y z' u w' _ I4 r2 r4 q4) fun d' s5 ⟨z2, H5, I5, r5, k2, e2, q5⟩ => ?_))
    subst e2
    cases r5
    refine wpAny_truthy_bool ?_
    cases k2 with
    | false => exact ite_ff ⟨H5, I5, q5⟩
    | true =>
      refine ite_tt (test_last (thn (hd.run pins s5 σ H5 _ I5 q5) fun w2 s6 ⟨z3, H6, I6, r6, q6⟩ => thn (ho'' pins s6 σ H6 z' z3 w' w2 _ I6 r4 r6 q6) fun d'' s7 ⟨z4, H7, I7, r7, k3, e3, q7⟩ => ?_))
      subst e3
      cases r7
      exact wpAny_truthy_bool ⟨H7, I7, q7⟩
end
/-! whole_from -/
theorem dv_lt : ∀ (l : List Nat) (a : Nat), NumText.AllDigits l → l.foldl (fun acc c => acc * 10 + (c - 48)) a < (a + 1) * 10 ^ l.length
  | [], a, _ => by
    show a < (a + 1) * 1
    omega
  | c :: l, a, h => by
    have hc := h.head
    have r := dv_lt l (a * 10 + (c - 48)) h.tail
    rw [List.foldl_cons, List.length_cons, Nat.pow_succ, Nat.mul_comm (10 ^ l.length) 10, ← Nat.mul_assoc]
    exact Nat.lt_of_lt_of_le r (Nat.mul_le_mul_right _ (by omega))
theorem log_dv {l : List Nat} (h : NumText.AllDigits l) (hl : l.length ≤ 31) : (NumText.digitsVal l).log2 < 1920 := by
  have a : NumText.digitsVal l < (0 + 1) * 10 ^ l.length := dv_lt l 0 h
  have b : 10 ^ l.length ≤ 10 ^ 31 := Nat.pow_le_pow_right (by decide) hl
  by_cases e : NumText.digitsVal l = 0
  · rw [e]
    decide
  · have c : (10 : Nat) ^ 31 < 2 ^ 104 := by decide
    exact Nat.lt_of_lt_of_le ((Nat.log2_lt e).mpr (show NumText.digitsVal l < 2 ^ 104 by omega)) (by decide)
theorem int_of {z : Str} (h1 : figs z.cps.toList ≠ []) (h2 : (figs z.cps.toList).all digB = true) (h3 : z.length ≤ 31) : ∃ n, PySem.intText? z = some n ∧ n.natAbs.log2 < 1920 := by
  have lz : z.cps.toList.length = z.length := by simp [Str.length]
  cases hz : z.cps.toList with
  | nil =>
    rw [hz] at h1
    exact absurd rfl h1
  | cons c l =>
    rw [hz] at h1 h2 lz
    rw [List.length_cons] at lz
    by_cases c45 : c = 45
    · subst c45
      refine ⟨_, PySem.intText_neg hz (all_dig h2) h1 (by omega), ?_⟩
      rw [Int.natAbs_neg, Int.natAbs_natCast]
      exact log_dv (all_dig h2) (by show l.length ≤ 31; omega)
    · have e : figs (c :: l) = c :: l := by
        unfold figs
        split
        · rename_i e
          exact absurd (List.cons.inj e).1 c45
        · rfl
      rw [e] at h1 h2
      refine ⟨_, PySem.intText_digits (by rw [hz]; exact all_dig h2) (by rw [hz]; exact h1) (by omega), ?_⟩
      rw [Int.natAbs_natCast, hz]
      exact log_dv (all_dig h2) (by rw [List.length_cons]; omega)
def optI : Option Int → V
  | some n => .int n
  | none => .non
section
open PySem.Spec PyProof.Rows LamX
variable {P : Program} {w : World} {K : PySem.W.Frag} {mg : Str → Option Value} {base : Heap} {f : Addr} {fd : FuncData}
def spWholeFrom (K : PySem.W.Frag) (PT : TbP) : Sp := fun vs H Q _ => ∃ (z : Str) (m : Int), vs = [.str z, .int m] ∧ z.length ≤ sizeLine ∧ m ≤ 31 ∧ TabsG PT H ∧ ∀ H', ExtN H H' → TabsG PT H' → Q (optI (wfD m z)) H'
abbrev wfN : List Str := ["word", "most", "figures", "number", "sign"]
theorem scWholeFrom : FnScope wfN ["word", "most"] (defScope sWholeFrom) := ⟨rfl, rfl, rfl, by decide +kernel, rfl, by decide +kernel, by decide +kernel⟩
theorem ok_wholeFrom {k : Nat} {c Pc : Addr} {PT : TbP} (F : Fun K "whole_from" "whole_from" sWholeFrom f fd) (hc : fd.code = .ref c) (TB : LamX.TabB base mg c Pc) (hPT : Pc ∈ PT.g) (T : Free mg) (hA : mg "all" = none) (hS : mg "str" = none) : FnOk P w K mg base CX0 (k + 2) f fd ["word", "most"] (spWholeFrom K PT) := by
  refine okC F hc scWholeFrom (fun vs H Q E h => ?_) (fun A outer s H vs Q E hr h => ?_)
  · obtain ⟨z, m, rfl, _⟩ := h
    rfl
  obtain ⟨z, m, rfl, hz, hm, tb, q⟩ := h
  refine ⟨_, pss_cons (ps_set (i := 2) scWholeFrom.nd rfl (.inl rfl) (pe_bm PySem.F.plainAttrs_str PySem.F.slot_str_removeprefix PySem.F.type_str_removeprefix mt_removeprefix (pv 0) (pa_cons pe_str pa_nil)))
    (pss_cons (ps_if (PW.pt (pw_or (pt_not (pt_chain3 op_lt op_le op_le pe_int (pe_callB call_len_str rfl T.len PySem.boot_len (pa_cons (pv 2) pa_nil)) (pe_callB call_len_str rfl T.len PySem.boot_len (pa_cons (pv 0) pa_nil)) (pv 1)))
      (pw_or1 (pt_not (pt_val (pe_allG (own := [("sign", 4)]) (wi := iStr (tVar 2)) (g := gName 4) (tt := tYes) (te := tChain (fun x y H Q => ∃ i j, x = .str i ∧ y = .str j ∧ Q (.bl (!decide (j.cps.toList < i.cps.toList))) H) (fun x y H Q => ∃ i j, x = .str i ∧ y = .str j ∧ Q (.bl (!decide (j.cps.toList < i.cps.toList))) H) (tC (.str "0")) (tVar 4) (tC (.str "9"))) scWholeFrom.nd hr rfl hA (by decide +kernel) TB rfl
        (blkOk_by (own := [("sign", 4)]) (N := wfN) (sc := defScope sWholeFrom) (by decide +kernel)) (by decide +kernel) rfl rfl (pi_str (pv 2))
        (fun _ _ _ _ _ _ _ _ _ _ => pg_name (i := 4) scWholeFrom.nd rfl (Or.inl rfl)) (fun _ _ _ _ _ _ _ _ _ _ => pts_nil)
        (fun _ _ _ _ _ _ _ _ _ hr' => pe_chain op_le_str op_le_str pe_str (pv 4) pe_str) (fun _ => rfl))))))) (pss_one (ps_ret pe_non)) pss_nil)
    (pss_cons (ps_set (i := 3) scWholeFrom.nd rfl (.inl rfl) (pe_callTy call_int_str rfl T.int (by decide +kernel) (pa_cons (pv 0) pa_nil)))
    (pss_one (ps_ret (pe_ifExp (pt_cmpR op_eq (pe_callTy call_str_int rfl hS (by decide +kernel) (pa_cons (pv 3) pa_nil)) (pv 0) (nomark _)) (pv 3) pe_non))))), ?_⟩
  have tf := rp_tl z "-" (by decide +kernel)
  have no : wfD m z = none → ∀ H', ExtN H H' → TabsG PT H' → Q .non H' := fun e H' e1 t1 => by
    have r := q H' e1 t1
    rw [e] at r
    exact r
  refine ⟨_, rfl, rfl, z, "-", rfl, rfl, hz, ?_⟩
  generalize Txt.removeprefix z "-" = fz at tf ⊢
  have lf : fz.cps.toList.length = fz.length := by simp [Str.length]
  have lz : z.cps.toList.length = z.length := by simp [Str.length]
  have fl := fig_len z.cps.toList
  rw [← tf, lf, lz] at fl
  have ef : wfD m z = if (fz.cps.toList ≠ [] ∧ (z.length : Int) ≤ m ∧ fz.cps.toList.all digB = true) then (match PySem.intText? z with | some n => if itS n = z then some n else none | none => none) else none := by
    rw [tf]
    rfl
  refine ⟨_, rfl, fz, rfl, by omega, _, _, rfl, rfl, _, rfl, ?_⟩
  by_cases c1 : 0 < fz.length
  case neg =>
    refine ifF (decide_eq_false (by omega)) (ifT rfl (ifT rfl (no ?_ H (ExtN.refl _) tb)))
    rw [ef, if_neg]
    intro h
    have : fz.cps.toList.length ≠ 0 := fun e => h.1 (List.length_eq_zero_iff.mp e)
    omega
  refine ifT (decide_eq_true (by omega)) ⟨_, rfl, z, rfl, hz, _, _, rfl, rfl, _, rfl, ifT (decide_eq_true (by omega)) ⟨_, rfl, _, _, rfl, rfl, _, rfl, ?_⟩⟩
  by_cases c2 : (z.length : Int) ≤ m
  case neg =>
    rw [decide_eq_false c2]
    refine ifT rfl (ifT rfl (no ?_ H (ExtN.refl _) tb))
    rw [ef, if_neg]
    intro h
    exact c2 h.2.1
  rw [decide_eq_true c2]
  refine ifF rfl ⟨_, rfl, fz, rfl, tb.1 Pc hPT, fun H2 b2 => ?_⟩
  have e2 := tabbed_ext (tb.1 Pc hPT) b2
  have t2 := tb.tabbed hPT b2
  refine gx_str (x := fz) (fun i G => G = H2 ∧ (fz.cps.toList.take i).all digB = true) ⟨rfl, rfl⟩ (fun i c G hc h => ?_) (fun G h => ?_)
  · obtain ⟨rfl, all⟩ := h
    have hc' : fz.cps.toList[i]? = some c := by rw [← hc]; simp
    have no2 : digB c = false → Q .non G := fun y => no (by
      rw [ef, if_neg]
      intro h
      have := List.all_eq_true.mp h.2.2 c (List.mem_of_getElem? hc')
      rw [y] at this
      cases this) G e2 t2
    refine ⟨rfl, yesG ⟨_, rfl, _, _, rfl, rfl, _, rfl, ?_⟩⟩
    have e1 : (!decide (([c] : List Nat) < [48])) = decide (48 ≤ c) := by rw [lt_one]; by_cases z : 48 ≤ c <;> simp [z] <;> omega
    have e3 : (!decide (([57] : List Nat) < [c])) = decide (c ≤ 57) := by rw [lt_one]; by_cases z : c ≤ 57 <;> simp [z] <;> omega
    show if (!decide (([c] : List Nat) < [48])) = true then _ else _
    rw [e1]
    by_cases c3 : 48 ≤ c
    · refine ifT (decide_eq_true c3) ⟨_, _, rfl, rfl, ?_⟩
      refine ⟨decide (c ≤ 57), congrArg V.bl e3, fun z => ⟨rfl, ?_⟩, fun z => ⟨_, rfl, ifT rfl (no2 ?_)⟩⟩
      · rw [all_take hc', all]
        unfold digB
        rw [decide_eq_true c3, z]
        rfl
      · unfold digB
        rw [decide_eq_true c3, Bool.true_and]
        exact Bool.eq_false_iff.mpr z
    · refine ifF (decide_eq_false c3) ⟨false, rfl, (fun z => by cases z), (fun _ => ⟨_, rfl, ifT rfl (no2 ?_)⟩)⟩
      unfold digB
      rw [decide_eq_false c3, Bool.false_and]
  · obtain ⟨rfl, all⟩ := h
    rw [show fz.cps.size = fz.cps.toList.length by simp, List.take_length] at all
    have ne : fz.cps.toList ≠ [] := fun e => by rw [e] at lf; have : ([] : List Nat).length = 0 := rfl; omega
    obtain ⟨n, hn, hlog⟩ := int_of (z := z) (by rw [← tf]; exact ne) (by rw [← tf]; exact all) (by omega)
    rw [if_pos ⟨ne, c2, all⟩, hn] at ef
    have ef : wfD m z = if itS n = z then some n else none := ef
    refine ⟨_, rfl, ifF rfl ⟨_, rfl, z, n, rfl, hn, by omega, _, rfl, n, rfl, hlog, _, rfl, rfl, _, rfl, ?_⟩⟩
    by_cases c4 : itS n = z
    · refine ifT (decide_eq_true (congrArg V.str c4)) ⟨_, rfl, ?_⟩
      have r := q G e2 t2
      rw [ef, if_pos c4] at r
      exact r
    · refine ifF (decide_eq_false fun e => c4 (V.str.inj e)) (no ?_ G e2 t2)
      rw [ef, if_neg c4]
end
/-! the signs of places, boxes, graphs -/
theorem tl_app (a b : Str) : (a ++ b).cps.toList = a.cps.toList ++ b.cps.toList := TL.tl_append a b
theorem tl_one (z : Str) : (Str.empty ++ z).cps.toList = z.cps.toList := by
  rw [tl_app]
  rfl
def plL (g : PyData → Str) (d : PyData) : List Nat := (plT g d).cps.toList
theorem plL_int {g : PyData → Str} (i : Int) : plL g (.int i) = itL i := it_tl i
theorem plL_tie {g : PyData → Str} (j : Int) : plL g (.tuple [.str "tie", .int j]) = 126 :: itL j := by
  unfold plL
  have e : plT g (.tuple [.str "tie", .int j]) = Str.empty ++ "~" ++ itS j := by
    show (if ("tie" : Str) = "tie" then Str.empty ++ "~" ++ itS j else Str.empty ++ "(" ++ g (.tuple [.str "tie", .int j]) ++ ")") = _
    exact if_pos rfl
  rw [e, tl_app, tl_one, it_tl, show ("~" : Str).cps.toList = [126] by decide +kernel]
  rfl
theorem plL_gr {g : PyData → Str} (x r : List PyData) : plL g (.tuple (.tuple x :: r)) = 40 :: ((g (.tuple (.tuple x :: r))).cps.toList ++ [41]) := by
  show (Str.empty ++ "(" ++ g (.tuple (.tuple x :: r)) ++ ")").cps.toList = _
  rw [tl_app, tl_app, tl_one, show ("(" : Str).cps.toList = [40] by decide +kernel, show (")" : Str).cps.toList = [41] by decide +kernel]
  rfl
def bxL (g : PyData → Str) (b : PyData) : List Nat := (bxT g b).cps.toList
theorem bxL_eq {g : PyData → Str} (p q r : PyData) : bxL g (.tuple [p, q, r]) = 91 :: (plL g p ++ (32 :: plL g q ++ (32 :: plL g r ++ [93]))) := by
  show (Str.empty ++ "[" ++ Txt.join " " [plT g p, plT g q, plT g r] ++ "]").cps.toList = _
  rw [tl_app, tl_app, tl_one, TL.join_eq, show (Str.join " " [plT g p, plT g q, plT g r]).cps.toList = _ from TL.tl_join " " _, show ("[" : Str).cps.toList = [91] by decide +kernel, show ("]" : Str).cps.toList = [93] by decide +kernel, show TL.tl (" " : Str) = [32] by decide +kernel]
  show [91] ++ (plL g p ++ ([32] ++ (plL g q ++ ([32] ++ plL g r)))) ++ [93] = _
  simp
theorem joinL_nil : ∀ l : List (List Nat), TL.joinL [] l = l.flatten
  | [] => rfl
  | [p] => by simp [TL.joinL]
  | p :: q :: r => by
    show p ++ ([] ++ TL.joinL [] (q :: r)) = _
    rw [joinL_nil (q :: r)]
    rfl
theorem gL_eq (n : Nat) (bs : List PyData) : (gT (n + 1) (.tuple bs)).cps.toList = bs.flatMap (bxL (gT n)) := by
  show (Txt.join "" (bs.map (bxT (gT n)))).cps.toList = _
  rw [TL.join_eq, show (Str.join "" (bs.map (bxT (gT n)))).cps.toList = _ from TL.tl_join "" _, show TL.tl ("" : Str) = [] by decide +kernel, joinL_nil, List.map_map]
  rfl
/-- no more signs of a word -/
def Stop (r : List Nat) : Prop := ∀ c l, r = c :: l → wordB c = false
theorem stop_of {c : Nat} {l : List Nat} (h : wordB c = false) : Stop (c :: l) := fun d m e => by
  cases e
  exact h
theorem it_word (i : Int) : ∀ c ∈ itL i, wordB c = true := by
  have hd : ∀ n, ∀ c ∈ TL.numL n, wordB c = true := fun n c hc => by
    have := TL.numL_digits n c hc
    unfold wordB stopS
    rw [show ((" []()" : Str).cps.toList) = [32, 91, 93, 40, 41] by decide +kernel]
    rw [Bool.not_eq_true', decide_eq_false_iff_not]
    simp only [List.mem_cons, List.not_mem_nil, or_false]
    omega
  unfold itL
  intro c hc
  split at hc
  · rcases List.mem_cons.mp hc with rfl | hc
    · decide +kernel
    · exact hd _ c hc
  · exact hd _ c hc
theorem it_head {i : Int} {c : Nat} {l r : List Nat} (h : itL i ++ r = c :: l) : c = 45 ∨ (48 ≤ c ∧ c ≤ 57) := by
  unfold itL at h
  split at h
  · exact .inl (List.cons.inj h).1.symm
  · cases hn : TL.numL i.toNat with
    | nil => exact absurd hn (TL.numL_ne _)
    | cons a m =>
      rw [hn] at h
      have := TL.numL_digits i.toNat a (by rw [hn]; exact List.mem_cons_self)
      rw [← (List.cons.inj h).1]
      exact .inr this
theorem it_ne (i : Int) : itL i ≠ [] := by
  unfold itL
  split
  · exact List.cons_ne_nil _ _
  · exact TL.numL_ne _
section
open PySem.Spec PyProof.Rows LamX
variable {P : Program} {w : World} {K : PySem.W.Frag} {mg : Str → Option Value} {base : Heap} {f : Addr} {fd : FuncData}
def spRNum (C : Addr) (PT : TbP) : Sp := fun vs H Q _ => ∃ (p : Addr) (t : Str) (i : Int) (r : List Nat), vs = [.ref p] ∧ RestAt C t p (itL i ++ r) H ∧ t.length ≤ sizeLine ∧ -9999 ≤ i ∧ i ≤ 9999 ∧ Stop r ∧ TabsG PT H ∧ ∀ H', XP p H H' → RestAt C t p r H' → TabsG PT H' → Q (.int i) H'
theorem scRNum : FnScope ["signs", "number"] ["signs"] (defScope sReadNumber) := ⟨rfl, rfl, rfl, by decide +kernel, rfl, by decide +kernel, by decide +kernel⟩
theorem mk_tlA {l : List Nat} {z : Str} (h : z.cps.toList = l) : (⟨l.toArray⟩ : Str) = z := str_tl (by rw [h])
theorem ok_readNumber {k : Nat} {C : Addr} {PT : TbP} (F : Fun K "read_number" "read_number" sReadNumber f fd) (hMF : ∃ t, mg "MOST_FIGURES" = some (.int 5 t)) (cW : MetC P w K mg base C "word" k ["self"] (spWord C)) (cF : Cal P w K mg base "whole_from" k ["word", "most"] (spWholeFrom K PT)) : FnOk P w K mg base CX0 (k + 1) f fd ["signs"] (spRNum C PT) := by
  refine F.ok scRNum (fun vs H Q E h => ?_) (fun cdv A outer s H vs Q E hr h => ?_)
  · obtain ⟨p, t, i, r, rfl, _⟩ := h
    rfl
  obtain ⟨p, t, i, r, rfl, hR, hl, i0, i1, hst, tb, q⟩ := h
  refine ⟨_, pss_cons (ps_set (i := 1) scRNum.nd rfl (.inl rfl) (pe_cal cF hr rfl (pa_cons (pe_met0 cW hr (pv 0)) (pa_cons (pe_globI rfl hMF) pa_nil))))
    (pss_cons (ps_if (pt_cmpR op_isN (pv 1) pe_non (nomark _)) pss_never pss_nil) (pss_one (ps_ret (pv 1)))), ?_⟩
  obtain ⟨dx, n, hp, hd, hn⟩ := id hR
  have tw : (itL i ++ r).takeWhile wordB = itL i := tw_app (it_word i) hst
  refine ⟨_, rfl, p, dx, _, rfl, hp, sgF_no _ _ (by decide +kernel) (by decide +kernel), p, t, _, rfl, hR, hl, fun H1 o1 R1 => ?_⟩
  rw [tw, List.drop_left] at R1
  rw [tw, mk_tlA (it_tl i)]
  have l5 := itS_len i0 i1
  have t1 := tabsG_only tb hR.ins o1
  refine ⟨itS i, 5, rfl, Nat.le_trans l5 (by decide), by decide, t1, fun H2 e2 t2 => ?_⟩
  rw [wfD_it i0 i1 (by decide)]
  refine ⟨_, rfl, rfl, _, rfl, ifF rfl ⟨_, rfl, q _ (o1.xp.trans (XP.of_ext e2)) (R1.ext e2) t2⟩⟩
/-- read_boxes at depth n -/
def spRBoxes (K : PySem.W.Frag) (C : Addr) (PT : TbP) (n : Nat) : Sp := fun vs H Q _ => ∃ (p : Addr) (t : Str) (d : PyData) (r : List Nat), vs = [.ref p, .int (n : Nat)] ∧ grB n d = true ∧ RestAt C t p ((gT n d).cps.toList ++ r) H ∧ t.length ≤ sizeLine ∧ r.head? ≠ some 91 ∧ TabsG PT H ∧ ∀ v H', XP p H H' → RestAt C t p r H' → TabsG PT H' → Dp K H' v d → Q v H'
def spRBox (K : PySem.W.Frag) (C : Addr) (PT : TbP) (n : Nat) : Sp := fun vs H Q _ => ∃ (p : Addr) (t : Str) (d : PyData) (m : Nat) (r : List Nat), vs = [.ref p, .int ((n + 1 : Nat) : Int)] ∧ m ≤ 8 ∧ bxB (grB n) m d = true ∧ RestAt C t p (bxL (gT n) d ++ r) H ∧ t.length ≤ sizeLine ∧ TabsG PT H ∧ ∀ v H', XP p H H' → RestAt C t p r H' → TabsG PT H' → Dp K H' v d → Q v H'
def spRPlace (K : PySem.W.Frag) (C : Addr) (PT : TbP) (n : Nat) : Sp := fun vs H Q _ => ∃ (p : Addr) (t : Str) (d : PyData) (m : Nat) (r : List Nat), vs = [.ref p, .int ((n + 1 : Nat) : Int)] ∧ m ≤ 8 ∧ plB (grB n) m d = true ∧ RestAt C t p (plL (gT n) d ++ r) H ∧ t.length ≤ sizeLine ∧ Stop r ∧ TabsG PT H ∧ ∀ v H', XP p H H' → RestAt C t p r H' → TabsG PT H' → Dp K H' v d → Q v H'
theorem scRPlace : FnScope ["signs", "deep", "graph"] ["signs", "deep"] (defScope sReadPlace) := ⟨rfl, rfl, rfl, by decide +kernel, rfl, by decide +kernel, by decide +kernel⟩
theorem ok_readPlace {k n : Nat} {C : Addr} {PT : TbP} (F : Fun K "read_place" "read_place" sReadPlace f fd) (cC : MetC P w K mg base C "comes" k ["self", "sign"] (spComes C)) (cW : MetC P w K mg base C "want" k ["self", "sign"] (spWant C)) (cN : Cal P w K mg base "read_number" k ["signs"] (spRNum C PT)) (cB : Cal P w K mg base "read_boxes" k ["signs", "deep"] (spRBoxes K C PT n)) : FnOk P w K mg base CX0 (k + 1) f fd ["signs", "deep"] (spRPlace K C PT n) := by
  refine F.ok scRPlace (fun vs H Q E h => ?_) (fun cdv A outer s H vs Q E hr h => ?_)
  · obtain ⟨p, t, d, m, r, rfl, _⟩ := h
    rfl
  obtain ⟨p, t, d, m, r, rfl, m8, hd, hR, hl, hst, tb, q⟩ := h
  refine ⟨_, pss_cons (ps_if (pt_val (pe_met cC hr (pv 0) (pa_cons pe_str pa_nil)))
      (pss_cons (ps_expr (pe_met cW hr (pv 0) (pa_cons pe_str pa_nil)))
      (pss_cons (ps_set (i := 2) scRPlace.nd rfl (.inl rfl) (pe_cal cB hr rfl (pa_cons (pv 0) (pa_cons (pe_op op_sub (pv 1) pe_int) pa_nil))))
      (pss_cons (ps_expr (pe_met cW hr (pv 0) (pa_cons pe_str pa_nil)))
      (pss_one (ps_ret (pv 2)))))) pss_nil)
    (pss_cons (ps_if (pt_val (pe_met cC hr (pv 0) (pa_cons pe_str pa_nil)))
      (pss_cons (ps_expr (pe_met cW hr (pv 0) (pa_cons pe_str pa_nil)))
      (pss_one (ps_ret (pe_tup (pa_cons pe_str (pa_cons (pe_cal cN hr rfl (pa_cons (pv 0) pa_nil)) pa_nil)))))) pss_nil)
    (pss_one (ps_ret (pe_cal cN hr rfl (pa_cons (pv 0) pa_nil))))), ?_⟩
  have z40 : ("(" : Str).cps.toList = [40] := by decide +kernel
  have z41 : (")" : Str).cps.toList = [41] := by decide +kernel
  have z126 : ("~" : Str).cps.toList = [126] := by decide +kernel
  obtain ⟨dx, j0, hp, hdr, hn⟩ := id hR
  refine ⟨_, rfl, p, dx, _, rfl, hp, sgF_no _ _ (by decide +kernel) (by decide +kernel), p, t, _, _, 40, rfl, z40, hR, hl, _, rfl, ?_⟩
  rcases pl_cases hd with ⟨i, rfl, i0, i1⟩ | ⟨j, rfl, jj0, jj1⟩ | ⟨y, rr, rfl, hg⟩
  · rw [plL_int] at hR ⊢
    obtain ⟨c, l, e⟩ : ∃ c l, itL i ++ r = c :: l := by
      cases h : itL i with
      | nil => exact absurd h (it_ne i)
      | cons c l => exact ⟨c, _, rfl⟩
    have hc := it_head e
    have h40 : (itL i ++ r).head? ≠ some 40 := by rw [e]; intro z; cases z; omega
    have h126 : (itL i ++ r).head? ≠ some 126 := by rw [e]; intro z; cases z; omega
    refine ifF (decide_eq_false h40) ⟨_, rfl, p, dx, _, rfl, hp, sgF_no _ _ (by decide +kernel) (by decide +kernel), p, t, _, _, 126, rfl, z126, hR, hl, _, rfl, ifF (decide_eq_false h126) ?_⟩
    exact ⟨_, rfl, p, t, i, r, rfl, hR, hl, i0, i1, hst, tb, fun H' x1 R1 t1 => q _ _ x1 R1 t1 (.int i)⟩
  · rw [plL_tie] at hR ⊢
    have hR : RestAt C t p (126 :: (itL j ++ r)) H := hR
    refine ifF (decide_eq_false (by intro z; cases z)) ⟨_, rfl, p, dx, _, rfl, hp, sgF_no _ _ (by decide +kernel) (by decide +kernel), p, t, _, _, 126, rfl, z126, hR, hl, _, rfl, ifT (decide_eq_true rfl) ?_⟩
    refine ⟨_, rfl, p, dx, _, rfl, hp, sgF_no _ _ (by decide +kernel) (by decide +kernel), p, t, _, _, 126, rfl, z126, hR, hl, fun H1 o1 R1 => ?_⟩
    refine ⟨_, rfl, p, t, j, r, rfl, R1, hl, by omega, by omega, hst, tabsG_only tb hR.ins o1, fun H2 x2 R2 t2 => ?_⟩
    refine ⟨by show 2 ≤ sizeLine; decide, fun a ha => ?_⟩
    have sa := same_new ha (.tup [.str "tie", .int j])
    exact q _ _ ((o1.xp.trans x2).trans (XP.of_same sa)) (R2.same sa) (t2.same sa) (.tup (SqT.of upd_same) (.cons (.str _) (.cons (.int _) .nil)))
  · rw [plL_gr] at hR ⊢
    have hR : RestAt C t p (40 :: ((gT n (.tuple (.tuple y :: rr))).cps.toList ++ [41] ++ r)) H := hR
    refine ifT (decide_eq_true rfl) ⟨_, rfl, p, dx, _, rfl, hp, sgF_no _ _ (by decide +kernel) (by decide +kernel), p, t, _, _, 40, rfl, z40, hR, hl, fun H1 o1 R1 => ?_⟩
    rw [List.append_assoc] at R1
    refine ⟨_, rfl, _, rfl, _, _, rfl, rfl, p, t, _, [41] ++ r, (by show [V.ref p, V.int (((n + 1 : Nat) : Int) - 1)] = _; rw [show ((n + 1 : Nat) : Int) - 1 = (n : Nat) by omega]), hg, R1, hl, (by intro z; cases z), tabsG_only tb hR.ins o1, fun v H2 x2 R2 t2 hv => ?_⟩
    obtain ⟨dx2, j2, hp2, _⟩ := id R2
    refine ⟨_, rfl, p, dx2, _, rfl, hp2, sgF_no _ _ (by decide +kernel) (by decide +kernel), p, t, _, r, 41, rfl, z41, R2, hl, fun H3 o3 R3 => ?_⟩
    exact ⟨_, rfl, q _ _ ((o1.xp.trans x2).trans o3.xp) R3 (tabsG_only t2 R2.ins o3) (dp_xp o3.xp R2.ins _ _ hv)⟩
end
/-! read_box, read_boxes, read_graph -/
section
open PySem.Spec PyProof.Rows LamX
variable {P : Program} {w : World} {K : PySem.W.Frag} {mg : Str → Option Value} {base : Heap} {f : Addr} {fd : FuncData}
/-- a list of ours: its parts, kept while the signs are read -/
structure Lq (K : PySem.W.Frag) (p : Addr) (H G : Hp) (L : Addr) (vs : List V) (ds : List PyData) : Prop where
  xp : XP p H G
  loose : Loose L H
  ne : L ≠ p
  at_ : G L = some (.lst vs)
  dp : DpAll K G vs ds
  tup : ∀ d ∈ ds, tupOnly d = true
theorem Lq.move {p : Addr} {H G G' : Hp} {L : Addr} {vs : List V} {ds : List PyData} (b : Lq K p H G L vs ds) (x : XP p G G') (i : InsAt p G) : Lq K p H G' L vs ds :=
  ⟨b.xp.trans x, b.loose, b.ne, x _ _ b.ne b.at_ (fun ps z => by cases z), dp_xps x i _ _ b.dp, b.tup⟩
theorem Lq.put {p : Addr} {H G : Hp} {L : Addr} {vs : List V} {ds : List PyData} {v : V} {d : PyData} (b : Lq K p H G L vs ds) (hv : Dp K G v d) (ht : tupOnly d = true) : Lq K p H (upd G L (.lst (vs ++ [v]))) L (vs ++ [v]) (ds ++ [d]) := by
  have kt : KT G (upd G L (.lst (vs ++ [v]))) := KT.upd b.at_
  have tp : ∀ e ∈ ds ++ [d], tupOnly e = true := fun e he => by
    rcases List.mem_append.mp he with he | he
    · exact b.tup e he
    · rw [List.mem_singleton.mp he]
      exact ht
  exact ⟨b.xp.put b.loose, b.loose, b.ne, upd_same, dpAll_kt kt _ _ (tupOnly_all tp) (dpAll_snoc hv b.dp), tp⟩
def moreL (g : PyData → Str) (l : List PyData) : List Nat := l.flatMap fun q => 32 :: plL g q
theorem stop_more {g : PyData → Str} {l : List PyData} {r : List Nat} : Stop (moreL g l ++ 93 :: r) := by
  cases l with
  | nil => exact stop_of (by decide +kernel)
  | cons a l => exact stop_of (by decide +kernel)
theorem scRBox : FnScope ["signs", "deep", "places"] ["signs", "deep"] (defScope sReadBox) := ⟨rfl, rfl, rfl, by decide +kernel, rfl, by decide +kernel, by decide +kernel⟩
theorem ok_readBox {k n : Nat} {C : Addr} {PT : TbP} (F : Fun K "read_box" "read_box" sReadBox f fd) (T : Free mg) (hP : ∃ t, mg "PLACES" = some (.int 3 t)) (cW : MetC P w K mg base C "want" k ["self", "sign"] (spWant C)) (cP : Cal P w K mg base "read_place" k ["signs", "deep"] (spRPlace K C PT n)) : FnOk P w K mg base CX0 (k + 1) f fd ["signs", "deep"] (spRBox K C PT n) := by
  refine F.ok scRBox (fun vs H Q E h => ?_) (fun cdv A outer s H vs Q E hr h => ?_)
  · obtain ⟨p, t, d, m, r, rfl, _⟩ := h
    rfl
  obtain ⟨p, t, d, m, r, rfl, m8, hd, hR, hl, tb, q⟩ := h
  refine ⟨_, pss_cons (ps_expr (pe_met cW hr (pv 0) (pa_cons pe_str pa_nil)))
    (pss_cons (ps_set (i := 2) scRBox.nd rfl (.inl rfl) (pe_lst (pa_cons (pe_cal cP hr rfl (pa_cons (pv 0) (pa_cons (pv 1) pa_nil))) pa_nil)))
    (pss_cons (ps_while PassesOwn.never (pt_cmpR op_lt (pe_callB call_len_seq rfl T.len PySem.boot_len (pa_cons (pv 2) pa_nil)) (pe_globI rfl hP) (nomark _))
      (pss_cons (ps_expr (pe_met cW hr (pv 0) (pa_cons pe_str pa_nil)))
      (pss_one (ps_expr (pe_bm PySem.F.plainAttrs_list PySem.F.slot_list_append PySem.F.type_list_append mt_append (pv 2) (pa_cons (pe_cal cP hr rfl (pa_cons (pv 0) (pa_cons (pv 1) pa_nil))) pa_nil))))))
    (pss_cons (ps_expr (pe_met cW hr (pv 0) (pa_cons pe_str pa_nil)))
    (pss_one (ps_ret (pe_callTy call_tuple_of rfl T.tuple (by decide +kernel) (pa_cons (pv 2) pa_nil))))))), ?_⟩
  have z91 : ("[" : Str).cps.toList = [91] := by decide +kernel
  have z93 : ("]" : Str).cps.toList = [93] := by decide +kernel
  have z32 : (" " : Str).cps.toList = [32] := by decide +kernel
  obtain ⟨d0, d1, d2, rfl, hall⟩ := bx3 hd
  rw [bxL_eq] at hR
  have e0 : 91 :: (plL (gT n) d0 ++ (32 :: plL (gT n) d1 ++ (32 :: plL (gT n) d2 ++ [93]))) ++ r = 91 :: (plL (gT n) d0 ++ (moreL (gT n) [d1, d2] ++ 93 :: r)) := by
    unfold moreL
    simp
  rw [e0] at hR
  have tupP : ∀ z ∈ [d0, d1, d2], tupOnly z = true := fun z hz => (pl_shp (grB_shp n) (hall z hz)).1
  obtain ⟨dx, j0, hp, _⟩ := id hR
  refine ⟨_, rfl, p, dx, _, rfl, hp, sgF_no _ _ (by decide +kernel) (by decide +kernel), p, t, _, _, 91, rfl, z91, hR, hl, fun H1 o1 R1 => ?_⟩
  have t1 := tabsG_only tb hR.ins o1
  refine ⟨_, rfl, _, rfl, p, t, d0, m, _, rfl, m8, hall d0 (by simp), R1, hl, stop_more, t1, fun v H2 x2 R2 t2 hv => ?_⟩
  refine ⟨by show 1 ≤ sizeLine; decide, fun L hL => ?_⟩
  have x02 := o1.xp.trans x2
  have nLp : L ≠ p := fun e => by
    obtain ⟨_, _, h, _⟩ := R2
    rw [e, h] at hL
    cases hL
  have sL := same_new hL (.lst [v])
  have b0 : Lq K p H (upd H2 L (.lst [v])) L [v] [d0] := ⟨x02.put (x02.free nLp hL), x02.free nLp hL, nLp, upd_same, .cons (dp_same sL hv) .nil, fun z hz => by rw [List.mem_singleton.mp hz]; exact tupP d0 (by simp)⟩
  refine ⟨fun m' σ G => ∃ (done todo : List PyData) (vs : List V), m' = todo.length ∧ [d0, d1, d2] = done ++ todo ∧ σ = [some (.ref p), some (.int ((n + 1 : Nat) : Int)), some (.ref L)] ∧ Lq K p H G L vs done ∧ RestAt C t p (moreL (gT n) todo ++ 93 :: r) G ∧ TabsG PT G, ⟨_, [d0], [d1, d2], [v], rfl, rfl, rfl, b0, R2.same sL, t2.same sL⟩, ?_⟩
  rintro m' σ G ⟨done, todo, vs, rfl, ed, rfl, b, R, tG⟩
  have lv := dpAll_len b.dp
  have l3 := congrArg List.length ed
  rw [List.length_append] at l3
  have l3 : 3 = done.length + todo.length := l3
  obtain ⟨dxG, jG, hpG, _⟩ := id R
  refine ⟨_, rfl, L, vs, rfl, .inl (SqL.of b.at_), _, _, rfl, rfl, _, rfl, ?_⟩
  cases todo with
  | cons a todo =>
    rw [List.length_cons] at l3
    refine ifT (decide_eq_true (by omega)) ⟨_, fun σ' H' h => h, ?_⟩
    have e1 : moreL (gT n) (a :: todo) ++ 93 :: r = 32 :: (plL (gT n) a ++ (moreL (gT n) todo ++ 93 :: r)) := by
      unfold moreL
      simp
    rw [e1] at R
    refine ⟨_, rfl, p, dxG, _, rfl, hpG, sgF_no _ _ (by decide +kernel) (by decide +kernel), p, t, _, _, 32, rfl, z32, R, hl, fun G1 o2 R3 => ?_⟩
    have t3 := tabsG_only tG R.ins o2
    have b1 := b.move o2.xp R.ins
    have ha : a ∈ [d0, d1, d2] := by rw [ed]; simp
    refine ⟨_, rfl, .inl ⟨rfl, _, SqL.of b1.at_⟩, _, rfl, _, rfl, p, t, a, m, _, rfl, m8, hall a ha, R3, hl, stop_more, t3, fun va G2 x4 R4 t4 hva => ?_⟩
    have b2 := b1.move x4 R3.ins
    refine ⟨L, _, _, rfl, rfl, b2.at_, ?_, ?_⟩
    · rw [lv]
      exact Nat.lt_of_lt_of_le (show _ < 1000 by omega) (small (Nat.le_refl _))
    · refine ⟨todo.length, by rw [List.length_cons]; omega, done ++ [a], todo, vs ++ [va], rfl, by rw [ed]; simp, rfl, b2.put hva (tupP a ha), R4.put b.ne.symm, tabsG_upd t4 b2.at_⟩
  | nil =>
    have l3 : 3 = done.length + 0 := l3
    refine ifF (decide_eq_false (by omega)) ?_
    have R : RestAt C t p (93 :: r) G := R
    refine ⟨_, rfl, p, dxG, _, rfl, hpG, sgF_no _ _ (by decide +kernel) (by decide +kernel), p, t, _, _, 93, rfl, z93, R, hl, fun G1 o2 R3 => ?_⟩
    have b1 := b.move o2.xp R.ins
    refine ⟨_, rfl, L, vs, rfl, .inl ⟨SqL.of b1.at_, fun a ha => ?_⟩⟩
    have sa := same_new ha (.tup vs)
    have ed : [d0, d1, d2] = done := by rw [ed, List.append_nil]
    refine q _ _ (b1.xp.trans (XP.of_same sa)) (R3.same sa) ((tabsG_only tG R.ins o2).same sa) ?_
    rw [ed]
    exact .tup (SqT.of upd_same) (dps_same sa b1.dp)
theorem scRBoxes : FnScope ["signs", "deep", "boxes"] ["signs", "deep"] (defScope sReadBoxes) := ⟨rfl, rfl, rfl, by decide +kernel, rfl, by decide +kernel, by decide +kernel⟩
theorem bxL_head {n m : Nat} {b : PyData} (h : bxB (grB n) m b = true) : ∃ l, bxL (gT n) b = 91 :: l := by
  obtain ⟨x, y, z, rfl, _⟩ := bx3 h
  exact ⟨_, bxL_eq x y z⟩
theorem ok_readBoxes {k n : Nat} {C : Addr} {PT : TbP} (F : Fun K "read_boxes" "read_boxes" sReadBoxes f fd) (T : Free mg) (cC : MetC P w K mg base C "comes" k ["self", "sign"] (spComes C)) (cB : Cal P w K mg base "read_box" k ["signs", "deep"] (spRBox K C PT n)) : FnOk P w K mg base CX0 (k + 1) f fd ["signs", "deep"] (spRBoxes K C PT (n + 1)) := by
  refine F.ok scRBoxes (fun vs H Q E h => ?_) (fun cdv A outer s H vs Q E hr h => ?_)
  · obtain ⟨p, t, d, r, rfl, _⟩ := h
    rfl
  obtain ⟨p, t, d, r, rfl, hd, hR, hl, h91, tb, q⟩ := h
  refine ⟨_, pss_cons (ps_if (pt_cmpR op_eq (pv 1) pe_int (nomark _)) pss_never pss_nil)
    (pss_cons (ps_set (i := 2) scRBoxes.nd rfl (.inl rfl) (pe_lst pa_nil))
    (pss_cons (ps_while PassesOwn.never (pt_val (pe_met cC hr (pv 0) (pa_cons pe_str pa_nil)))
      (pss_one (ps_expr (pe_bm PySem.F.plainAttrs_list PySem.F.slot_list_append PySem.F.type_list_append mt_append (pv 2) (pa_cons (pe_cal cB hr rfl (pa_cons (pv 0) (pa_cons (pv 1) pa_nil))) pa_nil)))))
    (pss_one (ps_ret (pe_callTy call_tuple_of rfl T.tuple (by decide +kernel) (pa_cons (pv 2) pa_nil)))))), ?_⟩
  have z91 : ("[" : Str).cps.toList = [91] := by decide +kernel
  obtain ⟨n', bs, en, rfl, l1, l8, hall⟩ := gr_is hd
  cases en
  rw [gL_eq] at hR
  refine ⟨_, rfl, rfl, _, rfl, ifF (decide_eq_false (by intro z; cases z)) ?_⟩
  refine ⟨small (Nat.zero_le _), fun L hL => ?_⟩
  have nLp : L ≠ p := fun e => by
    obtain ⟨_, _, h, _⟩ := hR
    rw [e, h] at hL
    cases hL
  have sL := same_new hL (.lst [])
  have b0 : Lq K p H (upd H L (.lst [])) L [] [] := ⟨XP.of_same sL, (XP.refl p H).free nLp hL, nLp, upd_same, .nil, fun z hz => by cases hz⟩
  refine ⟨fun m' σ G => ∃ (done todo : List PyData) (vs : List V), m' = todo.length ∧ bs = done ++ todo ∧ σ = [some (.ref p), some (.int ((n + 1 : Nat) : Int)), some (.ref L)] ∧ Lq K p H G L vs done ∧ RestAt C t p (todo.flatMap (bxL (gT n)) ++ r) G ∧ TabsG PT G, ⟨_, [], bs, [], rfl, rfl, rfl, b0, hR.same sL, tb.same sL⟩, ?_⟩
  rintro m' σ G ⟨done, todo, vs, rfl, ed, rfl, b, R, tG⟩
  have lv := dpAll_len b.dp
  have l3 := congrArg List.length ed
  rw [List.length_append] at l3
  obtain ⟨dxG, jG, hpG, _⟩ := id R
  refine ⟨_, rfl, p, dxG, _, rfl, hpG, sgF_no _ _ (by decide +kernel) (by decide +kernel), p, t, _, _, 91, rfl, z91, R, hl, _, rfl, ?_⟩
  cases todo with
  | cons a todo =>
    have ha : a ∈ bs := by rw [ed]; simp
    obtain ⟨l, el⟩ := bxL_head (hall a ha)
    have e1 : (a :: todo).flatMap (bxL (gT n)) ++ r = bxL (gT n) a ++ (todo.flatMap (bxL (gT n)) ++ r) := by simp
    rw [e1] at R ⊢
    refine ifT (decide_eq_true (by rw [el]; rfl)) ⟨_, fun σ' H' h => h, ?_⟩
    refine ⟨_, rfl, .inl ⟨rfl, _, SqL.of b.at_⟩, _, rfl, _, rfl, p, t, a, bs.length, _, rfl, l8, hall a ha, R, hl, tG, fun va G2 x4 R4 t4 hva => ?_⟩
    have b2 := b.move x4 R.ins
    rw [List.length_cons] at l3
    refine ⟨L, _, _, rfl, rfl, b2.at_, ?_, ?_⟩
    · rw [lv]
      exact Nat.lt_of_lt_of_le (show _ < 1000 by omega) (small (Nat.le_refl _))
    · exact ⟨todo.length, by rw [List.length_cons]; omega, done ++ [a], todo, vs ++ [va], rfl, by rw [ed]; simp, rfl, b2.put hva (bx_tup (hall a ha)), R4.put b.ne.symm, tabsG_upd t4 b2.at_⟩
  | nil =>
    have R : RestAt C t p r G := R
    refine ifF (decide_eq_false h91) ?_
    refine ⟨_, rfl, L, vs, rfl, .inl ⟨SqL.of b.at_, fun a ha => ?_⟩⟩
    have sa := same_new ha (.tup vs)
    have ed : bs = done := by rw [ed, List.append_nil]
    refine q _ _ (b.xp.trans (XP.of_same sa)) (R.same sa) (tG.same sa) ?_
    rw [ed]
    exact .tup (SqT.of upd_same) (dps_same sa b.dp)
theorem all_reads {k : Nat} {C fb fp : Addr} {PT : TbP} {fdb fdp : FuncData} (F : Fun K "read_boxes" "read_boxes" sReadBoxes f fd) (FB : Fun K "read_box" "read_box" sReadBox fb fdb) (FP : Fun K "read_place" "read_place" sReadPlace fp fdp)
    (hm : mg "read_boxes" = some (.ref f)) (hmb : mg "read_box" = some (.ref fb)) (hmp : mg "read_place" = some (.ref fp)) (hb : Binds K fd ["signs", "deep"] []) (hbb : Binds K fdb ["signs", "deep"] []) (hbp : Binds K fdp ["signs", "deep"] []) (T : Free mg) (hP : ∃ t, mg "PLACES" = some (.int 3 t))
    (cC : MetC P w K mg base C "comes" k ["self", "sign"] (spComes C)) (cW : MetC P w K mg base C "want" k ["self", "sign"] (spWant C)) (cN : Cal P w K mg base "read_number" k ["signs"] (spRNum C PT)) : ∀ n, FnOk P w K mg base CX0 (k + 3 * n) f fd ["signs", "deep"] (spRBoxes K C PT n)
  | 0 => ⟨(fun vs H Q E h => by obtain ⟨p, t, d, r, _, h, _⟩ := h; cases d <;> cases h), (fun A outer s H args us vs Q E hr he hb hv h => by obtain ⟨p, t, d, r, _, h, _⟩ := h; cases d <;> cases h)⟩
  | n + 1 => by
    have ih := all_reads F FB FP hm hmb hmp hb hbb hbp T hP cC cW cN n
    have cG : Cal P w K mg base "read_boxes" (k + 3 * n) ["signs", "deep"] (spRBoxes K C PT n) := ⟨f, fd, ih, hm, F.kp, hb⟩
    have cP : Cal P w K mg base "read_place" (k + 3 * n + 1) ["signs", "deep"] (spRPlace K C PT n) := ⟨fp, fdp, ok_readPlace FP (cC.mono (by omega)) (cW.mono (by omega)) (cN.mono (by omega)) cG, hmp, FP.kp, hbp⟩
    have cB : Cal P w K mg base "read_box" (k + 3 * n + 2) ["signs", "deep"] (spRBox K C PT n) := ⟨fb, fdb, ok_readBox FB T hP (cW.mono (by omega)) cP, hmb, FB.kp, hbb⟩
    exact (ok_readBoxes (k := k + 3 * n + 2) F T (cC.mono (by omega)) cB).mono (by omega)
/-- a class that may be made by its name -/
def MakC (P : Program) (w : World) (K : PySem.W.Frag) (mg : Str → Option Value) (base : Heap) (x : Str) (C : Addr) (k : Nat) (ps : List Str) (sp : Sp) : Prop :=
  ∃ (f : Addr) (fd : FuncData), FnOk P w K mg base CX0 k f fd ps sp ∧ Mk K C f ∧ mg x = some (.ref C) ∧ Binds K fd ps []
theorem pe_mak {X : Cx} {x : Str} {C : Addr} {k j : Nat} {ps : List Str} {sp : Sp} {pos p : Pos} {e : Expr} {es : List Expr} {t : TA} (M : MakC X.prog X.w X.K X.mg X.base x C k ps sp) (hr : Room j X.A) (hk : k + 1 ≤ j) (hg : Gl X x) (ha : PA X (e :: es) t)
    (hdb : (x == ("__debug__" : Str)) = false := by decide) (he : starEach (e :: es) X.env = (false, eval e X.env) :: starEach es X.env := by rfl) (hpl : ((backTo pos (starEach es X.env)).any fun x => x.fst) = false := by rfl) :
    PE X (.Call (.Name x p) (e :: es) [] pos) (tMake C sp [] E0 t) := by
  obtain ⟨f, fd, F, M, hm, b⟩ := M
  exact pe_make M F (hr.mono hk) hg hm b .nil pass0 ha hdb he hpl
def spReadG (K : PySem.W.Frag) (PT : TbP) : Sp := fun vs H Q _ => ∃ (d : PyData) (c : Nat), vs = [.str (gT 4 d)] ∧ grB 4 d = true ∧ gsz 4 d = some c ∧ TabsG PT H ∧ ∀ v H', ExtN H H' → TabsG PT H' → Dp K H' v d → Q v H'
theorem scReadG : FnScope ["text", "graph"] ["text"] (defScope sReadGraph) := ⟨rfl, rfl, rfl, by decide +kernel, rfl, by decide +kernel, by decide +kernel⟩
theorem ok_readGraph {k : Nat} {C : Addr} {PT : TbP} (F : Fun K "read_graph" "read_graph" sReadGraph f fd) (T : Free mg) (hS : mg "str" = none) (Cn : Cst mg) (cM : MakC P w K mg base "Signs" C k ["self", "text"] (spSgInit C)) (cR : Cal P w K mg base "read_boxes" (k + 1) ["signs", "deep"] (spRBoxes K C PT 4)) (cI : Cal P w K mg base "is_graph" (k + 1) ["thing"] (spIsGraph K)) (cB : Cal P w K mg base "boxes_text" (k + 1) ["graph"] (spBoxes K 4)) : FnOk P w K mg base CX0 (k + 2) f fd ["text"] (spReadG K PT) := by
  refine F.ok scReadG (fun vs H Q E h => ?_) (fun cdv A outer s H vs Q E hr h => ?_)
  · obtain ⟨d, c, rfl, _⟩ := h
    rfl
  obtain ⟨d, c, rfl, hd, hc, tb, q⟩ := h
  refine ⟨_, pss_cons (ps_if (pt_not (pt_val (pe_callB call_isi rfl T.isi (by decide +kernel) (pa_cons (pv 0) (pa_cons (pe_bltn (v := .ty "str") rfl hS (by decide +kernel) rfl) pa_nil))))) pss_never pss_nil)
    (pss_cons (ps_set (i := 1) scReadG.nd rfl (.inl rfl) (pe_cal cR hr rfl (pa_cons (pe_mak cM hr (by omega) rfl (pa_cons (pv 0) pa_nil)) (pa_cons (pe_globI rfl Cn.mostDeep) pa_nil))))
    (pss_cons (ps_if (PW.pt (pw_or (pt_not (pt_val (pe_cal cI hr rfl (pa_cons (pv 1) pa_nil)))) (pw_or1 (pt_cmpR op_ne (pe_cal cB hr rfl (pa_cons (pv 1) pa_nil)) (pv 0) (nomark _))))) pss_never pss_nil)
    (pss_one (ps_ret (pv 1))))), ?_⟩
  have gl := gT_len 4 d hd
  have L := lenG_le 4 (by omega)
  have sl : (16777216 : Nat) = sizeLine := rfl
  refine ⟨_, rfl, .str (gT 4 d), _, _, _, _, rfl, .ty "str", .base (.str _), kit_ty (show kitB "str" "str" = some true by decide +kernel), _, rfl, ifF rfl ?_⟩
  refine ⟨_, rfl, fun x dx nx ndx nex => ⟨x, dx, gT 4 d, rfl, upd_same, ⟨rfl, ?_⟩⟩⟩
  rw [upd_upd]
  have sX : Same H (upd (upd H dx (.own x)) x (.ins C dx (sgF (gT 4 d) 0))) := fun b u h => by
    rw [upd_ne (ne_of_none h nx), upd_ne (ne_of_none h ndx)]
    exact h
  refine ⟨x, gT 4 d, d, [], rfl, hd, ⟨dx, 0, upd_same, by rw [List.append_nil]; rfl, Nat.zero_le _⟩, by omega, (by intro z; cases z), tb.same sX, fun v H2 x2 R2 t2 hv => ?_⟩
  have e2 : ExtN H H2 := fun b u h n => x2 b u (ne_of_none h nx) (sX _ _ h) n
  refine ⟨_, rfl, v, d, rfl, hv, trivial, _, rfl, ?_⟩
  rw [hc]
  refine ifF rfl ⟨_, rfl, v, d, rfl, hv, hd, gl, fun H3 s3 => ⟨_, rfl, rfl, _, rfl, ?_⟩⟩
  refine ifF (by rw [decide_eq_true rfl]; rfl) ⟨_, rfl, ?_⟩
  exact q v H3 (fun b u h n => s3 _ _ (e2 b u h n)) (t2.same s3) (dp_same s3 hv)
end
/-! the law's reader, told of lists of signs -/
section
def dpt (c : Nat) : Int := (if c = 40 ∨ c = 91 then 1 else 0) - (if c = 41 ∨ c = 93 then 1 else 0)
/-- where what is open is shut -/
def shutF : List Nat → Int → Nat → Option Nat
  | [], _, _ => none
  | c :: l, d, i => if d + dpt c = 0 then some i else shutF l (d + dpt c) (i + 1)
theorem shutF_in : ∀ {l : List Nat} {d : Int} {i e : Nat}, shutF l d i = some e → i ≤ e ∧ e < i + l.length
  | [], _, _, _, h => by cases h
  | c :: l, d, i, e, h => by
    unfold shutF at h
    rw [List.length_cons]
    split at h
    · cases h
      omega
    · have := shutF_in h
      omega
/-- the boxes of a text, without their brackets -/
def boxesF : Nat → List Nat → Option (List (List Nat))
  | _, [] => some []
  | 0, _ :: _ => none
  | n + 1, c :: r => if c = 91 then (shutF r 1 0).bind fun e => if r[e]? = some 93 then (boxesF n (r.drop (e + 1))).map (r.take e :: ·) else none else none
theorem boxesF_sound : ∀ {n : Nat} {l : List Nat} {bs : List (List Nat)}, boxesF n l = some bs → l = bs.flatMap fun b => 91 :: (b ++ [93])
  | n, [], bs, h => by
    cases n <;> (cases h; rfl)
  | 0, _ :: _, _, h => by cases h
  | n + 1, c :: r, bs, h => by
    unfold boxesF at h
    split at h
    · rename_i hc
      obtain ⟨e, he, h⟩ := Option.bind_eq_some_iff.mp h
      split at h
      · rename_i h93
        obtain ⟨b2, h2, rfl⟩ := Option.map_eq_some_iff.mp h
        have ih := boxesF_sound h2
        obtain ⟨hl, e93⟩ := List.getElem?_eq_some_iff.mp h93
        rw [List.flatMap_cons, ← ih, hc, List.cons_append, List.append_assoc]
        congr 1
        rw [show [93] ++ r.drop (e + 1) = r.drop e by rw [List.drop_eq_getElem_cons hl, e93]; rfl, List.take_append_drop]
      · cases h
    · cases h
/-- the parts of a box -/
def partsF : List Nat → Int → List Nat → List (List Nat)
  | [], _, cur => [cur]
  | c :: l, d, cur => if c = 32 ∧ d + dpt c = 0 then cur :: partsF l (d + dpt c) [] else partsF l (d + dpt c) (cur ++ [c])
theorem partsF_cons : ∀ (l : List Nat) (d : Int) (cur : List Nat), ∃ q r, partsF l d cur = q :: r
  | [], _, cur => ⟨cur, [], rfl⟩
  | c :: l, d, cur => by
    unfold partsF
    split
    · exact ⟨_, _, rfl⟩
    · exact partsF_cons l _ _
theorem partsF_sound : ∀ (l : List Nat) (d : Int) (cur : List Nat), TL.joinL [32] (partsF l d cur) = cur ++ l
  | [], _, cur => by
    unfold partsF
    rw [List.append_nil]
    rfl
  | c :: l, d, cur => by
    unfold partsF
    split
    · rename_i h
      have ih := partsF_sound l (d + dpt c) []
      obtain ⟨q, r, e⟩ := partsF_cons l (d + dpt c) []
      rw [e] at ih ⊢
      show cur ++ ([32] ++ TL.joinL [32] (q :: r)) = _
      rw [ih, h.1]
      rfl
    · rw [partsF_sound l _ _, List.append_assoc]
      rfl
/-- a piece that opens what it shuts -/
structure Bal (x : List Nat) : Prop where
  sh : ∀ (d : Int) (r : List Nat) (i : Nat), 0 < d → shutF (x ++ r) d i = shutF r d (i + x.length)
  pt : ∀ (d : Int) (r cur : List Nat), 0 < d → partsF (x ++ r) d cur = partsF r d (cur ++ x)
theorem Bal.nil : Bal [] := ⟨fun d r i _ => rfl, fun d r cur _ => by rw [List.append_nil]; rfl⟩
theorem Bal.app {x y : List Nat} (a : Bal x) (b : Bal y) : Bal (x ++ y) :=
  ⟨fun d r i h => by rw [List.append_assoc, a.sh d _ i h, b.sh d r _ h, List.length_append, Nat.add_assoc], fun d r cur h => by rw [List.append_assoc, a.pt d _ cur h, b.pt d r _ h, List.append_assoc]⟩
theorem Bal.one {c : Nat} (h : dpt c = 0) : Bal [c] :=
  ⟨fun d r i hd => by
    show (if d + dpt c = 0 then some i else shutF r (d + dpt c) (i + 1)) = _
    rw [h, Int.add_zero, if_neg (by omega)]
    rfl, fun d r cur hd => by
    show (if c = 32 ∧ d + dpt c = 0 then cur :: partsF r (d + dpt c) [] else partsF r (d + dpt c) (cur ++ [c])) = _
    rw [h, Int.add_zero, if_neg (fun z => by omega)]⟩
theorem Bal.all : ∀ {l : List Nat}, (∀ c ∈ l, dpt c = 0) → Bal l
  | [], _ => .nil
  | c :: l, h => (Bal.one (h c List.mem_cons_self)).app (Bal.all fun x hx => h x (List.mem_cons_of_mem _ hx))
theorem Bal.in_ {a b : Nat} {x : List Nat} (ha : dpt a = 1) (hb : dpt b = -1) (na : a ≠ 32) (nb : b ≠ 32) (h : Bal x) : Bal (a :: (x ++ [b])) :=
  ⟨fun d r i hd => by
    show (if d + dpt a = 0 then some i else shutF ((x ++ [b]) ++ r) (d + dpt a) (i + 1)) = _
    rw [ha, if_neg (by omega), List.append_assoc, h.sh (d + 1) _ _ (by omega)]
    show (if d + 1 + dpt b = 0 then some _ else shutF r (d + 1 + dpt b) _) = _
    rw [hb, if_neg (by omega), show d + 1 + -1 = d by omega, List.length_cons, List.length_append, show i + 1 + x.length + 1 = i + (x.length + [b].length + 1) by rw [List.length_singleton]; omega], fun d r cur hd => by
    show (if a = 32 ∧ d + dpt a = 0 then cur :: partsF ((x ++ [b]) ++ r) (d + dpt a) [] else partsF ((x ++ [b]) ++ r) (d + dpt a) (cur ++ [a])) = _
    rw [ha, if_neg (fun z => na z.1), List.append_assoc, h.pt (d + 1) _ _ (by omega)]
    show (if b = 32 ∧ d + 1 + dpt b = 0 then _ else partsF r (d + 1 + dpt b) (cur ++ [a] ++ x ++ [b])) = _
    rw [hb, if_neg (fun z => nb z.1), show d + 1 + -1 = d by omega, List.append_assoc, List.append_assoc]
    rfl⟩
/-- a bracketed piece, outside of all others -/
theorem shut_in {a b : Nat} {x r : List Nat} (hb : dpt b = -1) (h : Bal x) : shutF (x ++ b :: r) 1 0 = some x.length := by
  rw [h.sh 1 _ 0 (by omega), Nat.zero_add]
  show (if (1 : Int) + dpt b = 0 then some x.length else _) = _
  rw [hb]
  rfl
theorem parts_in {a b : Nat} {x r cur : List Nat} (ha : dpt a = 1) (hb : dpt b = -1) (na : a ≠ 32) (nb : b ≠ 32) (h : Bal x) : partsF (a :: (x ++ b :: r)) 0 cur = partsF r 0 (cur ++ a :: (x ++ [b])) := by
  show (if a = 32 ∧ 0 + dpt a = 0 then _ else partsF (x ++ b :: r) (0 + dpt a) (cur ++ [a])) = _
  rw [ha, if_neg (fun z => na z.1), h.pt (0 + 1) _ _ (by omega)]
  show (if b = 32 ∧ 0 + 1 + dpt b = 0 then _ else partsF r (0 + 1 + dpt b) (cur ++ [a] ++ x ++ [b])) = _
  rw [hb, if_neg (fun z => nb z.1), List.append_assoc, List.append_assoc]
  rfl
/-- a word without brackets and blanks -/
theorem parts_word : ∀ {x r cur : List Nat}, (∀ c ∈ x, dpt c = 0 ∧ c ≠ 32) → partsF (x ++ r) 0 cur = partsF r 0 (cur ++ x)
  | [], r, cur, _ => by rw [List.append_nil]; rfl
  | c :: x, r, cur, h => by
    have hc := h c List.mem_cons_self
    show (if c = 32 ∧ 0 + dpt c = 0 then _ else partsF (x ++ r) (0 + dpt c) (cur ++ [c])) = _
    rw [hc.1, if_neg (fun z => hc.2 z.1), Int.zero_add, parts_word (fun d hd => h d (List.mem_cons_of_mem _ hd)), List.append_assoc]
    rfl
theorem parts_blank {r cur : List Nat} : partsF (32 :: r) 0 cur = cur :: partsF r 0 [] := by
  show (if (32 : Nat) = 32 ∧ 0 + dpt 32 = 0 then cur :: partsF r (0 + dpt 32) [] else _) = _
  rw [if_pos ⟨rfl, rfl⟩]
  rfl
theorem boxesF_all : ∀ {n : Nat} {bs : List (List Nat)}, bs.length ≤ n → (∀ b ∈ bs, Bal b) → boxesF n (bs.flatMap fun b => 91 :: (b ++ [93])) = some bs
  | n, [], _, _ => by cases n <;> rfl
  | 0, b :: bs, h, _ => absurd h (by simp)
  | n + 1, b :: bs, h, hb => by
    have ih := boxesF_all (n := n) (bs := bs) (by simpa using h) fun x hx => hb x (List.mem_cons_of_mem _ hx)
    rw [List.flatMap_cons, List.cons_append, List.append_assoc]
    show (if (91 : Nat) = 91 then (shutF (b ++ 93 :: (bs.flatMap fun b => 91 :: (b ++ [93]))) 1 0).bind _ else none) = _
    rw [if_pos rfl, shut_in (a := 91) (b := 93) rfl (hb b List.mem_cons_self)]
    show (if (b ++ 93 :: (bs.flatMap fun b => 91 :: (b ++ [93])))[b.length]? = some 93 then _ else none) = _
    rw [if_pos (by rw [List.getElem?_append_right (Nat.le_refl _), Nat.sub_self]; rfl)]
    have hd : (b ++ 93 :: (bs.flatMap fun b => 91 :: (b ++ [93]))).drop (b.length + 1) = (bs.flatMap fun b => 91 :: (b ++ [93])) := by
      rw [List.drop_append, List.drop_of_length_le (by omega), show b.length + 1 - b.length = 1 by omega]
      rfl
    show (boxesF n ((b ++ 93 :: (bs.flatMap fun b => 91 :: (b ++ [93]))).drop (b.length + 1))).map ((b ++ 93 :: (bs.flatMap fun b => 91 :: (b ++ [93]))).take b.length :: ·) = _
    rw [hd, ih, List.take_left]
    rfl
theorem shutF_shift : ∀ (l : List Nat) (d : Int) (i j : Nat), shutF l d (i + j) = (shutF l d i).map (· + j)
  | [], _, _, _ => rfl
  | c :: l, d, i, j => by
    unfold shutF
    split
    · rfl
    · rw [show i + j + 1 = i + 1 + j by omega]
      exact shutF_shift l _ (i + 1) j
theorem dv_snoc (l : List Nat) (c : Nat) : NumText.digitsVal (l ++ [c]) = NumText.digitsVal l * 10 + (c - 48) := by
  unfold NumText.digitsVal
  rw [List.foldl_append]
  rfl
/-- figures without a nought ahead are their number's -/
theorem numL_of : ∀ (k : Nat) (l : List Nat), l.length = k + 1 → NumText.AllDigits l → (l.head? = some 48 → k = 0) → TL.numL (NumText.digitsVal l) = l
  | 0, l, hl, ha, _ => by
    match l, hl with
    | [c], _ =>
      have hc := ha c List.mem_cons_self
      have e : NumText.digitsVal [c] = c - 48 := by
        show 0 * 10 + (c - 48) = c - 48
        omega
      rw [e, TL.numL_lt (by omega), show 48 + (c - 48) = c by omega]
  | k + 1, l, hl, ha, h0 => by
    obtain ⟨l2, c, rfl⟩ : ∃ l2 c, l = l2 ++ [c] := ⟨l.dropLast, l.getLast (by intro z; rw [z] at hl; cases hl), (List.dropLast_concat_getLast _).symm⟩
    rw [List.length_append, List.length_singleton] at hl
    have hc := ha c (List.mem_append_right _ List.mem_cons_self)
    have hd : (l2 ++ [c]).head? = l2.head? := by
      cases l2 with
      | nil => cases hl
      | cons a b => rfl
    have n48 : l2.head? ≠ some 48 := fun z => by
      have := h0 (hd.trans z)
      cases this
    have ih := numL_of k l2 (by omega) (fun x hx => ha x (List.mem_append_left _ hx)) (fun z => absurd z n48)
    have pos : 1 ≤ NumText.digitsVal l2 := by
      cases e : NumText.digitsVal l2 with
      | succ m => exact Nat.succ_pos m
      | zero =>
        rw [e] at ih
        have : TL.numL 0 = [48] := TL.numL_lt (by omega)
        rw [this] at ih
        rw [← ih] at n48
        exact absurd rfl n48
    rw [dv_snoc, TL.numL_step (by omega), show (NumText.digitsVal l2 * 10 + (c - 48)) / 10 = NumText.digitsVal l2 by omega, show (NumText.digitsVal l2 * 10 + (c - 48)) % 10 = c - 48 by omega, ih, show 48 + (c - 48) = c by omega]
/-- the law's number of a word -/
def numF (x : List Nat) : Option Int :=
  if figs x = [] ∨ 30 < x.length ∨ (figs x).all digB = false then none
  else if (figs x).head? = some 48 ∧ x ≠ [48] then none
  else some (if x.head? = some 45 then 0 - (NumText.digitsVal (figs x) : Nat) else (NumText.digitsVal (figs x) : Nat))
theorem numF_sound {x : List Nat} {n : Int} (h : numF x = some n) : itL n = x ∧ x.length ≤ 30 := by
  unfold numF at h
  split at h
  · cases h
  rename_i h1
  split at h
  · cases h
  rename_i h2
  have hf : figs x ≠ [] := fun z => h1 (.inl z)
  have hl : x.length ≤ 30 := Nat.le_of_not_lt fun z => h1 (.inr (.inl z))
  have hg : (figs x).all digB = true := by
    cases e : (figs x).all digB with
    | true => rfl
    | false => exact absurd (.inr (.inr e)) h1
  have had := all_dig hg
  refine ⟨?_, hl⟩
  obtain ⟨k, hk⟩ : ∃ k, (figs x).length = k + 1 := by
    cases e : figs x with
    | nil => exact absurd e hf
    | cons a b => exact ⟨b.length, rfl⟩
  cases x with
  | nil => exact absurd rfl hf
  | cons c l =>
    by_cases c45 : c = 45
    · subst c45
      have ef : figs (45 :: l) = l := rfl
      rw [ef] at hf hk had h2 h
      have n48 : l.head? ≠ some 48 := fun z => h2 ⟨z, by simp⟩
      have e := numL_of k l hk had (fun z => absurd z n48)
      have pos : 1 ≤ NumText.digitsVal l := by
        cases ez : NumText.digitsVal l with
        | succ m => exact Nat.succ_pos m
        | zero =>
          rw [ez] at e
          have : TL.numL 0 = [48] := TL.numL_lt (by omega)
          rw [this] at e
          rw [← e] at n48
          exact absurd rfl n48
      have h : some ((0 : Int) - (NumText.digitsVal l : Nat)) = some n := h
      cases h
      unfold itL
      rw [if_pos (by omega), show (-((0 : Int) - (NumText.digitsVal l : Nat))).toNat = NumText.digitsVal l by omega, e]
    · have ef : figs (c :: l) = c :: l := by
        unfold figs
        split
        · rename_i q
          exact absurd (List.cons.inj q).1 c45
        · rfl
      rw [ef] at hf hk had h2 h
      have e := numL_of k (c :: l) hk had (fun z => by
        by_cases w : (c :: l) = [48]
        · rw [w] at hk
          simpa using hk.symm
        · exact absurd ⟨z, w⟩ h2)
      have h : some (if (some c : Option Nat) = some 45 then (0 : Int) - (NumText.digitsVal (c :: l) : Nat) else (NumText.digitsVal (c :: l) : Nat)) = some n := h
      rw [if_neg (fun z => c45 (Option.some.inj z))] at h
      cases h
      unfold itL
      rw [if_neg (by omega), Int.toNat_natCast, e]
end
/-! the law's reader is sound: what it gives back has the text it was given -/
section
open PySem.Spec PyProof.Rows LamX
def placeF (rd : List Nat → Option PyData) (m : Nat) (x : List Nat) : Option PyData :=
  if x.head? = some 40 then (if x.getLast? = some 41 then rd ((x.drop 1).dropLast) else none)
  else (numF (if x.head? = some 126 then x.drop 1 else x)).bind fun n =>
    if x.head? = some 126 then (if 0 ≤ n ∧ n < (m : Int) then some (.tuple [.str "tie", .int n]) else none) else if -10000 < n ∧ n < 10000 then some (.int n) else none
def boxF (rd : List Nat → Option PyData) (m : Nat) (b : List Nat) : Option PyData :=
  match partsF b 0 [] with
  | [x, y, z] => (placeF rd m x).bind fun p => (placeF rd m y).bind fun q => (placeF rd m z).map fun r => .tuple [p, q, r]
  | _ => none
def allF (f : List Nat → Option PyData) : List (List Nat) → Option (List PyData)
  | [] => some []
  | a :: l => (f a).bind fun x => (allF f l).map (x :: ·)
def readF : Nat → List Nat → Option PyData
  | 0, _ => none
  | n + 1, x => (boxesF x.length x).bind fun bs => if 1 ≤ bs.length ∧ bs.length ≤ 8 then (allF (boxF (readF n) bs.length) bs).map PyData.tuple else none
theorem ends_ {x : List Nat} (h : x.head? = some 40) (g : x.getLast? = some 41) : x = 40 :: ((x.drop 1).dropLast ++ [41]) := by
  cases x with
  | nil => cases h
  | cons a l =>
    cases h
    cases l with
    | nil => cases g
    | cons b m =>
      have e : (b :: m).getLast? = some 41 := by
        rw [List.getLast?_cons_cons] at g
        exact g
      show 40 :: (b :: m) = 40 :: ((b :: m).dropLast ++ [41])
      rw [List.getLast?_eq_some_getLast (List.cons_ne_nil b m)] at e
      have := List.dropLast_concat_getLast (List.cons_ne_nil b m)
      rw [Option.some.inj e] at this
      rw [this]
theorem placeF_sound {n m : Nat} {rd : List Nat → Option PyData} (hr : ∀ x d, rd x = some d → grB n d = true ∧ (gT n d).cps.toList = x) {x : List Nat} {d : PyData} (h : placeF rd m x = some d) : plB (grB n) m d = true ∧ plL (gT n) d = x := by
  unfold placeF at h
  split at h
  · rename_i h40
    split at h
    · rename_i h41
      obtain ⟨g1, g2⟩ := hr _ _ h
      obtain ⟨y, r, rfl⟩ : ∃ y r, d = .tuple (.tuple y :: r) := by
        cases n with
        | zero => cases g1
        | succ n =>
          cases d with
          | tuple bs =>
            have g2 : (decide (1 ≤ bs.length ∧ bs.length ≤ 8) && bs.all (bxB (grB n) bs.length)) = true := g1
            rw [Bool.and_eq_true, decide_eq_true_eq] at g2
            cases bs with
            | nil => exact absurd g2.1.1 (by simp)
            | cons b l =>
              have hb := List.all_eq_true.mp g2.2 b List.mem_cons_self
              unfold bxB at hb
              split at hb
              · exact ⟨_, _, rfl⟩
              · cases hb
          | _ => cases g1
      refine ⟨g1, ?_⟩
      rw [plL_gr, g2]
      exact (ends_ h40 h41).symm
    · cases h
  · obtain ⟨i, hi, h⟩ := Option.bind_eq_some_iff.mp h
    obtain ⟨e, _⟩ := numF_sound hi
    split at h
    · rename_i h126
      split at h
      · rename_i hb
        cases h
        refine ⟨decide_eq_true ⟨rfl, hb.1, hb.2⟩, ?_⟩
        rw [plL_tie, e, if_pos h126]
        cases x with
        | nil => cases h126
        | cons a l => cases h126; rfl
      · cases h
    · rename_i h126
      split at h
      · rename_i hb
        cases h
        refine ⟨decide_eq_true ⟨by omega, by omega⟩, ?_⟩
        rw [plL_int, e, if_neg h126]
      · cases h
theorem boxF_sound {n m : Nat} {rd : List Nat → Option PyData} (hr : ∀ x d, rd x = some d → grB n d = true ∧ (gT n d).cps.toList = x) {b : List Nat} {d : PyData} (h : boxF rd m b = some d) : bxB (grB n) m d = true ∧ bxL (gT n) d = 91 :: (b ++ [93]) := by
  unfold boxF at h
  split at h
  · rename_i x y z e
    obtain ⟨p, hp, h⟩ := Option.bind_eq_some_iff.mp h
    obtain ⟨q, hq, h⟩ := Option.bind_eq_some_iff.mp h
    obtain ⟨r, hz, rfl⟩ := Option.map_eq_some_iff.mp h
    obtain ⟨p1, p2⟩ := placeF_sound hr hp
    obtain ⟨q1, q2⟩ := placeF_sound hr hq
    obtain ⟨r1, r2⟩ := placeF_sound hr hz
    refine ⟨by show (plB (grB n) m p && (plB (grB n) m q && plB (grB n) m r)) = true; rw [p1, q1, r1]; rfl, ?_⟩
    have j := partsF_sound b 0 []
    rw [e] at j
    have j : x ++ ([32] ++ (y ++ ([32] ++ z))) = b := j
    rw [bxL_eq, p2, q2, r2, ← j]
    simp
  · cases h
theorem allF_sound {f : List Nat → Option PyData} {R : List Nat → PyData → Prop} (hf : ∀ a x, f a = some x → R a x) : ∀ {l : List (List Nat)} {ds : List PyData}, allF f l = some ds → ds.length = l.length ∧ ∀ (i : Nat) a x, l[i]? = some a → ds[i]? = some x → R a x
  | [], ds, h => by
    cases h
    exact ⟨rfl, fun i a x ha _ => by cases ha⟩
  | a :: l, ds, h => by
    obtain ⟨x, hx, h⟩ := Option.bind_eq_some_iff.mp h
    obtain ⟨xs, hxs, rfl⟩ := Option.map_eq_some_iff.mp h
    obtain ⟨i1, i2⟩ := allF_sound hf hxs
    refine ⟨by rw [List.length_cons, List.length_cons, i1], fun i b y hb hy => ?_⟩
    cases i with
    | zero => cases hb; cases hy; exact hf _ _ hx
    | succ i => exact i2 i b y hb hy
theorem flat_is {g : PyData → Str} : ∀ {bs : List (List Nat)} {ds : List PyData}, ds.length = bs.length → (∀ (i : Nat) a x, bs[i]? = some a → ds[i]? = some x → bxL g x = 91 :: (a ++ [93])) → ds.flatMap (bxL g) = bs.flatMap fun b => 91 :: (b ++ [93])
  | [], [], _, _ => rfl
  | [], _ :: _, h, _ => by cases h
  | _ :: _, [], h, _ => by cases h
  | b :: bs, d :: ds, h, hh => by
    rw [List.flatMap_cons, List.flatMap_cons, hh 0 b d rfl rfl, flat_is (by simpa using h) fun i a x ha hx => hh (i + 1) a x ha hx]
theorem readF_sound : ∀ (n : Nat) (x : List Nat) (d : PyData), readF n x = some d → grB n d = true ∧ (gT n d).cps.toList = x
  | 0, _, _, h => by cases h
  | n + 1, x, d, h => by
    obtain ⟨bs, hb, h⟩ := Option.bind_eq_some_iff.mp h
    split at h
    · rename_i hl
      obtain ⟨ds, hd, rfl⟩ := Option.map_eq_some_iff.mp h
      obtain ⟨a1, a2⟩ := allF_sound (R := fun b d => bxB (grB n) bs.length d = true ∧ bxL (gT n) d = 91 :: (b ++ [93])) (fun a x hx => boxF_sound (readF_sound n) hx) hd
      refine ⟨?_, ?_⟩
      · show (decide (1 ≤ ds.length ∧ ds.length ≤ 8) && ds.all (bxB (grB n) ds.length)) = true
        rw [a1, decide_eq_true hl, Bool.true_and]
        refine List.all_eq_true.mpr fun y hy => ?_
        obtain ⟨i, hi, e⟩ := List.getElem_of_mem hy
        exact (a2 i bs[i] y (List.getElem?_eq_getElem (by omega)) (by rw [← e]; exact List.getElem?_eq_getElem hi)).1
      · rw [gL_eq, flat_is a1 fun i a x ha hx => (a2 i a x ha hx).2, ← boxesF_sound hb]
    · cases h
end
/-! the law's reader is complete: a graph's text is read as it -/
section
open PySem.Spec PyProof.Rows LamX
theorem word_dpt {c : Nat} (h : wordB c = true) : dpt c = 0 ∧ c ≠ 32 := by
  unfold wordB stopS at h
  rw [show ((" []()" : Str).cps.toList) = [32, 91, 93, 40, 41] by decide +kernel] at h
  rw [Bool.not_eq_true', decide_eq_false_iff_not] at h
  simp only [List.mem_cons, List.not_mem_nil, or_false] at h
  unfold dpt
  rw [if_neg (by omega), if_neg (by omega)]
  exact ⟨rfl, by omega⟩
theorem numL_head (n : Nat) : 1 ≤ n → (TL.numL n).head? ≠ some 48 := by
  induction n using Nat.strongRecOn with
  | ind n ih =>
    intro h
    by_cases c : n < 10
    · rw [TL.numL_lt c]
      intro e
      have := Option.some.inj e
      omega
    · rw [TL.numL_step (by omega)]
      have := ih (n / 10) (by omega) (by omega)
      cases e : TL.numL (n / 10) with
      | nil => exact absurd e (TL.numL_ne _)
      | cons a l =>
        rw [e] at this
        exact this
theorem numF_it {i : Int} (h0 : -9999 ≤ i) (h1 : i ≤ 9999) : numF (itL i) = some i := by
  have ln : ∀ n : Nat, n ≤ 9999 → (TL.numL n).length ≤ 4 := fun n h => TL.numL_len (by decide) (by omega)
  unfold itL
  by_cases c : i < 0
  · rw [if_pos c]
    have ef : figs (45 :: TL.numL (-i).toNat) = TL.numL (-i).toNat := rfl
    have l4 := ln (-i).toNat (by omega)
    unfold numF
    rw [ef, if_neg (fun h => by
      rcases h with h | h | h
      · exact TL.numL_ne _ h
      · rw [List.length_cons] at h; omega
      · rw [numL_dig] at h; cases h), if_neg (fun h => numL_head _ (by omega) h.1), if_pos (show (45 :: TL.numL (-i).toNat).head? = some 45 from rfl), TL.numL_val]
    congr 1
    omega
  · rw [if_neg c]
    have l4 := ln i.toNat (by omega)
    have n45 : (TL.numL i.toNat).head? ≠ some 45 := fun h => by
      cases e : TL.numL i.toNat with
      | nil => rw [e] at h; cases h
      | cons a l =>
        have := TL.numL_digits i.toNat a (by rw [e]; exact List.mem_cons_self)
        rw [e] at h
        cases h
        omega
    have ef : figs (TL.numL i.toNat) = TL.numL i.toNat := by
      cases e : TL.numL i.toNat with
      | nil => rfl
      | cons a l =>
        rw [e] at n45
        unfold figs
        split
        · rename_i q
          cases (List.cons.inj q).1
          exact absurd rfl n45
        · rfl
    unfold numF
    rw [ef, if_neg (fun h => by
      rcases h with h | h | h
      · exact TL.numL_ne _ h
      · omega
      · rw [numL_dig] at h; cases h), if_neg (fun h => by
      by_cases z : i.toNat = 0
      · rw [z] at h
        exact h.2 (TL.numL_lt (by omega))
      · exact numL_head _ (by omega) h.1), if_neg n45, TL.numL_val]
    congr 1
    omega
theorem plF_all {n m : Nat} (hm : m ≤ 8) (ih : ∀ d, grB n d = true → readF n (gT n d).cps.toList = some d ∧ Bal (gT n d).cps.toList) {d : PyData} (h : plB (grB n) m d = true) :
    Bal (plL (gT n) d) ∧ (∀ r cur, partsF (plL (gT n) d ++ r) 0 cur = partsF r 0 (cur ++ plL (gT n) d)) ∧ placeF (readF n) m (plL (gT n) d) = some d := by
  rcases pl_cases h with ⟨i, rfl, i0, i1⟩ | ⟨j, rfl, j0, j1⟩ | ⟨y, r, rfl, hg⟩
  · rw [plL_int]
    have hw := fun c hc => word_dpt (it_word i c hc)
    refine ⟨Bal.all fun c hc => (hw c hc).1, fun r cur => parts_word hw, ?_⟩
    obtain ⟨c, l, e⟩ : ∃ c l, itL i = c :: l := by
      cases h : itL i with
      | nil => exact absurd h (it_ne i)
      | cons c l => exact ⟨c, _, rfl⟩
    have hc := it_head (r := []) (by rw [List.append_nil]; exact e)
    have n40 : (itL i).head? ≠ some 40 := fun z => by rw [e] at z; cases z; omega
    have n126 : (itL i).head? ≠ some 126 := fun z => by rw [e] at z; cases z; omega
    unfold placeF
    rw [if_neg n40, if_neg n126, numF_it i0 i1]
    show (if (itL i).head? = some 126 then _ else if -10000 < i ∧ i < 10000 then some (PyData.int i) else none) = _
    rw [if_neg n126, if_pos ⟨by omega, by omega⟩]
  · rw [plL_tie]
    have hw : ∀ c ∈ (126 :: itL j), dpt c = 0 ∧ c ≠ 32 := fun c hc => by
      rcases List.mem_cons.mp hc with rfl | hc
      · exact ⟨rfl, by decide⟩
      · exact word_dpt (it_word j c hc)
    refine ⟨Bal.all fun c hc => (hw c hc).1, fun r cur => parts_word hw, ?_⟩
    have m8 : j ≤ 9999 := by omega
    unfold placeF
    rw [if_neg (by intro z; cases z), if_pos (show (126 :: itL j).head? = some 126 from rfl)]
    show ((numF (itL j)).bind _) = _
    rw [numF_it (by omega) m8]
    show (if (126 :: itL j).head? = some 126 then (if 0 ≤ j ∧ j < (m : Int) then some (PyData.tuple [.str "tie", .int j]) else none) else (if -10000 < j ∧ j < 10000 then some (.int j) else none)) = _
    rw [if_pos (show (126 :: itL j).head? = some 126 from rfl), if_pos ⟨j0, j1⟩]
  · rw [plL_gr]
    obtain ⟨g1, g2⟩ := ih _ hg
    generalize (gT n (.tuple (.tuple y :: r))).cps.toList = x at g1 g2
    refine ⟨Bal.in_ rfl rfl (by decide) (by decide) g2, fun r cur => ?_, ?_⟩
    · rw [List.cons_append, List.append_assoc]
      exact parts_in rfl rfl (by decide) (by decide) g2
    · unfold placeF
      rw [if_pos (show (40 :: (x ++ [41])).head? = some 40 from rfl), if_pos (by rw [← List.cons_append, List.getLast?_append]; rfl)]
      show readF n ((x ++ [41]).dropLast) = _
      rw [List.dropLast_concat]
      exact g1
theorem bxF_all {n m : Nat} (hm : m ≤ 8) (ih : ∀ d, grB n d = true → readF n (gT n d).cps.toList = some d ∧ Bal (gT n d).cps.toList) {d : PyData} (h : bxB (grB n) m d = true) :
    ∃ b, bxL (gT n) d = 91 :: (b ++ [93]) ∧ Bal b ∧ boxF (readF n) m b = some d := by
  obtain ⟨p, q, r, rfl, hall⟩ := bx3 h
  obtain ⟨p1, p2, p3⟩ := plF_all hm ih (hall p (by simp))
  obtain ⟨q1, q2, q3⟩ := plF_all hm ih (hall q (by simp))
  obtain ⟨r1, r2, r3⟩ := plF_all hm ih (hall r (by simp))
  have b32 : Bal [32] := Bal.one rfl
  refine ⟨plL (gT n) p ++ (32 :: (plL (gT n) q ++ (32 :: plL (gT n) r))), by rw [bxL_eq]; simp, p1.app (b32.app (q1.app (b32.app r1))), ?_⟩
  have e : partsF (plL (gT n) p ++ (32 :: (plL (gT n) q ++ (32 :: plL (gT n) r)))) 0 [] = [plL (gT n) p, plL (gT n) q, plL (gT n) r] := by
    rw [p2, parts_blank, q2, parts_blank]
    have := r2 [] []
    rw [List.append_nil] at this
    rw [this]
    rfl
  unfold boxF
  rw [e]
  show ((placeF (readF n) m (plL (gT n) p)).bind fun p' => (placeF (readF n) m (plL (gT n) q)).bind fun q' => (placeF (readF n) m (plL (gT n) r)).map fun r' => PyData.tuple [p', q', r']) = _
  rw [p3, q3, r3]
  rfl
theorem boxes_all {n m : Nat} (hm : m ≤ 8) (ih : ∀ d, grB n d = true → readF n (gT n d).cps.toList = some d ∧ Bal (gT n d).cps.toList) : ∀ {ds : List PyData}, (∀ d ∈ ds, bxB (grB n) m d = true) →
    ∃ bs : List (List Nat), bs.length = ds.length ∧ ds.flatMap (bxL (gT n)) = (bs.flatMap fun b => 91 :: (b ++ [93])) ∧ (∀ b ∈ bs, Bal b) ∧ allF (boxF (readF n) m) bs = some ds
  | [], _ => ⟨[], rfl, rfl, fun b h => (by cases h), rfl⟩
  | d :: ds, h => by
    obtain ⟨b, b1, b2, b3⟩ := bxF_all hm ih (h d List.mem_cons_self)
    obtain ⟨bs, c1, c2, c3, c4⟩ := boxes_all hm ih (ds := ds) fun x hx => h x (List.mem_cons_of_mem _ hx)
    refine ⟨b :: bs, by rw [List.length_cons, List.length_cons, c1], by rw [List.flatMap_cons, List.flatMap_cons, b1, c2], fun x hx => ?_, ?_⟩
    · rcases List.mem_cons.mp hx with rfl | hx
      · exact b2
      · exact c3 x hx
    · show ((boxF (readF n) m b).bind fun x => (allF (boxF (readF n) m) bs).map (x :: ·)) = _
      rw [b3, c4]
      rfl
theorem flat_bal : ∀ {bs : List (List Nat)}, (∀ b ∈ bs, Bal b) → Bal (bs.flatMap fun b => 91 :: (b ++ [93]))
  | [], _ => Bal.nil
  | b :: bs, h => by
    rw [List.flatMap_cons]
    exact (Bal.in_ rfl rfl (by decide) (by decide) (h b List.mem_cons_self)).app (flat_bal fun x hx => h x (List.mem_cons_of_mem _ hx))
theorem flat_len : ∀ (bs : List (List Nat)), bs.length ≤ (bs.flatMap fun b => 91 :: (b ++ [93])).length
  | [] => Nat.le_refl _
  | b :: bs => by
    have := flat_len bs
    rw [List.flatMap_cons, List.length_append, List.length_cons, List.length_cons]
    omega
/-- a graph's text is read as it -/
theorem readF_all : ∀ (n : Nat) (d : PyData), grB n d = true → readF n (gT n d).cps.toList = some d ∧ Bal (gT n d).cps.toList
  | 0, d, h => by cases d <;> cases h
  | n + 1, d, h => by
    cases d with
    | tuple ds =>
      have h2 : (decide (1 ≤ ds.length ∧ ds.length ≤ 8) && ds.all (bxB (grB n) ds.length)) = true := h
      rw [Bool.and_eq_true, decide_eq_true_eq] at h2
      obtain ⟨hl, ha⟩ := h2
      obtain ⟨bs, b1, b2, b3, b4⟩ := boxes_all hl.2 (readF_all n) (List.all_eq_true.mp ha)
      rw [gL_eq, b2]
      refine ⟨?_, flat_bal b3⟩
      show (boxesF _ _).bind _ = _
      rw [boxesF_all (flat_len bs) b3]
      show (if 1 ≤ bs.length ∧ bs.length ≤ 8 then (allF (boxF (readF n) bs.length) bs).map PyData.tuple else none) = _
      rw [if_pos (by omega), b1, b4]
      rfl
    | _ => cases h
end
/-! text[1:-1], text[-1:] -/
section
open PySem.Spec PyProof.Rows LamX
theorem six_neg {n d : Nat} : HT.sIx n d (some (-1)) = n - 1 := by
  unfold HT.sIx
  simp
  omega
theorem cut_in (x : Str) : (cutS x (some 1) (some (-1))).cps.toList = (x.cps.toList.drop 1).dropLast := by
  have e : HT.sIx x.length 0 (some 1) = min 1 x.length := HT.sIx_nat x.length 0 1
  have l : x.length = x.cps.toList.length := by simp [Str.length]
  show ((x.cps.toList.drop (HT.sIx x.length 0 (some 1))).take (HT.sIx x.length x.length (some (-1)) - HT.sIx x.length 0 (some 1))).toArray.toList = _
  rw [e, six_neg, l, List.dropLast_eq_take, List.length_drop]
  cases x.cps.toList with
  | nil => rfl
  | cons a t =>
    rw [show min 1 (a :: t).length = 1 by rw [List.length_cons]; omega]
theorem cut_end (x : Str) : (cutS x (some (-1)) none).cps.toList = x.cps.toList.drop (x.cps.toList.length - 1) := by
  have l : x.length = x.cps.toList.length := by simp [Str.length]
  show ((x.cps.toList.drop (HT.sIx x.length 0 (some (-1)))).take (x.length - HT.sIx x.length 0 (some (-1)))).toArray.toList = _
  rw [six_neg, l, List.take_of_length_le (by rw [List.length_drop]; exact Nat.le_refl _)]
theorem last1 {l : List Nat} {c : Nat} : l.drop (l.length - 1) = [c] ↔ l.getLast? = some c := by
  cases h : l.reverse with
  | nil =>
    rw [List.reverse_eq_nil_iff] at h
    subst h
    simp
  | cons a t =>
    have e : l = t.reverse ++ [a] := by rw [← List.reverse_reverse l, h, List.reverse_cons]
    subst e
    simp
end
/-! refusals -/
def CalX (P : Program) (w : World) (K : PySem.W.Frag) (mg : Str → Option Value) (base : Heap) (x : Str) (k : Nat) (ps : List Str) (sp : Sp) : Prop :=
  ∃ (f : Addr) (fd : FuncData), FnOk P w K mg base (L2.CX P w) k f fd ps sp ∧ mg x = some (.ref f) ∧ PySem.W.keepIn K (.ref f) = true ∧ Binds K fd ps []
def CalN (P : Program) (w : World) (K : PySem.W.Frag) (mg : Str → Option Value) (base : Heap) (x : Str) (k : Nat) (ps : List Str) (n : Nat) (ks : List Str) (g : List Value → List Value → List Value) (gV : List V → List V → List V) (sp : Sp) : Prop :=
  ∃ (f : Addr) (fd : FuncData), FnOk P w K mg base (L2.CX P w) k f fd ps sp ∧ mg x = some (.ref f) ∧ PySem.W.keepIn K (.ref f) = true ∧ KBn K fd ps n ks g gV
abbrev wE (E : XK) : WX := fun cls d _ H => E cls d H
theorem pass_of {X : Cx} {E : XK} (tk : Takes X (wE E)) : Passes (L2.CX X.prog X.w) X E := passes_call tk fun _ _ _ _ h => h
theorem CalX.mono {P : Program} {w : World} {K : PySem.W.Frag} {mg : Str → Option Value} {base : Heap} {x : Str} {j k : Nat} {ps : List Str} {sp : Sp} (C : CalX P w K mg base x j ps sp) (h : j ≤ k) : CalX P w K mg base x k ps sp := by
  obtain ⟨f, fd, F, r⟩ := C
  exact ⟨f, fd, F.mono h, r⟩
theorem pe_calX {X : Cx} {E : XK} {x : Str} {p pos : Pos} {e : Expr} {es : List Expr} {t : TA} {k : Nat} {ps : List Str} {sp : Sp} (C : CalX X.prog X.w X.K X.mg X.base x k ps sp) (hr : Room k X.A) (hg : Gl X x) (tk : Takes X (wE E)) (ha : PA X (e :: es) t)
    (h1 : (x == ("__debug__" : Str)) = false := by decide) (h2 : starEach (e :: es) X.env = (false, eval e X.env) :: starEach es X.env := by rfl) (h3 : ((backTo pos (starEach es X.env)).any fun x => x.fst) = false := by rfl) :
    PE X (.Call (.Name x p) (e :: es) [] pos) (tCall sp [] E t) := by
  obtain ⟨f, fd, F, hm, hk, hb⟩ := C
  exact pe_call F hr hg hm hk hb .nil (pass_of tk) ha h1 h2 h3
theorem pe_pkX {X : Cx} {E : XK} {x : Str} {p pos : Pos} {k n : Nat} {ps ks : List Str} {g : List Value → List Value → List Value} {gV : List V → List V → List V} {sp : Sp} {e : Expr} {es : List Expr} {kws : List Keyword} {t tq : TA}
    (C : CalN X.prog X.w X.K X.mg X.base x k ps n ks g gV sp) (hr : Room k X.A) (hg : Gl X x) (tk : Takes X (wE E)) (ha : PA X (e :: es) t) (hkw : PK X kws tq)
    (h1 : (backToKw pos (keywordEach kws X.env)).all (·.1.isSome) = true := by rfl) (h2 : (backToKw pos (keywordEach kws X.env)).filterMap (·.1) = ks := by rfl) (h3 : (x == ("__debug__" : Str)) = false := by decide) (h4 : starEach (e :: es) X.env = (false, eval e X.env) :: starEach es X.env := by rfl)
    (h5 : ((backTo pos (starEach (e :: es) X.env)).any (·.1) || (backToKw pos (keywordEach kws X.env)).any (·.1.isNone)) = false := by rfl) : PE X (.Call (.Name x p) (e :: es) kws pos) (tCallN n ks.length sp gV E t tq) := by
  obtain ⟨f, fd, F, hm, hk, hb⟩ := C
  exact pe_callN F hr hg hm hk hb (pass_of tk) ha hkw h1 h2 h3 h4 h5
/-- an error class of the program's own, without an __init__ -/
structure Exn (K : PySem.W.Frag) (mg : Str → Option Value) (x : Str) (C : Addr) : Prop where
  q : PySem.W.excIn K C [.type "ValueError", .type "Exception", .type "BaseException", .type "object"] "ValueError.__new__" = true
  g : mg x = some (.ref C)
  k : PySem.W.keepIn K (.ref C) = true
  s : PySem.W.subIn K (.ref C) (.type "BaseException") = some true
  t : PySem.W.typeIn K (.ref C) = some (.type "type")
theorem FnOk.lift {P : Program} {w : World} {K : PySem.W.Frag} {mg : Str → Option Value} {base : Heap} {k : Nat} {f : Addr} {fd : FuncData} {ps : List Str} {sp : Sp} (F : FnOk P w K mg base CX0 k f fd ps sp) : FnOk P w K mg base (L2.CX P w) k f fd ps sp :=
  ⟨F.len, fun A outer s H args us vs Q E hr e0 hb r hsp => codeAny_mono (F.run A outer s H args us vs Q E hr e0 hb r hsp) fun r s' h => by
    match r, h with
    | .error e, h => exact h.elim
    | .ok fl, h =>
      cases fl with
      | ret u => exact h
      | next => exact h
      | brk => exact h
      | cont => exact h⟩
def spOr (a b : Sp) : Sp := fun vs H Q E => a vs H Q E ∨ b vs H Q E
theorem FnOk.or {P : Program} {w : World} {K : PySem.W.Frag} {mg : Str → Option Value} {base : Heap} {CX : CXT} {k : Nat} {f : Addr} {fd : FuncData} {ps : List Str} {sp sp' : Sp} (F : FnOk P w K mg base CX k f fd ps sp) (G : FnOk P w K mg base CX k f fd ps sp') : FnOk P w K mg base CX k f fd ps (spOr sp sp') :=
  ⟨fun vs H Q E h => h.elim (F.len vs H Q E) (G.len vs H Q E), fun A outer s H args us vs Q E hr e0 hb r h => h.elim (F.run A outer s H args us vs Q E hr e0 hb r) (G.run A outer s H args us vs Q E hr e0 hb r)⟩
section
open PySem.Spec PyProof.Rows
structure PEAt (X : Cx) (body : List Stmt) (e : Expr) (t : TE) : Prop where
  run : ∀ (pins : List (Addr × Obj)) (s : Shared) (σ : L2.St) (H : Hp) (Q : VK), Inv X pins σ H s → t σ H Q → PySem.wpAt (model X.prog X.w) X.A (.func body X.env) (eval e X.env) (EP X pins σ Q) X.xe s
structure PSsAt (X : Cx) (body st : List Stmt) (t : TS) : Prop where
  run : ∀ (pins : List (Addr × Obj)) (s : Shared) (σ : L2.St) (H : Hp) (D : Ends), Inv X pins σ H s → t D σ H → PySem.wpAt (model X.prog X.w) X.A (.func body X.env) (execs st X.env) (SP X pins D) X.xe s
variable {X : Cx} {body : List Stmt}
theorem pssAt_of {st : List Stmt} {t : TS} (h : PSs X st t) : PSsAt X body st t := ⟨fun pins s σ H D I q => PySem.wpAt_of_wpAny (h.run pins s σ H D I q)⟩
theorem pssAt_cons {st : Stmt} {r : List Stmt} {t u : TS} (h : PS X st t) (g : PSsAt X body r u) : PSsAt X body (st :: r) (tSeq t u) := by
  refine ⟨fun pins s σ H D I q => ?_⟩
  refine ks_wpAt_execs_cons (PySem.wpAt_of_wpAny (thn (h.run pins s σ H { D with nx := u D } I q) fun f s1 q1 => ?_))
  cases f with
  | next =>
    obtain ⟨σ', H', I', q'⟩ := q1
    exact g.run pins s1 σ' H' D I' q'
  | ret v => exact q1
  | brk => exact q1
  | cont => exact q1
theorem pssAt_expr {e : Expr} {pos : Pos} {r : List Stmt} {t : TE} {u : TS} (h : PEAt X body e t) (g : PSsAt X body r u) (hs : swapsWith e none pos.line X.env = pure false := by rfl) : PSsAt X body (.Expr e pos :: r) (tSeq (tDrop t) u) := by
  refine ⟨fun pins s σ H D I q => ?_⟩
  refine ks_wpAt_execs_cons (ks_wpAt_Expr_any ?_ I.quiet hs)
  refine ks_wpAt_mono (h.run pins s σ H _ I q) (fun v s1 hv => ?_) fun _ _ z => z
  obtain ⟨x, H1, I1, r1, q1⟩ := hv
  exact g.run pins s1 σ H1 D I1 q1
end
section
open PySem.Spec PyProof.Rows NdefX
variable {P : Program} {w : World} {K : PySem.W.Frag} {mg : Str → Option Value} {base : Heap}
structure FunS (K : PySem.W.Frag) (x qual : Str) (st : Stmt) (f : Addr) (fd : FuncData) (c cc D : Addr) : Prop where
  ex : ∃ (oc : Value) (od : Option Addr) (kV doc pm : Value) (an : Option Addr) (ct : Value) (osl : Array (Option Value)), fd = PySem.W.fnX x qual (defArgs st) (defBody st) (defScope st) [("__class__", cc)] .none kV doc pm an (.ref c) ct ∧ K.lookup f = some ⟨oc, od, .func fd, osl⟩ ∧ PySem.W.codeIn K (.ref c) qual = true
  kp : PySem.W.keepIn K (.ref f) = true
  cell : ∃ (oc : Value) (od : Option Addr) (osl : Array (Option Value)), K.lookup cc = some ⟨oc, od, .cell (some (.ref D)), osl⟩
abbrev nfS (x qual : Str) (st : Stmt) (c cc : Addr) : NF := ⟨x, qual, defArgs st, defBody st, defScope st, [("__class__", cc)], c⟩
theorem FunS.ok {CX : CXT} {x qual : Str} {st : Stmt} {f c cc D : Addr} {fd : FuncData} {N ps : List Str} {k : Nat} {sp : Sp} (F : FunS K x qual st f fd c cc D) (S : NScope N ps ["__class__"] (defScope st)) (len : ∀ vs H Q E, sp vs H Q E → vs.length = ps.length)
    (hbody : ∀ (A : Around) (outer : List Env) (s : Shared) (H : Hp) (vs : List V) (Q : VK) (E : XK), Room k (A.deeper (envF (nfS x qual st c cc) f s.heap.objs.size)) → sp vs H Q E →
      ∃ t, PSsAt (ncx CX P w K mg base N (nfS x qual st c cc) f A outer s H E) (defBody st) (defBody st) t ∧ t { nx := fun _ H' => Q .non H', rt := Q } (startF N vs [some (.ref D)]) H) : FnOk P w K mg base CX (k + 1) f fd ps sp := by
  refine ⟨len, fun A outer s H args us vs Q E hr e0 hb r hsp => ?_⟩
  have hl := len _ _ _ _ hsp
  obtain ⟨oc, od, kV, doc, pm, an, ct, osl, rfl, lk, hcd⟩ := F.ex
  obtain ⟨oc2, od2, osl2, lc⟩ := F.cell
  have KX : K.In s.heap := e0.mod.kin.keeps fun b o e => (e0.bs b o e).1
  have lim : s.heap.NoLimit := e0.mod.nolimit.keeps fun b o e => (e0.bs b o e).1
  have C : CellsAt (nfS x qual st c cc).cl ["__class__"] [some (.ref D)] s.heap H := by
    have one : ∀ y c', ([("__class__", cc)] : List (Str × Addr)).lookup y = some c' → y = "__class__" ∧ c' = cc := fun y c' h => by
      rw [List.lookup_cons] at h
      split at h
      · rename_i q
        exact ⟨eq_of_beq q, (Option.some.inj h).symm⟩
      · cases h
    refine ⟨rfl, fun y c' h => ?_, fun a b c' h1 h2 => by rw [(one _ _ h1).1, (one _ _ h2).1], fun i y hi => ?_⟩
    · obtain ⟨rfl, rfl⟩ := one y c' h
      exact ⟨(e0.bs _ _ (e0.mod.kin _ _ lc)).2, some (.ref D), _, KX _ _ lc, rfl⟩
    · match i, hi with
      | 0, hi =>
        cases hi
        refine ⟨cc, by rw [List.lookup_cons, beq_self_eq_true], fun v hv => ?_⟩
        cases hv
        exact ⟨.ref D, rfl, _, KX _ _ lc, rfl⟩
  refine codeAny_call_function hr.depth (KX _ _ lk) rfl S.co S.gen rfl (PySem.W.codeRec_of KX hcd) (hb _ _ _ _ ?_)
  refine wpAny_newFunctionEnv S.nocell (fun ⟨n, _⟩ hy => S.par n (List.of_mem_zip hy).1) (fun h₁ hns hsb => ⟨lim.fresh _ hsb, ?_⟩) S.kind
  show codeAny _ _ (.func (defBody st) (envF (nfS x qual st c cc) f s.heap.objs.size)) _ _
  refine ks_codeAny_funcAt ?_
  have kp : ∀ b o, s.heap.get? b = some o → h₁.get? b = some o := fun b o e => hsb.extBut b o (Nat.ne_of_lt (Heap.lt_size e)) (Heap.get?_push_of_some _ e)
  obtain ⟨t, ht, hq⟩ := hbody A outer s H vs Q E (hr.deeper _) hsp
  have I : Inv (ncx CX P w K mg base N (nfS x qual st c cc) f A outer s H E) [] (startF N vs [some (.ref D)]) H { s with heap := h₁, toks := s.toks + (ps.zip us).length } := inv_startN S hr.hd e0 hl r C hns kp
  refine ks_wpAt_mono (ht.run [] _ (startF N vs [some (.ref D)]) H _ I hq) (fun fl s' hs => ?_) fun e s' hs => hs
  have fin : ∀ {σ' : L2.St} {H' : Hp} {v : V} {u : Value}, Inv (ncx CX P w K mg base N (nfS x qual st c cc) f A outer s H E) [] σ' H' s' → L2.RelV v u → Q v H' → CE outer P w H s Q u s' :=
    fun {σ' H' v u} J rv q => ⟨v, H', J.os, J.bare, J.base, J.hok, rv, q⟩
  cases fl with
  | ret u =>
    obtain ⟨v, σ', H', J, rv, q⟩ := hs
    exact fin J rv q
  | next =>
    obtain ⟨σ', H', J, q⟩ := hs
    exact fin (v := V.non) (u := Value.none) J rfl q
  | brk =>
    obtain ⟨_, _, _, q⟩ := hs
    exact False.elim q
  | cont =>
    obtain ⟨_, _, _, q⟩ := hs
    exact False.elim q
end
/-! super().__init__(e) in an own exception's __init__ (the builtin one found above) -/
section
open PySem.W PySem.Calls PyProof.Rows
/-- the bound built-in __init__ -/
def mwO (q x : Addr) : HO := .ext fun h => h.get? q = some (kxs_mw "ValueError.__init__" x)
theorem mwO_ok {P : Program} {w : World} {H : Hp} {h : Heap} {q x : Addr} (hq : h.get? q = some (kxs_mw "ValueError.__init__" x)) : ObjOk P w H h q (mwO q x) :=
  ⟨hq, ⟨_, hq⟩, fun h1 h2 z k => k _ z⟩
theorem mwO_at {P : Program} {w : World} {H : Hp} {h : Heap} {q x : Addr} (hok : HOk P w H h) (hq : H q = some (mwO q x)) : h.get? q = some (kxs_mw "ValueError.__init__" x) := by
  have y : ObjOk P w H h q (.ext fun h => h.get? q = some (kxs_mw "ValueError.__init__" x)) := hok q _ hq
  exact y.1
section
variable {prog : Program} {w : World} {A : Around} {E : Value → Shared → Prop} {h : Heap} {g : Array GenState} {d : Drawn} {t : Nat} {os : OsState}
variable {nm q : Str} {C N : Addr} {bs bm : List Value} {hdct : Bool} {sn : List Str} {sub : List Value} {ab : Bool} {col : Option Bool} {dd : Option Addr} {k0 k1 k2 k3 k5 : Option Value}
theorem call_mw {u e t0 : Addr} {rest : List Value} {Q : Value → Shared → Prop}
    (hC : h.get? C = some (excClassObj nm q C N bs bm hdct sn sub ab col dd k0 k1 k2 k3 k5 "ValueError.__new__")) (he : h.get? e = some (HandSPX.excO C t0)) (hu : h.get? u = some (kxs_mw "ValueError.__init__" e)) (hrest : rest.length ≤ sizeLine)
    (hq : ∀ h' t1, (∀ b o, b ≠ e → h.get? b = some o → h'.get? b = some o) → h'.get? e = some (HandSPX.excO C t1) → Q .none ⟨h', g, d, t, os⟩) :
    wpAny (model prog w) A (call (.ref u) rest) Q E ⟨h, g, d, t, os⟩ := by
  refine wpAny_call (codeAny_of_tree ?_)
  show wpAny _ A.in1 (callAny (.ref u) ⟨rest, []⟩) _ _ _
  simp only [callAny]
  refine wpAny_bind (wpAny_load hu ?_)
  simp only [kxs_mw, show (Value.type "method-wrapper" == Value.type "method" || Value.type "method-wrapper" == Value.type "builtin_function_or_method" || Value.type "method-wrapper" == Value.type "method-wrapper") = true by decide, if_true]
  refine W.KFB.if_so (by decide) ?_
  refine wpAny_bind (check_bound_init F.excBase_ValueError.toExcCallFacts hC he rfl ?_)
  refine wpAny_bind (wpAny_pure (wpAny_pure ?_))
  refine ⟨Code.quiet_builtin _ (by decide +kernel), codeAny_builtin F.excBase_ValueError.initEntry ?_⟩
  rw [Around.under_plainId F.excBase_ValueError.init.plain _]
  wp_walk
  refine hq _ h.objs.size (fun b o hb ho => ?_) ?_
  · rw [Heap.get?_update_other _ _ (Ne.symm hb)]
    exact Heap.get?_push_of_some _ ho
  · rw [Heap.get?_update_self _ (Heap.get?_push_of_some _ he) rfl]
    rfl
end
end
section
open PySem.Spec PyProof.Rows
/-- where super().__init__ stands in an exception's class D -/
structure SupX (X : Cx) (D : Addr) (j : Nat) : Prop where
  ks : X.env.kindOf "super" = some .globalImplicit
  kc : X.env.kindOf "__class__" = some .free
  mS : X.mg "super" = none
  gS : Gl X "super"
  fu : ∃ (f : Addr) (of : Obj) (fd : FuncData) (ar : Arg), X.env.func = some f ∧ X.K.lookup f = some of ∧ of.data = .func fd ∧ (fd.params.posonlyargs ++ fd.params.args).head? = some ar ∧ X.N[0]? = some ar.arg ∧ X.env.scope.names.lookup ar.arg = some .local
  co : ∃ (cc : Addr) (oc : Obj) (vs : Array Value) (file : Str) (tf : Tok), X.env.code = .ref cc ∧ X.K.lookup cc = some oc ∧ oc.data = .fields vs ∧ vs[2]? = some (.str file tf) ∧ ((X.prog.main.file : Str) == file) = true
  top : (X.prog.main.scope.names.lookup ("super" : Str)).isSome = false
  cj : X.N[j]? = some "__class__"
  sub : PySem.W.mroIn X.K D (.ref D) = some true
  nop : PySem.W.nsIn X.K cStatics "thirdparty.any" = some none
  sup : PySem.W.ks_superIn X.K D D "__init__" = some (some (.builtin "ValueError.__init__"))
  ve : PySem.W.subIn X.K (.ref D) (.type "ValueError") = some true
  ox : OexC X.K D
def tSupX (D : Addr) (j : Nat) (t : TA) : TE := fun σ H Q => ∃ x : Addr, σ[0]? = some (some (.ref x)) ∧ σ[j]? = some (some (.ref D)) ∧ H x = some (exo x D none) ∧
  ∀ q, H q = none → t σ (upd H q (mwO q x)) fun vs H2 => vs.length ≤ 1000 ∧ H2 q = some (mwO q x) ∧ H2 x = some (exo x D none) ∧ Q .non H2
set_option maxHeartbeats 1000000 in
theorem pe_supX {X : Cx} {body : List Stmt} {D : Addr} {j : Nat} {e : Expr} {es : List Expr} {t : TA} {p0 p1 apos pos : Pos} (S : SupX X D j) (ha : PA X (e :: es) t)
    (hst : starEach (e :: es) X.env = (false, eval e X.env) :: starEach es X.env) (hpl : (backTo pos (starEach (e :: es) X.env)).any (·.1) = false)
    {pl : Sem Bool} (hev : eval (.Call (.Attribute (.Call (.Name "super" p0) [] [] p1) "__init__" apos) (e :: es) [] pos) X.env = (do
      let ov ← attributeBase (.Call (.Name "super" p0) [] [] p1) "__init__" X.env (eval (.Call (.Name "super" p0) [] [] p1) X.env)
      standAt apos.atName
      let (f, first) ← holding [ov] (getMethod ov "__init__" pl)
      callWith pos f first (backTo pos (starEach (e :: es) X.env)) [])) :
    PEAt X body (.Call (.Attribute (.Call (.Name "super" p0) [] [] p1) "__init__" apos) (e :: es) [] pos) (tSupX D j t) := by
  refine ⟨fun pins s σ H Q I q => ?_⟩
  obtain ⟨x, ex, ed, hxo, q⟩ := q
  refine ks_wpAt_MethodCall ?_ hev
  obtain ⟨f, of, fd, ar, hfu, hlf, hfd, hp, hN0, hloc⟩ := S.fu
  obtain ⟨cc, oc, vs, file, tf, hco, hlc, hoc, hvs, hfile⟩ := S.co
  refine ks_wpAt_super_base S.ks S.kc (by decide) hfu (I.kIn _ _ hlf) hfd hp hco (I.kIn _ _ hlc) hoc hvs hfile S.top ?_
  obtain ⟨mb, hb1, hb2⟩ := I.mod.blt
  refine PySem.W.ks_loadName_global I.ok.kind S.ks (Calls.loadGlobal_builtin (by rw [I.ok.glob]; exact I.mod.glob.keeps I.bk) S.mS (by rw [I.ok.blt]; exact hb1.keeps I.bk) ((hb2 "super" (by decide)).trans (by decide +kernel : bootBuiltins "super" = some (.type "super"))) ⟨rfl, ?_⟩)
  obtain ⟨mL, hn, hl⟩ := I.loc
  obtain ⟨uD, rD, lD⟩ := hl j "__class__" (.ref D) S.cj ed (.inr (.inr S.kc))
  obtain rfl : uD = .ref D := rD
  have selfL : mL ar.arg = some (.ref x) := by
    obtain ⟨u, r, l⟩ := hl 0 ar.arg (.ref x) hN0 ex (.inl hloc)
    obtain rfl : u = .ref x := r
    rcases l with ⟨_, hm⟩ | ⟨hk, _⟩
    · exact hm
    · rcases hk with hk | hk
      · have hk : X.env.scope.names.lookup ar.arg = some .cell := hk
        rw [hloc] at hk
        cases hk
      · have hk : X.env.scope.names.lookup ar.arg = some .free := hk
        rw [hloc] at hk
        cases hk
  rcases lD with ⟨hk, _⟩ | ⟨hk, c, hc, hcell⟩
  · rw [S.kc] at hk; cases hk
  have hkf : X.env.scope.names.lookup ("__class__" : Str) = some .free := S.kc
  refine wpAny_loadName_free I.ok.kind hkf hc hcell ?_ (by decide)
  refine wpAny_loadName_local I.ok.kind hloc hn selfL ?_
  have KX := I.kIn
  obtain ⟨t1, ho⟩ := exo_at I.hok hxo
  have J : PySem.W.InstAt s.heap x { cls := .ref D, dict := none, data := .fields #[.ref t1, .none, .none, .none, .bool false, .none] } D none := ⟨ho, rfl, rfl, trivial⟩
  cases hcl : PySem.W.clsIn X.K D with
  | none => have := S.sup; unfold PySem.W.ks_superIn at this; rw [hcl] at this; cases this
  | some cd =>
  have hsup := S.sup
  unfold PySem.W.ks_superIn at hsup
  rw [hcl] at hsup
  obtain ⟨oD, hD, hDd⟩ : ∃ oD, s.heap.get? D = some oD ∧ oD.data = .cls cd := by
    have e := hcl
    unfold PySem.W.clsIn at e
    split at e
    · rename_i c d cd' sl ho
      cases e
      exact ⟨_, KX _ _ ho, rfl⟩
    · cases e
  obtain ⟨nmC, qC, NC, bsC, bmC, snC, subC, abC, colC, ddC, k0, k1, k2, k3, k5, hC, hbm⟩ := S.ox.cls
  obtain ⟨hh, gg, dd, tt, oo⟩ := s
  refine ks_wpAny_isType_cls hD hDd ⟨rfl, ?_⟩
  refine ks_wpAny_call_super hD hDd ho rfl (fun c z => by cases z) (PySem.W.looks_mroIn KX S.sub) fun h' hso k => ?_
  have I1 : Inv X pins σ H ⟨h', gg, dd, tt, oo⟩ := I.kept (t' := tt) k
  have KX1 := I1.kIn
  have ho1 := k _ _ ho
  have J1 : PySem.W.InstAt h' x { cls := .ref D, dict := none, data := .fields #[.ref t1, .none, .none, .none, .bool false, .none] } D none := ⟨ho1, rfl, rfl, trivial⟩
  refine PySem.W.kxs_getMethod PySem.W.kxs_ValueError hso (PySem.W.looks_opaque KX1 S.nop) (l₀ := cd.mro) ?_ rfl KX1 hsup (J1.type.andThen (PySem.W.looks_subIn KX1 S.ve)) (PySem.W.ks_ne KX J hcl) (by decide) ?_
  · exact fun A Q E s k q => wpAny_bind ((PySem.W.looks_clsIn KX1 hcl) A _ E s k (wpAny_pure q))
  · have I2 : Inv X pins σ (upd H h'.objs.size (mwO h'.objs.size x)) ⟨h'.push (PySem.W.kxs_mw "ValueError.__init__" x), gg, dd, tt + 1, oo⟩ := I1.laid (t' := tt + 1) (a := h'.objs.size) (o := mwO h'.objs.size x) (fun b u z => Heap.get?_push_of_some _ z) (Nat.le_refl _) (mwO_ok (Heap.get?_push_size _ rfl))
    have hq : H h'.objs.size = none := I1.hok.fresh (Nat.le_refl _)
    refine PySem.W.kxs_callWith (i := "ValueError.__init__") (x := x) (by rw [hpl]) ?_
    have run := ha.run pos pins _ σ _ _ I2 (q _ hq)
    rw [hst] at run ⊢
    refine Calls.evalArgs_plain (thn run fun us s2 ⟨vs2, H2, I3, rv, hl2, hm, hx2, hq2⟩ => ?_)
    obtain ⟨t2, ho2⟩ := exo_at I3.hok hx2
    have hu2 := mwO_at I3.hok hm
    have hlen : us.length ≤ sizeLine := by
      rw [← Paired.length rv, sizeLine_eq]
      omega
    obtain ⟨h2, g2, d2, tk2, os2⟩ := s2
    refine ⟨hu2, call_mw (I3.kIn _ _ hC) ho2 hu2 hlen fun h3 t3 k3 hx3 => ?_⟩
    have J2 := I3.write (t' := tk2) (x := x) (e := x) (o := exo x D none) (by rw [hx2]; exact True.intro) (.inl rfl) k3 ⟨_, hx3⟩ (exo_ok hx3)
    have eu : upd H2 x (exo x D none) = H2 := by
      funext b
      by_cases hb : b = x
      · rw [hb, upd_same, hx2]
      · rw [upd_ne hb]
    rw [eu] at J2
    exact ⟨.non, H2, J2, rfl, hq2⟩
end
/-! NoText(row) -/
section
open PySem.Spec PyProof.Rows LamX NdefX
variable {P : Program} {w : World} {K : PySem.W.Frag} {mg : Str → Option Value} {base : Heap} {f : Addr} {fd : FuncData} {D : Addr}
/-- what super().__init__ in the class D wants -/
structure SxC (P : Program) (K : PySem.W.Frag) (mg : Str → Option Value) (c D : Addr) : Prop where
  mS : mg "super" = none
  file : ∃ (oc : Value) (od : Option Addr) (osl : Array (Option Value)) (vs : Array Value) (t : Tok), K.lookup c = some ⟨oc, od, .fields vs, osl⟩ ∧ vs[2]? = some (.str P.main.file t)
  top : (P.main.scope.names.lookup ("super" : Str)).isSome = false
  sub : PySem.W.mroIn K D (.ref D) = some true
  nop : PySem.W.nsIn K cStatics "thirdparty.any" = some none
  sup : PySem.W.ks_superIn K D D "__init__" = some (some (.builtin "ValueError.__init__"))
  ve : PySem.W.subIn K (.ref D) (.type "ValueError") = some true
  ox : OexC K D
  row : PySem.W.findIn K (.ref D) "row" = some none
def spNtInit (D : Addr) : Sp := fun vs H Q _ => ∃ (a : Addr) (n : Nat), vs = [.ref a, .int (n : Nat)] ∧ n ≤ 9999 ∧ H a = some (exo a D none) ∧
  ∀ d H', (∀ b u, b ≠ a → H b = some u → H' b = some u) → H d = none → H' a = some (exo a D (some d)) → H' d = some (exd d [("row", .int (n : Nat))]) → Q .non H'
theorem scNtInit : NScope ["self", "row", "__class__"] ["self", "row"] ["__class__"] (defScope sNtInit) := nscope_by (by decide +kernel)
theorem ok_ntInit {k : Nat} {c cc : Addr} (F : FunS K "__init__" "NoText.__init__" sNtInit f fd c cc D) (SC : SxC P K mg c D) : FnOk P w K mg base CX0 (k + 1) f fd ["self", "row"] (spNtInit D) := by
  obtain ⟨oc, od, osl, vs, tk, hlc, hvs⟩ := SC.file
  obtain ⟨foc, fod, fkV, fdoc, fpm, fan, fct, fosl, efd, lkf, _⟩ := id F.ex
  refine F.ok scNtInit (fun vs H Q E h => ?_) (fun A outer s H vs Q E hr h => ?_)
  · obtain ⟨a, n, rfl, _⟩ := h
    rfl
  obtain ⟨a, n, rfl, hn, ha, q⟩ := h
  have SF : SupX (ncx CX0 P w K mg base ["self", "row", "__class__"] (nfS "__init__" "NoText.__init__" sNtInit c cc) f A outer s H E) D 2 := ⟨rfl, rfl, SC.mS, by rfl, ⟨f, _, fd, _, rfl, lkf, rfl, by rw [efd]; rfl, rfl, scNtInit.par "self" (by simp)⟩, ⟨c, _, vs, P.main.file, tk, rfl, hlc, rfl, hvs, beq_self_eq_true _⟩, SC.top, rfl, SC.sub, SC.nop, SC.sup, SC.ve, SC.ox⟩
  refine ⟨_, pssAt_expr (pe_supX SF (pa_cons (pe_joined (.cons pe_str (.cons (pe_fmt (pv 1)) .nil))) pa_nil) rfl rfl rfl) (pssAt_of (pss_one (ps_ost (pv 0) (pv 1)))), ?_⟩
  have l1 : ("can't be read: row " : Str).length = 19 := by decide +kernel
  have l2 := itS_len (i := (n : Nat)) (by omega) (by omega)
  have sl : (16777216 : Nat) = sizeLine := rfl
  refine ⟨a, rfl, rfl, ha, fun q0 hq0 => ?_⟩
  have na : a ≠ q0 := ne_of_none ha hq0
  have ha2 : upd H q0 (mwO q0 a) a = some (exo a D none) := by rw [upd_ne na]; exact ha
  refine ⟨_, rfl, by rw [one_len _ 19 l1, ← sl]; decide, _, rfl, .inr ⟨(n : Nat), rfl, log_ok (by omega), itS (n : Nat), rfl, ?_, ?_⟩⟩
  · rw [Str.length_append, one_len _ 19 l1, ← sl]
    omega
  refine ⟨by show 1 ≤ 1000; decide, upd_same, ha2, ?_⟩
  refine ⟨_, rfl, _, rfl, a, D, rfl, SC.ox, SC.row, .inl ⟨ha2, fun dx hd hne => ?_⟩⟩
  have nq : dx ≠ q0 := fun z => by rw [z, upd_same] at hd; cases hd
  have hd0 : H dx = none := by rw [upd_ne nq] at hd; exact hd
  refine q dx _ (fun b u hb hu => ?_) hd0 upd_same ?_
  · rw [upd_ne hb, upd_ne (ne_of_none hu hd0), upd_ne (ne_of_none hu hq0)]
    exact hu
  · rw [upd_ne hne, upd_same]
theorem kb_sNtInit {c cc : Addr} (F : FunS K "__init__" "NoText.__init__" sNtInit f fd c cc D) : Binds K fd ["self", "row"] [] := by
  obtain ⟨oc, od, kV, doc, pm, an, ct, osl, rfl, _⟩ := F.ex
  exact .all fun us hl => match us, hl with | [_, _], _ => rfl
end
/-! what is told a graph's size is of the drawn form -/
theorem tie_is {m : Int} {d : PyData} (h : tieB m d = true) : ∃ j, d = .tuple [.str "tie", .int j] ∧ 0 ≤ j ∧ j ≤ m - 1 := by
  unfold tieB at h
  split at h
  · rename_i p q
    rw [Bool.and_eq_true] at h
    obtain ⟨h1, h2⟩ := h
    cases q with
    | int j =>
      have h2 : (decide ((0 : Int) ≤ j) && decide (j ≤ m - 1)) = true := h2
      rw [Bool.and_eq_true, decide_eq_true_eq, decide_eq_true_eq] at h2
      cases p with
      | str z =>
        have e : z = "tie" := by simpa [PyData.eqv] using h1
        rw [e]
        exact ⟨j, rfl, h2⟩
      | _ => simp [PyData.eqv] at h1
    | _ => cases h2
  · cases h
theorem num_is {d : PyData} (h : numD d = true) : ∃ i, d = .int i ∧ -9999 ≤ i ∧ i ≤ 9999 := by
  cases d with
  | int i =>
    have h : (decide ((-9999 : Int) ≤ i) && decide (i ≤ 9999)) = true := h
    rw [Bool.and_eq_true, decide_eq_true_eq, decide_eq_true_eq] at h
    exact ⟨i, rfl, h⟩
  | _ => cases h
theorem plB_of {n m : Nat} {p : PyData} {a : Nat} (ih : ∀ d c, gsz n d = some c → grB n d = true) (h : placeN (gsz n) m p = some a) : plB (grB n) m p = true := by
  unfold placeN at h
  by_cases h1 : numD p = true
  · obtain ⟨i, rfl, i0, i1⟩ := num_is h1
    exact decide_eq_true ⟨i0, i1⟩
  rw [if_neg h1] at h
  by_cases h2 : tieB m p = true
  · obtain ⟨j, rfl, j0, j1⟩ := tie_is h2
    exact decide_eq_true ⟨rfl, j0, by omega⟩
  rw [if_neg h2] at h
  have hg := ih _ _ h
  obtain ⟨n', bs, en, rfl, l1, l8, hall⟩ := gr_is hg
  cases bs with
  | nil => have : 1 ≤ 0 := l1; omega
  | cons b r =>
    obtain ⟨x, y, z, rfl, _⟩ := bx3 (hall b List.mem_cons_self)
    exact hg
theorem grB_of : ∀ (n : Nat) (d : PyData) (c : Nat), gsz n d = some c → grB n d = true
  | 0, d, c, h => by cases d <;> cases h
  | n + 1, d, c, h => by
    cases d with
    | tuple bs =>
      have h : (if 1 ≤ bs.length ∧ bs.length ≤ 8 then fitN bs.length (sumO (boxN (placeN (gsz n) bs.length)) bs) else none) = some c := h
      by_cases hl : 1 ≤ bs.length ∧ bs.length ≤ 8
      · rw [if_pos hl] at h
        cases hs : sumO (boxN (placeN (gsz n) bs.length)) bs with
        | none => rw [hs] at h; cases h
        | some s =>
          show (decide (1 ≤ bs.length ∧ bs.length ≤ 8) && bs.all (bxB (grB n) bs.length)) = true
          rw [decide_eq_true hl, Bool.true_and, List.all_eq_true]
          intro b hb
          obtain ⟨a, ha⟩ := sumO_mem hs hb
          cases b with
          | tuple ps =>
            have ha : (if ps.length = 3 then sumO (placeN (gsz n) bs.length) ps else none) = some a := ha
            by_cases l3 : ps.length = 3
            · rw [if_pos l3] at ha
              match ps, l3 with
              | [p, q, r], _ =>
                have each : ∀ z ∈ [p, q, r], plB (grB n) bs.length z = true := fun z hz => by
                  obtain ⟨a', ha'⟩ := sumO_mem ha hz
                  exact plB_of (fun d c => grB_of n d c) ha'
                show (plB (grB n) bs.length p && (plB (grB n) bs.length q && plB (grB n) bs.length r)) = true
                rw [each p (by simp), each q (by simp), each r (by simp)]
                rfl
            · rw [if_neg l3] at ha
              cases ha
          | _ => cases ha
      · rw [if_neg hl] at h
        cases h
    | _ => cases h
/-! the readers, of any text -/
section
open PySem.Spec PyProof.Rows LamX
variable {P : Program} {w : World} {K : PySem.W.Frag} {mg : Str → Option Value} {base : Heap} {f : Addr} {fd : FuncData} {C D : Addr} {PT : TbP}
/-- a def or method that may raise, called -/
def MetX (P : Program) (w : World) (K : PySem.W.Frag) (mg : Str → Option Value) (base : Heap) (C : Addr) (m : Str) (k : Nat) (ps : List Str) (sp : Sp) : Prop :=
  ∃ (f : Addr) (fd : FuncData), FnOk P w K mg base (L2.CX P w) k f fd ps sp ∧ Cls K C ∧ Meth K C m f ∧ Binds K fd ps []
theorem MetX.mono {m : Str} {j k : Nat} {ps : List Str} {sp : Sp} (M : MetX P w K mg base C m j ps sp) (h : j ≤ k) : MetX P w K mg base C m k ps sp := by
  obtain ⟨f, fd, F, r⟩ := M
  exact ⟨f, fd, F.mono h, r⟩
theorem pe_metX {X : Cx} {E : XK} {m : Str} {k : Nat} {ps : List Str} {sp : Sp} {pos apos : Pos} {e o : Expr} {es : List Expr} {ta : TE} {t : TA} {pl : Sem Bool} (M : MetX X.prog X.w X.K X.mg X.base C m k ps sp) (hr : Room k X.A) (tk : Takes X (wE E)) (he : PE X o ta) (ha : PA X (e :: es) t)
    (h1 : starEach (e :: es) X.env = (false, eval e X.env) :: starEach es X.env := by rfl) (h2 : ((backTo pos (starEach es X.env)).any fun x => x.fst) = false := by rfl)
    (h3 : eval (.Call (.Attribute o m apos) (e :: es) [] pos) X.env = (do
      let ov ← eval o X.env
      standAt apos.atName
      let (f, first) ← holding [ov] (getMethod ov m pl)
      callWith pos f first (backTo pos (starEach (e :: es) X.env)) (backToKw pos (keywordEach [] X.env))) := by rfl) :
    PE X (.Call (.Attribute o m apos) (e :: es) [] pos) (tMeth C m sp [] E ta t) := by
  obtain ⟨f, fd, F, c, hm, b⟩ := M
  exact pe_meth (pl := pl) he c hm F hr b .nil (pass_of tk) ha h1 h2 h3
/-- NoText may be made -/
structure NtX (P : Program) (w : World) (K : PySem.W.Frag) (mg : Str → Option Value) (base : Heap) (D : Addr) (k : Nat) : Prop where
  g : mg "NoText" = some (.ref D)
  ox : OexC K D
  fi : ∃ (f : Addr) (fd : FuncData), FnOk P w K mg base CX0 k f fd ["self", "row"] (spNtInit D) ∧ PySem.W.findIn K (.ref D) "__init__" = some (some (.ref f)) ∧ PySem.W.typeIn K (.ref f) = some (.type "function") ∧ Binds K fd ["self", "row"] []
theorem NtX.mono {j k : Nat} (N : NtX P w K mg base D j) (h : j ≤ k) : NtX P w K mg base D k := by
  obtain ⟨g, o, f, fd, F, r⟩ := N
  exact ⟨g, o, f, fd, F.mono h, r⟩
theorem pmk_nt {X : Cx} {k : Nat} {e : Expr} {ta : TE} {p pos : Pos} (N : NtX X.prog X.w X.K X.mg X.base D k) (hr : Room (k + 1) X.A) (hg : Gl X "NoText") (ha : PE X e ta) (he : starEach [e] X.env = (false, eval e X.env) :: starEach [] X.env := by rfl) : PMk X (.Call (.Name "NoText" p) [e] [] pos) (tMkO D (spNtInit D) [] (tCons ta tNil)) := by
  obtain ⟨f, fd, F, h1, h2, h3⟩ := N.fi
  exact pmk_oex N.ox h1 h2 F hr h3 .nil pass0 hg N.g (pa_cons ha pa_nil he) (by decide) he
/-- the way out by NoText(n) -/
def ErrT (D : Addr) (n : Nat) (H : Hp) (E : XK) : Prop := ∀ d H', Same H H' → H d = none → H' d = some (.xd [("row", .int (n : Nat))]) → E (.ref D) (some d) H'
theorem mk_nt {σ : L2.St} {H : Hp} {E : XK} {n : Nat} (hn : n ≤ 9999) (q : ErrT D n H E) : tMkO D (spNtInit D) [] (tCons (tC (.int (n : Nat))) tNil) σ H E := by
  refine ⟨by show 1 ≤ 1000; decide, fun a ha => ⟨a, n, rfl, hn, upd_same, fun d H' k hd ha' hd' => ?_⟩⟩
  have nda : d ≠ a := fun z => by rw [z, upd_same] at hd; cases hd
  have hd0 : H d = none := by rw [upd_ne nda] at hd; exact hd
  refine ⟨rfl, d, _, ha', hd', hd0, q d _ (fun b u hb => ?_) hd0 upd_same⟩
  have nb_ : b ≠ a := ne_of_none hb ha
  rw [upd_ne (ne_of_none hb hd0), del_ne nb_]
  exact k b u nb_ (by rw [upd_ne nb_]; exact hb)
theorem lnt0 : ((0 : Nat) : Int) = 0 := rfl
/-- the way out of a reader -/
def ErrP (D p : Addr) (PT : TbP) (H : Hp) (E : XK) : Prop := ∀ d H', XP p H H' → TabsG PT H' → H' d = some (.xd [("row", .int 0)]) → E (.ref D) (some d) H'
theorem ErrP.t {p : Addr} {H : Hp} {E : XK} (q : ErrP D p PT H E) (t : TabsG PT H) : ErrT D 0 H E := fun d H' s _ hd' => q d H' (XP.of_same s) (t.same s) hd'
theorem ErrP.on {p : Addr} {H H1 : Hp} {E : XK} (q : ErrP D p PT H E) (x : XP p H H1) : ErrP D p PT H1 E := fun d H' x' t' hd' => q d H' (x.trans x') t' hd'
def spWantX (C D : Addr) (PT : TbP) : Sp := fun vs H Q E => ∃ (p : Addr) (t z : Str) (r : List Nat) (c : Nat), vs = [.ref p, .str z] ∧ z.cps.toList = [c] ∧ RestAt C t p r H ∧ t.length ≤ sizeLine ∧ TabsG PT H ∧ (∀ r' H', r = c :: r' → Only p H H' → RestAt C t p r' H' → Q .non H') ∧ ErrP D p PT H E
theorem ok_wantX {k : Nat} (F : Fun K "want" "Signs.want" sSgWant f fd) (T : SgC K mg C) (N : NtX P w K mg base D k) (cC : MetC P w K mg base C "comes" (k + 1) ["self", "sign"] (spComes C)) : FnOk P w K mg base (L2.CX P w) (k + 2) f fd ["self", "sign"] (spWantX C D PT) := by
  refine F.okX scWant (fun vs H Q E h => ?_) (fun cdv A outer s H vs Q E hr h => ?_)
  · obtain ⟨p, t, z, r, c, rfl, _⟩ := h
    rfl
  obtain ⟨p, t, z, r, c, rfl, hz, hR, hl, tb, q, qe⟩ := h
  obtain ⟨dx, n, hp, hd, hn⟩ := id hR
  refine ⟨_, pss_cons (ps_if (pt_not (pt_val (pe_met cC hr (pv 0) (pa_cons (pv 1) pa_nil)))) (pss_one (ps_raise rfl (takes_of (E := E) rfl rfl rfl rfl) (pmk_nt N hr rfl pe_int))) pss_nil) (pss_one (ps_fldaug (pv 0) pe_int in_add)), ?_⟩
  refine ⟨_, rfl, p, dx, _, rfl, hp, sgF_no _ _ (by decide +kernel) (by decide +kernel), _, rfl, p, t, z, _, c, rfl, hz, hR, hl, _, rfl, ?_⟩
  by_cases hc : r.head? = some c
  · obtain ⟨r', rfl⟩ : ∃ r', r = c :: r' := by
      cases r with
      | nil => cases hc
      | cons a l => cases hc; exact ⟨l, rfl⟩
    rw [decide_eq_true hc]
    refine ifF rfl ⟨_, rfl, p, C, dx, _, _, rfl, hp, T.cl, T.nH, sgF_here _ _, _, _, rfl, rfl, dx, _, hp, (by rw [sgF_eq]; show 2 < 1000; decide), ?_⟩
    show Q .non (upd H p (.ins C dx (putF "here" (.int ((n + 1 : Nat) : Int)) (sgF t n))))
    rw [sgF_put]
    have lt : t.cps.toList.length = t.length := by simp [Str.length]
    have ld := congrArg List.length hd
    rw [List.length_drop, lt, List.length_cons] at ld
    refine q r' _ rfl (Only.upd _) ⟨dx, n + 1, upd_same, ?_, by omega⟩
    rw [← List.tail_drop, hd]
    rfl
  · rw [decide_eq_false hc]
    exact ifT rfl (mk_nt (n := 0) (by decide) (qe.t tb))
/-- a number's reading -/
def spRNumX (C D : Addr) (PT : TbP) : Sp := fun vs H Q E => ∃ (p : Addr) (t : Str) (r : List Nat), vs = [.ref p] ∧ RestAt C t p r H ∧ t.length ≤ sizeLine ∧ TabsG PT H ∧ (∀ (i : Int) r' H', r'.length ≤ r.length → XP p H H' → RestAt C t p r' H' → TabsG PT H' → Q (.int i) H') ∧ ErrP D p PT H E
theorem ok_readNumberX {k : Nat} (F : Fun K "read_number" "read_number" sReadNumber f fd) (hMF : ∃ t, mg "MOST_FIGURES" = some (.int 5 t)) (N : NtX P w K mg base D k) (cW : MetC P w K mg base C "word" (k + 1) ["self"] (spWord C)) (cF : Cal P w K mg base "whole_from" (k + 1) ["word", "most"] (spWholeFrom K PT)) : FnOk P w K mg base (L2.CX P w) (k + 2) f fd ["signs"] (spRNumX C D PT) := by
  refine F.okX scRNum (fun vs H Q E h => ?_) (fun cdv A outer s H vs Q E hr h => ?_)
  · obtain ⟨p, t, r, rfl, _⟩ := h
    rfl
  obtain ⟨p, t, r, rfl, hR, hl, tb, q, qe⟩ := h
  refine ⟨_, pss_cons (ps_set (i := 1) scRNum.nd rfl (.inl rfl) (pe_cal cF hr rfl (pa_cons (pe_met0 cW hr (pv 0)) (pa_cons (pe_globI rfl hMF) pa_nil))))
    (pss_cons (ps_if (pt_cmpR op_isN (pv 1) pe_non (nomark _)) (pss_one (ps_raise rfl (takes_of (E := E) rfl rfl rfl rfl) (pmk_nt N hr rfl pe_int))) pss_nil) (pss_one (ps_ret (pv 1)))), ?_⟩
  obtain ⟨dx, n, hp, hd, hn⟩ := id hR
  refine ⟨_, rfl, p, dx, _, rfl, hp, sgF_no _ _ (by decide +kernel) (by decide +kernel), p, t, _, rfl, hR, hl, fun H1 o1 R1 => ?_⟩
  have t1 := tabsG_only tb hR.ins o1
  have lt : t.cps.toList.length = t.length := by simp [Str.length]
  have lr : r.length ≤ t.length := by rw [← hd, List.length_drop, lt]; omega
  have lw : (⟨(r.takeWhile wordB).toArray⟩ : Str).length ≤ sizeLine := by
    show (r.takeWhile wordB).toArray.size ≤ _
    rw [List.size_toArray]
    exact Nat.le_trans (tw_le _ _) (Nat.le_trans lr hl)
  refine ⟨_, 5, rfl, lw, by decide, t1, fun H2 e2 t2 => ?_⟩
  have x02 := o1.xp.trans (XP.of_ext e2)
  cases hw : wfD 5 ⟨(r.takeWhile wordB).toArray⟩ with
  | none => exact ⟨_, rfl, rfl, _, rfl, ifT rfl (mk_nt (n := 0) (by decide) ((qe.on x02).t t2))⟩
  | some i => exact ⟨_, rfl, rfl, _, rfl, ifF rfl ⟨_, rfl, q i _ _ (by rw [List.length_drop]; omega) x02 (R1.ext e2) t2⟩⟩
def spRBoxesX (K : PySem.W.Frag) (C D : Addr) (PT : TbP) (n : Nat) : Sp := fun vs H Q E => ∃ (p : Addr) (t : Str) (r : List Nat), vs = [.ref p, .int (n : Nat)] ∧ RestAt C t p r H ∧ t.length ≤ 1000 ∧ TabsG PT H ∧ (∀ v d r' H', r'.length ≤ r.length → XP p H H' → RestAt C t p r' H' → TabsG PT H' → Dp K H' v d → tupOnly d = true → Q v H') ∧ ErrP D p PT H E
def spRBoxX (K : PySem.W.Frag) (C D : Addr) (PT : TbP) (n : Nat) : Sp := fun vs H Q E => ∃ (p : Addr) (t : Str) (r : List Nat), vs = [.ref p, .int ((n + 1 : Nat) : Int)] ∧ RestAt C t p r H ∧ t.length ≤ 1000 ∧ TabsG PT H ∧ (∀ v d r' H', r'.length < r.length → XP p H H' → RestAt C t p r' H' → TabsG PT H' → Dp K H' v d → tupOnly d = true → Q v H') ∧ ErrP D p PT H E
def spRPlaceX (K : PySem.W.Frag) (C D : Addr) (PT : TbP) (n : Nat) : Sp := fun vs H Q E => ∃ (p : Addr) (t : Str) (r : List Nat), vs = [.ref p, .int ((n + 1 : Nat) : Int)] ∧ RestAt C t p r H ∧ t.length ≤ 1000 ∧ TabsG PT H ∧ (∀ v d r' H', r'.length ≤ r.length → XP p H H' → RestAt C t p r' H' → TabsG PT H' → Dp K H' v d → tupOnly d = true → Q v H') ∧ ErrP D p PT H E
theorem ok_readPlaceX {k n : Nat} (F : Fun K "read_place" "read_place" sReadPlace f fd) (cC : MetC P w K mg base C "comes" k ["self", "sign"] (spComes C)) (cW : MetX P w K mg base C "want" k ["self", "sign"] (spWantX C D PT)) (cN : CalX P w K mg base "read_number" k ["signs"] (spRNumX C D PT)) (cB : CalX P w K mg base "read_boxes" k ["signs", "deep"] (spRBoxesX K C D PT n)) : FnOk P w K mg base (L2.CX P w) (k + 1) f fd ["signs", "deep"] (spRPlaceX K C D PT n) := by
  refine F.okX scRPlace (fun vs H Q E h => ?_) (fun cdv A outer s H vs Q E hr h => ?_)
  · obtain ⟨p, t, r, rfl, _⟩ := h
    rfl
  obtain ⟨p, t, r, rfl, hR, hl, tb, q, qe⟩ := h
  refine ⟨_, pss_cons (ps_if (pt_val (pe_met cC hr (pv 0) (pa_cons pe_str pa_nil)))
      (pss_cons (ps_expr (pe_metX (E := E) cW hr (takes_of rfl rfl rfl rfl) (pv 0) (pa_cons pe_str pa_nil)))
      (pss_cons (ps_set (i := 2) scRPlace.nd rfl (.inl rfl) (pe_calX (E := E) cB hr rfl (takes_of rfl rfl rfl rfl) (pa_cons (pv 0) (pa_cons (pe_op op_sub (pv 1) pe_int) pa_nil))))
      (pss_cons (ps_expr (pe_metX (E := E) cW hr (takes_of rfl rfl rfl rfl) (pv 0) (pa_cons pe_str pa_nil)))
      (pss_one (ps_ret (pv 2)))))) pss_nil)
    (pss_cons (ps_if (pt_val (pe_met cC hr (pv 0) (pa_cons pe_str pa_nil)))
      (pss_cons (ps_expr (pe_metX (E := E) cW hr (takes_of rfl rfl rfl rfl) (pv 0) (pa_cons pe_str pa_nil)))
      (pss_one (ps_ret (pe_tup (pa_cons pe_str (pa_cons (pe_calX (E := E) cN hr rfl (takes_of rfl rfl rfl rfl) (pa_cons (pv 0) pa_nil)) pa_nil)))))) pss_nil)
    (pss_one (ps_ret (pe_calX (E := E) cN hr rfl (takes_of rfl rfl rfl rfl) (pa_cons (pv 0) pa_nil))))), ?_⟩
  have z40 : ("(" : Str).cps.toList = [40] := by decide +kernel
  have z41 : (")" : Str).cps.toList = [41] := by decide +kernel
  have z126 : ("~" : Str).cps.toList = [126] := by decide +kernel
  have hls : t.length ≤ sizeLine := Nat.le_trans hl (by decide)
  obtain ⟨dx, j0, hp, hdr, hn⟩ := id hR
  refine ⟨_, rfl, p, dx, _, rfl, hp, sgF_no _ _ (by decide +kernel) (by decide +kernel), p, t, _, _, 40, rfl, z40, hR, hls, _, rfl, ?_⟩
  by_cases c40 : r.head? = some 40
  · refine ifT (decide_eq_true c40) ⟨_, rfl, p, dx, _, rfl, hp, sgF_no _ _ (by decide +kernel) (by decide +kernel), p, t, _, _, 40, rfl, z40, hR, hls, tb, fun r1 H1 er o1 R1 => ?_, qe⟩
    have t1 := tabsG_only tb hR.ins o1
    refine ⟨_, rfl, _, rfl, _, _, rfl, rfl, p, t, r1, (by show [V.ref p, V.int (((n + 1 : Nat) : Int) - 1)] = _; rw [show ((n + 1 : Nat) : Int) - 1 = (n : Nat) by omega]), R1, hl, t1, fun v d r2 H2 l2 x2 R2 t2 hv hd => ?_, qe.on o1.xp⟩
    obtain ⟨dx2, j2, hp2, _⟩ := id R2
    refine ⟨_, rfl, p, dx2, _, rfl, hp2, sgF_no _ _ (by decide +kernel) (by decide +kernel), p, t, _, _, 41, rfl, z41, R2, hls, t2, fun r3 H3 er3 o3 R3 => ?_, qe.on (o1.xp.trans x2)⟩
    refine ⟨_, rfl, q v d r3 _ ?_ ((o1.xp.trans x2).trans o3.xp) R3 (tabsG_only t2 R2.ins o3) (dp_xp o3.xp R2.ins _ _ hv) hd⟩
    rw [er, List.length_cons]
    rw [er3, List.length_cons] at l2
    omega
  · refine ifF (decide_eq_false c40) ⟨_, rfl, p, dx, _, rfl, hp, sgF_no _ _ (by decide +kernel) (by decide +kernel), p, t, _, _, 126, rfl, z126, hR, hls, _, rfl, ?_⟩
    by_cases c126 : r.head? = some 126
    · refine ifT (decide_eq_true c126) ⟨_, rfl, p, dx, _, rfl, hp, sgF_no _ _ (by decide +kernel) (by decide +kernel), p, t, _, _, 126, rfl, z126, hR, hls, tb, fun r1 H1 er o1 R1 => ?_, qe⟩
      refine ⟨_, rfl, p, t, r1, rfl, R1, hls, tabsG_only tb hR.ins o1, fun i r2 H2 l2 x2 R2 t2 => ?_, qe.on o1.xp⟩
      refine ⟨by show 2 ≤ sizeLine; decide, fun a ha => ?_⟩
      have sa := same_new ha (.tup [.str "tie", .int i])
      exact q _ (.tuple [.str "tie", .int i]) r2 _ (by rw [er, List.length_cons]; omega) ((o1.xp.trans x2).trans (XP.of_same sa)) (R2.same sa) (t2.same sa) (.tup (SqT.of upd_same) (.cons (.str _) (.cons (.int _) .nil))) rfl
    · refine ifF (decide_eq_false c126) ⟨_, rfl, p, t, r, rfl, hR, hls, tb, fun i r2 H2 l2 x2 R2 t2 => q _ (.int i) r2 _ l2 x2 R2 t2 (.int i) rfl, qe⟩
theorem ok_readBoxX {k n : Nat} (F : Fun K "read_box" "read_box" sReadBox f fd) (T : Free mg) (hP : ∃ t, mg "PLACES" = some (.int 3 t)) (cW : MetX P w K mg base C "want" k ["self", "sign"] (spWantX C D PT)) (cP : CalX P w K mg base "read_place" k ["signs", "deep"] (spRPlaceX K C D PT n)) : FnOk P w K mg base (L2.CX P w) (k + 1) f fd ["signs", "deep"] (spRBoxX K C D PT n) := by
  refine F.okX scRBox (fun vs H Q E h => ?_) (fun cdv A outer s H vs Q E hr h => ?_)
  · obtain ⟨p, t, r, rfl, _⟩ := h
    rfl
  obtain ⟨p, t, r, rfl, hR, hl, tb, q, qe⟩ := h
  refine ⟨_, pss_cons (ps_expr (pe_metX (E := E) cW hr (takes_of rfl rfl rfl rfl) (pv 0) (pa_cons pe_str pa_nil)))
    (pss_cons (ps_set (i := 2) scRBox.nd rfl (.inl rfl) (pe_lst (pa_cons (pe_calX (E := E) cP hr rfl (takes_of rfl rfl rfl rfl) (pa_cons (pv 0) (pa_cons (pv 1) pa_nil))) pa_nil)))
    (pss_cons (ps_while (passes_of rfl) (pt_cmpR op_lt (pe_callB call_len_seq rfl T.len PySem.boot_len (pa_cons (pv 2) pa_nil)) (pe_globI rfl hP) (nomark _))
      (pss_cons (ps_expr (pe_metX (E := E) cW hr (takes_of rfl rfl rfl rfl) (pv 0) (pa_cons pe_str pa_nil)))
      (pss_one (ps_expr (pe_bm PySem.F.plainAttrs_list PySem.F.slot_list_append PySem.F.type_list_append mt_append (pv 2) (pa_cons (pe_calX (E := E) cP hr rfl (takes_of rfl rfl rfl rfl) (pa_cons (pv 0) (pa_cons (pv 1) pa_nil))) pa_nil))))))
    (pss_cons (ps_expr (pe_metX (E := E) cW hr (takes_of rfl rfl rfl rfl) (pv 0) (pa_cons pe_str pa_nil)))
    (pss_one (ps_ret (pe_callTy call_tuple_of rfl T.tuple (by decide +kernel) (pa_cons (pv 2) pa_nil))))))), ?_⟩
  have z91 : ("[" : Str).cps.toList = [91] := by decide +kernel
  have z93 : ("]" : Str).cps.toList = [93] := by decide +kernel
  have z32 : (" " : Str).cps.toList = [32] := by decide +kernel
  have hls : t.length ≤ sizeLine := Nat.le_trans hl (by decide)
  obtain ⟨dx, j0, hp, _⟩ := id hR
  refine ⟨_, rfl, p, dx, _, rfl, hp, sgF_no _ _ (by decide +kernel) (by decide +kernel), p, t, _, _, 91, rfl, z91, hR, hls, tb, fun r1 H1 er o1 R1 => ?_, qe⟩
  have t1 := tabsG_only tb hR.ins o1
  refine ⟨_, rfl, _, rfl, p, t, r1, rfl, R1, hl, t1, fun v d0 r2 H2 l2 x2 R2 t2 hv hd0 => ?_, qe.on o1.xp⟩
  refine ⟨by show 1 ≤ sizeLine; decide, fun L hL => ?_⟩
  have x02 := o1.xp.trans x2
  have nLp : L ≠ p := fun e => by
    obtain ⟨_, _, h, _⟩ := R2
    rw [e, h] at hL
    cases hL
  have sL := same_new hL (.lst [v])
  have b0 : Lq K p H (upd H2 L (.lst [v])) L [v] [d0] := ⟨x02.put (x02.free nLp hL), x02.free nLp hL, nLp, upd_same, .cons (dp_same sL hv) .nil, fun z hz => by rw [List.mem_singleton.mp hz]; exact hd0⟩
  refine ⟨fun m' σ G => ∃ (ds : List PyData) (vs : List V) (ra : List Nat), m' = 3 - ds.length ∧ 1 ≤ ds.length ∧ ds.length ≤ 3 ∧ σ = [some (.ref p), some (.int ((n + 1 : Nat) : Int)), some (.ref L)] ∧ Lq K p H G L vs ds ∧ RestAt C t p ra G ∧ ra.length + 1 ≤ r.length ∧ TabsG PT G, ⟨_, [d0], [v], r2, rfl, Nat.le_refl 1, (by show 1 ≤ 3; decide), rfl, b0, R2.same sL, by rw [er, List.length_cons]; omega, t2.same sL⟩, ?_⟩
  rintro m' σ G ⟨ds, vs, ra, rfl, ds1, ds3, rfl, b, R, lra, tG⟩
  have lv := dpAll_len b.dp
  obtain ⟨dxG, jG, hpG, _⟩ := id R
  have qG := qe.on b.xp
  refine ⟨_, rfl, L, vs, rfl, .inl (SqL.of b.at_), _, _, rfl, rfl, _, rfl, ?_⟩
  by_cases c3 : ds.length < 3
  · refine ifT (decide_eq_true (by omega)) ⟨_, fun σ' H' h => h, ?_⟩
    refine ⟨_, rfl, p, dxG, _, rfl, hpG, sgF_no _ _ (by decide +kernel) (by decide +kernel), p, t, _, _, 32, rfl, z32, R, hls, tG, fun rb G1 eb o2 R3 => ?_, qG⟩
    have t3 := tabsG_only tG R.ins o2
    have b1 := b.move o2.xp R.ins
    refine ⟨_, rfl, .inl ⟨rfl, _, SqL.of b1.at_⟩, _, rfl, _, rfl, p, t, rb, rfl, R3, hl, t3, fun va da rc G2 l4 x4 R4 t4 hva hda => ?_, qG.on o2.xp⟩
    have b2 := b1.move x4 R3.ins
    refine ⟨L, _, _, rfl, rfl, b2.at_, ?_, ?_⟩
    · rw [lv]
      exact Nat.lt_of_lt_of_le (show _ < 1000 by omega) (small (Nat.le_refl _))
    · rw [eb, List.length_cons] at lra
      exact ⟨3 - (ds.length + 1), by omega, ds ++ [da], vs ++ [va], rc, by rw [List.length_append]; rfl, by rw [List.length_append]; omega, by rw [List.length_append]; show ds.length + 1 ≤ 3; omega, rfl, b2.put hva hda, R4.put b.ne.symm, by omega, tabsG_upd t4 b2.at_⟩
  · refine ifF (decide_eq_false (by omega)) ?_
    refine ⟨_, rfl, p, dxG, _, rfl, hpG, sgF_no _ _ (by decide +kernel) (by decide +kernel), p, t, _, _, 93, rfl, z93, R, hls, tG, fun rb G1 eb o2 R3 => ?_, qG⟩
    have b1 := b.move o2.xp R.ins
    refine ⟨_, rfl, L, vs, rfl, .inl ⟨SqL.of b1.at_, fun a ha => ?_⟩⟩
    have sa := same_new ha (.tup vs)
    rw [eb, List.length_cons] at lra
    refine q _ (.tuple ds) rb _ (by omega) (b1.xp.trans (XP.of_same sa)) (R3.same sa) ((tabsG_only tG R.ins o2).same sa) (.tup (SqT.of upd_same) (dps_same sa b1.dp)) ?_
    show tupOnlyAll ds = true
    exact tupOnly_all b1.tup
theorem ok_readBoxesX {k n : Nat} (F : Fun K "read_boxes" "read_boxes" sReadBoxes f fd) (T : Free mg) (N : NtX P w K mg base D k) (cC : MetC P w K mg base C "comes" (k + 1) ["self", "sign"] (spComes C)) (cB : n ≠ 0 → ∀ m, n = m + 1 → CalX P w K mg base "read_box" (k + 1) ["signs", "deep"] (spRBoxX K C D PT m)) (hB : ∃ (fb : Addr) (fdb : FuncData), mg "read_box" = some (.ref fb) ∧ PySem.W.keepIn K (.ref fb) = true) : FnOk P w K mg base (L2.CX P w) (k + 2) f fd ["signs", "deep"] (spRBoxesX K C D PT n) := by
  refine F.okX scRBoxes (fun vs H Q E h => ?_) (fun cdv A outer s H vs Q E hr h => ?_)
  · obtain ⟨p, t, r, rfl, _⟩ := h
    rfl
  obtain ⟨p, t, r, rfl, hR, hl, tb, q, qe⟩ := h
  have z91 : ("[" : Str).cps.toList = [91] := by decide +kernel
  have hls : t.length ≤ sizeLine := Nat.le_trans hl (by decide)
  cases n with
  | zero =>
    refine ⟨_, pss_cons (ps_if (pt_cmpR op_eq (pv 1) pe_int (nomark _)) (pss_one (ps_raise rfl (takes_of (E := E) rfl rfl rfl rfl) (pmk_nt N hr rfl pe_int))) pss_nil) pss_never, ?_⟩
    exact ⟨_, rfl, rfl, _, rfl, ifT (decide_eq_true rfl) (mk_nt (n := 0) (by decide) (qe.t tb))⟩
  | succ n =>
  have cB := cB (by omega) n rfl
  refine ⟨_, pss_cons (ps_if (pt_cmpR op_eq (pv 1) pe_int (nomark _)) (pss_one (ps_raise rfl (takes_of (E := E) rfl rfl rfl rfl) (pmk_nt N hr rfl pe_int))) pss_nil)
    (pss_cons (ps_set (i := 2) scRBoxes.nd rfl (.inl rfl) (pe_lst pa_nil))
    (pss_cons (ps_while (passes_of rfl) (pt_val (pe_met cC hr (pv 0) (pa_cons pe_str pa_nil)))
      (pss_one (ps_expr (pe_bm PySem.F.plainAttrs_list PySem.F.slot_list_append PySem.F.type_list_append mt_append (pv 2) (pa_cons (pe_calX (E := E) cB hr rfl (takes_of rfl rfl rfl rfl) (pa_cons (pv 0) (pa_cons (pv 1) pa_nil))) pa_nil)))))
    (pss_one (ps_ret (pe_callTy call_tuple_of rfl T.tuple (by decide +kernel) (pa_cons (pv 2) pa_nil)))))), ?_⟩
  refine ⟨_, rfl, rfl, _, rfl, ifF (decide_eq_false (by intro z; cases z)) ?_⟩
  refine ⟨small (Nat.zero_le _), fun L hL => ?_⟩
  have nLp : L ≠ p := fun e => by
    obtain ⟨_, _, h, _⟩ := hR
    rw [e, h] at hL
    cases hL
  have sL := same_new hL (.lst [])
  have lt : t.cps.toList.length = t.length := by simp [Str.length]
  have lr : r.length ≤ 1000 := by
    obtain ⟨_, n0, _, hd, _⟩ := id hR
    rw [← hd, List.length_drop, lt]
    omega
  have b0 : Lq K p H (upd H L (.lst [])) L [] [] := ⟨XP.of_same sL, (XP.refl p H).free nLp hL, nLp, upd_same, .nil, fun z hz => by cases hz⟩
  refine ⟨fun m' σ G => ∃ (ds : List PyData) (vs : List V) (ra : List Nat), m' = ra.length ∧ ds.length + ra.length ≤ r.length ∧ σ = [some (.ref p), some (.int ((n + 1 : Nat) : Int)), some (.ref L)] ∧ Lq K p H G L vs ds ∧ RestAt C t p ra G ∧ TabsG PT G, ⟨_, [], [], r, rfl, by show 0 + r.length ≤ _; omega, rfl, b0, hR.same sL, tb.same sL⟩, ?_⟩
  rintro m' σ G ⟨ds, vs, ra, rfl, l3, rfl, b, R, tG⟩
  have lv := dpAll_len b.dp
  obtain ⟨dxG, jG, hpG, _⟩ := id R
  have qG := qe.on b.xp
  refine ⟨_, rfl, p, dxG, _, rfl, hpG, sgF_no _ _ (by decide +kernel) (by decide +kernel), p, t, _, _, 91, rfl, z91, R, hls, _, rfl, ?_⟩
  by_cases c91 : ra.head? = some 91
  · refine ifT (decide_eq_true c91) ⟨_, fun σ' H' h => h, ?_⟩
    refine ⟨_, rfl, .inl ⟨rfl, _, SqL.of b.at_⟩, _, rfl, _, rfl, p, t, ra, rfl, R, hl, tG, fun va da rc G2 l4 x4 R4 t4 hva hda => ?_, qG⟩
    have b2 := b.move x4 R.ins
    refine ⟨L, _, _, rfl, rfl, b2.at_, ?_, ?_⟩
    · rw [lv]
      exact Nat.lt_of_lt_of_le (show _ < 1001 by omega) (show 1001 ≤ sizeLine by decide)
    · exact ⟨rc.length, l4, ds ++ [da], vs ++ [va], rc, rfl, by rw [List.length_append]; show ds.length + 1 + rc.length ≤ _; omega, rfl, b2.put hva hda, R4.put b.ne.symm, tabsG_upd t4 b2.at_⟩
  · refine ifF (decide_eq_false c91) ?_
    refine ⟨_, rfl, L, vs, rfl, .inl ⟨SqL.of b.at_, fun a ha => ?_⟩⟩
    have sa := same_new ha (.tup vs)
    refine q _ (.tuple ds) ra _ (by omega) (b.xp.trans (XP.of_same sa)) (R.same sa) (tG.same sa) (.tup (SqT.of upd_same) (dps_same sa b.dp)) ?_
    show tupOnlyAll ds = true
    exact tupOnly_all b.tup
theorem all_readsX {k : Nat} {fb fp : Addr} {fdb fdp : FuncData} (F : Fun K "read_boxes" "read_boxes" sReadBoxes f fd) (FB : Fun K "read_box" "read_box" sReadBox fb fdb) (FP : Fun K "read_place" "read_place" sReadPlace fp fdp)
    (hm : mg "read_boxes" = some (.ref f)) (hmb : mg "read_box" = some (.ref fb)) (hmp : mg "read_place" = some (.ref fp)) (hb : Binds K fd ["signs", "deep"] []) (hbb : Binds K fdb ["signs", "deep"] []) (hbp : Binds K fdp ["signs", "deep"] []) (T : Free mg) (hP : ∃ t, mg "PLACES" = some (.int 3 t)) (N : NtX P w K mg base D k)
    (cC : MetC P w K mg base C "comes" k ["self", "sign"] (spComes C)) (cW : MetX P w K mg base C "want" k ["self", "sign"] (spWantX C D PT)) (cN : CalX P w K mg base "read_number" k ["signs"] (spRNumX C D PT)) : ∀ n, FnOk P w K mg base (L2.CX P w) (k + 2 + 3 * n) f fd ["signs", "deep"] (spRBoxesX K C D PT n)
  | 0 => ok_readBoxesX F T N (cC.mono (by omega)) (fun z => absurd rfl z) ⟨fb, fdb, hmb, FB.kp⟩
  | n + 1 => by
    have ih := all_readsX F FB FP hm hmb hmp hb hbb hbp T hP N cC cW cN n
    have cG : CalX P w K mg base "read_boxes" (k + 2 + 3 * n) ["signs", "deep"] (spRBoxesX K C D PT n) := ⟨f, fd, ih, hm, F.kp, hb⟩
    have cN' : CalX P w K mg base "read_number" (k + 2 + 3 * n) ["signs"] (spRNumX C D PT) := by
      obtain ⟨a, b, c, d⟩ := cN
      exact ⟨a, b, c.mono (by omega), d⟩
    have cP : CalX P w K mg base "read_place" (k + 2 + 3 * n + 1) ["signs", "deep"] (spRPlaceX K C D PT n) := ⟨fp, fdp, ok_readPlaceX FP (cC.mono (by omega)) (cW.mono (by omega)) cN' cG, hmp, FP.kp, hbp⟩
    have cB : CalX P w K mg base "read_box" (k + 2 + 3 * n + 2) ["signs", "deep"] (spRBoxX K C D PT n) := ⟨fb, fdb, ok_readBoxX FB T hP (cW.mono (by omega)) cP, hmb, FB.kp, hbb⟩
    exact (ok_readBoxesX (k := k + 2 + 3 * n + 1) F T (N.mono (by omega)) (cC.mono (by omega)) (fun _ m e => by cases e; exact cB) ⟨fb, fdb, hmb, FB.kp⟩).mono (by omega)
/-- read_graph of what is no graph's text -/
def NoGT (d : PyData) : Prop := ∀ z, d = .str z → z.length ≤ 1000 ∧ ∀ g c, grB 4 g = true → gsz 4 g = some c → z ≠ gT 4 g
def spReadGX (K : PySem.W.Frag) (PT : TbP) (D : Addr) : Sp := fun vs H _ E => ∃ (x : V) (d : PyData), vs = [x] ∧ Dp K H x d ∧ NoGT d ∧ TabsG PT H ∧ ∀ e H', ExtN H H' → TabsG PT H' → H' e = some (.xd [("row", .int 0)]) → E (.ref D) (some e) H'
theorem bad_readGraph {k : Nat} (F : Fun K "read_graph" "read_graph" sReadGraph f fd) (T : Free mg) (hS : mg "str" = none) (Cn : Cst mg) (N : NtX P w K mg base D (k + 1)) (cM : MakC P w K mg base "Signs" C k ["self", "text"] (spSgInit C)) (cR : CalX P w K mg base "read_boxes" (k + 2) ["signs", "deep"] (spRBoxesX K C D PT 4)) (cI : Cal P w K mg base "is_graph" (k + 2) ["thing"] (spIsGraph K)) (cB : Cal P w K mg base "boxes_text" (k + 2) ["graph"] (spBoxes K 4)) : FnOk P w K mg base (L2.CX P w) (k + 3) f fd ["text"] (spReadGX K PT D) := by
  refine F.okX scReadG (fun vs H Q E h => ?_) (fun cdv A outer s H vs Q E hr h => ?_)
  · obtain ⟨x, d, rfl, _⟩ := h
    rfl
  obtain ⟨x, d, rfl, hx, hno, tb, q⟩ := h
  refine ⟨_, pss_cons (ps_if (pt_not (pt_val (pe_callB call_isi rfl T.isi (by decide +kernel) (pa_cons (pv 0) (pa_cons (pe_bltn (v := .ty "str") rfl hS (by decide +kernel) rfl) pa_nil))))) (pss_one (ps_raise rfl (takes_of (E := E) rfl rfl rfl rfl) (pmk_nt N hr rfl pe_int))) pss_nil)
    (pss_cons (ps_set (i := 1) scReadG.nd rfl (.inl rfl) (pe_calX (E := E) cR hr rfl (takes_of rfl rfl rfl rfl) (pa_cons (pe_mak cM hr (by omega) rfl (pa_cons (pv 0) pa_nil)) (pa_cons (pe_globI rfl Cn.mostDeep) pa_nil))))
    (pss_cons (ps_if (PW.pt (pw_or (pt_not (pt_val (pe_cal cI hr rfl (pa_cons (pv 1) pa_nil)))) (pw_or1 (pt_cmpR op_ne (pe_cal cB hr rfl (pa_cons (pv 1) pa_nil)) (pv 0) (nomark _))))) (pss_one (ps_raise rfl (takes_of (E := E) rfl rfl rfl rfl) (pmk_nt N hr rfl pe_int))) pss_nil)
    (pss_one (ps_ret (pv 1))))), ?_⟩
  have qt : ∀ {H1 : Hp}, ExtN H H1 → TabsG PT H1 → ErrT D 0 H1 E := fun e1 t1 d' H' s _ hd' => q d' H' (e1.trans (ext_same s)) (t1.same s) hd'
  have nt0 : ∀ {H1 : Hp} {σ : L2.St}, ExtN H H1 → TabsG PT H1 → tMkO D (spNtInit D) [] (tCons (tC (.int ((0 : Nat) : Int))) tNil) σ H1 E := fun e1 t1 => mk_nt (n := 0) (by decide) (qt e1 t1)
  cases d with
  | str z =>
    cases hx
    obtain ⟨hz, hno⟩ := hno z rfl
    refine ⟨_, rfl, .str z, _, _, _, _, rfl, .ty "str", .base (.str _), kit_ty (show kitB "str" "str" = some true by decide +kernel), _, rfl, ifF rfl ?_⟩
    refine ⟨_, rfl, fun x dx nx ndx nex => ⟨x, dx, z, rfl, upd_same, ⟨rfl, ?_⟩⟩⟩
    rw [upd_upd]
    have sX : Same H (upd (upd H dx (.own x)) x (.ins C dx (sgF z 0))) := fun b u h => by
      rw [upd_ne (ne_of_none h nx), upd_ne (ne_of_none h ndx)]
      exact h
    have toE : ∀ {H2 : Hp}, XP x (upd (upd H dx (.own x)) x (.ins C dx (sgF z 0))) H2 → ExtN H H2 := fun x2 b u h n => x2 b u (ne_of_none h nx) (sX _ _ h) n
    refine ⟨x, z, z.cps.toList, rfl, ⟨dx, 0, upd_same, rfl, Nat.zero_le _⟩, hz, tb.same sX, fun v d r2 H2 _ x2 R2 t2 hv td => ?_, fun d' H2 x2 t2 hd' => q d' H2 (toE x2) t2 hd'⟩
    have e2 := toE x2
    refine ⟨_, rfl, v, d, rfl, hv, trivial, _, rfl, ?_⟩
    cases hc : gsz 4 d with
    | none => exact ifT rfl (ifT rfl (nt0 e2 t2))
    | some c =>
      have hd := grB_of 4 d c hc
      have gl := gT_len 4 d hd
      refine ifF rfl ⟨_, rfl, v, d, rfl, hv, hd, gl, fun H3 s3 => ⟨_, rfl, rfl, _, rfl, ?_⟩⟩
      exact ifT (by rw [decide_eq_false (fun e => hno d c hd hc (V.str.inj e).symm)]; rfl) (nt0 (e2.trans (ext_same s3)) (t2.same s3))
  | none =>
    cases hx
    exact ⟨_, rfl, _, _, _, _, _, rfl, .ty "str", .base .non, kit_ty (show kitB "NoneType" "str" = some false by decide +kernel), _, rfl, ifT rfl (nt0 (ExtN.refl H) tb)⟩
  | bool b => exact ⟨_, rfl, _, _, _, _, _, rfl, .ty "str", ty_of hx, kit_ty (show kitB "bool" "str" = some false by decide +kernel), _, rfl, ifT rfl (nt0 (ExtN.refl H) tb)⟩
  | int b => exact ⟨_, rfl, _, _, _, _, _, rfl, .ty "str", ty_of hx, kit_ty (show kitB "int" "str" = some false by decide +kernel), _, rfl, ifT rfl (nt0 (ExtN.refl H) tb)⟩
  | list b => exact ⟨_, rfl, _, _, _, _, _, rfl, .ty "str", ty_of hx, kit_ty (show kitB "list" "str" = some false by decide +kernel), _, rfl, ifT rfl (nt0 (ExtN.refl H) tb)⟩
  | tuple b => exact ⟨_, rfl, _, _, _, _, _, rfl, .ty "str", ty_of hx, kit_ty (show kitB "tuple" "str" = some false by decide +kernel), _, rfl, ifT rfl (nt0 (ExtN.refl H) tb)⟩
  | dict b => exact ⟨_, rfl, _, _, _, _, _, rfl, .ty "str", ty_of hx, kit_ty (show kitB "dict" "str" = some false by decide +kernel), _, rfl, ifT rfl (nt0 (ExtN.refl H) tb)⟩
end
theorem pe_nev {X : Cx} {e : Expr} : PE X e (fun _ _ _ => False) := ⟨fun _ _ _ _ _ _ h => h.elim⟩
theorem pt_nev {X : Cx} {e : Expr} : PT X e (fun _ _ _ => False) := ⟨fun _ _ _ _ _ _ h => h.elim⟩
theorem same_upd {H G : Hp} {a : Addr} {o : HO} (s : Same H G) (h : H a = none) : Same H (upd G a o) := fun b u hb => by rw [upd_ne (ne_of_none hb h)]; exact s b u hb
def names19 : List Str := ["NoChart", "NoPoints", "NoGraph", "NoPlace", "NoNet", "NoActor", "NoWeaving", "NoName", "NoChannel", "NoMost", "NoCode", "NoRow", "NoAddress", "NoDeed", "NotFull", "NotStill", "NoLine", "NoText", "Unsafe"]
def words19 : List Str := ["chart", "points", "graph", "place", "net", "actor", "weaving", "name", "channel", "most", "code", "row", "address", "deed", "full", "still", "line", "text", "unsafe"]
structure Kin (K : PySem.W.Frag) (mg : Str → Option Value) (D : Addr) (j : Nat) : Prop where
  exc : ExcC K D
  cls : ∀ (i : Nat) (x : Str), names19[i]? = some x → ∃ C, mg x = some (.ref C) ∧ PySem.W.kitOne K (.ref D) (.ref C) = some (decide (i = j))
  ve : PySem.W.kitOne K (.ref D) (.type "ValueError") = some true
def rCntB (K : PySem.W.Frag) : V → List V → Hp → VK → Prop := fun x xs H Q => ∃ (p : Addr) (bs : List Bool), x = .ref p ∧ xs = [.bl true] ∧ SqL K H p (bs.map V.bl) ∧ Q (.int (bs.count true : Nat)) H
def isT : Value → Bool
  | .bool b => b
  | _ => false
theorem bools_of : ∀ {bs : List Bool} {us : List Value}, Vals (bs.map V.bl) us → us = bs.map Value.bool
  | [], us, r => by cases r; rfl
  | b :: bs, us, r => by
    cases r with
    | cons r1 r2 =>
      cases r1
      rw [bools_of r2]
      rfl
theorem cnt_bools : ∀ bs : List Bool, (bs.map Value.bool).countP isT = bs.count true
  | [] => rfl
  | b :: bs => by
    rw [List.map_cons, List.countP_cons, List.count_cons, cnt_bools bs]
    cases b <;> rfl
theorem mt_cntB {X : Cx} : MtR X "list.count" (rCntB X.K) := by
  intro pins s σ H x xs v us Q I rx rxs h
  obtain ⟨p, bs, rfl, rfl, hs, q⟩ := h
  cases rx
  obtain ⟨u, rfl, ru⟩ := rxs.one
  cases ru
  obtain ⟨its, rv, ⟨⟨cls, dd, data, sl⟩, n, ho, hc, hdn, hd⟩, hlen⟩ := I.list hs
  simp only at hc hd
  subst hc hd
  have hi := bools_of rv
  subst hi
  refine call_meets PySem.F.slot_list_count ⟨_, ho, rfl⟩ PySem.F.entry_list_count (PySem.F.args_list_count_2 _ _) (SeqAt.list_countAt p (bs.map Value.bool).toArray n dd sl (.bool true) isT) ⟨ho, fun y hy => ?_, ?_⟩
  · obtain ⟨b, _, rfl⟩ := List.mem_map.mp (show y ∈ bs.map Value.bool by simpa using hy)
    rw [show isT (.bool b) = (b == true) by cases b <;> rfl]
    exact SeqAt.EqAt.bool_bool b true
  · refine ⟨.int (bs.count true : Nat), H, I.tok _, ⟨s.toks, ?_⟩, q⟩
    show Value.int (((bs.map Value.bool).toArray.toList.countP isT : Nat) : Int) s.toks = _
    rw [show (bs.map Value.bool).toArray.toList = bs.map Value.bool from rfl, cnt_bools]
section
open PySem.Spec PyProof.Rows
variable {P : Program} {w : World} {K : PySem.W.Frag} {mg : Str → Option Value} {base : Heap} {f D : Addr} {dO : Option Addr} {fd : FuncData}
theorem nb {H G : Hp} {q : Addr} (s : Same H G) (h : G q = none) : H q = none := by
  cases e : H q with
  | none => rfl
  | some u => rw [s _ _ e] at h; cases h
/-- the dict of an exception that is held -/
def XdAt (dO : Option Addr) (H : Hp) : Prop := dO = none ∨ ∃ dd fs, dO = some dd ∧ H dd = some (.xd fs)
theorem XdAt.same {dO : Option Addr} {H H' : Hp} (x : XdAt dO H) (s : Same H H') : XdAt dO H' := x.elim .inl fun ⟨dd, fs, e, h⟩ => .inr ⟨dd, fs, e, s _ _ h⟩
def rIsX (K : PySem.W.Frag) (D : Addr) (dO : Option Addr) (a : Addr) : List V → Hp → VK → Prop := fun xs H Q => ∃ (c : V) (cv : Value) (b : Bool), xs = [.ref a, c] ∧ (∀ u, RelV c u → u = cv) ∧ PySem.W.kitOne K (.ref D) cv = some b ∧ XdAt dO H ∧ Q (.bl b) H
theorem call_isX {X : Cx} {a D : Addr} {dO : Option Addr} {oe : Obj} (C : ExcC X.K D) (hp : (a, oe) ∈ X.pn) (hz : Zc (.ref D) dO oe) (hf : ∃ vs, oe.data = .fields vs) : CallR X (.builtin "isinstance") (rIsX X.K D dO a) := by
  intro pins s σ H xs us Q I r h
  obtain ⟨c, cv, b, rfl, hcv, e, xd, q⟩ := h
  obtain ⟨u1, u2, rfl, r1, r2⟩ := vals2 r
  cases r1
  obtain rfl := hcv _ r2
  have there := (I.pin (a, oe) (List.mem_append_left _ hp)).1
  obtain ⟨vs, hv⟩ := hf
  rcases xd with rfl | ⟨dd, fs, rfl, hdd⟩
  · have J : PySem.W.InstAt s.heap a oe D none := by
      obtain ⟨oc, od, oda, osl⟩ := oe
      obtain ⟨e1, e2⟩ := hz
      dsimp only at e1 e2 hv
      subst e1 e2 hv
      exact ⟨there, rfl, rfl, trivial⟩
    exact PySem.W.kia_one (PySem.W.handS_kitx_exc C.hg C.hk C.hs C.hd C.ha C.hn C.ht C.hm) I.kIn J e (fun z => nomatch z) fun tk => ⟨.bl b, H, I.kept (t' := tk) fun _ _ z => z, rfl, q⟩
  · have hx : ObjOk X.prog X.w H s.heap dd (.xd fs) := I.hok dd _ hdd
    obtain ⟨mA, hns, _⟩ := hx
    obtain ⟨od, ho, _⟩ := lookIn_ns hns
    have J : PySem.W.InstAt s.heap a oe D (some od) := by
      obtain ⟨oc, odd, oda, osl⟩ := oe
      obtain ⟨e1, e2⟩ := hz
      dsimp only at e1 e2 hv
      subst e1 e2 hv
      exact ⟨there, rfl, rfl, ho⟩
    have hcl : (PySem.W.clsIn X.K D).isSome = true := by
      have h := C.hd
      unfold PySem.W.hasDictIn at h
      cases e : PySem.W.clsIn X.K D with
      | none => rw [e] at h; cases h
      | some c => rfl
    exact PySem.W.kia_one (PySem.W.kitx_exc hcl C.hg C.hk C.hs C.ha C.hn C.ht C.hm) I.kIn J e (fun z => nomatch z) fun tk => ⟨.bl b, H, I.kept (t' := tk) fun _ _ z => z, rfl, q⟩
/-- e.f of the exception that is looked at -/
theorem pe_xfP {X : Cx} {a C : Addr} {oe : Obj} {cls : Value} {d : Option Addr} {e : Expr} {te : TE} {pos : Pos} {n : Str} (T : XfC X.K C) (hp : (a, oe) ∈ X.pn) (hno : PySem.W.findIn X.K (.ref C) n = some none)
    (hz : Zc cls d oe) (hf : ∃ vs, oe.data = .fields vs) (he : PE X e te) (hb : attributeBase e n X.env (eval e X.env) = eval e X.env := by rfl) :
    PE X (.Attribute e n pos) (tXf a cls d C n te) := by
  refine ⟨fun pins s σ H Q I h => ?_⟩
  refine attr_of hb (thn (he.run pins s σ H _ I h) fun u s1 hh => ?_)
  obtain ⟨x, H1, I1, rx, ex, ec, dd, fs, v, ed, ea, l, q⟩ := hh
  subst ex
  obtain rfl : u = Value.ref a := rx
  subst ec
  subst ed
  obtain ⟨ha, _⟩ := I1.pin (a, oe) (List.mem_append_left _ hp)
  obtain ⟨vs, hd⟩ := hf
  have hx : ObjOk X.prog X.w H1 s1.heap dd (.xd fs) := I1.hok dd _ ea
  obtain ⟨mA, hns, hr⟩ := hx
  obtain ⟨od, ho, hl⟩ := lookIn_ns hns
  obtain ⟨u, hu, ru⟩ := RelO.some_of (v := v) (o := mA n) (by rw [← l]; exact hr n)
  have J : PySem.W.InstAt s1.heap a oe C (some od) := ⟨ha, hz.1, by unfold PySem.W.notCls; rw [hd] <;> rfl, by rw [hz.2]; exact ho⟩
  exact HandSPX.exc_get I1.kIn J T.ga T.gg T.exC (PySem.W.findObj_own T.hdC hno rfl (by rw [hl, hu])) (handed_of ru) ⟨v, H1, I1.tok _, ru, q⟩
/-- a def that is called while the error is looked at -/
def HotOk (P : Program) (w : World) (K : PySem.W.Frag) (mg : Str → Option Value) (base : Heap) (k : Nat) (f D : Addr) (dO : Option Addr) (R : Hp → VK → Prop) : Prop :=
  ∀ (A : Around) (outer : List Env) (s : Shared) (H : Hp) (Q : VK) (a : Addr) (oe : Obj), L2H.RoomH k A → L2H.PinOk outer H s (a, oe) → Zc (.ref D) dO oe → (∃ vs, oe.data = .fields vs) → Env0 P w K mg base A outer s H → R H Q → codeAny (model P w) A (.call (.ref f) ⟨[.ref a], []⟩) (CR CX0 outer P w H s Q E0) s
theorem HotOk.mono {R : Hp → VK → Prop} {j k : Nat} (h : HotOk P w K mg base j f D dO R) (l : j ≤ k) : HotOk P w K mg base k f D dO R := fun A outer s H Q a oe hr => h A outer s H Q a oe (hr.mono l)
theorem hot_of {k : Nat} {x : Str} {st : Stmt} {N : List Str} {R : Hp → VK → Prop} (F : Fun K x x st f fd) (S : FnScope N ["_law_e"] (defScope st)) (hl : (defScope st).names.lookup ("_law_e" : Str) = some NameKind.local) (hbd : ∀ (s : Shared) (u : Value), BindsTo s fd ⟨[u], []⟩ [("_law_e", u)])
    (main : ∀ (cdv : Value) (A : Around) (outer : List Env) (s : Shared) (H : Hp) (Q : VK) (a : Addr) (oe : Obj), L2H.RoomH k (A.deeper (envOfC x (defScope st) s.heap.objs.size f cdv)) → Zc (.ref D) dO oe → (∃ vs, oe.data = .fields vs) → R H Q →
      ∃ t, PSs (L2H.cxH CX0 P w K mg base N x (defScope st) f cdv A outer s H E0 (a, oe)) (defBody st) t ∧ t { nx := fun _ _ => False, rt := Q } (L2.start N [.ref a]) H) : HotOk P w K mg base (k + 1) f D dO R := by
  intro A outer s H Q a oe hr pin hz hf at0 q
  obtain ⟨oc, od, kV, doc, pm, an, cdv, ct, osl, rfl, found, code⟩ := F.ex
  have hin : K.In s.heap := at0.mod.kin.keeps fun b o e => (at0.bs b o e).1
  have unl : s.heap.NoLimit := at0.mod.nolimit.keeps fun b o e => (at0.bs b o e).1
  have kinds : ∀ y ∈ [(("_law_e" : Str), Value.ref a)], (defScope st).names.lookup y.1 = some .local ∨ ((defScope st).names.lookup y.1 = some .cell ∧ ((cellsFrom (s.heap.objs.size + 1) (defScope st).names []).lookup y.1).isSome = true) := by
    intro y hy
    rcases List.mem_cons.mp hy with rfl | hy
    · exact .inl hl
    · cases hy
  refine codeAny_call_function hr.depth (hin _ _ found) rfl S.co S.gen rfl (PySem.W.codeRec_of hin code) (hbd _ _ _ _ _ _ ?_)
  refine wpAny_newFunctionEnv_cells S.kind kinds fun env he s1 ic => ?_
  subst he
  refine ⟨unl.keeps ic.toInCall.keep, codeAny_func ?_⟩
  have I := L2H.inv_startH (CX := CX0) (E := E0) (us := [.ref a]) (vs := [.ref a]) S pin at0 rfl (.cons rfl .nil) ic
  obtain ⟨t, ht, hq⟩ := main cdv A outer s H Q a oe (hr.deeper _) hz hf q
  refine wpAny_mono (ht.run [] s1 _ H _ I hq) (fun fl s' out => ?_) fun e s' out => out
  cases fl with
  | ret u =>
    obtain ⟨v, σ', H', J, rv, q⟩ := out
    exact ⟨v, H', J.os, J.bare, J.base, J.hok, rv, q⟩
  | next =>
    obtain ⟨_, _, _, z⟩ := out
    exact z.elim
  | brk =>
    obtain ⟨_, _, _, z⟩ := out
    exact z.elim
  | cont =>
    obtain ⟨_, _, _, z⟩ := out
    exact z.elim
theorem pe_hot {Z : Cx} {a f D : Addr} {dO : Option Addr} {oe : Obj} {x : Str} {R : Hp → VK → Prop} {k : Nat} {p pos : Pos} {e : Expr} {t : TA} (hp : (a, oe) ∈ Z.pn) (hz : Zc (.ref D) dO oe) (hf : ∃ vs, oe.data = .fields vs) (ok : HotOk Z.prog Z.w Z.K Z.mg Z.base k f D dO R) (hr : L2H.RoomH k Z.A) (hg : Gl Z x)
    (hm : Z.mg x = some (.ref f)) (hk : PySem.W.keepIn Z.K (.ref f) = true) (ha : PA Z [e] t) (h2 : starEach [e] Z.env = (false, eval e Z.env) :: starEach [] Z.env := by rfl) (h3 : ((backTo pos (starEach [] Z.env)).any fun x => x.fst) = false := by rfl) (h4 : (x == ("__debug__" : Str)) = false := by decide) :
    PE Z (.Call (.Name x p) [e] [] pos) (fun σ H Q => t σ H fun vs H1 => vs = [.ref a] ∧ R H1 Q) := by
  refine ⟨fun pins s σ H Q I h => ?_⟩
  refine wpAny_Call_Name_kw (ld_glob I hg hm ?_ h4)
  refine PySem.W.callWith_K (h₀ := Z.base) I.ok.mod.kin hk (thn (ha.run pos pins s σ H _ I h) fun us s1 ⟨vs, H1, I1, r, ev, q⟩ => ⟨I1.kIn, ?_⟩) h2 h3
  subst ev
  obtain ⟨u, rfl, ru⟩ := vals1 r
  cases ru
  have pn := I1.pin (a, oe) (List.mem_append_left _ hp)
  have pin : L2H.PinOk Z.stack H1 s1 (a, oe) := ⟨pn.1, pn.2.1, fun z => (List.mem_cons.mp (I1.stkSub a z)).elim pn.2.2.1 pn.2.2.2.1, pn.2.2.2.2⟩
  refine wpAny_call (codeAny_mono (ok Z.A Z.stack s1 H1 Q a oe hr pin hz hf I1.env0 q) fun r s' hq => ?_)
  match r, hq with
  | .error e, hq => exact (show False from hq).elim
  | .ok (.ret u), hq => exact I1.after hq
  | .ok .next, hq => exact (show False from hq).elim
  | .ok .brk, hq => exact (show False from hq).elim
  | .ok .cont, hq => exact (show False from hq).elim
/-! _law_marks -/
def bl19 (j : Nat) : List V := [.bl (decide ((0 : Nat) = j)), .bl (decide ((1 : Nat) = j)), .bl (decide ((2 : Nat) = j)), .bl (decide ((3 : Nat) = j)), .bl (decide ((4 : Nat) = j)), .bl (decide ((5 : Nat) = j)), .bl (decide ((6 : Nat) = j)), .bl (decide ((7 : Nat) = j)), .bl (decide ((8 : Nat) = j)), .bl (decide ((9 : Nat) = j)), .bl (decide ((10 : Nat) = j)), .bl (decide ((11 : Nat) = j)), .bl (decide ((12 : Nat) = j)), .bl (decide ((13 : Nat) = j)), .bl (decide ((14 : Nat) = j)), .bl (decide ((15 : Nat) = j)), .bl (decide ((16 : Nat) = j)), .bl (decide ((17 : Nat) = j)), .bl (decide ((18 : Nat) = j))]
theorem bl19_rg (j : Nat) : bl19 j = (List.range 19).map fun i => V.bl (decide (i = j)) := rfl
def RMarks (dO : Option Addr) (j : Nat) : Hp → VK → Prop := fun H Q => XdAt dO H ∧ ∀ p H', Same H H' → H' p = some (.lst (bl19 j)) → Q (.ref p) H'
theorem scMarks : FnScope ["_law_e", "_law_marks_here"] ["_law_e"] (defScope sMarks) := ⟨rfl, rfl, rfl, by decide +kernel, rfl, by decide +kernel, by decide +kernel⟩
set_option maxHeartbeats 1000000 in
theorem ok_marks {j k : Nat} (F : Fun K "_law_marks" "_law_marks" sMarks f fd) (hbd : ∀ (s : Shared) (u : Value), BindsTo s fd ⟨[u], []⟩ [("_law_e", u)]) (T : Free mg) (kin : Kin K mg D j) : HotOk P w K mg base (k + 1) f D dO (RMarks dO j) := by
  refine hot_of F scMarks rfl hbd fun cdv A outer s H Q a oe hr hz hf q => ?_
  obtain ⟨hxd, q⟩ := q
  have hp : (a, oe) ∈ (L2H.cxH CX0 P w K mg base ["_law_e", "_law_marks_here"] "_law_marks" (defScope sMarks) f cdv A outer s H E0 (a, oe)).pn := List.mem_cons_self
  obtain ⟨c0, m0, k0⟩ := kin.cls 0 _ rfl
  obtain ⟨c1, m1, k1⟩ := kin.cls 1 _ rfl
  obtain ⟨c2, m2, k2⟩ := kin.cls 2 _ rfl
  obtain ⟨c3, m3, k3⟩ := kin.cls 3 _ rfl
  obtain ⟨c4, m4, k4⟩ := kin.cls 4 _ rfl
  obtain ⟨c5, m5, k5⟩ := kin.cls 5 _ rfl
  obtain ⟨c6, m6, k6⟩ := kin.cls 6 _ rfl
  obtain ⟨c7, m7, k7⟩ := kin.cls 7 _ rfl
  obtain ⟨c8, m8, k8⟩ := kin.cls 8 _ rfl
  obtain ⟨c9, m9, k9⟩ := kin.cls 9 _ rfl
  obtain ⟨c10, m10, k10⟩ := kin.cls 10 _ rfl
  obtain ⟨c11, m11, k11⟩ := kin.cls 11 _ rfl
  obtain ⟨c12, m12, k12⟩ := kin.cls 12 _ rfl
  obtain ⟨c13, m13, k13⟩ := kin.cls 13 _ rfl
  obtain ⟨c14, m14, k14⟩ := kin.cls 14 _ rfl
  obtain ⟨c15, m15, k15⟩ := kin.cls 15 _ rfl
  obtain ⟨c16, m16, k16⟩ := kin.cls 16 _ rfl
  obtain ⟨c17, m17, k17⟩ := kin.cls 17 _ rfl
  obtain ⟨c18, m18, k18⟩ := kin.cls 18 _ rfl
  refine ⟨_, (pss_cons (ps_set (i := 1) scMarks.nd rfl (.inl rfl) (pe_lst (pa_cons (pe_callB (call_isX kin.exc hp hz hf) rfl T.isi (by decide +kernel) (pa_cons (pv 0) (pa_cons (pe_glob (v := .ref c0) rfl m0 rfl) pa_nil))) (pa_cons (pe_callB (call_isX kin.exc hp hz hf) rfl T.isi (by decide +kernel) (pa_cons (pv 0) (pa_cons (pe_glob (v := .ref c1) rfl m1 rfl) pa_nil))) (pa_cons (pe_callB (call_isX kin.exc hp hz hf) rfl T.isi (by decide +kernel) (pa_cons (pv 0) (pa_cons (pe_glob (v := .ref c2) rfl m2 rfl) pa_nil))) (pa_cons (pe_callB (call_isX kin.exc hp hz hf) rfl T.isi (by decide +kernel) (pa_cons (pv 0) (pa_cons (pe_glob (v := .ref c3) rfl m3 rfl) pa_nil))) pa_nil))))))
      (pss_cons (ps_set (i := 1) scMarks.nd rfl (.inl rfl) (pe_op op_cat (pv 1) (pe_lst (pa_cons (pe_callB (call_isX kin.exc hp hz hf) rfl T.isi (by decide +kernel) (pa_cons (pv 0) (pa_cons (pe_glob (v := .ref c4) rfl m4 rfl) pa_nil))) (pa_cons (pe_callB (call_isX kin.exc hp hz hf) rfl T.isi (by decide +kernel) (pa_cons (pv 0) (pa_cons (pe_glob (v := .ref c5) rfl m5 rfl) pa_nil))) (pa_cons (pe_callB (call_isX kin.exc hp hz hf) rfl T.isi (by decide +kernel) (pa_cons (pv 0) (pa_cons (pe_glob (v := .ref c6) rfl m6 rfl) pa_nil))) pa_nil))))))
      (pss_cons (ps_expr (pe_bm PySem.F.plainAttrs_list PySem.F.slot_list_append PySem.F.type_list_append mt_append (pv 1) (pa_cons (pe_callB (call_isX kin.exc hp hz hf) rfl T.isi (by decide +kernel) (pa_cons (pv 0) (pa_cons (pe_glob (v := .ref c7) rfl m7 rfl) pa_nil))) pa_nil)))
      (pss_cons (ps_set (i := 1) scMarks.nd rfl (.inl rfl) (pe_op op_cat (pv 1) (pe_lst (pa_cons (pe_callB (call_isX kin.exc hp hz hf) rfl T.isi (by decide +kernel) (pa_cons (pv 0) (pa_cons (pe_glob (v := .ref c8) rfl m8 rfl) pa_nil))) (pa_cons (pe_callB (call_isX kin.exc hp hz hf) rfl T.isi (by decide +kernel) (pa_cons (pv 0) (pa_cons (pe_glob (v := .ref c9) rfl m9 rfl) pa_nil))) (pa_cons (pe_callB (call_isX kin.exc hp hz hf) rfl T.isi (by decide +kernel) (pa_cons (pv 0) (pa_cons (pe_glob (v := .ref c10) rfl m10 rfl) pa_nil))) pa_nil))))))
      (pss_cons (ps_expr (pe_bm PySem.F.plainAttrs_list PySem.F.slot_list_append PySem.F.type_list_append mt_append (pv 1) (pa_cons (pe_callB (call_isX kin.exc hp hz hf) rfl T.isi (by decide +kernel) (pa_cons (pv 0) (pa_cons (pe_glob (v := .ref c11) rfl m11 rfl) pa_nil))) pa_nil)))
      (pss_cons (ps_set (i := 1) scMarks.nd rfl (.inl rfl) (pe_op op_cat (pv 1) (pe_lst (pa_cons (pe_callB (call_isX kin.exc hp hz hf) rfl T.isi (by decide +kernel) (pa_cons (pv 0) (pa_cons (pe_glob (v := .ref c12) rfl m12 rfl) pa_nil))) (pa_cons (pe_callB (call_isX kin.exc hp hz hf) rfl T.isi (by decide +kernel) (pa_cons (pv 0) (pa_cons (pe_glob (v := .ref c13) rfl m13 rfl) pa_nil))) (pa_cons (pe_callB (call_isX kin.exc hp hz hf) rfl T.isi (by decide +kernel) (pa_cons (pv 0) (pa_cons (pe_glob (v := .ref c14) rfl m14 rfl) pa_nil))) pa_nil))))))
      (pss_cons (ps_expr (pe_bm PySem.F.plainAttrs_list PySem.F.slot_list_append PySem.F.type_list_append mt_append (pv 1) (pa_cons (pe_callB (call_isX kin.exc hp hz hf) rfl T.isi (by decide +kernel) (pa_cons (pv 0) (pa_cons (pe_glob (v := .ref c15) rfl m15 rfl) pa_nil))) pa_nil)))
      (pss_one (ps_ret (pe_op op_cat (pv 1) (pe_lst (pa_cons (pe_callB (call_isX kin.exc hp hz hf) rfl T.isi (by decide +kernel) (pa_cons (pv 0) (pa_cons (pe_glob (v := .ref c16) rfl m16 rfl) pa_nil))) (pa_cons (pe_callB (call_isX kin.exc hp hz hf) rfl T.isi (by decide +kernel) (pa_cons (pv 0) (pa_cons (pe_glob (v := .ref c17) rfl m17 rfl) pa_nil))) (pa_cons (pe_callB (call_isX kin.exc hp hz hf) rfl T.isi (by decide +kernel) (pa_cons (pv 0) (pa_cons (pe_glob (v := .ref c18) rfl m18 rfl) pa_nil))) pa_nil)))))))))))))), ?_⟩
  have W0 := Same.refl H
  refine ⟨_, rfl, .ref c0, .ref c0, _, rfl, fun _ h => h, k0, hxd.same (W0), _, rfl, .ref c1, .ref c1, _, rfl, fun _ h => h, k1, hxd.same (W0), _, rfl, .ref c2, .ref c2, _, rfl, fun _ h => h, k2, hxd.same (W0), _, rfl, .ref c3, .ref c3, _, rfl, fun _ h => h, k3, hxd.same (W0), small (by show 4 ≤ 1000; decide), fun p0 h0 => ?_⟩
  have np0 := nb (W0) h0
  refine ⟨_, rfl, _, rfl, .ref c4, .ref c4, _, rfl, fun _ h => h, k4, hxd.same (same_upd (W0) np0), _, rfl, .ref c5, .ref c5, _, rfl, fun _ h => h, k5, hxd.same (same_upd (W0) np0), _, rfl, .ref c6, .ref c6, _, rfl, fun _ h => h, k6, hxd.same (same_upd (W0) np0), small (by show 3 ≤ 1000; decide), fun q1 gq1 => ?_⟩
  have nq1 := nb (same_upd (W0) np0) gq1
  have sq1 := same_new gq1 (.lst [.bl (decide ((4 : Nat) = j)), .bl (decide ((5 : Nat) = j)), .bl (decide ((6 : Nat) = j))])
  refine ⟨p0, q1, [.bl (decide ((0 : Nat) = j)), .bl (decide ((1 : Nat) = j)), .bl (decide ((2 : Nat) = j)), .bl (decide ((3 : Nat) = j))], [.bl (decide ((4 : Nat) = j)), .bl (decide ((5 : Nat) = j)), .bl (decide ((6 : Nat) = j))], rfl, rfl, sq1 _ _ upd_same, upd_same, small (by show 7 ≤ 1000; decide), fun p1 hp1 => ?_⟩
  have np1 := nb (same_upd (same_upd (W0) np0) nq1) hp1
  refine ⟨_, rfl, .inl ⟨rfl, _, SqL.of upd_same⟩, _, rfl, .ref c7, .ref c7, _, rfl, fun _ h => h, k7, hxd.same (same_upd (same_upd (same_upd (W0) np0) nq1) np1), p1, [.bl (decide ((0 : Nat) = j)), .bl (decide ((1 : Nat) = j)), .bl (decide ((2 : Nat) = j)), .bl (decide ((3 : Nat) = j)), .bl (decide ((4 : Nat) = j)), .bl (decide ((5 : Nat) = j)), .bl (decide ((6 : Nat) = j))], .bl (decide ((7 : Nat) = j)), rfl, rfl, upd_same, Nat.lt_of_lt_of_le (show 7 < 1000 by decide) (small (Nat.le_refl _)), ?_⟩
  refine ⟨_, rfl, _, rfl, .ref c8, .ref c8, _, rfl, fun _ h => h, k8, hxd.same (same_upd (same_upd (same_upd (same_upd (W0) np0) nq1) np1) np1), _, rfl, .ref c9, .ref c9, _, rfl, fun _ h => h, k9, hxd.same (same_upd (same_upd (same_upd (same_upd (W0) np0) nq1) np1) np1), _, rfl, .ref c10, .ref c10, _, rfl, fun _ h => h, k10, hxd.same (same_upd (same_upd (same_upd (same_upd (W0) np0) nq1) np1) np1), small (by show 3 ≤ 1000; decide), fun q2 gq2 => ?_⟩
  have nq2 := nb (same_upd (same_upd (same_upd (same_upd (W0) np0) nq1) np1) np1) gq2
  have sq2 := same_new gq2 (.lst [.bl (decide ((8 : Nat) = j)), .bl (decide ((9 : Nat) = j)), .bl (decide ((10 : Nat) = j))])
  refine ⟨p1, q2, [.bl (decide ((0 : Nat) = j)), .bl (decide ((1 : Nat) = j)), .bl (decide ((2 : Nat) = j)), .bl (decide ((3 : Nat) = j)), .bl (decide ((4 : Nat) = j)), .bl (decide ((5 : Nat) = j)), .bl (decide ((6 : Nat) = j)), .bl (decide ((7 : Nat) = j))], [.bl (decide ((8 : Nat) = j)), .bl (decide ((9 : Nat) = j)), .bl (decide ((10 : Nat) = j))], rfl, rfl, sq2 _ _ upd_same, upd_same, small (by show 11 ≤ 1000; decide), fun p2 hp2 => ?_⟩
  have np2 := nb (same_upd (same_upd (same_upd (same_upd (same_upd (W0) np0) nq1) np1) np1) nq2) hp2
  refine ⟨_, rfl, .inl ⟨rfl, _, SqL.of upd_same⟩, _, rfl, .ref c11, .ref c11, _, rfl, fun _ h => h, k11, hxd.same (same_upd (same_upd (same_upd (same_upd (same_upd (same_upd (W0) np0) nq1) np1) np1) nq2) np2), p2, [.bl (decide ((0 : Nat) = j)), .bl (decide ((1 : Nat) = j)), .bl (decide ((2 : Nat) = j)), .bl (decide ((3 : Nat) = j)), .bl (decide ((4 : Nat) = j)), .bl (decide ((5 : Nat) = j)), .bl (decide ((6 : Nat) = j)), .bl (decide ((7 : Nat) = j)), .bl (decide ((8 : Nat) = j)), .bl (decide ((9 : Nat) = j)), .bl (decide ((10 : Nat) = j))], .bl (decide ((11 : Nat) = j)), rfl, rfl, upd_same, Nat.lt_of_lt_of_le (show 11 < 1000 by decide) (small (Nat.le_refl _)), ?_⟩
  refine ⟨_, rfl, _, rfl, .ref c12, .ref c12, _, rfl, fun _ h => h, k12, hxd.same (same_upd (same_upd (same_upd (same_upd (same_upd (same_upd (same_upd (W0) np0) nq1) np1) np1) nq2) np2) np2), _, rfl, .ref c13, .ref c13, _, rfl, fun _ h => h, k13, hxd.same (same_upd (same_upd (same_upd (same_upd (same_upd (same_upd (same_upd (W0) np0) nq1) np1) np1) nq2) np2) np2), _, rfl, .ref c14, .ref c14, _, rfl, fun _ h => h, k14, hxd.same (same_upd (same_upd (same_upd (same_upd (same_upd (same_upd (same_upd (W0) np0) nq1) np1) np1) nq2) np2) np2), small (by show 3 ≤ 1000; decide), fun q3 gq3 => ?_⟩
  have nq3 := nb (same_upd (same_upd (same_upd (same_upd (same_upd (same_upd (same_upd (W0) np0) nq1) np1) np1) nq2) np2) np2) gq3
  have sq3 := same_new gq3 (.lst [.bl (decide ((12 : Nat) = j)), .bl (decide ((13 : Nat) = j)), .bl (decide ((14 : Nat) = j))])
  refine ⟨p2, q3, [.bl (decide ((0 : Nat) = j)), .bl (decide ((1 : Nat) = j)), .bl (decide ((2 : Nat) = j)), .bl (decide ((3 : Nat) = j)), .bl (decide ((4 : Nat) = j)), .bl (decide ((5 : Nat) = j)), .bl (decide ((6 : Nat) = j)), .bl (decide ((7 : Nat) = j)), .bl (decide ((8 : Nat) = j)), .bl (decide ((9 : Nat) = j)), .bl (decide ((10 : Nat) = j)), .bl (decide ((11 : Nat) = j))], [.bl (decide ((12 : Nat) = j)), .bl (decide ((13 : Nat) = j)), .bl (decide ((14 : Nat) = j))], rfl, rfl, sq3 _ _ upd_same, upd_same, small (by show 15 ≤ 1000; decide), fun p3 hp3 => ?_⟩
  have np3 := nb (same_upd (same_upd (same_upd (same_upd (same_upd (same_upd (same_upd (same_upd (W0) np0) nq1) np1) np1) nq2) np2) np2) nq3) hp3
  refine ⟨_, rfl, .inl ⟨rfl, _, SqL.of upd_same⟩, _, rfl, .ref c15, .ref c15, _, rfl, fun _ h => h, k15, hxd.same (same_upd (same_upd (same_upd (same_upd (same_upd (same_upd (same_upd (same_upd (same_upd (W0) np0) nq1) np1) np1) nq2) np2) np2) nq3) np3), p3, [.bl (decide ((0 : Nat) = j)), .bl (decide ((1 : Nat) = j)), .bl (decide ((2 : Nat) = j)), .bl (decide ((3 : Nat) = j)), .bl (decide ((4 : Nat) = j)), .bl (decide ((5 : Nat) = j)), .bl (decide ((6 : Nat) = j)), .bl (decide ((7 : Nat) = j)), .bl (decide ((8 : Nat) = j)), .bl (decide ((9 : Nat) = j)), .bl (decide ((10 : Nat) = j)), .bl (decide ((11 : Nat) = j)), .bl (decide ((12 : Nat) = j)), .bl (decide ((13 : Nat) = j)), .bl (decide ((14 : Nat) = j))], .bl (decide ((15 : Nat) = j)), rfl, rfl, upd_same, Nat.lt_of_lt_of_le (show 15 < 1000 by decide) (small (Nat.le_refl _)), ?_⟩
  refine ⟨_, rfl, _, rfl, .ref c16, .ref c16, _, rfl, fun _ h => h, k16, hxd.same (same_upd (same_upd (same_upd (same_upd (same_upd (same_upd (same_upd (same_upd (same_upd (same_upd (W0) np0) nq1) np1) np1) nq2) np2) np2) nq3) np3) np3), _, rfl, .ref c17, .ref c17, _, rfl, fun _ h => h, k17, hxd.same (same_upd (same_upd (same_upd (same_upd (same_upd (same_upd (same_upd (same_upd (same_upd (same_upd (W0) np0) nq1) np1) np1) nq2) np2) np2) nq3) np3) np3), _, rfl, .ref c18, .ref c18, _, rfl, fun _ h => h, k18, hxd.same (same_upd (same_upd (same_upd (same_upd (same_upd (same_upd (same_upd (same_upd (same_upd (same_upd (W0) np0) nq1) np1) np1) nq2) np2) np2) nq3) np3) np3), small (by show 3 ≤ 1000; decide), fun q4 gq4 => ?_⟩
  have nq4 := nb (same_upd (same_upd (same_upd (same_upd (same_upd (same_upd (same_upd (same_upd (same_upd (same_upd (W0) np0) nq1) np1) np1) nq2) np2) np2) nq3) np3) np3) gq4
  have sq4 := same_new gq4 (.lst [.bl (decide ((16 : Nat) = j)), .bl (decide ((17 : Nat) = j)), .bl (decide ((18 : Nat) = j))])
  refine ⟨p3, q4, [.bl (decide ((0 : Nat) = j)), .bl (decide ((1 : Nat) = j)), .bl (decide ((2 : Nat) = j)), .bl (decide ((3 : Nat) = j)), .bl (decide ((4 : Nat) = j)), .bl (decide ((5 : Nat) = j)), .bl (decide ((6 : Nat) = j)), .bl (decide ((7 : Nat) = j)), .bl (decide ((8 : Nat) = j)), .bl (decide ((9 : Nat) = j)), .bl (decide ((10 : Nat) = j)), .bl (decide ((11 : Nat) = j)), .bl (decide ((12 : Nat) = j)), .bl (decide ((13 : Nat) = j)), .bl (decide ((14 : Nat) = j)), .bl (decide ((15 : Nat) = j))], [.bl (decide ((16 : Nat) = j)), .bl (decide ((17 : Nat) = j)), .bl (decide ((18 : Nat) = j))], rfl, rfl, sq4 _ _ upd_same, upd_same, small (by show 19 ≤ 1000; decide), fun p4 hp4 => ?_⟩
  have np4 := nb (same_upd (same_upd (same_upd (same_upd (same_upd (same_upd (same_upd (same_upd (same_upd (same_upd (same_upd (W0) np0) nq1) np1) np1) nq2) np2) np2) nq3) np3) np3) nq4) hp4
  exact q p4 _ (same_upd (same_upd (same_upd (same_upd (same_upd (same_upd (same_upd (same_upd (same_upd (same_upd (same_upd (same_upd (W0) np0) nq1) np1) np1) nq2) np2) np2) nq3) np3) np3) nq4) np4) upd_same
/-! _law_word -/
def wordOf (j : Nat) : Str := words19.getD j ""
def RWord (dO : Option Addr) (j : Nat) : Hp → VK → Prop := fun H Q => XdAt dO H ∧ ∀ p H', Same H H' → H' p = some (.tup [.str (wordOf j)]) → Q (.ref p) H'
def RWordT (dO : Option Addr) (n : Nat) : Hp → VK → Prop := fun H Q => ∃ dd, dO = some dd ∧ H dd = some (.xd [("row", .int (n : Nat))]) ∧ ∀ p H', Same H H' → H' p = some (.tup [.str "text", .int (n : Nat)]) → Q (.ref p) H'
abbrev wdN : List Str := ["_law_e", "_law_words", "_law_marks_here", "_law_word_here"]
theorem scLWord : FnScope wdN ["_law_e"] (defScope sWord) := ⟨rfl, rfl, rfl, by decide +kernel, rfl, by decide +kernel, by decide +kernel⟩
set_option maxHeartbeats 1000000 in
theorem ok_lword {k : Nat} {fm : Addr} (F : Fun K "_law_word" "_law_word" sWord f fd) (hbd : ∀ (s : Shared) (u : Value), BindsTo s fd ⟨[u], []⟩ [("_law_e", u)]) (T : Free mg) (hmV : mg "ValueError" = none) (kin : Kin K mg D 2) (mM : mg "_law_marks" = some (.ref fm)) (kM : PySem.W.keepIn K (.ref fm) = true) (okM : HotOk P w K mg base k fm D dO (RMarks dO 2)) : HotOk P w K mg base (k + 1) f D dO (RWord dO 2) := by
  refine hot_of F scLWord rfl hbd fun cdv A outer s H Q a oe hr hz hf q => ?_
  obtain ⟨hxd, q⟩ := q
  have hp : (a, oe) ∈ (L2H.cxH CX0 P w K mg base wdN "_law_word" (defScope sWord) f cdv A outer s H E0 (a, oe)).pn := List.mem_cons_self
  refine ⟨_, pss_cons (ps_set (i := 1) scLWord.nd rfl (.inl rfl) (pe_lst (pa_cons pe_str (pa_cons pe_str (pa_cons pe_str (pa_cons pe_str (pa_cons pe_str (pa_cons pe_str (pa_cons pe_str (pa_cons pe_str (pa_cons pe_str (pa_cons pe_str pa_nil))))))))))))
    (pss_cons (ps_set (i := 1) scLWord.nd rfl (.inl rfl) (pe_op op_cat (pv 1) (pe_lst (pa_cons pe_str (pa_cons pe_str pa_nil)))))
    (pss_cons (ps_set (i := 1) scLWord.nd rfl (.inl rfl) (pe_op op_cat (pv 1) (pe_lst (pa_cons pe_str (pa_cons pe_str (pa_cons pe_str (pa_cons pe_str (pa_cons pe_str (pa_cons pe_str (pa_cons pe_str pa_nil))))))))))
    (pss_cons (ps_set (i := 2) scLWord.nd rfl (.inl rfl) (pe_hot (k := k) hp hz hf okM hr rfl mM kM (pa_cons (pv 0) pa_nil)))
    (pss_cons (ps_if (PW.pt (pw_or (pt_cmpR op_ne (pe_bm PySem.F.plainAttrs_list PySem.F.slot_list_count PySem.F.type_list_count mt_cntB (pv 2) (pa_cons pe_bl pa_nil)) pe_int (nomark _)) (pw_or1 (pt_not (pt_val (pe_callB (call_isX kin.exc hp hz hf) rfl T.isi (by decide +kernel) (pa_cons (pv 0) (pa_cons (pe_bltn (v := .ty "ValueError") rfl hmV (by decide +kernel) rfl) pa_nil)))))))) (pss_one (ps_ret (pe_tup (pa_cons pe_str pa_nil)))) pss_nil)
    (pss_cons (ps_set (i := 3) scLWord.nd rfl (.inl rfl) (pe_ix ix_list (pv 1) (pe_bm PySem.F.plainAttrs_list PySem.F.slot_list_index PySem.F.type_list_index mt_index (pv 2) (pa_cons pe_bl pa_nil)) (fun _ _ => rfl)))
    (pss_cons (ps_if (pt_cmpR op_eq (pv 3) pe_str (nomark _)) pss_never pss_nil)
    (pss_one (ps_ret (pe_ifExp (pt_cmpR op_eq (pv 3) pe_str (nomark _)) pe_nev (pe_tup (pa_cons (pv 3) pa_nil))))))))))), ?_⟩
  have W0 := Same.refl H
  refine ⟨small (by show 10 ≤ 1000; decide), fun p1 h1 => ?_⟩
  have np1 := nb (W0) h1
  refine ⟨_, rfl, small (by show 2 ≤ 1000; decide), fun q2 gq2 => ?_⟩
  have nq2 := nb (same_upd (W0) np1) gq2
  have sq2 := same_new gq2 (.lst [.str "code", .str "row"])
  refine ⟨p1, q2, [.str "chart", .str "points", .str "graph", .str "place", .str "net", .str "actor", .str "weaving", .str "name", .str "channel", .str "most"], [.str "code", .str "row"], rfl, rfl, sq2 _ _ upd_same, upd_same, small (by show 12 ≤ 1000; decide), fun p2 hp2 => ?_⟩
  have np2 := nb (same_upd (same_upd (W0) np1) nq2) hp2
  refine ⟨_, rfl, small (by show 7 ≤ 1000; decide), fun q3 gq3 => ?_⟩
  have nq3 := nb (same_upd (same_upd (same_upd (W0) np1) nq2) np2) gq3
  have sq3 := same_new gq3 (.lst [.str "address", .str "deed", .str "full", .str "still", .str "line", .str "text", .str "unsafe"])
  refine ⟨p2, q3, [.str "chart", .str "points", .str "graph", .str "place", .str "net", .str "actor", .str "weaving", .str "name", .str "channel", .str "most", .str "code", .str "row"], [.str "address", .str "deed", .str "full", .str "still", .str "line", .str "text", .str "unsafe"], rfl, rfl, sq3 _ _ upd_same, upd_same, small (by show 19 ≤ 1000; decide), fun p3 hp3 => ?_⟩
  have np3 := nb (same_upd (same_upd (same_upd (same_upd (W0) np1) nq2) np2) nq3) hp3
  refine ⟨_, rfl, rfl, hxd.same (same_upd (same_upd (same_upd (same_upd (same_upd (W0) np1) nq2) np2) nq3) np3), fun pm Hm sm hm => ?_⟩
  have SA := (same_upd (same_upd (same_upd (same_upd (same_upd (W0) np1) nq2) np2) nq3) np3).trans sm
  have hW := sm _ _ (upd_same (a := p3) (o := .lst ([.str "chart", .str "points", .str "graph", .str "place", .str "net", .str "actor", .str "weaving", .str "name", .str "channel", .str "most", .str "code", .str "row"] ++ [.str "address", .str "deed", .str "full", .str "still", .str "line", .str "text", .str "unsafe"])))
  refine ⟨_, rfl, .inl ⟨rfl, _, SqL.of hm⟩, pm, [decide ((0 : Nat) = 2), decide ((1 : Nat) = 2), decide ((2 : Nat) = 2), decide ((3 : Nat) = 2), decide ((4 : Nat) = 2), decide ((5 : Nat) = 2), decide ((6 : Nat) = 2), decide ((7 : Nat) = 2), decide ((8 : Nat) = 2), decide ((9 : Nat) = 2), decide ((10 : Nat) = 2), decide ((11 : Nat) = 2), decide ((12 : Nat) = 2), decide ((13 : Nat) = 2), decide ((14 : Nat) = 2), decide ((15 : Nat) = 2), decide ((16 : Nat) = 2), decide ((17 : Nat) = 2), decide ((18 : Nat) = 2)], rfl, rfl, SqL.of hm, rfl, _, rfl, ?_⟩
  have cnt : List.count true [decide ((0 : Nat) = 2), decide ((1 : Nat) = 2), decide ((2 : Nat) = 2), decide ((3 : Nat) = 2), decide ((4 : Nat) = 2), decide ((5 : Nat) = 2), decide ((6 : Nat) = 2), decide ((7 : Nat) = 2), decide ((8 : Nat) = 2), decide ((9 : Nat) = 2), decide ((10 : Nat) = 2), decide ((11 : Nat) = 2), decide ((12 : Nat) = 2), decide ((13 : Nat) = 2), decide ((14 : Nat) = 2), decide ((15 : Nat) = 2), decide ((16 : Nat) = 2), decide ((17 : Nat) = 2), decide ((18 : Nat) = 2)] = 1 := by decide
  rw [cnt]
  refine ifF rfl ⟨_, rfl, .ty "ValueError", .type "ValueError", _, rfl, fun _ h => h, kin.ve, hxd.same SA, _, rfl, ifF rfl ?_⟩
  have f3 : ∀ (m : Nat) (z : V), m < 2 → (bl19 2)[m]? = some z → eqV z (.bl true) = false := fun m z hm e => by
    rw [bl19_rg, List.getElem?_map, List.getElem?_range (by omega)] at e
    cases e
    show eqV (V.bl (decide (m = 2))) (.bl true) = false
    rw [decide_eq_false (by omega)]
    rfl
  refine ⟨_, rfl, _, rfl, .inl ⟨rfl, _, SqL.of hm⟩, pm, bl19 2, .bl true, 2, .bl true, rfl, rfl, SqL.of hm, rfl, rfl, rfl, rfl, f3, ?_⟩
  refine ⟨p3, _, 2, .str "graph", rfl, rfl, SqL.of hW, atI_nat (j := 2) rfl, ?_⟩
  refine ⟨_, rfl, rfl, _, rfl, ifF (by decide +kernel) ⟨_, rfl, rfl, _, rfl, ifF (by decide +kernel) ⟨_, rfl, small (by show 1 ≤ 1000; decide), fun p9 h9 => q p9 _ (same_upd SA (nb SA h9)) upd_same⟩⟩⟩
set_option maxHeartbeats 1000000 in
theorem ok_wordT {k n : Nat} {fm : Addr} (F : Fun K "_law_word" "_law_word" sWord f fd) (hbd : ∀ (s : Shared) (u : Value), BindsTo s fd ⟨[u], []⟩ [("_law_e", u)]) (T : Free mg) (hmV : mg "ValueError" = none) (kin : Kin K mg D 17) (hX : XfC K D) (hrow : PySem.W.findIn K (.ref D) "row" = some none) (mM : mg "_law_marks" = some (.ref fm)) (kM : PySem.W.keepIn K (.ref fm) = true) (okM : HotOk P w K mg base k fm D dO (RMarks dO 17)) : HotOk P w K mg base (k + 1) f D dO (RWordT dO n) := by
  refine hot_of F scLWord rfl hbd fun cdv A outer s H Q a oe hr hz hf q => ?_
  obtain ⟨dd, rfl, hdd, q⟩ := q
  have hxd : XdAt (some dd) H := .inr ⟨dd, _, rfl, hdd⟩
  have hp : (a, oe) ∈ (L2H.cxH CX0 P w K mg base wdN "_law_word" (defScope sWord) f cdv A outer s H E0 (a, oe)).pn := List.mem_cons_self
  refine ⟨_, pss_cons (ps_set (i := 1) scLWord.nd rfl (.inl rfl) (pe_lst (pa_cons pe_str (pa_cons pe_str (pa_cons pe_str (pa_cons pe_str (pa_cons pe_str (pa_cons pe_str (pa_cons pe_str (pa_cons pe_str (pa_cons pe_str (pa_cons pe_str pa_nil))))))))))))
    (pss_cons (ps_set (i := 1) scLWord.nd rfl (.inl rfl) (pe_op op_cat (pv 1) (pe_lst (pa_cons pe_str (pa_cons pe_str pa_nil)))))
    (pss_cons (ps_set (i := 1) scLWord.nd rfl (.inl rfl) (pe_op op_cat (pv 1) (pe_lst (pa_cons pe_str (pa_cons pe_str (pa_cons pe_str (pa_cons pe_str (pa_cons pe_str (pa_cons pe_str (pa_cons pe_str pa_nil))))))))))
    (pss_cons (ps_set (i := 2) scLWord.nd rfl (.inl rfl) (pe_hot (k := k) hp hz hf okM hr rfl mM kM (pa_cons (pv 0) pa_nil)))
    (pss_cons (ps_if (PW.pt (pw_or (pt_cmpR op_ne (pe_bm PySem.F.plainAttrs_list PySem.F.slot_list_count PySem.F.type_list_count mt_cntB (pv 2) (pa_cons pe_bl pa_nil)) pe_int (nomark _)) (pw_or1 (pt_not (pt_val (pe_callB (call_isX kin.exc hp hz hf) rfl T.isi (by decide +kernel) (pa_cons (pv 0) (pa_cons (pe_bltn (v := .ty "ValueError") rfl hmV (by decide +kernel) rfl) pa_nil)))))))) (pss_one (ps_ret (pe_tup (pa_cons pe_str pa_nil)))) pss_nil)
    (pss_cons (ps_set (i := 3) scLWord.nd rfl (.inl rfl) (pe_ix ix_list (pv 1) (pe_bm PySem.F.plainAttrs_list PySem.F.slot_list_index PySem.F.type_list_index mt_index (pv 2) (pa_cons pe_bl pa_nil)) (fun _ _ => rfl)))
    (pss_cons (ps_if (pt_cmpR op_eq (pv 3) pe_str (nomark _)) pss_never pss_nil)
    (pss_one (ps_ret (pe_ifExp (pt_cmpR op_eq (pv 3) pe_str (nomark _)) (pe_tup (pa_cons (pv 3) (pa_cons (pe_xfP hX hp hrow hz hf (pv 0)) pa_nil))) pe_nev))))))))), ?_⟩
  have W0 := Same.refl H
  refine ⟨small (by show 10 ≤ 1000; decide), fun p1 h1 => ?_⟩
  have np1 := nb (W0) h1
  refine ⟨_, rfl, small (by show 2 ≤ 1000; decide), fun q2 gq2 => ?_⟩
  have nq2 := nb (same_upd (W0) np1) gq2
  have sq2 := same_new gq2 (.lst [.str "code", .str "row"])
  refine ⟨p1, q2, [.str "chart", .str "points", .str "graph", .str "place", .str "net", .str "actor", .str "weaving", .str "name", .str "channel", .str "most"], [.str "code", .str "row"], rfl, rfl, sq2 _ _ upd_same, upd_same, small (by show 12 ≤ 1000; decide), fun p2 hp2 => ?_⟩
  have np2 := nb (same_upd (same_upd (W0) np1) nq2) hp2
  refine ⟨_, rfl, small (by show 7 ≤ 1000; decide), fun q3 gq3 => ?_⟩
  have nq3 := nb (same_upd (same_upd (same_upd (W0) np1) nq2) np2) gq3
  have sq3 := same_new gq3 (.lst [.str "address", .str "deed", .str "full", .str "still", .str "line", .str "text", .str "unsafe"])
  refine ⟨p2, q3, [.str "chart", .str "points", .str "graph", .str "place", .str "net", .str "actor", .str "weaving", .str "name", .str "channel", .str "most", .str "code", .str "row"], [.str "address", .str "deed", .str "full", .str "still", .str "line", .str "text", .str "unsafe"], rfl, rfl, sq3 _ _ upd_same, upd_same, small (by show 19 ≤ 1000; decide), fun p3 hp3 => ?_⟩
  have np3 := nb (same_upd (same_upd (same_upd (same_upd (W0) np1) nq2) np2) nq3) hp3
  refine ⟨_, rfl, rfl, hxd.same (same_upd (same_upd (same_upd (same_upd (same_upd (W0) np1) nq2) np2) nq3) np3), fun pm Hm sm hm => ?_⟩
  have SA := (same_upd (same_upd (same_upd (same_upd (same_upd (W0) np1) nq2) np2) nq3) np3).trans sm
  have hW := sm _ _ (upd_same (a := p3) (o := .lst ([.str "chart", .str "points", .str "graph", .str "place", .str "net", .str "actor", .str "weaving", .str "name", .str "channel", .str "most", .str "code", .str "row"] ++ [.str "address", .str "deed", .str "full", .str "still", .str "line", .str "text", .str "unsafe"])))
  refine ⟨_, rfl, .inl ⟨rfl, _, SqL.of hm⟩, pm, [decide ((0 : Nat) = 17), decide ((1 : Nat) = 17), decide ((2 : Nat) = 17), decide ((3 : Nat) = 17), decide ((4 : Nat) = 17), decide ((5 : Nat) = 17), decide ((6 : Nat) = 17), decide ((7 : Nat) = 17), decide ((8 : Nat) = 17), decide ((9 : Nat) = 17), decide ((10 : Nat) = 17), decide ((11 : Nat) = 17), decide ((12 : Nat) = 17), decide ((13 : Nat) = 17), decide ((14 : Nat) = 17), decide ((15 : Nat) = 17), decide ((16 : Nat) = 17), decide ((17 : Nat) = 17), decide ((18 : Nat) = 17)], rfl, rfl, SqL.of hm, rfl, _, rfl, ?_⟩
  have cnt : List.count true [decide ((0 : Nat) = 17), decide ((1 : Nat) = 17), decide ((2 : Nat) = 17), decide ((3 : Nat) = 17), decide ((4 : Nat) = 17), decide ((5 : Nat) = 17), decide ((6 : Nat) = 17), decide ((7 : Nat) = 17), decide ((8 : Nat) = 17), decide ((9 : Nat) = 17), decide ((10 : Nat) = 17), decide ((11 : Nat) = 17), decide ((12 : Nat) = 17), decide ((13 : Nat) = 17), decide ((14 : Nat) = 17), decide ((15 : Nat) = 17), decide ((16 : Nat) = 17), decide ((17 : Nat) = 17), decide ((18 : Nat) = 17)] = 1 := by decide
  rw [cnt]
  refine ifF rfl ⟨_, rfl, .ty "ValueError", .type "ValueError", _, rfl, fun _ h => h, kin.ve, hxd.same SA, _, rfl, ifF rfl ?_⟩
  have f3 : ∀ (m : Nat) (z : V), m < 17 → (bl19 17)[m]? = some z → eqV z (.bl true) = false := fun m z hm e => by
    rw [bl19_rg, List.getElem?_map, List.getElem?_range (by omega)] at e
    cases e
    show eqV (V.bl (decide (m = 17))) (.bl true) = false
    rw [decide_eq_false (by omega)]
    rfl
  refine ⟨_, rfl, _, rfl, .inl ⟨rfl, _, SqL.of hm⟩, pm, bl19 17, .bl true, 17, .bl true, rfl, rfl, SqL.of hm, rfl, rfl, rfl, rfl, f3, ?_⟩
  refine ⟨p3, _, 17, .str "text", rfl, rfl, SqL.of hW, atI_nat (j := 17) rfl, ?_⟩
  refine ⟨_, rfl, rfl, _, rfl, ifF (by decide +kernel) ⟨_, rfl, rfl, _, rfl, ifT (by decide +kernel) ⟨_, rfl, _, rfl, rfl, rfl, dd, _, _, rfl, SA _ _ hdd, rfl, small (by show 2 ≤ 1000; decide), fun p9 h9 => q p9 _ (same_upd SA (nb SA h9)) upd_same⟩⟩⟩
end
/-! lambdas that stand in a list -/
section
open PySem.Spec PyProof.Rows LamX
/-- a lambda, kept -/
def LamO (q : Str) (params : Arguments) (body : Expr) (scope : Scope) (cl : List (Str × Addr)) (f c' : Addr) : HO := .ext fun h => ∃ pm ctv : Value, h.get? f = some (PySem.W.kla_obj "<lambda>" q params body scope cl pm c' ctv)
theorem lamO_ok {P : Program} {w : World} {H : Hp} {h : Heap} {q : Str} {params : Arguments} {body : Expr} {scope : Scope} {cl : List (Str × Addr)} {f c' : Addr} {pm ctv : Value} (e : h.get? f = some (PySem.W.kla_obj "<lambda>" q params body scope cl pm c' ctv)) : ObjOk P w H h f (LamO q params body scope cl f c') :=
  ⟨⟨pm, ctv, e⟩, ⟨_, e⟩, fun _ _ ⟨pm, ctv, z⟩ st => ⟨pm, ctv, st _ z⟩⟩
theorem lamO_tbl {q : Str} {params : Arguments} {body : Expr} {scope : Scope} {cl : List (Str × Addr)} {f c' : Addr} (ps : Array Value) : LamO q params body scope cl f c' ≠ .tbl ps := fun z => by
  unfold LamO at z
  cases z
def tMk (T : List (Addr × Str)) (Pt : Addr) (q : Str) (mk : Addr → Addr → HO) : TE := fun _ H Q => Tabs T H ∧ ∀ (f c' : Addr) (H1 : Hp), ExtN H H1 → Tabs T H1 → (∀ b ps, b ≠ Pt → H b = some (.tbl ps) → H1 b = some (.tbl ps)) → H1 f = none → H1 c' = some (CodeO c' q) → Q (.ref f) (upd H1 f (mk f c'))
/-- the tables, one of them grown by a new code object -/
theorem tabs_more {T : List (Addr × Str)} {H : Hp} {Pt c' : Addr} {q : Str} {ps : Array Value} {pos : Pos} (hT : Tabs T H) (hm : (Pt, q) ∈ T) (hu : ∀ p ∈ T, p.1 = Pt → p.2 = q) (hP : H Pt = some (.tbl ps)) (ht : TriplesOk ps.toList) (nC : H c' = none) :
    ExtN H (upd (upd H Pt (.tbl (ps ++ #[rawInt pos.line, rawInt pos.col, .ref c']))) c' (CodeO c' q)) ∧ Tabs T (upd (upd H Pt (.tbl (ps ++ #[rawInt pos.line, rawInt pos.col, .ref c']))) c' (CodeO c' q)) := by
  have ext : ExtN H (upd (upd H Pt (.tbl (ps ++ #[rawInt pos.line, rawInt pos.col, .ref c']))) c' (CodeO c' q)) := by
    intro b o hb no
    have n1 : b ≠ c' := ne_of_none hb nC
    have n2 : b ≠ Pt := by
      rintro rfl
      rw [hP] at hb
      exact no ps (Option.some.inj hb).symm
    rw [upd_ne n1, upd_ne n2]
    exact hb
  refine ⟨ext, ?_⟩
  rintro ⟨P1, q1⟩ hp
  obtain ⟨qs, g1, g2, g3⟩ := hT _ hp
  have n1 : P1 ≠ c' := ne_of_none g1 nC
  by_cases e : P1 = Pt
  · have eq : q1 = q := hu _ hp e
    subst e eq
    have eqs : qs = ps := by
      have := g1.symm.trans hP
      cases this
      rfl
    subst eqs
    have el : (qs ++ #[rawInt pos.line, rawInt pos.col, .ref c']).toList = qs.toList ++ [rawInt pos.line, rawInt pos.col, .ref c'] := by simp
    refine ⟨_, by rw [upd_ne n1, upd_same], by rw [el]; exact PySem.TriplesOk_snoc _ _ _ _ ht, fun p2 cv hcv => ?_⟩
    rw [el] at hcv
    rcases among_app _ ht hcv with z | rfl
    · obtain ⟨c0, z1, z2⟩ := g3 p2 cv z
      exact ⟨c0, z1, ext _ _ z2 codeO_ne⟩
    · exact ⟨c', rfl, upd_same⟩
  · refine ⟨qs, by rw [upd_ne n1, upd_ne e]; exact g1, g2, fun p2 cv hcv => ?_⟩
    obtain ⟨c0, z1, z2⟩ := g3 p2 cv hcv
    exact ⟨c0, z1, ext _ _ z2 codeO_ne⟩
/-- lambda: body, as a value -/
theorem pe_lamV {X : Cx} {T : List (Addr × Str)} {c Pt : Addr} {params : Arguments} {body : Expr} {scope : Scope} {pos : Pos} (TB : TabB X.base X.mg c Pt) (hcode : X.env.code = .ref c) (hm : (Pt, X.env.qual ++ "<lambda>") ∈ T) (hu : ∀ p ∈ T, p.1 = Pt → p.2 = X.env.qual ++ "<lambda>")
    (L : LamS X.env.scope scope) (hdef : defaultsOf params X.env = ([], [])) :
    PE X (.Lambda params body scope pos) (tMk T Pt (X.env.qual ++ "<lambda>") fun f c' => LamO (X.env.qual ++ "<lambda>") params body scope (cloFrom X.env.cells scope.names []) f c') := by
  refine ⟨fun pins s σ H Q I h => ?_⟩
  obtain ⟨hT, k⟩ := h
  obtain ⟨ps, hP, ht, ha⟩ := hT _ hm
  have clo := closure_ok (L.has I.ok)
  have glb := I.mod.glob.keeps I.bk
  have cdh := TB.code.keeps I.bk
  have blt := TB.bm.keeps I.bk
  refine PySem.W.kla_eval hdef ?_
  cases hc : codeAmong pos ps.toList with
  | some cv =>
    obtain ⟨c', rfl, hco⟩ := ha pos cv hc
    refine PySem.W.kla_makeFunctionHit (mg := X.mg) (c := c) (P := Pt) (ps := ps) clo I.ok.glob glb hcode cdh (I.hok Pt _ hP) ht hc blt fun ctv h' tk hx hsz => ?_
    exact ⟨.ref _, _, I.laid (t' := tk) (fun b o e => Heap.get?_push_of_some _ (hx b o e)) hsz (lamO_ok (Heap.get?_push_size _ rfl)), rfl, k _ c' H (ExtN.refl H) hT (fun b ps _ e => e) (I.hok.fresh hsz) hco⟩
  | none =>
    refine PySem.W.kla_makeFunction (mg := X.mg) (c := c) (P := Pt) (ps := ps) clo I.ok.glob glb hcode cdh (I.hok Pt _ hP) ht hc TB.gP blt fun c' ctv h' tk hx hge hlt hrec htb => ?_
    obtain ⟨c2, oc, vs, t, e2, hoc, hd, hv⟩ := hrec
    cases e2
    have I1 := inv_table (t' := tk) (more := #[rawInt pos.line, rawInt pos.col, .ref c']) (q := X.env.qual ++ "<lambda>") I hP (fun b o hb e => hx b o hb e) htb hge ⟨oc, vs, t, hoc, hd, hv⟩
    obtain ⟨ext, tbs⟩ := tabs_more (pos := pos) hT hm hu hP ht (I.hok.fresh hge)
    exact ⟨.ref _, _, I1.laid (t' := tk) (fun b o e => Heap.get?_push_of_some _ e) (Nat.le_refl _) (lamO_ok (Heap.get?_push_size _ rfl)), rfl, k _ c' _ ext tbs (fun b qs hb e => by rw [upd_ne (ne_of_none e (I.hok.fresh hge)), upd_ne hb]; exact e) (I1.hok.fresh (Nat.le_refl _)) upd_same⟩
/-- what is known of a kept lambda: its reading t -/
def LamHas (X : Cx) (k : Nat) (H : Hp) (f c' : Addr) (t : XK → TE) : Prop := ∃ (params : Arguments) (body : Expr) (scope : Scope), H f = some (LamO (X.env.qual ++ "<lambda>") params body scope (cloFrom X.env.cells scope.names []) f c') ∧ H c' = some (CodeO c' (X.env.qual ++ "<lambda>")) ∧ LamS X.env.scope scope ∧
  (∀ (q : Str) (cl : List (Str × Addr)) (pm cv ctv : Value), bindArgs (PySem.W.kla_fn "<lambda>" q params body scope cl pm cv ctv) ⟨[], []⟩ = pure []) ∧
  ∀ (A : Around) (outer : List Env) (s : Shared) (H : Hp) (E : XK) (f c' : Addr), Room k (A.deeper (lamEnv X scope s.heap.objs.size f c')) → PE (lamCx X A outer s H E scope f c') body (t E)
theorem LamHas.ext {X : Cx} {k : Nat} {H H' : Hp} {f c' : Addr} {t : XK → TE} (h : LamHas X k H f c' t) (e : ExtN H H') : LamHas X k H' f c' t := by
  obtain ⟨pa, bo, sc, h1, h2, r⟩ := h
  exact ⟨pa, bo, sc, e _ _ h1 lamO_tbl, e _ _ h2 codeO_ne, r⟩
/-- a kept lambda is called by the def that got it -/
theorem pe_actV {X : Cx} {pins : List (Addr × Obj)} {σ : L2.St} {H : Hp} {s : Shared} {CXg : CXT} {Eg : XK} {Ng : List Str} {qg : Str} {sg : Scope} {g f c' : Addr} {cdg : Value} {k i : Nat} {a : Str} {pn : List (Addr × Obj)} {xe : Value → Shared → Prop} {W : WX} {E : XK} {t : XK → TE} {p1 p2 : Pos}
    (I : Inv X pins σ H s) (tk : Takes ((cxOf CXg X.prog X.w X.K X.mg X.base Ng qg sg g cdg X.A X.stack s H Eg).tr pn xe) W) (hW : ∀ cls d σ' H', E cls d H' → W cls d σ' H') (hr : Room (k + 1) (X.A.deeper (envOfC qg sg s.heap.objs.size g cdg)))
    (hN : Ng[i]? = some a) (hv : Vis sg a) (hd : (a == ("__debug__" : Str)) = false := by decide) (hcd : (a == ("__classdict__" : Str)) = false := by decide) :
    PE ((cxOf CXg X.prog X.w X.K X.mg X.base Ng qg sg g cdg X.A X.stack s H Eg).tr pn xe) (.Call (.Name a p1) [] [] p2)
      (fun σZ HZ Q => σZ[i]? = some (some (.ref f)) ∧ LamHas X k HZ f c' t ∧ t E σ HZ Q) := by
  refine ⟨fun pinsZ sZ σZ HZ Q IZ h => ?_⟩
  obtain ⟨hs, ⟨params, body, scope, hf, hc, L, hbind, hbody⟩, ht⟩ := h
  refine wpAny_Call_Name_kw (thn ((pe_var (pos := p1) (i := i) hN hv hd hcd).run pinsZ sZ σZ HZ (fun v H1 => v = .ref f ∧ H1 = HZ) IZ ⟨.ref f, hs, rfl, rfl⟩) fun u s1 out => ?_)
  obtain ⟨v, H1, I1, r1, rfl, rfl⟩ := out
  cases r1
  obtain ⟨⟨pm, ctv, of1⟩, _, _⟩ := I1.hok f _ hf
  obtain ⟨⟨oc, vs, tq, hoc, hdc, hvc⟩, _, _⟩ := I1.hok c' _ hc
  refine PySem.W.callWith_F0 ⟨_, _, _, _, of1⟩ ?_
  have run : codeAny (model X.prog X.w) (X.A.deeper (envOfC qg sg s.heap.objs.size g cdg)) (.call (.ref f) ⟨[], []⟩) (CR (L2.CX X.prog X.w) (envOfC qg sg s.heap.objs.size g cdg :: X.stack) X.prog X.w H1 s1 Q E) s1 := by
    refine PySem.W.kla_callFunE hr.depth of1 rfl L.co L.gen rfl ⟨c', oc, vs, tq, rfl, hoc, hdc, hvc⟩ ?_
    rw [hbind]
    refine wpAny_pure (wpAny_newFunctionEnv (fun y hy => (L.own y hy).2) (fun y hy => absurd hy (by simp)) (fun h₁ hns hsb => ⟨I1.nolimit.fresh _ hsb, ?_⟩) L.kind)
    have kp : ∀ b o, s1.heap.get? b = some o → h₁.get? b = some o := fun b o e => hsb.extBut b o (Nat.ne_of_lt (Heap.lt_size e)) (Heap.get?_push_of_some _ e)
    have J := lam_start2 (E := E) (f := f) (c' := c') (tk := s1.toks + ([] : List (Str × Value)).length) I L I1.env0 hr.hd I1.base hns kp
    refine PySem.W.kla_codeExpr (wpAny_mono ((hbody _ _ s1 H1 E f c' (hr.deeper _)).run [] _ _ H1 Q J ht) (fun v s' out => ?_) fun e s' out => out)
    obtain ⟨w', H', J', rv, q⟩ := out
    exact ⟨w', H', J'.os, J'.bare, J'.base, J'.hok, rv, q⟩
  refine wpAny_call (codeAny_mono run fun r s' hq => ?_)
  match r, hq with
  | .error e, hq => exact passes_call tk hW pinsZ σZ H1 s1 e s' I1 hq
  | .ok (.ret u), hq => exact I1.after hq
  | .ok .next, hq => exact hq.elim
  | .ok .brk, hq => exact hq.elim
  | .ok .cont, hq => exact hq.elim
/-- x(e), where e is a kept lambda -/
def tLamV (X : Cx) (k : Nat) (TT : (XK → Hp → VK → Prop) → Hp → VK → Prop) (te : TE) : TE := fun σ H Q => te σ H fun v H1 => ∃ (f c' : Addr) (t : XK → TE), [v] = [.ref f] ∧ LamHas X k H1 f c' t ∧ TT (fun E H' Q' => LamHas X k H' f c' t ∧ t E σ H' Q') H1 Q
theorem pe_lamVcall {X : Cx} {TT : (XK → Hp → VK → Prop) → Hp → VK → Prop} {x a : Str} {g : Addr} {k : Nat} {pg : Arguments} {bg : List Stmt} {sg : Scope} {dV kV doc pm cdv ct oc : Value} {an od : Option Addr} {osl : Array (Option Value)} {Ng : List Str} {e : Expr} {te : TE} {p pos : Pos} (hg : Gl X x) (hm : X.mg x = some (.ref g)) (hk : PySem.W.keepIn X.K (.ref g) = true)
    (lk : X.K.lookup g = some ⟨oc, od, .func (PySem.W.fnOf x x pg bg sg dV kV doc pm an cdv ct), osl⟩) (hcg : PySem.W.codeIn X.K cdv x = true) (hb : L2.Binds X.K (PySem.W.fnOf x x pg bg sg dV kV doc pm an cdv ct) [a] []) (Sg : FnScope Ng [a] sg) (hNg : Ng[0]? = some a) (hva : Vis sg a)
    (hG : GivesTo X Ng x sg g cdv bg a (X.env.qual ++ "<lambda>") TT) (hr : Room (k + 2) X.A) (he : PE X e te) (hst : starEach [e] X.env = (false, eval e X.env) :: starEach [] X.env := by rfl) (hfin : ((backTo pos (starEach [] X.env)).any fun x => x.fst) = false := by rfl)
    (hdb : (x == ("__debug__" : Str)) = false := by decide) (hd : (a == ("__debug__" : Str)) = false := by decide) (hcd : (a == ("__classdict__" : Str)) = false := by decide) :
    PE X (.Call (.Name x p) [e] [] pos) (tLamV X k TT te) := by
  refine ⟨fun pins s σ H Q I h => ?_⟩
  refine wpAny_Call_Name_kw (ld_glob I hg hm ?_ hdb)
  refine PySem.W.callWith_K (h₀ := X.base) I.ok.mod.kin hk (thn ((pa_cons he pa_nil hst).run pos pins s σ H (fun vs H1 => ∃ (f c' : Addr) (t : XK → TE), vs = [.ref f] ∧ LamHas X k H1 f c' t ∧ TT (fun E H' Q' => LamHas X k H' f c' t ∧ t E σ H' Q') H1 Q) I h) fun us s1 out => ?_) hst hfin
  obtain ⟨vs, H1, I1, rv, f, c', t, rfl, lam, tt⟩ := out
  obtain ⟨u, rfl, ru⟩ := vals1 rv
  cases ru
  refine ⟨I1.kIn, ?_⟩
  have hco : H1 c' = some (CodeO c' (X.env.qual ++ "<lambda>")) := by
    obtain ⟨_, _, _, _, h2, _⟩ := lam
    exact h2
  have run : codeAny (model X.prog X.w) X.A (.call (.ref g) ⟨[.ref f], []⟩) (CR C8.CX0 X.stack X.prog X.w H1 s1 Q C8.E0) s1 := by
    refine run_ofS (N := Ng) (ps := [a]) (us := [.ref f]) (vs := [.ref f]) lk hcg Sg hr I1.env0 (hb s1 [.ref f] I1.kIn rfl) (.cons rfl .nil) rfl fun hr2 => ?_
    obtain ⟨t2, ht2, hq2⟩ := hG f c' s1 H1 Q (fun E H' Q' => LamHas X k H' f c' t ∧ t E σ H' Q') (fun W pn xe E p1 p2 tk hW => ⟨fun pins s σZ HZ Q IZ z => (pe_actV (E := E) (c' := c') (f := f) (t := t) (k := k) (p1 := p1) (p2 := p2) I1 tk hW hr2 hNg hva hd hcd).run pins s σZ HZ Q IZ ⟨z.1, z.2.2.1, z.2.2.2⟩⟩) hco tt
    exact ⟨t2, ht2.nox, hq2⟩
  refine wpAny_call (codeAny_mono run fun r s2 hq => ?_)
  match r, hq with
  | .error e, hq => exact (show False from hq).elim
  | .ok (.ret u), hq => exact I1.after hq
  | .ok .next, hq => exact (show False from hq).elim
  | .ok .brk, hq => exact (show False from hq).elim
  | .ok .cont, hq => exact (show False from hq).elim
/-- lambda: body, as a value whose reading is told -/
def tMkH (X : Cx) (k : Nat) (T : List (Addr × Str)) (Pt : Addr) (t : XK → TE) : TE := fun _ H Q => Tabs T H ∧ ∀ (f c' : Addr) (H1 : Hp) (O : HO), ExtN H H1 → Tabs T H1 → (∀ b ps, b ≠ Pt → H b = some (.tbl ps) → H1 b = some (.tbl ps)) → H1 f = none → LamHas X k (upd H1 f O) f c' t → Q (.ref f) (upd H1 f O)
theorem pe_lamH {X : Cx} {T : List (Addr × Str)} {c Pt : Addr} {k : Nat} {params : Arguments} {body : Expr} {scope : Scope} {pos : Pos} {t : XK → TE} (TB : TabB X.base X.mg c Pt) (hcode : X.env.code = .ref c) (hm : (Pt, X.env.qual ++ "<lambda>") ∈ T) (hu : ∀ p ∈ T, p.1 = Pt → p.2 = X.env.qual ++ "<lambda>")
    (L : LamS X.env.scope scope) (hdef : defaultsOf params X.env = ([], [])) (hbind : ∀ (q : Str) (cl : List (Str × Addr)) (pm cv ctv : Value), bindArgs (PySem.W.kla_fn "<lambda>" q params body scope cl pm cv ctv) ⟨[], []⟩ = pure [])
    (hbody : ∀ (A : Around) (outer : List Env) (s : Shared) (H : Hp) (E : XK) (f c' : Addr), Room k (A.deeper (lamEnv X scope s.heap.objs.size f c')) → PE (lamCx X A outer s H E scope f c') body (t E)) : PE X (.Lambda params body scope pos) (tMkH X k T Pt t) :=
  ⟨fun pins s σ H Q I h => (pe_lamV TB hcode hm hu L hdef).run pins s σ H Q I ⟨h.1, fun f c' H1 e t1 ot hf hc => h.2 f c' H1 _ e t1 ot hf ⟨_, _, _, upd_same, by rw [upd_ne (ne_of_none hc hf)]; exact hc, L, hbind, hbody⟩⟩⟩
end
/-! what is said: the answer, or the word of the refusal -/
section
open PySem.Spec PyProof.Rows LamX
theorem scSaid : FnScope ["_law_call", "_law_e"] ["_law_call"] (defScope sSaid) := ⟨rfl, rfl, rfl, by decide +kernel, rfl, by decide +kernel, by decide +kernel⟩
/-- the two errors that come here -/
def Ech (CG CP : Addr) (Q : VK) : XK := fun cls d H => (cls = .ref CG ∧ d = none ∧ RWord none 2 H Q) ∨ (cls = .ref CP ∧ RWordT d 0 H Q)
def TTsaid (CG CP : Addr) : (XK → Hp → VK → Prop) → Hp → VK → Prop := fun tl H Q => tl (Ech CG CP Q) H fun v H1 => [v].length ≤ sizeLine ∧ ∀ p, H1 p = none → Q (.ref p) (upd H1 p (.lst [v]))
structure SaidAt (P : Program) (w : World) (K : PySem.W.Frag) (mg : Str → Option Value) (base : Heap) (CS CG CP fw : Addr) (k : Nat) : Prop where
  give : mg "GiveError" = some (.ref CS)
  word : mg "_law_word" = some (.ref fw)
  keep : PySem.W.keepIn K (.ref fw) = true
  graph : HotOk P w K mg base k fw CG none (RWord none 2)
  place : ∀ d, HotOk P w K mg base k fw CP d (RWordT d 0)
  mG : PySem.W.exmOne K (.ref CG) (.ref CS) = some true
  mP : PySem.W.exmOne K (.ref CP) (.ref CS) = some true
theorem said_gives {X : Cx} {q : Str} {g CS CG CP fw : Addr} {cdg : Value} {k : Nat} (S : SaidAt X.prog X.w X.K X.mg X.base CS CG CP fw k) (hr : Room (k + 1) X.A) :
    GivesTo X ["_law_call", "_law_e"] "_law_said" (defScope sSaid) g cdg (defBody sSaid) "_law_call" q (TTsaid CG CP) := by
  intro f c' s H Q tl act hc h
  have hr2 : ∀ A : Around, A.depth = X.A.depth + 1 → A.units = X.A.units + 3 → L2H.RoomH k A := fun A e1 e2 => ⟨by have := hr.dp; rw [e1]; omega, by have := hr.un; rw [e2]; omega⟩
  refine ⟨_, pss_one (ps_try_as (X := (cxOf C8.CX0 X.prog X.w X.K X.mg X.base ["_law_call", "_law_e"] "_law_said" (defScope sSaid) g cdg X.A X.stack s H C8.E0).nox) (i := 1) (c := .ref CS)
      (tb := fun W D σ H => ∃ E : XK, (∀ cls d σ' H', E cls d H' → W cls d σ' H') ∧ σ[0]? = some (some (.ref f)) ∧ H c' = some (CodeO c' q) ∧ tl E H fun v H1 => [v].length ≤ sizeLine ∧ ∀ p, H1 p = none → D.rt (.ref p) (upd H1 p (.lst [v])))
      (ts := fun a cls d D σ H => (∃ σ0 : L2.St, σ = σ0.set 1 (some (.ref a))) ∧ ((cls = .ref CG ∧ d = none ∧ RWord none 2 H D.rt) ∨ (cls = .ref CP ∧ RWordT d 0 H D.rt)))
      rfl rfl scSaid.nd rfl rfl ⟨rfl, by decide, .inl S.give⟩ LamX.takes0 (fun W pn xe tk _ => ?_) (fun a oe cls d pn hz hf => ?_)), ?_⟩
  · refine ⟨fun pins s' σ H' D I h' => ?_⟩
    obtain ⟨E, hW, h1, h2, h3⟩ := h'
    exact (pss_one (ps_ret (pe_lst (pa_cons (act W pn xe E _ _ tk hW) pa_nil)))).run pins s' σ H' D I ⟨h1, h2, h3⟩
  · refine ⟨fun pins s' σ H' D I h' => ?_⟩
    obtain ⟨⟨σ0, rfl⟩, h'⟩ := h'
    have ln := I.len
    have l2 : 1 < σ0.length := by
      rw [List.length_set] at ln
      rw [ln]
      exact (by decide : 1 < 2)
    have sl : (σ0.set 1 (some (V.ref a)))[1]? = some (some (V.ref a)) := by rw [List.getElem?_set_self l2]
    rcases h' with ⟨rfl, rfl, h'⟩ | ⟨rfl, h'⟩
    · exact (pss_one (ps_ret (pe_hot (x := "_law_word") (Z := (cxOf C8.CX0 X.prog X.w X.K X.mg X.base ["_law_call", "_law_e"] "_law_said" (defScope sSaid) g cdg X.A X.stack s H C8.E0).nox.suite a ((a, oe) :: pn)) (k := k) (D := CG) List.mem_cons_self hz hf S.graph (hr2 _ rfl rfl) rfl S.word S.keep (pa_cons (pv 1) pa_nil)))).run pins s' _ H' D I ⟨_, sl, rfl, h'⟩
    · exact (pss_one (ps_ret (pe_hot (x := "_law_word") (Z := (cxOf C8.CX0 X.prog X.w X.K X.mg X.base ["_law_call", "_law_e"] "_law_said" (defScope sSaid) g cdg X.A X.stack s H C8.E0).nox.suite a ((a, oe) :: pn)) (k := k) (D := CP) List.mem_cons_self hz hf (S.place d) (hr2 _ rfl rfl) rfl S.word S.keep (pa_cons (pv 1) pa_nil)))).run pins s' _ H' D I ⟨_, sl, rfl, h'⟩
  · refine ⟨Ech CG CP Q, fun cls d σ' H' e => ?_, rfl, hc, h⟩
    rcases e with ⟨rfl, rfl, e⟩ | ⟨rfl, e⟩
    · exact ⟨true, S.mG, fun _ a _ => ⟨⟨σ', rfl⟩, .inl ⟨rfl, rfl, e⟩⟩, fun z => by cases z⟩
    · exact ⟨true, S.mP, fun _ a _ => ⟨⟨σ', rfl⟩, .inr ⟨rfl, e⟩⟩, fun z => by cases z⟩
theorem SaidAt.mono {P : Program} {w : World} {K : PySem.W.Frag} {mg : Str → Option Value} {base : Heap} {CS CG CP fw : Addr} {j k : Nat} (S : SaidAt P w K mg base CS CG CP fw j) (l : j ≤ k) : SaidAt P w K mg base CS CG CP fw k :=
  ⟨S.give, S.word, S.keep, S.graph.mono l, fun d => (S.place d).mono l, S.mG, S.mP⟩
/-- all that calls of _law_said want -/
structure SaidF (P : Program) (w : World) (K : PySem.W.Frag) (mg : Str → Option Value) (base : Heap) (CS CG CP fw g : Addr) (fdg : FuncData) (k : Nat) : Prop where
  S : SaidAt P w K mg base CS CG CP fw k
  F : Fun K "_law_said" "_law_said" sSaid g fdg
  B : L2.Binds K fdg ["_law_call"] []
  M : mg "_law_said" = some (.ref g)
theorem pe_saidV {X : Cx} {CS CG CP fw g : Addr} {fdg : FuncData} {k : Nat} {e : Expr} {te : TE} {p pos : Pos} (Z : SaidF X.prog X.w X.K X.mg X.base CS CG CP fw g fdg k) (hr : Room (k + 2) X.A) (hg : Gl X "_law_said") (he : PE X e te) (hst : starEach [e] X.env = (false, eval e X.env) :: starEach [] X.env := by rfl) (hfin : ((backTo pos (starEach [] X.env)).any fun x => x.fst) = false := by rfl) :
    PE X (.Call (.Name "_law_said" p) [e] [] pos) (tLamV X k (TTsaid CG CP) te) := by
  obtain ⟨oc, od, kV, doc, pm, an, cdv, ct, osl, rfl, lk, hcd⟩ := Z.F.ex
  exact pe_lamVcall hg Z.M Z.F.kp lk hcd Z.B scSaid rfl (.inl rfl) (said_gives Z.S (hr.mono (by omega))) hr he hst hfin
end
section
open PySem.Spec PyProof.Rows
variable {X : Cx}
def rNeLE (K : PySem.W.Frag) : R2 := fun x y H Q => ∃ a b xs, x = .ref a ∧ y = .ref b ∧ SqL K H a xs ∧ SqL K H b [] ∧ Q (.bl (!xs.isEmpty)) H
theorem op_neLE (hu : X.A.units + 64 < cLine) : OpR X (compareOp .NotEq) (rNeLE X.K) := by
  intro pins s σ H x y v u Q I rx ry h
  obtain ⟨a, b, xs, rfl, rfl, ha, hb, q⟩ := h
  cases rx
  cases ry
  obtain ⟨its, r1, ⟨o1, n1, g1, c1, _, d1⟩, _⟩ := I.list ha
  obtain ⟨its2, r2, ⟨o2, n2, g2, c2, _, d2⟩, _⟩ := I.list hb
  cases r2
  cases xs with
  | nil =>
    cases r1
    exact SeqAt.RcNeAt.lists (e := fun _ => true) ⟨o1, g1, c1, n1, d1⟩ ⟨o2, g2, c2, n2, d2⟩ rfl (by omega) (fun j _ h2 => absurd h2 (by simp)) X.prog X.w _ _ ⟨.bl false, H, I, rfl, q⟩
  | cons z zs =>
    cases r1 with
    | cons _ _ => exact SeqAt.RcNeAt.lists_lengths ⟨o1, g1, c1, n1, d1⟩ ⟨o2, g2, c2, n2, d2⟩ (by simp) (by omega) X.prog X.w _ _ ⟨.bl true, H, I, rfl, q⟩
theorem pss_imp {X : Cx} {sts : List Stmt} {t t' : TS} (h : PSs X sts t) (w : ∀ D σ H, t' D σ H → t D σ H) : PSs X sts t' := ⟨fun pins s σ H D I q => h.run pins s σ H D I (w _ _ _ q)⟩
theorem lc_str {x : Str} {g : TG} {tt : TT} {te : TE} {vs : List Nat} {σ : L2.St} {H1 : Hp} {D : Addr} {Qd : Hp → Prop} (Pv : Nat → Hp → Prop) (h0 : Pv 0 (upd H1 D (.lst [])))
    (hs : ∀ i c H, x.cps[i]? = some c → Pv i H → g (.str ⟨#[c]⟩) (wipe σ vs) H fun σ2 H2 => wipe σ2 vs = wipe σ vs ∧ tt σ2 H2 fun b H3 =>
      if b = true then te σ2 H3 fun y H4 => ∃ acc, H4 D = some (.lst acc) ∧ acc.length < sizeLine ∧ Pv (i + 1) (upd H4 D (.lst (acc ++ [y]))) else Pv (i + 1) H3) (hd : ∀ H, Pv x.cps.size H → Qd H) :
    ∃ W : Nat → Nat → Hp → Prop, (∃ m, W 0 m (upd H1 D (.lst []))) ∧ ∀ i m H, W i m H →
      ((Its x).stop i H ∧ Qd H) ∨ ((Its x).go i H ∧ ∃ Nx : Hp → Prop, (∀ H', Nx H' → ∃ m', m' < m ∧ W (i + 1) m' H') ∧ ∀ v H', (Its x).yld i H v H' → g v (wipe σ vs) H' fun σ2 H2 => wipe σ2 vs = wipe σ vs ∧ tt σ2 H2 fun b H3 =>
        if b = true then te σ2 H3 fun y H4 => ∃ acc, H4 D = some (.lst acc) ∧ acc.length < sizeLine ∧ Nx (upd H4 D (.lst (acc ++ [y]))) else Nx H3) := by
  refine ⟨fun i m H => m = x.cps.size - i ∧ i ≤ x.cps.size ∧ Pv i H, ⟨x.cps.size, rfl, Nat.zero_le _, h0⟩, ?_⟩
  rintro i m H ⟨rfl, hi, p⟩
  by_cases hlt : i < x.cps.size
  · refine .inr ⟨hlt, Pv (i + 1), fun H' p' => ⟨x.cps.size - (i + 1), by omega, rfl, hlt, p'⟩, fun v H' y => ?_⟩
    obtain ⟨rfl, c, hc, rfl⟩ := y
    exact hs i c _ hc p
  · have e : i = x.cps.size := by omega
    exact .inl ⟨by show x.cps.size ≤ i; omega, hd H (by rw [← e]; exact p)⟩
end
/-! the law's reader: its defs -/
section
open PySem.Spec PyProof.Rows LamX
variable {P : Program} {w : World} {K : PySem.W.Frag} {mg : Str → Option Value} {base : Heap} {f : Addr} {fd : FuncData}
def stS (x : List Nat) : Str := ⟨x.toArray⟩
theorem stS_tl (x : List Nat) : (stS x).cps.toList = x := rfl
theorem stS_snoc (x : List Nat) (c : Nat) : stS x ++ ⟨#[c]⟩ = stS (x ++ [c]) := str_tl (by rw [tl_app]; rfl)
theorem stS_len (x : List Nat) : (stS x).length = x.length := by
  show (x.toArray).size = _
  simp
theorem opens_ (c : Nat) : (if decide (c ∈ ("([" : Str).cps.toList) = true then (1 : Int) else 0) - (if decide (c ∈ (")]" : Str).cps.toList) = true then 1 else 0) = dpt c := by
  unfold dpt
  rw [show ("([" : Str).cps.toList = [40, 91] by decide +kernel, show (")]" : Str).cps.toList = [41, 93] by decide +kernel]
  simp only [List.mem_cons, List.not_mem_nil, or_false, decide_eq_true_eq]
def spLParts : Sp := fun vs H Q _ => ∃ z : Str, vs = [.str z] ∧ z.length ≤ 1000 ∧ ∀ L H', Same H H' → H L = none → H' L = some (.lst ((partsF z.cps.toList 0 []).map fun x => V.str (stS x))) → Q (.ref L) H'
abbrev NPt : List Str := ["_law_text_here", "_law_parts_here", "_law_depth", "_law_sign"]
theorem scLParts : FnScope NPt ["_law_text_here"] (defScope sLParts) := ⟨rfl, rfl, rfl, by decide +kernel, rfl, by decide +kernel, by decide +kernel⟩
set_option maxHeartbeats 0 in
theorem ok_lparts {k : Nat} (F : Fun K "_law_parts" "_law_parts" sLParts f fd) (T : Free mg) (hI : mg "int" = none) : FnOk P w K mg base CX0 (k + 1) f fd ["_law_text_here"] spLParts := by
  refine F.ok scLParts (fun vs H Q E h => ?_) (fun cdv A outer s H vs Q E hr h => ?_)
  · obtain ⟨z, rfl, _⟩ := h
    rfl
  obtain ⟨z, rfl, hz, q⟩ := h
  refine ⟨_, pss_cons (ps_par (i := 1) (j := 2) rfl scLParts.nd rfl rfl (by decide) rfl rfl (pa_cons (pe_lst (pa_cons pe_str pa_nil)) (pa_cons pe_int pa_nil)) rfl)
    (pss_cons (ps_for PassesOwn.never rfl (pi_str (pv 0)) (pg_name (i := 3) scLParts.nd rfl (.inl rfl))
      (pss_cons (ps_set (i := 2) scLParts.nd rfl (.inl rfl) (pe_op op_sub (pe_op op_add (pv 2) (pe_callTy call_int1 rfl hI (by decide +kernel) (pa_cons (pe_cmpR op_in_sign (pv 3) pe_str rfl) pa_nil))) (pe_callTy call_int1 rfl hI (by decide +kernel) (pa_cons (pe_cmpR op_in_sign (pv 3) pe_str rfl) pa_nil))))
      (pss_one (ps_if (PW.pt (pw_and (pt_cmpR op_eq (pv 3) pe_str (nomark _)) (pw_and1 (pt_cmpR op_eq (pv 2) pe_int (nomark _)))))
        (pss_one (ps_expr (pe_bm PySem.F.plainAttrs_list PySem.F.slot_list_append PySem.F.type_list_append mt_append (pv 1) (pa_cons pe_str pa_nil))))
        (pss_one (ps_asg (pe_op op_add_str (pe_ix ix_list (pv 1) (pe_un un_neg pe_int) (fun _ _ => rfl)) (pv 3)) (pg_sub (pv 1) (pe_un un_neg pe_int) set_list)))))))
    (pss_one (ps_ret (pv 1)))), ?_⟩
  refine ⟨small (by show 1 ≤ 1000; decide), fun L hL => ?_⟩
  refine ⟨_, _, rfl, _, rfl, z, rfl, ?_⟩
  have z0 : z.cps.size ≤ 1000 := hz
  refine for_it (walk_str (z := z)) (fun i σ G => ∃ (d : Int) (o3 : Option V) (done : List (List Nat)) (cur : List Nat), σ = [some (.str z), some (.ref L), some (.int d), o3] ∧ Same H G ∧ G L = some (.lst ((done ++ [cur]).map fun x => V.str (stS x))) ∧ partsF z.cps.toList 0 [] = done ++ partsF (z.cps.toList.drop i) d cur ∧ done.length ≤ i ∧ cur.length ≤ i)
    ⟨0, _, [], [], rfl, same_new hL _, upd_same, rfl, Nat.le_refl _, Nat.le_refl _⟩ (fun i σ G _ h => trivial) (fun i v σ G G' hi h y => ?_) (fun σ G h => ?_)
  · obtain ⟨d, o3, done, cur, rfl, sm, gL, e, ld, lc⟩ := h
    obtain ⟨rfl, c, hc, rfl⟩ := y
    have hc' : z.cps.toList[i]? = some c := by rw [Array.getElem?_toList]; exact hc
    have dr : z.cps.toList.drop i = c :: z.cps.toList.drop (i + 1) := by
      obtain ⟨h1, h2⟩ := List.getElem?_eq_some_iff.mp hc'
      rw [List.drop_eq_getElem_cons h1, h2]
    have at1 : atI ((done ++ [cur]).map fun x => V.str (stS x)) (-1) = some (V.str (stS cur)) := by
      rw [List.map_append]
      exact atI_last _ _
    have ix1 : ixN ((done ++ [cur]).map fun x => V.str (stS x)).length (-1) = some done.length := by
      rw [List.length_map, List.length_append, List.length_singleton]
      unfold ixN
      simp
      omega
    refine ⟨_, rfl, _, rfl, c, _, rfl, rfl, .inr ⟨_, rfl, _, _, rfl, rfl, _, rfl, c, _, rfl, rfl, .inr ⟨_, rfl, _, _, rfl, rfl, ?_⟩⟩⟩
    dsimp only
    rw [show d + (if decide (c ∈ ("([" : Str).cps.toList) = true then (1 : Int) else 0) - (if decide (c ∈ (")]" : Str).cps.toList) = true then 1 else 0) = d + dpt c by rw [← opens_ c]; omega]
    refine ⟨_, rfl, rfl, _, rfl, ?_⟩
    have sp : (V.str ⟨#[c]⟩ = V.str " ") ↔ c = 32 := by
      refine ⟨fun h => ?_, fun h => by rw [h]; rfl⟩
      have h := congrArg (fun s : Str => s.cps.toList) (V.str.inj h)
      have h : [c] = [32] := h.trans (by decide +kernel)
      exact (List.cons.inj h).1
    by_cases c1 : c = 32
    · refine ifT (decide_eq_true (sp.mpr c1)) ⟨_, rfl, rfl, _, rfl, ?_⟩
      by_cases c2 : d + dpt c = 0
      · refine ifT (decide_eq_true (by rw [c2])) ⟨_, rfl, .inl ⟨rfl, _, SqL.of gL⟩, L, _, _, rfl, rfl, gL, ?_, ?_⟩
        · rw [List.length_map, List.length_append, List.length_singleton]
          exact Nat.lt_of_lt_of_le (show done.length + 1 < 1003 by omega) (by decide)
        refine ⟨d + dpt c, _, done ++ [cur], [], rfl, same_upd2 sm hL, ?_, ?_, by rw [List.length_append]; exact Nat.succ_le_succ ld, Nat.zero_le _⟩
        · rw [upd_same, List.map_append (l₂ := [[]])]
          rfl
        · rw [e, dr, List.append_assoc]
          show done ++ (if c = 32 ∧ d + dpt c = 0 then cur :: partsF (z.cps.toList.drop (i + 1)) (d + dpt c) [] else _) = _
          rw [if_pos ⟨c1, c2⟩]
          rfl
      · have cc : ¬ (c = 32 ∧ d + dpt c = 0) := fun z => c2 z.2
        refine ifF (decide_eq_false (fun z => c2 (V.int.inj z))) ?_
        refine ⟨_, rfl, _, rfl, L, _, _, _, rfl, rfl, SqL.of gL, at1, _, rfl, _, _, rfl, rfl, ?_, ?_⟩
        · show (stS cur).length + 1 ≤ sizeLine
          rw [stS_len]
          exact Nat.le_trans (show cur.length + 1 ≤ 1001 by omega) (by decide)
        refine ⟨_, rfl, _, rfl, L, _, _, _, rfl, rfl, gL, ix1, ?_⟩
        refine ⟨d + dpt c, _, done, cur ++ [c], rfl, same_upd2 sm hL, ?_, ?_, by omega, by rw [List.length_append]; exact Nat.succ_le_succ lc⟩
        · rw [upd_same, stS_snoc, List.map_append, List.map_append, List.set_append_right _ _ (by simp)]
          simp
        · rw [e, dr]
          show done ++ (if c = 32 ∧ d + dpt c = 0 then _ else partsF (z.cps.toList.drop (i + 1)) (d + dpt c) (cur ++ [c])) = _
          rw [if_neg cc]
    · have cc : ¬ (c = 32 ∧ d + dpt c = 0) := fun z => c1 z.1
      refine ifF (decide_eq_false (fun z => c1 (sp.mp z))) ?_
      refine ⟨_, rfl, _, rfl, L, _, _, _, rfl, rfl, SqL.of gL, at1, _, rfl, _, _, rfl, rfl, ?_, ?_⟩
      · show (stS cur).length + 1 ≤ sizeLine
        rw [stS_len]
        exact Nat.le_trans (show cur.length + 1 ≤ 1001 by omega) (by decide)
      refine ⟨_, rfl, _, rfl, L, _, _, _, rfl, rfl, gL, ix1, ?_⟩
      refine ⟨d + dpt c, _, done, cur ++ [c], rfl, same_upd2 sm hL, ?_, ?_, by omega, by rw [List.length_append]; exact Nat.succ_le_succ lc⟩
      · rw [upd_same, stS_snoc, List.map_append, List.map_append, List.set_append_right _ _ (by simp)]
        simp
      · rw [e, dr]
        show done ++ (if c = 32 ∧ d + dpt c = 0 then _ else partsF (z.cps.toList.drop (i + 1)) (d + dpt c) (cur ++ [c])) = _
        rw [if_neg cc]
  · obtain ⟨d, o3, done, cur, rfl, sm, gL, e, _⟩ := h
    refine ⟨_, rfl, q L G sm hL ?_⟩
    rw [gL, e, List.drop_of_length_le (by simp)]
    rfl
def spLShut : Sp := fun vs H Q _ => ∃ (z : Str) (a : Nat), vs = [.str z, .int (a : Nat)] ∧ a ≤ z.length ∧ z.length ≤ 1000 ∧ Q (.int (match shutF (z.cps.toList.drop a) 0 a with | some e => (e : Nat) | none => -1)) H
abbrev NSh : List Str := ["_law_text_here", "_law_at", "_law_depth", "_law_spot"]
theorem scLShut : FnScope NSh ["_law_text_here", "_law_at"] (defScope sLShut) := ⟨rfl, rfl, rfl, by decide +kernel, rfl, by decide +kernel, by decide +kernel⟩
set_option maxHeartbeats 0 in
theorem ok_lshut {k : Nat} (F : Fun K "_law_shut" "_law_shut" sLShut f fd) (T : Free mg) (hI : mg "int" = none) : FnOk P w K mg base CX0 (k + 1) f fd ["_law_text_here", "_law_at"] spLShut := by
  refine F.ok scLShut (fun vs H Q E h => ?_) (fun cdv A outer s H vs Q E hr h => ?_)
  · obtain ⟨z, a, rfl, _⟩ := h
    rfl
  obtain ⟨z, a, rfl, ha, hz, q⟩ := h
  refine ⟨_, pss_cons (ps_set (i := 2) scLShut.nd rfl (.inl rfl) pe_int)
    (pss_cons (ps_for PassesOwn.never rfl (pi_range2 rfl T.range (pa_cons (pv 1) (pa_cons (pe_callB call_len_str rfl T.len PySem.boot_len (pa_cons (pv 0) pa_nil)) pa_nil))) (pg_name (i := 3) scLShut.nd rfl (.inl rfl))
      (pss_cons (ps_set (i := 2) scLShut.nd rfl (.inl rfl) (pe_op op_sub (pe_op op_add (pv 2) (pe_callTy call_int1 rfl hI (by decide +kernel) (pa_cons (pe_cmpR op_in_sign (pe_ix ix_str (pv 0) (pv 3) (fun _ _ => rfl)) pe_str rfl) pa_nil))) (pe_callTy call_int1 rfl hI (by decide +kernel) (pa_cons (pe_cmpR op_in_sign (pe_ix ix_str (pv 0) (pv 3) (fun _ _ => rfl)) pe_str rfl) pa_nil))))
      (pss_one (ps_if (pt_cmpR op_eq (pv 2) pe_int (nomark _)) (pss_one (ps_ret (pv 3))) pss_nil))))
    (pss_one (ps_ret (pe_un un_neg pe_int)))), ?_⟩
  refine ⟨_, rfl, _, rfl, z, rfl, Nat.le_trans hz (by decide), _, _, rfl, ⟨by omega, by omega, by omega, by omega⟩, ?_⟩
  rw [show ((z.length : Int) - (a : Nat)).toNat = z.length - a by omega]
  have zl : z.cps.toList.length = z.length := Array.length_toList
  refine for_range (lo := (a : Nat)) (n := z.length - a) (fun i σ G => ∃ (d : Int) (o3 : Option V), σ = [some (.str z), some (.int (a : Nat)), some (.int d), o3] ∧ G = H ∧ shutF (z.cps.toList.drop a) 0 a = shutF (z.cps.toList.drop (a + i)) d (a + i)) ⟨0, _, rfl, rfl, rfl⟩ (fun i σ G hi h => ?_) (fun σ G h => ?_)
  · obtain ⟨d, o3, rfl, rfl, e⟩ := h
    have hl : a + i < z.cps.toList.length := by omega
    obtain ⟨c, hc⟩ : ∃ c, z.cps.toList[a + i]? = some c := ⟨_, List.getElem?_eq_getElem hl⟩
    have dr : z.cps.toList.drop (a + i) = c :: z.cps.toList.drop (a + i + 1) := by
      obtain ⟨h1, h2⟩ := List.getElem?_eq_some_iff.mp hc
      rw [List.drop_eq_getElem_cons h1, h2]
    have at1 : atI z.cps.toList ((a : Nat) + (i : Nat) : Int) = some c := by
      rw [show ((a : Nat) : Int) + (i : Nat) = ((a + i : Nat) : Int) by omega]
      exact atI_at (by omega) (by rw [Int.toNat_natCast]; exact hc)
    have zs : z.length ≤ sizeLine := Nat.le_trans hz (by decide)
    refine ⟨_, rfl, _, rfl, _, rfl, z, _, c, rfl, rfl, zs, at1, c, _, rfl, rfl, .inr ⟨_, rfl, _, _, rfl, rfl, _, rfl, _, rfl, z, _, c, rfl, rfl, zs, at1, c, _, rfl, rfl, .inr ⟨_, rfl, _, _, rfl, rfl, ?_⟩⟩⟩
    dsimp only
    rw [show d + (if decide (c ∈ ("([" : Str).cps.toList) = true then (1 : Int) else 0) - (if decide (c ∈ (")]" : Str).cps.toList) = true then 1 else 0) = d + dpt c by rw [← opens_ c]; omega]
    rw [dr] at e
    refine ⟨_, rfl, rfl, _, rfl, ?_⟩
    by_cases c0 : d + dpt c = 0
    · refine ifT (decide_eq_true (by rw [c0])) ⟨_, rfl, ?_⟩
      rw [e] at q
      have q : Q (.int (match (if d + dpt c = 0 then some (a + i) else shutF (z.cps.toList.drop (a + i + 1)) (d + dpt c) (a + i + 1)) with | some e => (e : Nat) | none => -1)) G := q
      rw [if_pos c0] at q
      exact q
    · refine ifF (decide_eq_false (fun z => c0 (V.int.inj z))) ⟨_, _, rfl, rfl, ?_⟩
      rw [e]
      show (if d + dpt c = 0 then some (a + i) else shutF (z.cps.toList.drop (a + i + 1)) (d + dpt c) (a + i + 1)) = _
      rw [if_neg c0]
      rfl
  · obtain ⟨d, o3, rfl, rfl, e⟩ := h
    rw [show z.cps.toList.drop (a + (z.length - a)) = [] from List.drop_of_length_le (by omega)] at e
    rw [e] at q
    exact ⟨_, rfl, q⟩
def spLBoxes : Sp := fun vs H Q _ => ∃ z : Str, vs = [.str z] ∧ z.length ≤ 1000 ∧ (boxesF z.length z.cps.toList = none → ∀ H', Same H H' → Q .non H') ∧
  ∀ bs L H', boxesF z.length z.cps.toList = some bs → Same H H' → H L = none → H' L = some (.lst (bs.map fun x => V.str (stS x))) → Q (.ref L) H'
abbrev NBx : List Str := ["_law_text_here", "_law_found", "_law_at", "_law_end"]
theorem scLBoxes : FnScope NBx ["_law_text_here"] (defScope sLBoxes) := ⟨rfl, rfl, rfl, by decide +kernel, rfl, by decide +kernel, by decide +kernel⟩
set_option maxHeartbeats 0 in
theorem ok_lboxes {k : Nat} (F : Fun K "_law_boxes" "_law_boxes" sLBoxes f fd) (T : Free mg) (cS : Cal P w K mg base "_law_shut" k ["_law_text_here", "_law_at"] spLShut) : FnOk P w K mg base CX0 (k + 1) f fd ["_law_text_here"] spLBoxes := by
  refine F.ok scLBoxes (fun vs H Q E h => ?_) (fun cdv A outer s H vs Q E hr h => ?_)
  · obtain ⟨z, rfl, _⟩ := h
    rfl
  obtain ⟨z, rfl, hz, q0, q1⟩ := h
  refine ⟨_, pss_cons (ps_par (i := 1) (j := 2) rfl scLBoxes.nd rfl rfl (by decide) rfl rfl (pa_cons (pe_lst pa_nil) (pa_cons pe_int pa_nil)) rfl)
    (pss_cons (ps_while PassesOwn.never (pt_cmpR op_lt (pv 2) (pe_callB call_len_str rfl T.len PySem.boot_len (pa_cons (pv 0) pa_nil)) (nomark _))
      (pss_cons (ps_set (i := 3) scLBoxes.nd rfl (.inl rfl) (pe_cal cS hr rfl (pa_cons (pv 0) (pa_cons (pv 2) pa_nil))))
      (pss_cons (ps_if (PW.pt (pw_or (pt_cmpR op_ne (pe_ix ix_str (pv 0) (pv 2) (fun _ _ => rfl)) pe_str (nomark _)) (pw_or (pt_cmpR op_lt (pv 3) pe_int (nomark _)) (pw_or1 (pt_cmpR op_ne (pe_ix ix_str (pv 0) (pv 3) (fun _ _ => rfl)) pe_str (nomark _)))))) (pss_one (ps_ret pe_non)) pss_nil)
      (pss_cons (ps_expr (pe_bm PySem.F.plainAttrs_list PySem.F.slot_list_append PySem.F.type_list_append mt_append (pv 1) (pa_cons (pe_slice sl_str (pv 0) (po_some (pe_op op_add (pv 2) pe_int)) (po_some (pv 3))) pa_nil)))
      (pss_one (ps_set (i := 2) scLBoxes.nd rfl (.inl rfl) (pe_op op_add (pv 3) pe_int)))))))
    (pss_one (ps_ret (pv 1)))), ?_⟩
  have zs : z.length ≤ sizeLine := Nat.le_trans hz (by decide)
  have zl : z.cps.toList.length = z.length := Array.length_toList
  have sgn : ∀ {c b : Nat} {y : Str}, y.cps.toList = [b] → ((V.str ⟨#[c]⟩ = V.str y) ↔ c = b) := fun {c b y} hy => by
    refine ⟨fun h => ?_, fun h => ?_⟩
    · have h := congrArg (fun s : Str => s.cps.toList) (V.str.inj h)
      have h : [c] = y.cps.toList := h
      rw [hy] at h
      exact (List.cons.inj h).1
    · rw [h]
      exact congrArg V.str (str_tl (by rw [hy]))
  have z91 : ("[" : Str).cps.toList = [91] := by decide +kernel
  have z93 : ("]" : Str).cps.toList = [93] := by decide +kernel
  refine ⟨small (by show 0 ≤ 1000; decide), fun L hL => ?_⟩
  refine ⟨_, _, rfl, ?_⟩
  refine ⟨fun m σ G => ∃ (a : Nat) (o3 : Option V) (done : List (List Nat)), m = z.length - a ∧ a ≤ z.length ∧ σ = [some (.str z), some (.ref L), some (.int (a : Nat)), o3] ∧ Same H G ∧ G L = some (.lst (done.map fun x => V.str (stS x))) ∧ done.length ≤ a ∧ ∃ n, z.length - a ≤ n ∧ boxesF z.length z.cps.toList = (boxesF n (z.cps.toList.drop a)).map (done ++ ·),
    ⟨_, 0, _, [], rfl, Nat.zero_le _, rfl, same_new hL _, upd_same, Nat.le_refl _, z.length, Nat.le_refl _, by cases h : boxesF z.length z.cps.toList <;> (show _ = Option.map _ (boxesF z.length z.cps.toList); rw [h]; rfl)⟩, ?_⟩
  rintro m σ G ⟨a, o3, done, rfl, ha, rfl, sm, gL, ld, n, hn, e⟩
  refine ⟨_, rfl, _, rfl, z, rfl, zs, _, _, rfl, rfl, _, rfl, ?_⟩
  by_cases c0 : a < z.length
  · refine ifT (decide_eq_true (by omega)) ⟨_, fun σ' H' h => h, ?_⟩
    obtain ⟨c, hc⟩ : ∃ c, z.cps.toList[a]? = some c := ⟨_, List.getElem?_eq_getElem (by omega)⟩
    have dr : z.cps.toList.drop a = c :: z.cps.toList.drop (a + 1) := by
      obtain ⟨h1, h2⟩ := List.getElem?_eq_some_iff.mp hc
      rw [List.drop_eq_getElem_cons h1, h2]
    have rg : ∀ j, (z.cps.toList.drop (a + 1))[j]? = z.cps.toList[a + 1 + j]? := fun j => List.getElem?_drop
    have rl : (z.cps.toList.drop (a + 1)).length = z.length - (a + 1) := by rw [List.length_drop, zl]
    rw [dr] at e
    obtain ⟨n, rfl⟩ : ∃ n', n = n' + 1 := ⟨n - 1, by omega⟩
    have at1 : atI z.cps.toList ((a : Nat) : Int) = some c := atI_at (by omega) (by rw [Int.toNat_natCast]; exact hc)
    refine ⟨_, rfl, _, rfl, z, a, rfl, ha, hz, ?_⟩
    rw [dr]
    by_cases h91 : c = 91
    · subst h91
      have sh : shutF (91 :: z.cps.toList.drop (a + 1)) 0 a = (shutF (z.cps.toList.drop (a + 1)) 1 0).map (· + (a + 1)) := by
        rw [← shutF_shift, Nat.zero_add]
        rfl
      rw [sh]
      have eb : boxesF (n + 1) (91 :: z.cps.toList.drop (a + 1)) = (shutF (z.cps.toList.drop (a + 1)) 1 0).bind fun e => if (z.cps.toList.drop (a + 1))[e]? = some 93 then (boxesF n ((z.cps.toList.drop (a + 1)).drop (e + 1))).map ((z.cps.toList.drop (a + 1)).take e :: ·) else none := by
        show (if (91 : Nat) = 91 then _ else none) = _
        rw [if_pos rfl]
      rw [eb] at e
      refine ⟨_, rfl, _, rfl, z, _, 91, rfl, rfl, zs, at1, rfl, _, rfl, ifF (by rw [decide_eq_true ((sgn z91).mpr rfl)]; rfl) ?_⟩
      cases hs : shutF (z.cps.toList.drop (a + 1)) 1 0 with
      | none =>
        rw [hs] at e
        exact ⟨_, rfl, _, _, rfl, rfl, _, rfl, ifT (decide_eq_true (by show (-1 : Int) < 0; decide)) (q0 e G sm)⟩
      | some e0 =>
        rw [hs] at e
        have he := (shutF_in hs).2
        obtain ⟨c2, hc2⟩ : ∃ c2, (z.cps.toList.drop (a + 1))[e0]? = some c2 := ⟨_, List.getElem?_eq_getElem (by omega)⟩
        have at2 : atI z.cps.toList ((e0 + (a + 1) : Nat) : Int) = some c2 := atI_at (by omega) (by rw [Int.toNat_natCast, show e0 + (a + 1) = a + 1 + e0 by omega, ← rg]; exact hc2)
        refine ⟨_, rfl, _, _, rfl, rfl, _, rfl, ifF (decide_eq_false (by show ¬ (((e0 + (a + 1) : Nat) : Int) < 0); omega)) ?_⟩
        refine ⟨_, rfl, _, rfl, z, _, c2, rfl, rfl, zs, at2, rfl, _, rfl, ?_⟩
        have e : boxesF z.length z.cps.toList = Option.map (done ++ ·) (if (z.cps.toList.drop (a + 1))[e0]? = some 93 then (boxesF n ((z.cps.toList.drop (a + 1)).drop (e0 + 1))).map ((z.cps.toList.drop (a + 1)).take e0 :: ·) else none) := e
        by_cases h93 : c2 = 93
        · subst h93
          rw [if_pos hc2] at e
          refine ifF (by rw [decide_eq_true ((sgn z93).mpr rfl)]; rfl) ?_
          refine ⟨_, rfl, .inl ⟨rfl, _, SqL.of gL⟩, _, rfl, _, rfl, _, _, rfl, rfl, _, rfl, _, rfl, _, rfl, z, rfl, zs, L, _, _, rfl, rfl, gL, ?_, ?_⟩
          · rw [List.length_map]
            exact Nat.lt_of_lt_of_le (show done.length < 1001 by omega) (by decide)
          refine ⟨_, rfl, _, _, rfl, rfl, ?_⟩
          refine ⟨z.length - (e0 + (a + 1) + 1), by omega, e0 + (a + 1) + 1, _, done ++ [(z.cps.toList.drop (a + 1)).take e0], rfl, by omega, rfl, same_upd2 sm hL, ?_, by rw [List.length_append, List.length_singleton]; omega, n, by omega, ?_⟩
          · rw [upd_same, List.map_append]
            have ec : cutS z (some ((a : Nat) + 1 : Int)) (some ((e0 + (a + 1) : Nat) : Int)) = stS ((z.cps.toList.drop (a + 1)).take e0) := by
              rw [show ((a : Nat) : Int) + 1 = ((a + 1 : Nat) : Int) by omega, cut_here, show e0 + (a + 1) - (a + 1) = e0 by omega]
              rfl
            exact congrArg (fun x => some (HO.lst (done.map (fun x => V.str (stS x)) ++ [V.str x]))) ec
          · rw [e, List.drop_drop, show a + 1 + (e0 + 1) = e0 + (a + 1) + 1 by omega]
            cases boxesF n (z.cps.toList.drop (e0 + (a + 1) + 1)) with
            | none => rfl
            | some x => exact congrArg some (by show done ++ _ :: x = (done ++ [_]) ++ x; rw [List.append_assoc]; rfl)
        · rw [if_neg (fun z => h93 (by rw [hc2] at z; exact Option.some.inj z))] at e
          exact ifT (by rw [decide_eq_false (fun z => h93 ((sgn z93).mp z))]; rfl) (q0 e G sm)
    · have eb : boxesF (n + 1) (c :: z.cps.toList.drop (a + 1)) = none := by
        show (if c = 91 then _ else none) = _
        rw [if_neg h91]
      rw [eb] at e
      exact ⟨_, rfl, _, rfl, z, _, c, rfl, rfl, zs, at1, rfl, _, rfl, ifT (by rw [decide_eq_false (fun z => h91 ((sgn z91).mp z))]; rfl) (q0 e G sm)⟩
  · refine ifF (decide_eq_false (by omega)) ?_
    rw [List.drop_of_length_le (by omega)] at e
    refine ⟨_, rfl, q1 done L G ?_ sm hL gL⟩
    rw [e]
    cases n <;> simp [boxesF]
theorem cut_to (x : Str) (n : Nat) : (cutS x none (some (n : Int))).cps.toList = x.cps.toList.take n := by
  have e : HT.sIx x.length x.length (some (n : Int)) = min n x.length := HT.sIx_nat x.length x.length n
  have l : x.length = x.cps.toList.length := by simp [Str.length]
  show ((x.cps.toList.drop 0).take (HT.sIx x.length x.length (some (n : Int)) - 0)).toArray.toList = x.cps.toList.take n
  rw [e, l, List.drop_zero, Nat.sub_zero]
  show x.cps.toList.take (min n x.cps.toList.length) = _
  by_cases h : n ≤ x.cps.toList.length
  · rw [Nat.min_eq_left h]
  · rw [Nat.min_eq_right (by omega), List.take_length, List.take_of_length_le (by omega)]
theorem cut_fr (x : Str) (n : Nat) : (cutS x (some (n : Int)) none).cps.toList = x.cps.toList.drop n := by
  have e : HT.sIx x.length 0 (some (n : Int)) = min n x.length := HT.sIx_nat x.length 0 n
  have l : x.length = x.cps.toList.length := by simp [Str.length]
  show ((x.cps.toList.drop (HT.sIx x.length 0 (some (n : Int)))).take (x.length - HT.sIx x.length 0 (some (n : Int)))).toArray.toList = x.cps.toList.drop n
  rw [e, l]
  show (x.cps.toList.drop (min n x.cps.toList.length)).take (x.cps.toList.length - min n x.cps.toList.length) = _
  by_cases h : n ≤ x.cps.toList.length
  · rw [Nat.min_eq_left h, List.take_of_length_le (by rw [List.length_drop]; omega)]
  · rw [Nat.min_eq_right (by omega), List.drop_length, List.drop_of_length_le (by omega), List.take_nil]
/-- two texts are the same by their signs -/
theorem str_is {x y : Str} {l m : List Nat} (hx : x.cps.toList = l) (hy : y.cps.toList = m) : decide (V.str x = V.str y) = decide (l = m) := by
  refine decide_eq_decide.mpr ⟨fun h => ?_, fun h => congrArg V.str (str_tl (by rw [hx, hy, h]))⟩
  rw [← hx, ← hy, V.str.inj h]
theorem take1 {l : List Nat} {c : Nat} : l.take 1 = [c] ↔ l.head? = some c := by
  cases l with
  | nil => simp
  | cons a b => simp
def spLNumber : Sp := fun vs H Q _ => ∃ z : Str, vs = [.str z] ∧ z.length ≤ 1000 ∧ ∀ H', Same H H' → Q (optI (numF z.cps.toList)) H'
abbrev NNm : List Str := ["_law_word_here", "_law_body", "_law_sign"]
theorem scLNumber : FnScope NNm ["_law_word_here"] (defScope sLNumber) := ⟨rfl, rfl, rfl, by decide +kernel, rfl, by decide +kernel, by decide +kernel⟩
theorem digs_mem (c : Nat) : decide (c ∈ ("0123456789" : Str).cps.toList) = digB c := by
  rw [show ("0123456789" : Str).cps.toList = [48, 49, 50, 51, 52, 53, 54, 55, 56, 57] by decide +kernel]
  unfold digB
  rw [← Bool.decide_and]
  refine decide_eq_decide.mpr ?_
  simp only [List.mem_cons, List.not_mem_nil, or_false]
  omega
theorem all_tk {q : Nat → Bool} {l : List Nat} {i c : Nat} (h : l[i]? = some c) : (l.take (i + 1)).all q = ((l.take i).all q && q c) := by
  rw [List.take_add_one, h, List.all_append]
  simp
def tNumR (z : Str) : TS := fun D σ H => ∃ B : Str, σ = [some (.str z), some (.str B), none] ∧ B.cps.toList = figs z.cps.toList ∧ B.length ≤ z.length ∧ ∀ H', Same H H' → D.rt (optI (numF z.cps.toList)) H'
set_option maxHeartbeats 0 in
theorem ok_lnumber {k : Nat} (F : Fun K "_law_number" "_law_number" sLNumber f fd) (T : Free mg) : FnOk P w K mg base CX0 (k + 1) f fd ["_law_word_here"] spLNumber := by
  refine F.ok scLNumber (fun vs H Q E h => ?_) (fun cdv A outer s H vs Q E hr h => ?_)
  · obtain ⟨z, rfl, _⟩ := h
    rfl
  obtain ⟨z, rfl, hz, q⟩ := h
  have zs : z.length ≤ sizeLine := Nat.le_trans hz (by decide)
  have zl : z.cps.toList.length = z.length := Array.length_toList
  have z45 : ("-" : Str).cps.toList = [45] := by decide +kernel
  have z48 : ("0" : Str).cps.toList = [48] := by decide +kernel
  have z0 : ("" : Str).cps.toList = [] := by decide +kernel
  refine ⟨_, pss_cons (ps_set (i := 1) scLNumber.nd rfl (.inl rfl) (pe_ifExp (pt_cmpR op_eq (pe_slice sl_str (pv 0) po_none (po_some pe_int)) pe_str (nomark _)) (pe_slice sl_str (pv 0) (po_some pe_int) po_none) (pv 0)))
    (pss_imp (t' := tNumR z) (pss_cons (ps_if (PW.pt (pw_or (pt_cmpR op_eq (pv 1) pe_str (nomark _)) (pw_or (pt_cmpR op_gt (pe_callB call_len_str rfl T.len PySem.boot_len (pa_cons (pv 0) pa_nil)) pe_int (nomark _)) (pw_or1 (pt_cmpR (op_neLE hr.units) (pe_lc (own := [("_law_sign", 2)]) (g := gName 2) (tt := tTest (tOp rNotInS (tVar 2) (tC (.str "0123456789")))) (te := tVar 2) rfl scLNumber.nd (pi_str (pv 1))
        (blkOk_by (own := [("_law_sign", 2)]) (N := NNm) (sc := defScope sLNumber) (by decide +kernel))
        (fun _ _ _ _ _ => pg_name (i := 2) scLNumber.nd rfl (Or.inl rfl)) (fun _ _ _ _ _ => pts_one (pt_cmpR op_notInS (pv 2) pe_str rfl)) (fun _ _ _ _ _ => pv 2)) (pe_lst pa_nil) (nomark _)))))) (pss_one (ps_ret pe_non)) pss_nil)
    (pss_cons (ps_if (PW.pt (pw_and (pt_cmpR op_eq (pe_ix ix_str (pv 1) pe_int (fun _ _ => rfl)) pe_str (nomark _)) (pw_and1 (pt_cmpR op_ne (pv 0) pe_str (nomark _))))) (pss_one (ps_ret pe_non)) pss_nil)
    (pss_one (ps_ret (pe_ifExp (pt_cmpR op_eq (pv 1) (pv 0) (nomark _)) (pe_callTy call_int_str rfl T.int (by decide +kernel) (pa_cons (pv 1) pa_nil)) (pe_op op_sub pe_int (pe_callTy call_int_str rfl T.int (by decide +kernel) (pa_cons (pv 1) pa_nil)))))))) (fun D σ G h => ?rest)), ?main⟩
  case main =>
    refine ⟨_, rfl, _, rfl, z, rfl, zs, rfl, _, rfl, ?_⟩
    by_cases h45 : z.cps.toList.take 1 = [45]
    · refine ifT ((str_is (cut_to z 1) z45).trans (decide_eq_true h45)) ⟨_, rfl, _, rfl, z, rfl, zs, cutS z (some 1) none, rfl, ?_, ?_, q⟩
      · refine (cut_fr z 1).trans ?_
        cases e : z.cps.toList with
        | nil => rw [e] at h45; cases h45
        | cons c l =>
          rw [e] at h45
          cases (List.cons.inj h45).1
          rfl
      · have e := cut_fr z 1
        have l1 : (cutS z (some 1) none).cps.toList.length = (cutS z (some 1) none).length := Array.length_toList
        have e : (cutS z (some 1) none).cps.toList = z.cps.toList.drop 1 := e
        rw [e, List.length_drop] at l1
        omega
    · refine ifF ((str_is (cut_to z 1) z45).trans (decide_eq_false h45)) ⟨_, rfl, z, rfl, ?_, Nat.le_refl _, q⟩
      cases e : z.cps.toList with
      | nil => rfl
      | cons c l =>
        rw [e] at h45
        unfold figs
        split
        · rename_i q
          cases (List.cons.inj q).1
          exact absurd rfl h45
        · rfl
  case rest =>
    obtain ⟨B, rfl, hB, lB, q⟩ := h
    have lB' : B.cps.toList.length = B.length := Array.length_toList
    have Bs : B.length ≤ sizeLine := Nat.le_trans lB zs
    have no : numF z.cps.toList = none → ∀ G', Same G G' → D.rt .non G' := fun e G' s => by
      have := q G' s
      rw [e] at this
      exact this
    refine ⟨_, rfl, rfl, _, rfl, ?_⟩
    by_cases h1 : figs z.cps.toList = []
    · exact ifT ((str_is hB z0).trans (decide_eq_true h1)) (no (by unfold numF; rw [if_pos (.inl h1)]) G (Same.refl G))
    refine ifF ((str_is hB z0).trans (decide_eq_false h1)) ⟨_, rfl, z, rfl, zs, _, _, rfl, rfl, _, rfl, ?_⟩
    by_cases h2 : 30 < z.length
    · exact ifT (decide_eq_true (by omega)) (no (by unfold numF; rw [if_pos (.inr (.inl (by omega)))]) G (Same.refl G))
    refine ifF (decide_eq_false (by omega)) ⟨_, rfl, B, rfl, fun Dd hD => ?_⟩
    refine lc_str (x := B) (fun i G' => Same G G' ∧ ∃ acc : List V, G' Dd = some (.lst acc) ∧ acc.length ≤ i ∧ acc.isEmpty = ((figs z.cps.toList).take i).all digB) ⟨same_new hD _, [], upd_same, Nat.le_refl _, rfl⟩ (fun i c' G' hc' h => ?_) (fun G' h => ?_)
    · obtain ⟨sG, acc, gD, la, ea⟩ := h
      have hc2 : (figs z.cps.toList)[i]? = some c' := by rw [← hB, ← hc']; simp
      have hi : i < B.cps.toList.length := by rw [hB]; exact (List.getElem?_eq_some_iff.mp hc2).1
      refine ⟨rfl, _, rfl, c', _, rfl, rfl, _, rfl, ?_⟩
      rw [digs_mem]
      cases hsm : digB c' with
      | true =>
        refine ifF rfl ⟨sG, acc, gD, by omega, ?_⟩
        rw [all_tk hc2, ← ea, hsm, Bool.and_true]
      | false =>
        refine ifT rfl ⟨_, rfl, acc, gD, ?_, same_upd2 sG hD, _, upd_same, by rw [List.length_append]; show _ + 1 ≤ _; omega, ?_⟩
        · exact Nat.lt_of_lt_of_le (show _ < 1001 by omega) (show 1001 ≤ sizeLine by decide)
        · rw [all_tk hc2, hsm, Bool.and_false]
          cases acc <;> rfl
    obtain ⟨sG, acc, gD, la, ea⟩ := h
    have ea : acc.isEmpty = (figs z.cps.toList).all digB := by
      rw [ea, show B.cps.size = (figs z.cps.toList).length by rw [← hB]; simp, List.take_length]
    refine ⟨small (Nat.zero_le _), fun p hp => ⟨Dd, p, acc, rfl, rfl, .of (by rw [upd_ne (ne_of_none gD hp)]; exact gD), .of upd_same, _, rfl, ?_⟩⟩
    have s2 := sG.trans (same_new hp (.lst []))
    rw [ea]
    generalize upd G' p (.lst []) = G2 at s2 ⊢
    cases hd : (figs z.cps.toList).all digB with
    | false => exact ifT rfl (no (by unfold numF; rw [if_pos (.inr (.inr hd))]) G2 s2)
    | true =>
    have n1 : ¬ (figs z.cps.toList = [] ∨ 30 < z.cps.toList.length ∨ (figs z.cps.toList).all digB = false) := fun h => by
      rcases h with h | h | h
      · exact h1 h
      · omega
      · rw [hd] at h; cases h
    refine ifF rfl ?_
    obtain ⟨c, r, ec⟩ : ∃ c r, figs z.cps.toList = c :: r := by
      cases e : figs z.cps.toList with
      | nil => exact absurd e h1
      | cons c r => exact ⟨c, r, rfl⟩
    have hint : PySem.intText? B = some (NumText.digitsVal (figs z.cps.toList) : Nat) := by
      rw [← hB]
      exact PySem.intText_digits (by rw [hB]; exact all_dig hd) (by rw [hB]; exact h1) (by omega)
    have n45 : z.cps.toList.head? = some 45 → figs z.cps.toList ≠ z.cps.toList := fun h e => by
      cases hz : z.cps.toList with
      | nil => rw [hz] at h; cases h
      | cons a t =>
        rw [hz] at h e
        cases h
        have := congrArg List.length e
        have : t.length = t.length + 1 := this
        omega
    have y45 : figs z.cps.toList ≠ z.cps.toList → z.cps.toList.head? = some 45 := fun h => by
      cases hz : z.cps.toList with
      | nil => rw [hz] at h; exact absurd rfl h
      | cons a t =>
        rw [hz] at h
        by_cases ha : a = 45
        · rw [ha]; rfl
        · refine absurd ?_ h
          unfold figs
          split
          · rename_i q
            exact absurd (List.cons.inj q).1 ha
          · rfl
    refine ⟨_, rfl, B, 0, c, rfl, rfl, Bs, by rw [hB, ec]; exact atI_at (by decide) rfl, rfl, _, rfl, ?_⟩
    by_cases c48 : c = 48
    · refine ifT ((str_is (l := [c]) rfl z48).trans (decide_eq_true (by rw [c48]))) ⟨_, rfl, rfl, _, rfl, ?_⟩
      by_cases hz0 : z.cps.toList = [48]
      · refine ifF (by rw [(str_is rfl z48).trans (decide_eq_true hz0)]; rfl) ?_
        have n2 : ¬ ((figs z.cps.toList).head? = some 48 ∧ z.cps.toList ≠ [48]) := fun h => h.2 hz0
        refine ⟨_, rfl, _, rfl, rfl, _, rfl, ?_⟩
        by_cases hf : figs z.cps.toList = z.cps.toList
        · refine ifT ((str_is hB rfl).trans (decide_eq_true hf)) ⟨_, rfl, B, _, rfl, hint, by omega, ?_⟩
          have e := q G2 s2
          unfold numF at e
          rw [if_neg n1, if_neg n2, if_neg (fun h => n45 h hf)] at e
          exact e
        · refine ifF ((str_is hB rfl).trans (decide_eq_false hf)) ⟨_, rfl, B, _, rfl, hint, by omega, _, _, rfl, rfl, ?_⟩
          have e := q G2 s2
          unfold numF at e
          rw [if_neg n1, if_neg n2, if_pos (y45 hf)] at e
          exact e
      · exact ifT (by rw [(str_is rfl z48).trans (decide_eq_false hz0)]; rfl) (no (by unfold numF; rw [if_neg n1, if_pos ⟨by rw [ec, c48]; rfl, hz0⟩]) G2 s2)
    · refine ifF ((str_is (l := [c]) rfl z48).trans (decide_eq_false (fun h => c48 (List.cons.inj h).1))) ?_
      have n2 : ¬ ((figs z.cps.toList).head? = some 48 ∧ z.cps.toList ≠ [48]) := fun h => by
        have := h.1
        rw [ec] at this
        exact c48 (Option.some.inj this)
      refine ⟨_, rfl, _, rfl, rfl, _, rfl, ?_⟩
      by_cases hf : figs z.cps.toList = z.cps.toList
      · refine ifT ((str_is hB rfl).trans (decide_eq_true hf)) ⟨_, rfl, B, _, rfl, hint, by omega, ?_⟩
        have e := q G2 s2
        unfold numF at e
        rw [if_neg n1, if_neg n2, if_neg (fun h => n45 h hf)] at e
        exact e
      · refine ifF ((str_is hB rfl).trans (decide_eq_false hf)) ⟨_, rfl, B, _, rfl, hint, by omega, _, _, rfl, rfl, ?_⟩
        have e := q G2 s2
        unfold numF at e
        rw [if_neg n1, if_neg n2, if_pos (y45 hf)] at e
        exact e
end
/-! the law's reader: places and graphs -/
def isNo : PyData → Bool
  | .none => true
  | _ => false
theorem isNo_eqv (d : PyData) : PyData.eqv d .none = isNo d := by cases d <;> simp [PyData.eqv, isNo]
def optP : Option PyData → PyData
  | none => .none
  | some d => d
theorem canAll : ∀ {l : List PyData}, (∀ z ∈ l, z.canLay0 = true) → PyData.canLayAll0 l = true
  | [], _ => by simp [PyData.canLayAll0]
  | a :: l, h => by
    have h1 := h a List.mem_cons_self
    have h2 := canAll (l := l) fun z hz => h z (List.mem_cons_of_mem _ hz)
    simp [PyData.canLayAll0, h1, h2]
mutual
theorem dp_l2 {K : PySem.W.Frag} {H : Hp} : ∀ (d : PyData) (v : V), tupOnly d = true → Dp K H v d → L2.Dp K H v d
  | .int i, v, _, h => by cases h; exact .int i
  | .str x, v, _, h => by cases h; exact .str x
  | .tuple ds, v, t, h => by
    cases h with
    | tup hs ha => exact .tup hs (dpAll_l2 ds _ (by simpa only [tupOnly] using t) ha)
  | .none, v, t, h => by simp [tupOnly] at t
  | .bool _, v, t, h => by simp [tupOnly] at t
  | .list _, v, t, h => by simp [tupOnly] at t
  | .dict _, v, t, h => by simp [tupOnly] at t
theorem dpAll_l2 {K : PySem.W.Frag} {H : Hp} : ∀ (ds : List PyData) (vs : List V), tupOnlyAll ds = true → DpAll K H vs ds → L2.DpAll K H vs ds
  | [], vs, _, h => by cases h; exact .nil
  | d :: ds, vs, t, h => by
    simp only [tupOnlyAll, Bool.and_eq_true] at t
    cases h with
    | cons h1 h2 => exact .cons (dp_l2 d _ t.1 h1) (dpAll_l2 ds _ t.2 h2)
end
section
open PySem PySem.Spec PyProof.Rows
theorem dps_l2o {K : PySem.W.Frag} {H : Hp} : ∀ {ds : List PyData} {vs : List V}, (∀ d ∈ ds, d = .none ∨ tupOnly d = true) → DpAll K H vs ds → L2.DpAll K H vs ds
  | [], vs, _, h => by cases h; exact .nil
  | d :: ds, vs, t, h => by
    cases h with
    | cons h1 h2 =>
      refine .cons ?_ (dps_l2o (fun z hz => t z (List.mem_cons_of_mem _ hz)) h2)
      rcases t d List.mem_cons_self with rfl | h
      · cases h1
        exact .non
      · exact dp_l2 d _ h h1
/-- None in a list of data -/
def rInNone (K : PySem.W.Frag) : R2 := fun x y H Q => x = .non ∧ ∃ p xs ds, y = .ref p ∧ SqL K H p xs ∧ DpAll K H xs ds ∧ (∀ d ∈ ds, d = .none ∨ tupOnly d = true) ∧ PyData.canLayAll0 ds = true ∧ Q (.bl (ds.any isNo)) H
theorem op_inNone {X : Cx} (hu : X.A.units + 64 < cLine) : OpR X (compareOp .In) (rInNone X.K) := by
  intro pins s σ H x y v u Q I rx ry h
  obtain ⟨rfl, p, xs, ds, rfl, hp, hds, tp, sd, q⟩ := h
  obtain ⟨as, r1⟩ := L2.Dp.reads I .none .non v .non rx
  obtain ⟨bs, r2⟩ := L2.Dp.reads I (.list ds) (.ref p) u (.lst hp (dps_l2o tp hds)) ry
  have e : (ds.any fun z => PyData.eqv z .none) = ds.any isNo := by congr 1; funext z; exact isNo_eqv z
  refine SeqAt.in_list_reads r2 r1 sd (by decide) ?_ ?_
  · have : min (PyData.depthAll ds) (PyData.depth .none) ≤ PyData.depth .none := Nat.min_le_right _ _
    have d0 : PyData.depth .none ≤ 1 := by decide
    omega
  · rw [e]
    exact ⟨.bl _, H, I, rfl, q⟩
end
section
open PySem.Spec PyProof.Rows LamX
variable {P : Program} {w : World} {K : PySem.W.Frag} {mg : Str → Option Value} {base : Heap} {f : Addr} {fd : FuncData}
def spLPlace (K : PySem.W.Frag) (n : Nat) : Sp := fun vs H Q _ => ∃ (z : Str) (m : Nat), vs = [.str z, .int (m : Nat), .int (4 - (n : Nat))] ∧ z.length ≤ 1000 ∧ ∀ v H', Same H H' → Dp K H' v (optP (placeF (readF n) m z.cps.toList)) → Q v H'
def spLRead (K : PySem.W.Frag) (n : Nat) : Sp := fun vs H Q _ => ∃ (z : Str), vs = [.str z, .int (5 - (n : Nat))] ∧ z.length ≤ 1000 ∧ ∀ v H', Same H H' → Dp K H' v (optP (readF n z.cps.toList)) → Q v H'
abbrev NPl : List Str := ["_law_text_here", "_law_many", "_law_deep_here", "_law_number_here"]
theorem scLPlace : FnScope NPl ["_law_text_here", "_law_many", "_law_deep_here"] (defScope sLPlace) := ⟨rfl, rfl, rfl, by decide +kernel, rfl, by decide +kernel, by decide +kernel⟩
set_option maxHeartbeats 0 in
theorem ok_lplace {k n : Nat} (F : Fun K "_law_place" "_law_place" sLPlace f fd) (cN : Cal P w K mg base "_law_number" k ["_law_word_here"] spLNumber) (cR : Cal P w K mg base "_law_read" k ["_law_text_here", "_law_deep_here"] (spLRead K n)) : FnOk P w K mg base CX0 (k + 1) f fd ["_law_text_here", "_law_many", "_law_deep_here"] (spLPlace K n) := by
  refine F.ok scLPlace (fun vs H Q E h => ?_) (fun cdv A outer s H vs Q E hr h => ?_)
  · obtain ⟨z, m, rfl, _⟩ := h
    rfl
  obtain ⟨z, m, rfl, hz, q⟩ := h
  have zs : z.length ≤ sizeLine := Nat.le_trans hz (by decide)
  have zl : z.cps.toList.length = z.length := Array.length_toList
  have z40 : ("(" : Str).cps.toList = [40] := by decide +kernel
  have z41 : (")" : Str).cps.toList = [41] := by decide +kernel
  have z126 : ("~" : Str).cps.toList = [126] := by decide +kernel
  refine ⟨_, pss_cons (ps_if (pt_cmpR op_eq (pe_slice sl_str (pv 0) po_none (po_some pe_int)) pe_str (nomark _))
      (pss_one (ps_ret (pe_ifExp (pt_cmpR op_eq (pe_slice sl_str (pv 0) (po_some (pe_un un_neg pe_int)) po_none) pe_str (nomark _)) (pe_cal cR hr rfl (pa_cons (pe_slice sl_str (pv 0) (po_some pe_int) (po_some (pe_un un_neg pe_int))) (pa_cons (pe_op op_add (pv 2) pe_int) pa_nil))) pe_non))) pss_nil)
    (pss_cons (ps_set (i := 3) scLPlace.nd rfl (.inl rfl) (pe_cal cN hr rfl (pa_cons (pe_ifExp (pt_cmpR op_eq (pe_slice sl_str (pv 0) po_none (po_some pe_int)) pe_str (nomark _)) (pe_slice sl_str (pv 0) (po_some pe_int) po_none) (pv 0)) pa_nil)))
    (pss_cons (ps_if (pt_cmpR op_isN (pv 3) pe_non (nomark _)) (pss_one (ps_ret pe_non)) pss_nil)
    (pss_cons (ps_if (pt_cmpR op_eq (pe_slice sl_str (pv 0) po_none (po_some pe_int)) pe_str (nomark _))
      (pss_one (ps_ret (pe_ifExp (pt_chain op_le op_lt pe_int (pv 3) (pv 1)) (pe_tup (pa_cons pe_str (pa_cons (pv 3) pa_nil))) pe_non))) pss_nil)
    (pss_one (ps_ret (pe_ifExp (pt_chain op_lt op_lt (pe_un un_neg pe_int) (pv 3) pe_int) (pv 3) pe_non)))))), ?_⟩
  refine ⟨_, rfl, _, rfl, z, rfl, zs, rfl, _, rfl, ?_⟩
  by_cases h40 : z.cps.toList.head? = some 40
  · have ep : placeF (readF n) m z.cps.toList = if z.cps.toList.getLast? = some 41 then readF n ((z.cps.toList.drop 1).dropLast) else none := by
      unfold placeF
      rw [if_pos h40]
    rw [ep] at q
    refine ifT ((str_is (cut_to z 1) z40).trans (decide_eq_true (take1.mpr h40))) ?_
    by_cases h41 : z.cps.toList.getLast? = some 41
    · rw [if_pos h41] at q
      refine ⟨_, rfl, _, rfl, _, rfl, z, rfl, zs, rfl, _, rfl, ?_⟩
      refine ifT ((str_is (cut_end z) z41).trans (decide_eq_true (last1.mpr h41))) ?_
      have ci := cut_in z
      have lc : (cutS z (some 1) (some (-1))).cps.toList.length = (cutS z (some 1) (some (-1))).length := Array.length_toList
      rw [ci, List.length_dropLast, List.length_drop] at lc
      refine ⟨_, rfl, _, rfl, _, rfl, _, rfl, z, rfl, zs, _, rfl, _, _, rfl, rfl, cutS z (some 1) (some (-1)), (by show [V.str _, V.int (4 - (n : Int) + 1)] = _; rw [show (4 : Int) - (n : Int) + 1 = 5 - (n : Int) by omega]), by omega, fun v H' s hv => ?_⟩
      rw [ci] at hv
      exact q v H' s hv
    · rw [if_neg h41] at q
      refine ⟨_, rfl, _, rfl, _, rfl, z, rfl, zs, rfl, _, rfl, ?_⟩
      exact ifF ((str_is (cut_end z) z41).trans (decide_eq_false (fun e => h41 (last1.mp e)))) (q .non H (Same.refl H) .non)
  · have ep : placeF (readF n) m z.cps.toList = (numF (if z.cps.toList.head? = some 126 then z.cps.toList.drop 1 else z.cps.toList)).bind fun n =>
        if z.cps.toList.head? = some 126 then (if 0 ≤ n ∧ n < (m : Int) then some (.tuple [.str "tie", .int n]) else none) else if -10000 < n ∧ n < 10000 then some (.int n) else none := by
      unfold placeF
      rw [if_neg h40]
    rw [ep] at q
    refine ifF ((str_is (cut_to z 1) z40).trans (decide_eq_false (fun e => h40 (take1.mp e)))) ?_
    by_cases h126 : z.cps.toList.head? = some 126
    · have ec := cut_fr z 1
      have lc : (cutS z (some ((1 : Nat) : Int)) none).cps.toList.length = (cutS z (some ((1 : Nat) : Int)) none).length := Array.length_toList
      rw [ec, List.length_drop] at lc
      rw [if_pos h126] at q
      refine ⟨_, rfl, _, rfl, z, rfl, zs, rfl, _, rfl, ifT ((str_is (cut_to z 1) z126).trans (decide_eq_true (take1.mpr h126))) ⟨_, rfl, _, rfl, z, rfl, zs, cutS z (some ((1 : Nat) : Int)) none, rfl, by omega, fun H1 s1 => ?_⟩⟩
      rw [ec]
      cases e : numF (z.cps.toList.drop 1) with
      | none =>
        rw [e] at q
        exact ⟨_, rfl, rfl, _, rfl, ifT rfl (q .non H1 s1 .non)⟩
      | some i =>
        rw [e] at q
        have q : ∀ v H', Same H H' → Dp K H' v (optP (if z.cps.toList.head? = some 126 then (if 0 ≤ i ∧ i < (m : Int) then some (.tuple [.str "tie", .int i]) else none) else if -10000 < i ∧ i < 10000 then some (.int i) else none)) → Q v H' := q
        rw [if_pos h126] at q
        refine ⟨_, rfl, rfl, _, rfl, ifF rfl ⟨_, rfl, _, rfl, z, rfl, zs, rfl, _, rfl, ifT ((str_is (cut_to z 1) z126).trans (decide_eq_true (take1.mpr h126))) ?_⟩⟩
        have no : ¬ (0 ≤ i ∧ i < (m : Int)) → Q .non H1 := fun z => by
          rw [if_neg z] at q
          exact q .non H1 s1 .non
        refine ⟨_, rfl, _, _, rfl, rfl, _, rfl, ?_⟩
        by_cases c1 : 0 ≤ i
        · refine ifT (decide_eq_true c1) ⟨_, rfl, _, _, rfl, rfl, _, rfl, ?_⟩
          by_cases c2 : i < (m : Int)
          · refine ifT (decide_eq_true c2) ⟨_, rfl, by show 2 ≤ sizeLine; decide, fun a ha => ?_⟩
            rw [if_pos ⟨c1, c2⟩] at q
            exact q _ _ (s1.trans (same_new ha _)) (.tup (SqT.of upd_same) (.cons (.str _) (.cons (.int _) .nil)))
          · exact ifF (decide_eq_false c2) (no fun z => c2 z.2)
        · exact ifF (decide_eq_false c1) ⟨_, rfl, ifF rfl (no fun z => c1 z.1)⟩
    · rw [if_neg h126] at q
      refine ⟨_, rfl, _, rfl, z, rfl, zs, rfl, _, rfl, ifF ((str_is (cut_to z 1) z126).trans (decide_eq_false (fun e => h126 (take1.mp e)))) ⟨_, rfl, z, rfl, hz, fun H1 s1 => ?_⟩⟩
      cases e : numF z.cps.toList with
      | none =>
        rw [e] at q
        exact ⟨_, rfl, rfl, _, rfl, ifT rfl (q .non H1 s1 .non)⟩
      | some i =>
        rw [e] at q
        have q : ∀ v H', Same H H' → Dp K H' v (optP (if z.cps.toList.head? = some 126 then (if 0 ≤ i ∧ i < (m : Int) then some (.tuple [.str "tie", .int i]) else none) else if -10000 < i ∧ i < 10000 then some (.int i) else none)) → Q v H' := q
        rw [if_neg h126] at q
        refine ⟨_, rfl, rfl, _, rfl, ifF rfl ⟨_, rfl, _, rfl, z, rfl, zs, rfl, _, rfl, ifF ((str_is (cut_to z 1) z126).trans (decide_eq_false (fun e => h126 (take1.mp e)))) ?_⟩⟩
        have no : ¬ (-10000 < i ∧ i < 10000) → Q .non H1 := fun z => by
          rw [if_neg z] at q
          exact q .non H1 s1 .non
        refine ⟨_, rfl, _, rfl, _, _, rfl, rfl, _, rfl, ?_⟩
        by_cases c1 : -10000 < i
        · refine ifT (decide_eq_true c1) ⟨_, _, rfl, rfl, _, rfl, ?_⟩
          by_cases c2 : i < 10000
          · refine ifT (decide_eq_true c2) ⟨_, rfl, ?_⟩
            rw [if_pos ⟨c1, c2⟩] at q
            exact q _ _ s1 (.int i)
          · exact ifF (decide_eq_false c2) (no fun z => c2 z.2)
        · exact ifF (decide_eq_false c1) ⟨_, rfl, ifF rfl (no fun z => c1 z.1)⟩
end
/-! the law's reader: boxes of places -/
theorem allF_snoc {f : List Nat → Option PyData} : ∀ {l : List (List Nat)} {ds : List PyData} {a : List Nat} {x : PyData}, allF f l = some ds → f a = some x → allF f (l ++ [a]) = some (ds ++ [x])
  | [], ds, a, x, h, hx => by
    cases h
    show ((f a).bind fun x => ([] : List (List Nat)) |> fun l => (allF f l).map (x :: ·)) = _
    rw [hx]
    rfl
  | b :: l, ds, a, x, h, hx => by
    have h : ((f b).bind fun y => (allF f l).map (y :: ·)) = some ds := h
    cases e : f b with
    | none => rw [e] at h; cases h
    | some y =>
      rw [e] at h
      have h : (allF f l).map (y :: ·) = some ds := h
      cases e2 : allF f l with
      | none => rw [e2] at h; cases h
      | some es =>
        rw [e2] at h
        cases h
        show ((f b).bind fun y => (allF f (l ++ [a])).map (y :: ·)) = _
        rw [e, allF_snoc e2 hx]
        rfl
theorem allF_none {f : List Nat → Option PyData} : ∀ {l : List (List Nat)} {a : List Nat}, a ∈ l → f a = none → allF f l = none
  | b :: l, a, hm, hx => by
    show ((f b).bind fun y => (allF f l).map (y :: ·)) = none
    rcases List.mem_cons.mp hm with rfl | hm
    · rw [hx]
      rfl
    · rw [allF_none hm hx]
      cases f b <;> rfl
theorem boxF_is {rd : List Nat → Option PyData} {m : Nat} {b : List Nat} : (boxF rd m b = if (partsF b 0 []).length = 3 ∧ (((partsF b 0 []).map fun x => optP (placeF rd m x)).any isNo = false) then some (.tuple ((partsF b 0 []).map fun x => optP (placeF rd m x))) else none) ∨ ∃ x ∈ partsF b 0 [], ∃ d, placeF rd m x = some d ∧ isNo d = true := by
  unfold boxF
  match partsF b 0 [] with
  | [] => exact .inl (by simp)
  | [x] => exact .inl (by simp)
  | [x, y] => exact .inl (by simp)
  | x :: y :: z :: u :: r => exact .inl (by simp)
  | [x, y, z] =>
    have one : ∀ w ∈ [x, y, z], (∃ d, placeF rd m w = some d ∧ isNo d = true) ∨ (isNo (optP (placeF rd m w)) = (placeF rd m w).isNone) := fun w _ => by
      cases e : placeF rd m w with
      | none => exact .inr rfl
      | some d =>
        cases hd : isNo d with
        | true => exact .inl ⟨d, rfl, hd⟩
        | false => exact .inr hd
    rcases one x (by simp) with h | hx
    · exact .inr ⟨x, by simp, h⟩
    rcases one y (by simp) with h | hy
    · exact .inr ⟨y, by simp, h⟩
    rcases one z (by simp) with h | hz
    · exact .inr ⟨z, by simp, h⟩
    refine .inl ?_
    show ((placeF rd m x).bind fun p => (placeF rd m y).bind fun q => (placeF rd m z).map fun r => PyData.tuple [p, q, r]) = if ([x, y, z].length = 3 ∧ (isNo (optP (placeF rd m x)) || (isNo (optP (placeF rd m y)) || (isNo (optP (placeF rd m z)) || false))) = false) then some (PyData.tuple [optP (placeF rd m x), optP (placeF rd m y), optP (placeF rd m z)]) else none
    revert hx hy hz
    generalize placeF rd m x = px
    generalize placeF rd m y = py
    generalize placeF rd m z = pz
    intro hx hy hz
    rw [hx, hy, hz]
    cases px with
    | none => rfl
    | some p =>
      cases py with
      | none => rfl
      | some q =>
        cases pz with
        | none => rfl
        | some r => rfl
theorem placeF_pl {n m : Nat} {x : List Nat} {d : PyData} (h : placeF (readF n) m x = some d) : plB (grB n) m d = true := (placeF_sound (fun x d => readF_sound n x d) h).1
theorem pl_notno {n m : Nat} {d : PyData} (h : plB (grB n) m d = true) : isNo d = false := by
  cases d <;> first | rfl | cases h
theorem boxF_eq {n m : Nat} {b : List Nat} : boxF (readF n) m b = if (partsF b 0 []).length = 3 ∧ (((partsF b 0 []).map fun x => optP (placeF (readF n) m x)).any isNo = false) then some (.tuple ((partsF b 0 []).map fun x => optP (placeF (readF n) m x))) else none :=
  boxF_is.elim id fun ⟨x, _, d, h1, h2⟩ => by
    rw [pl_notno (placeF_pl h1)] at h2
    cases h2
section
open PySem.Spec PyProof.Rows LamX
variable {P : Program} {w : World} {K : PySem.W.Frag} {mg : Str → Option Value} {base : Heap} {f : Addr} {fd : FuncData}
theorem optP_tup {n m : Nat} {x : List Nat} : optP (placeF (readF n) m x) = .none ∨ tupOnly (optP (placeF (readF n) m x)) = true := by
  cases e : placeF (readF n) m x with
  | none => exact .inl rfl
  | some d => exact .inr (pl_shp (grB_shp n) (placeF_pl e)).1
theorem optP_lay {n m : Nat} {x : List Nat} : (optP (placeF (readF n) m x)).canLay0 = true := by
  cases e : placeF (readF n) m x with
  | none => show PyData.canLay0 .none = true; decide
  | some d => exact (pl_shp (grB_shp n) (placeF_pl e)).2.1
theorem boxes_len : ∀ {n : Nat} {l : List Nat} {bs : List (List Nat)}, boxesF n l = some bs → ∀ b ∈ bs, b.length ≤ l.length := fun {n l bs} h b hb => by
  rw [boxesF_sound h]
  clear h
  induction bs with
  | nil => cases hb
  | cons c bs ih =>
    rw [List.flatMap_cons, List.length_append, List.length_cons, List.length_append]
    rcases List.mem_cons.mp hb with rfl | hb
    · omega
    · have := ih hb
      omega
theorem joinL_len : ∀ {l : List (List Nat)} {x : List Nat}, x ∈ l → x.length ≤ (TL.joinL [32] l).length
  | [p], x, h => by
    rw [List.mem_singleton.mp h]
    exact Nat.le_refl _
  | p :: q :: r, x, h => by
    show x.length ≤ (p ++ ([32] ++ TL.joinL [32] (q :: r))).length
    rw [List.length_append, List.length_append]
    rcases List.mem_cons.mp h with rfl | h
    · omega
    · have := joinL_len h
      omega
theorem parts_len {b x : List Nat} (h : x ∈ partsF b 0 []) : x.length ≤ b.length := by
  have e := partsF_sound b 0 []
  have := joinL_len h
  rw [e, List.nil_append] at this
  exact this
theorem parts_many : ∀ {l : List (List Nat)}, l.length ≤ (TL.joinL [32] l).length + 1
  | [] => Nat.zero_le _
  | [p] => by show 1 ≤ _; omega
  | p :: q :: r => by
    have := parts_many (l := q :: r)
    show (q :: r).length + 1 ≤ (p ++ ([32] ++ TL.joinL [32] (q :: r))).length + 1
    rw [List.length_append, List.length_append]
    show (q :: r).length + 1 ≤ p.length + (1 + _) + 1
    omega
abbrev NRd : List Str := ["_law_text_here", "_law_deep_here", "_law_boxes_here", "_law_found", "_law_box", "_law_places", "_law_part"]
theorem scLRead : FnScope NRd ["_law_text_here", "_law_deep_here"] (defScope sLRead) := ⟨rfl, rfl, rfl, by decide +kernel, rfl, by decide +kernel, by decide +kernel⟩
/-- what the boxes so far have given -/
structure RdI (K : PySem.W.Frag) (H G : Hp) (L : Addr) (vs : List V) (ds : List PyData) : Prop where
  s : Same H G
  at_ : G L = some (.lst vs)
  dp : DpAll K G vs ds
  tp : ∀ d ∈ ds, tupOnly d = true
theorem dps_kto {K : PySem.W.Frag} {H H' : Hp} (kt : KT H H') : ∀ {ds : List PyData} {vs : List V}, (∀ d ∈ ds, d = .none ∨ tupOnly d = true) → DpAll K H vs ds → DpAll K H' vs ds
  | [], vs, _, h => by cases h; exact .nil
  | d :: ds, vs, t, h => by
    cases h with
    | cons h1 h2 =>
      refine .cons ?_ (dps_kto kt (fun z hz => t z (List.mem_cons_of_mem _ hz)) h2)
      rcases t d List.mem_cons_self with rfl | h
      · cases h1
        exact .non
      · exact dp_kt kt d _ h h1
theorem shp_box {n m : Nat} {b : List Nat} {d : PyData} (h : boxF (readF n) m b = some d) : tupOnly d = true := bx_tup (boxF_sound (fun x d => readF_sound n x d) h).1
def rLnS (K : PySem.W.Frag) : List V → Hp → VK → Prop := fun xs H Q => ∃ p ys, xs = [.ref p] ∧ (SqL K H p ys ∨ SqT K H p ys) ∧ Q (.int ys.length) H
set_option maxHeartbeats 0 in
theorem ok_lread {k n : Nat} (F : Fun K "_law_read" "_law_read" sLRead f fd) (T : Free mg) (cB : Cal P w K mg base "_law_boxes" k ["_law_text_here"] spLBoxes) (cPt : Cal P w K mg base "_law_parts" k ["_law_text_here"] spLParts) (cPl : Cal P w K mg base "_law_place" k ["_law_text_here", "_law_many", "_law_deep_here"] (spLPlace K n)) : FnOk P w K mg base CX0 (k + 1) f fd ["_law_text_here", "_law_deep_here"] (spLRead K (n + 1)) := by
  refine F.ok scLRead (fun vs H Q E h => ?_) (fun cdv A outer s H vs Q E hr h => ?_)
  · obtain ⟨z, rfl, _⟩ := h
    rfl
  obtain ⟨z, rfl, hz, q⟩ := h
  have zl : z.cps.toList.length = z.length := Array.length_toList
  refine ⟨_, pss_cons (ps_set (i := 2) scLRead.nd rfl (.inr rfl) (pe_cal cB hr rfl (pa_cons (pv 0) pa_nil)))
    (pss_cons (ps_if (PW.pt (pw_or (pt_cmpR op_isN (pv 2) pe_non (nomark _)) (pw_or (pt_not (pt_chain op_le op_le pe_int (pe_callB call_len_seq rfl T.len PySem.boot_len (pa_cons (pv 2) pa_nil)) pe_int)) (pw_or1 (pt_cmpR op_gt (pv 1) pe_int (nomark _)))))) (pss_one (ps_ret pe_non)) pss_nil)
    (pss_cons (ps_set (i := 3) scLRead.nd rfl (.inl rfl) (pe_lst pa_nil))
    (pss_cons (ps_for PassesOwn.never rfl (pi_list (pv 2)) (pg_name (i := 4) scLRead.nd rfl (.inl rfl))
      (pss_cons (ps_setLc (i := 5) (own := [("_law_part", 6)]) (g := gName 6) (tt := tYes) (te := tCall (spLPlace K n) [] E0 (tCons (tVar 6) (tCons (tCB (rLnS K) (tCons (tVar 2) tNil)) (tCons (tVar 1) tNil)))) rfl scLRead.nd rfl rfl rfl (pi_list (pe_cal cPt hr rfl (pa_cons (pv 4) pa_nil)))
          (blkOk_by (own := [("_law_part", 6)]) (N := NRd) (sc := defScope sLRead) (by decide +kernel))
          (fun _ _ _ _ _ => pg_name (i := 6) scLRead.nd rfl (Or.inl rfl)) (fun _ _ _ _ _ => pts_nil) (fun _ _ _ _ _ => pe_cal cPl hr rfl (pa_cons (pv 6) (pa_cons (pe_callB call_len_seq rfl T.len PySem.boot_len (pa_cons (pv 2) pa_nil)) (pa_cons (pv 1) pa_nil)))))
      (pss_cons (ps_if (PW.pt (pw_or (pt_cmpR op_ne (pe_callB call_len_seq rfl T.len PySem.boot_len (pa_cons (pv 5) pa_nil)) pe_int (nomark _)) (pw_or1 (pt_cmpR (op_inNone hr.units) pe_non (pv 5) rfl)))) (pss_one (ps_ret pe_non)) pss_nil)
      (pss_one (ps_expr (pe_bm PySem.F.plainAttrs_list PySem.F.slot_list_append PySem.F.type_list_append mt_append (pv 3) (pa_cons (pe_callTy call_tuple_of rfl T.tuple (by decide +kernel) (pa_cons (pv 5) pa_nil)) pa_nil)))))))
    (pss_one (ps_ret (pe_callTy call_tuple_of rfl T.tuple (by decide +kernel) (pa_cons (pv 3) pa_nil))))))), ?_⟩
  have no : readF (n + 1) z.cps.toList = none → ∀ G, Same H G → Q .non G := fun e G s => by
    rw [e] at q
    exact q .non G s .non
  have e0 : readF (n + 1) z.cps.toList = (boxesF z.length z.cps.toList).bind fun bs => if 1 ≤ bs.length ∧ bs.length ≤ 8 then (allF (boxF (readF n) bs.length) bs).map PyData.tuple else none := by
    show (boxesF z.cps.toList.length z.cps.toList).bind _ = _
    rw [zl]
  refine ⟨_, rfl, z, rfl, hz, fun eb H1 s1 => ?_, fun bs L0 H1 eb s1 n0 g0 => ?_⟩
  · exact ⟨_, rfl, rfl, _, rfl, ifT rfl (no (by rw [e0, eb]; rfl) H1 s1)⟩
  have e1 : readF (n + 1) z.cps.toList = if 1 ≤ bs.length ∧ bs.length ≤ 8 then (allF (boxF (readF n) bs.length) bs).map PyData.tuple else none := by
    rw [e0, eb]
    rfl
  have lbs : (bs.map fun x => V.str (stS x)).length = bs.length := List.length_map _
  refine ⟨_, rfl, rfl, _, rfl, ifF rfl ?_⟩
  refine ⟨_, rfl, L0, _, rfl, .inl (SqL.of g0), _, _, rfl, rfl, _, rfl, ?_⟩
  rw [lbs]
  by_cases b1 : 1 ≤ bs.length
  case neg => exact ifF (decide_eq_false (by omega)) ⟨_, rfl, ifT rfl (no (by rw [e1, if_neg (fun z => b1 z.1)]) H1 s1)⟩
  refine ifT (decide_eq_true (by omega)) ⟨_, _, rfl, rfl, _, rfl, ?_⟩
  by_cases b8 : bs.length ≤ 8
  case neg =>
    rw [decide_eq_false (show ¬ ((bs.length : Int) ≤ 8) by omega)]
    exact ifT rfl (no (by rw [e1, if_neg (fun z => b8 z.2)]) H1 s1)
  rw [decide_eq_true (show (bs.length : Int) ≤ 8 by omega)]
  rw [if_pos ⟨b1, b8⟩] at e1
  refine ifF rfl ⟨_, rfl, _, _, rfl, rfl, _, rfl, ?_⟩
  by_cases d4 : (5 : Int) - ((n + 1 : Nat) : Int) > 4
  case pos => omega
  refine ifF (decide_eq_false d4) ⟨small (Nat.zero_le _), fun L hL => ?_⟩
  have sL := same_new hL (.lst [])
  refine ⟨_, rfl, L0, rfl, ⟨_, SqL.of (sL _ _ g0)⟩, ?_⟩
  have deep : (5 : Int) - ((n + 1 : Nat) : Int) = 4 - (n : Int) := by omega
  refine for_list (xs := bs.map fun x => V.str (stS x)) (fun i σ G => ∃ (o4 o5 : Option V) (vs : List V) (ds : List PyData), σ = [some (.str z), some (.int (5 - ((n + 1 : Nat) : Int))), some (.ref L0), some (.ref L), o4, o5, none] ∧ Same H1 G ∧ G L = some (.lst vs) ∧ DpAll K G vs ds ∧ (∀ d ∈ ds, tupOnly d = true) ∧ allF (boxF (readF n) bs.length) (bs.take i) = some ds ∧ vs.length ≤ i)
    ⟨none, none, [], [], rfl, sL, upd_same, .nil, fun d hd => (by cases hd), rfl, Nat.le_refl _⟩ (fun i σ G _ h => ?_) (fun i v σ G hv h => ?_) (fun σ G h => ?_)
  · obtain ⟨_, _, _, _, _, s, _⟩ := h
    exact SqL.of (s _ _ g0)
  · obtain ⟨o4, o5, vs, ds, rfl, sG, gL, hds, tp, eall, lv⟩ := h
    obtain ⟨b, hb, rfl⟩ : ∃ b, bs[i]? = some b ∧ V.str (stS b) = v := by
      rw [List.getElem?_map] at hv
      cases hb : bs[i]? with
      | none => rw [hb] at hv; cases hv
      | some b => rw [hb] at hv; exact ⟨b, rfl, Option.some.inj hv⟩
    have hi : i < bs.length := (List.getElem?_eq_some_iff.mp hb).1
    have hbm := List.mem_of_getElem? hb
    have lb : b.length ≤ 1000 := by
      have := boxes_len eb b hbm
      omega
    have lsb : (stS b).length ≤ 1000 := by rw [stS_len]; exact lb
    have hdr : bs.take (i + 1) = bs.take i ++ [b] := take_more hb
    have none_of : boxF (readF n) bs.length b = none → ∀ G', Same H G' → Q .non G' := fun e => no (by rw [e1, allF_none hbm e]; rfl)
    refine ⟨_, rfl, ?_⟩
    refine ⟨stS b, rfl, lsb, fun Lp G1 sp np gp => ⟨Lp, rfl, ⟨_, SqL.of gp⟩, fun D hD => ?_⟩⟩
    have gp : G1 Lp = some (.lst ((partsF b 0 []).map fun x => V.str (stS x))) := gp
    have lps : ((partsF b 0 []).map fun x => V.str (stS x)).length = (partsF b 0 []).length := List.length_map _
    have lp1 : (partsF b 0 []).length ≤ 1001 := by
      have := parts_many (l := partsF b 0 [])
      rw [partsF_sound, List.nil_append] at this
      omega
    have s01 := sG.trans sp
    refine lc_list (xs := (partsF b 0 []).map fun x => V.str (stS x)) (fun j G2 => Same G1 G2 ∧ ∃ acc, G2 D = some (.lst acc) ∧ DpAll K G2 acc (((partsF b 0 []).take j).map fun x => optP (placeF (readF n) bs.length x)) ∧ acc.length ≤ j)
      ⟨same_new hD _, [], upd_same, .nil, Nat.le_refl _⟩ (fun j G2 _ h => SqL.of (h.1 _ _ gp)) (fun j v G2 hv h => ?_) (fun G2 h => ?_)
    · obtain ⟨s2, acc, gD, hacc, la⟩ := h
      obtain ⟨x, hx, rfl⟩ : ∃ x, (partsF b 0 [])[j]? = some x ∧ V.str (stS x) = v := by
        rw [List.getElem?_map] at hv
        cases hb : (partsF b 0 [])[j]? with
        | none => rw [hb] at hv; cases hv
        | some x => rw [hb] at hv; exact ⟨x, rfl, Option.some.inj hv⟩
      have hj : j < (partsF b 0 []).length := (List.getElem?_eq_some_iff.mp hx).1
      have lx : (stS x).length ≤ 1000 := by
        rw [stS_len]
        exact Nat.le_trans (parts_len (List.mem_of_getElem? hx)) lb
      refine ⟨rfl, yesG ⟨_, rfl, _, rfl, L0, _, rfl, .inl (SqL.of (s2 _ _ (s01 _ _ g0))), _, rfl, stS x, bs.length, (by show [V.str (stS x), V.int (((bs.map fun x => V.str (stS x)).length : Nat) : Int), V.int (5 - ((n + 1 : Nat) : Int))] = _; rw [deep, lbs]), lx, fun v G3 s3 hv3 => ⟨acc, s3 _ _ gD, ?_, same_upd2 (s2.trans s3) hD, acc ++ [v], upd_same, ?_, ?_⟩⟩⟩
      · exact Nat.lt_of_lt_of_le (show acc.length < 1002 by omega) (by decide)
      · rw [take_more hx, List.map_append]
        have kt : KT G3 (upd G3 D (.lst (acc ++ [v]))) := KT.upd (s3 _ _ gD)
        exact dps_kto kt (fun d hd => by
          rcases List.mem_append.mp hd with hd | hd
          · obtain ⟨y, _, rfl⟩ := List.mem_map.mp hd
            exact optP_tup
          · obtain ⟨y, _, rfl⟩ := List.mem_map.mp hd
            exact optP_tup) (dpAll_snoc hv3 (dps_same s3 hacc))
      · rw [List.length_append]
        exact Nat.succ_le_succ la
    obtain ⟨s2, acc, gD, hacc, _⟩ := h
    rw [lps, List.take_length] at hacc
    have lacc := dpAll_len hacc
    rw [List.length_map] at lacc
    have sH := (s1.trans s01).trans s2
    refine ⟨_, rfl, D, acc, rfl, .inl (SqL.of gD), rfl, _, rfl, ?_⟩
    have bq := boxF_eq (n := n) (m := bs.length) (b := b)
    by_cases l3 : (partsF b 0 []).length = 3
    case neg =>
      refine ifT ?_ (none_of (by rw [bq, if_neg (fun z => l3 z.1)]) G2 sH)
      rw [decide_eq_false (fun e => by have := V.int.inj e; omega)]
      rfl
    refine ifF ?_ ?_
    · rw [show decide (V.int (acc.length : Nat) = V.int 3) = true from decide_eq_true (by rw [lacc, l3]; rfl)]
      rfl
    refine ⟨_, rfl, rfl, D, acc, _, rfl, SqL.of gD, hacc, (fun d hd => by
      obtain ⟨y, _, rfl⟩ := List.mem_map.mp hd
      exact optP_tup), canAll (fun d hd => by
      obtain ⟨y, _, rfl⟩ := List.mem_map.mp hd
      exact optP_lay), _, rfl, ?_⟩
    cases hany : ((partsF b 0 []).map fun x => optP (placeF (readF n) bs.length x)).any isNo with
    | true => exact ifT rfl (none_of (by rw [bq, if_neg (fun z => by rw [hany] at z; cases z.2)]) G2 sH)
    | false =>
    have bs_ : boxF (readF n) bs.length b = some (.tuple ((partsF b 0 []).map fun x => optP (placeF (readF n) bs.length x))) := by rw [bq, if_pos ⟨l3, hany⟩]
    have gL2 := s2 _ _ (sp _ _ gL)
    refine ifF rfl ⟨_, rfl, .inl ⟨rfl, _, SqL.of gL2⟩, _, rfl, D, acc, rfl, .inl ⟨SqL.of gD, fun a ha => ?_⟩⟩
    have sa := same_new ha (.tup acc)
    have gL3 := sa _ _ gL2
    refine ⟨L, vs, _, rfl, rfl, gL3, Nat.lt_of_lt_of_le (show vs.length < 1000 by omega) (by decide), ?_⟩
    have kt : KT (upd G2 a (.tup acc)) (upd (upd G2 a (.tup acc)) L (.lst (vs ++ [.ref a]))) := KT.upd gL3
    have td := shp_box bs_
    have tp' : ∀ d ∈ ds ++ [PyData.tuple ((partsF b 0 []).map fun x => optP (placeF (readF n) bs.length x))], tupOnly d = true := fun d hd => by
      rcases List.mem_append.mp hd with hd | hd
      · exact tp d hd
      · rw [List.mem_singleton.mp hd]
        exact td
    refine ⟨_, _, vs ++ [.ref a], ds ++ [.tuple ((partsF b 0 []).map fun x => optP (placeF (readF n) bs.length x))], rfl, same_upd2 (((sG.trans sp).trans s2).trans sa) hL, upd_same, ?_, tp', ?_, ?_⟩
    · exact dpAll_kt kt _ _ (tupOnly_all tp') (dpAll_snoc (.tup (SqT.of upd_same) (dps_same sa hacc)) (dps_same (sp.trans (s2.trans sa)) hds))
    · rw [hdr]
      exact allF_snoc eall bs_
    · rw [List.length_append]
      exact Nat.succ_le_succ lv
  · obtain ⟨o4, o5, vs, ds, rfl, sG, gL, hds, tp, eall, lv⟩ := h
    rw [lbs] at eall
    rw [show bs.take bs.length = bs from List.take_length] at eall
    refine ⟨_, rfl, L, vs, rfl, .inl ⟨SqL.of gL, fun a ha => ?_⟩⟩
    have sa := same_new ha (.tup vs)
    refine q _ _ ((s1.trans sG).trans sa) ?_
    rw [e1, eall]
    exact .tup (SqT.of upd_same) (dps_same sa hds)
end
/-! the law's reader below its last level -/
section
open PySem.Spec PyProof.Rows LamX
variable {P : Program} {w : World} {K : PySem.W.Frag} {mg : Str → Option Value} {base : Heap} {f : Addr} {fd : FuncData}
theorem ok_lread0 {k : Nat} (F : Fun K "_law_read" "_law_read" sLRead f fd) (T : Free mg) (cB : Cal P w K mg base "_law_boxes" k ["_law_text_here"] spLBoxes) : FnOk P w K mg base CX0 (k + 1) f fd ["_law_text_here", "_law_deep_here"] (spLRead K 0) := by
  refine F.ok scLRead (fun vs H Q E h => ?_) (fun cdv A outer s H vs Q E hr h => ?_)
  · obtain ⟨z, rfl, _⟩ := h
    rfl
  obtain ⟨z, rfl, hz, q⟩ := h
  refine ⟨_, pss_cons (ps_set (i := 2) scLRead.nd rfl (.inr rfl) (pe_cal cB hr rfl (pa_cons (pv 0) pa_nil)))
    (pss_cons (ps_if (PW.pt (pw_or (pt_cmpR op_isN (pv 2) pe_non (nomark _)) (pw_or (pt_not (pt_chain op_le op_le pe_int (pe_callB call_len_seq rfl T.len PySem.boot_len (pa_cons (pv 2) pa_nil)) pe_int)) (pw_or1 (pt_cmpR op_gt (pv 1) pe_int (nomark _)))))) (pss_one (ps_ret pe_non)) pss_nil) pss_never), ?_⟩
  have no : ∀ G, Same H G → Q .non G := fun G s => q .non G s .non
  refine ⟨_, rfl, z, rfl, hz, fun eb H1 s1 => ?_, fun bs L0 H1 eb s1 n0 g0 => ?_⟩
  · exact ⟨_, rfl, rfl, _, rfl, ifT rfl (no H1 s1)⟩
  refine ⟨_, rfl, rfl, _, rfl, ifF rfl ?_⟩
  refine ⟨_, rfl, L0, _, rfl, .inl (SqL.of g0), _, _, rfl, rfl, _, rfl, ?_⟩
  by_cases b1 : (1 : Int) ≤ ((bs.map fun x => V.str (stS x)).length : Int)
  case neg => exact ifF (decide_eq_false b1) ⟨_, rfl, ifT rfl (no H1 s1)⟩
  refine ifT (decide_eq_true b1) ⟨_, _, rfl, rfl, _, rfl, ?_⟩
  by_cases b8 : ((bs.map fun x => V.str (stS x)).length : Int) ≤ 8
  case neg =>
    rw [decide_eq_false b8]
    exact ifT rfl (no H1 s1)
  rw [decide_eq_true b8]
  exact ifF rfl ⟨_, rfl, _, _, rfl, rfl, _, rfl, ifT (decide_eq_true (by decide)) (no H1 s1)⟩
end
def strD : PyData → Bool
  | .str _ => true
  | _ => false
theorem kit_str {K : PySem.W.Frag} (d : PyData) : PySem.W.kitOne K (.type (kindD d)) (.type "str") = some (strD d) := by
  cases d with
  | none => exact kit_ty (show kitB "NoneType" "str" = some false by decide +kernel)
  | bool _ => exact kit_ty (show kitB "bool" "str" = some false by decide +kernel)
  | int _ => exact kit_ty (show kitB "int" "str" = some false by decide +kernel)
  | str _ => exact kit_ty (show kitB "str" "str" = some true by decide +kernel)
  | list _ => exact kit_ty (show kitB "list" "str" = some false by decide +kernel)
  | tuple _ => exact kit_ty (show kitB "tuple" "str" = some false by decide +kernel)
  | dict _ => exact kit_ty (show kitB "dict" "str" = some false by decide +kernel)
/-! what is due -/
theorem sumO_is {f : PyData → Option Nat} {g : PyData → Nat} : ∀ {l : List PyData} {s : Nat}, (∀ x ∈ l, ∀ a, f x = some a → g x = a) → sumO f l = some s → (l.map g).sum = s
  | [], s, _, h => by
    simp only [sumO, Option.some.injEq] at h
    subst h
    rfl
  | x :: l, s, hx, h => by
    simp only [sumO] at h
    cases e : f x with
    | none => rw [e] at h; cases h
    | some a =>
      rw [e] at h
      cases e2 : sumO f l with
      | none => rw [e2] at h; cases h
      | some b =>
        rw [e2] at h
        simp only [Option.some.injEq] at h
        rw [List.map_cons, List.sum_cons, hx x List.mem_cons_self a e, sumO_is (fun y hy => hx y (List.mem_cons_of_mem _ hy)) e2]
        exact h
theorem szP_of {n m : Nat} {p : PyData} {a : Nat} (ih : ∀ d c, gsz n d = some c → szG n d = c ∧ c ≤ 24) (h : placeN (gsz n) m p = some a) : szP (szG n) p = a := by
  have hp := plB_of (grB_of n) h
  unfold placeN at h
  by_cases h1 : numD p = true
  · obtain ⟨i, rfl, _⟩ := num_is h1
    rw [if_pos h1] at h
    exact Option.some.inj h
  rw [if_neg h1] at h
  by_cases h2 : tieB m p = true
  · obtain ⟨j, rfl, _⟩ := tie_is h2
    rw [if_pos h2] at h
    exact Option.some.inj h
  rw [if_neg h2] at h
  have hz := (ih _ _ h).1
  rcases pl_cases hp with ⟨i, rfl, _⟩ | ⟨j, rfl, _⟩ | ⟨y, r, rfl, hg⟩
  · cases n <;> cases h
  · have hb := grB_of n _ _ h
    obtain ⟨n', bs, en, e, l1, l8, hall⟩ := gr_is hb
    cases e
    obtain ⟨x, y, z, e, _⟩ := bx3 (hall (.str "tie") List.mem_cons_self)
    cases e
  · exact hz
theorem szG_of : ∀ (n : Nat) (d : PyData) (c : Nat), gsz n d = some c → szG n d = c ∧ c ≤ 24
  | 0, d, c, h => by cases d <;> cases h
  | n + 1, d, c, h => by
    cases d with
    | tuple bs =>
      have h : (if 1 ≤ bs.length ∧ bs.length ≤ 8 then fitN bs.length (sumO (boxN (placeN (gsz n) bs.length)) bs) else none) = some c := h
      by_cases hl : 1 ≤ bs.length ∧ bs.length ≤ 8
      · rw [if_pos hl] at h
        cases hs : sumO (boxN (placeN (gsz n) bs.length)) bs with
        | none => rw [hs] at h; cases h
        | some s =>
          rw [hs] at h
          have h : (if bs.length + s ≤ 24 then some (bs.length + s) else none) = some c := h
          by_cases h24 : bs.length + s ≤ 24
          · rw [if_pos h24] at h
            have e : (bs.map (szB (szG n))).sum = s := sumO_is (fun b hb a ha => by
              cases b with
              | tuple ps =>
                have ha : (if ps.length = 3 then sumO (placeN (gsz n) bs.length) ps else none) = some a := ha
                by_cases l3 : ps.length = 3
                · rw [if_pos l3] at ha
                  exact sumO_is (fun p _ a' ha' => szP_of (fun d c => szG_of n d c) ha') ha
                · rw [if_neg l3] at ha
                  cases ha
              | _ => cases ha) hs
            have hc := Option.some.inj h
            refine ⟨?_, by omega⟩
            show bs.length + (bs.map (szB (szG n))).sum = c
            rw [e]
            exact hc
          · rw [if_neg h24] at h
            cases h
      · rw [if_neg hl] at h
        cases h
    | _ => cases h
def textD : PyData := .tuple [.str "text", .int 0]
def dueG : Option PyData → PyData
  | some g => if szG 4 g ≤ 24 then .list [g] else textD
  | none => textD
def dueD : PyData → PyData
  | .str z => dueG (readF 4 z.cps.toList)
  | _ => textD
/-- a text is a graph's, or it is none -/
theorem due_is {d : PyData} (hz : ∀ z, d = .str z → z.length ≤ 1000) : (∃ g c, d = .str (gT 4 g) ∧ grB 4 g = true ∧ gsz 4 g = some c ∧ szG 4 g ≤ 24 ∧ dueD d = .list [g]) ∨ (NoGT d ∧ dueD d = textD) := by
  cases d with
  | str z =>
    have hz := hz z rfl
    cases e : readF 4 z.cps.toList with
    | none =>
      refine .inr ⟨fun z' ez => ?_, by show dueG (readF 4 z.cps.toList) = _; rw [e]; rfl⟩
      cases ez
      refine ⟨hz, fun g c hg hc eg => ?_⟩
      have := (readF_all 4 g hg).1
      rw [← eg, e] at this
      cases this
    | some g =>
      obtain ⟨hg, et⟩ := readF_sound 4 _ _ e
      by_cases h24 : szG 4 g ≤ 24
      · refine .inl ⟨g, _, by rw [str_tl et], hg, gsz_of 4 g hg h24, h24, ?_⟩
        show dueG (readF 4 z.cps.toList) = _
        rw [e]
        exact if_pos h24
      · refine .inr ⟨fun z' ez => ?_, by show dueG (readF 4 z.cps.toList) = _; rw [e]; exact if_neg h24⟩
        cases ez
        refine ⟨hz, fun g' c hg' hc eg => ?_⟩
        have := (readF_all 4 g' hg').1
        rw [← eg, e] at this
        cases this
        obtain ⟨h1, h2⟩ := szG_of 4 g c hc
        omega
  | _ => exact .inr ⟨fun z e => (by cases e), rfl⟩
section
open PySem.Spec PyProof.Rows LamX
variable {P : Program} {w : World} {K : PySem.W.Frag} {mg : Str → Option Value} {base : Heap} {f : Addr} {fd : FuncData}
def spLDue (K : PySem.W.Frag) : Sp := fun vs H Q _ => ∃ (x : V) (d : PyData), vs = [x] ∧ Dp K H x d ∧ (∀ z, d = .str z → z.length ≤ 1000) ∧ ∀ v H', Same H H' → Dp K H' v (dueD d) → Q v H'
theorem scLDue : FnScope ["_law_thing", "_law_graph_here"] ["_law_thing"] (defScope sLDue) := ⟨rfl, rfl, rfl, by decide +kernel, rfl, by decide +kernel, by decide +kernel⟩
theorem dp_not_non {H : Hp} {d : PyData} {n : Nat} (h : grB n d = true) : ¬ Dp K H .non d := fun z => by
  cases z
  cases n <;> cases h
set_option maxHeartbeats 0 in
theorem ok_ldue {k : Nat} (F : Fun K "_law_due" "_law_due" sLDue f fd) (T : Free mg) (hS : mg "str" = none) (cR : Cal P w K mg base "_law_read" k ["_law_text_here", "_law_deep_here"] (spLRead K 4)) (cZ : Cal P w K mg base "_law_size" k ["_law_graph_here"] (spLSize K 4)) : FnOk P w K mg base CX0 (k + 1) f fd ["_law_thing"] (spLDue K) := by
  refine F.ok scLDue (fun vs H Q E h => ?_) (fun cdv A outer s H vs Q E hr h => ?_)
  · obtain ⟨x, d, rfl, _⟩ := h
    rfl
  obtain ⟨x, d, rfl, hx, hz, q⟩ := h
  refine ⟨_, pss_cons (ps_set (i := 1) scLDue.nd rfl (.inl rfl) (pe_ifExp (pt_val (pe_callB call_isi rfl T.isi (by decide +kernel) (pa_cons (pv 0) (pa_cons (pe_bltn (v := .ty "str") rfl hS (by decide +kernel) rfl) pa_nil)))) (pe_cal cR hr rfl (pa_cons (pv 0) (pa_cons pe_int pa_nil))) pe_non))
    (pss_one (ps_ret (pe_ifExp (PW.pt (pw_and (pt_cmpR op_notN (pv 1) pe_non (nomark _)) (pw_and1 (pt_cmpR op_lt (pe_cal cZ hr rfl (pa_cons (pv 1) pa_nil)) pe_int (nomark _))))) (pe_lst (pa_cons (pv 1) pa_nil)) (pe_tup (pa_cons pe_str (pa_cons pe_int pa_nil)))))), ?_⟩
  have no : dueD d = textD → ∀ G, Same H G → tTup (tCons (tC (.str "text")) (tCons (tC (.int 0)) tNil)) [some x, some .non] G Q := fun e G s => by
    rw [e] at q
    exact ⟨by show 2 ≤ sizeLine; decide, fun a ha => q _ _ (s.trans (same_new ha _)) (.tup (SqT.of upd_same) (.cons (.str _) (.cons (.int _) .nil)))⟩
  refine ⟨_, rfl, x, _, _, _, _, rfl, .ty "str", ty_of hx, kit_str d, _, rfl, ?_⟩
  by_cases hs : ∃ z, d = .str z
  · obtain ⟨z, rfl⟩ := hs
    cases hx
    refine ifT rfl ⟨_, rfl, z, rfl, hz z rfl, fun v H1 s1 hv => ?_⟩
    cases e : readF 4 z.cps.toList with
    | none =>
      rw [e] at hv
      cases hv
      refine ⟨_, rfl, rfl, _, rfl, ifF rfl (ifF rfl ?_)⟩
      have no := no (by show dueG (readF 4 z.cps.toList) = _; rw [e]; rfl) H1 s1
      exact no
    | some g =>
      rw [e] at hv
      have hv : Dp K H1 v g := hv
      obtain ⟨hg, et⟩ := readF_sound 4 _ _ e
      have nv : v ≠ .non := fun z => dp_not_non hg (z ▸ hv)
      refine ⟨_, rfl, rfl, _, rfl, ifT (by rw [decide_eq_false nv]; rfl) ⟨_, rfl, v, g, rfl, hv, Nat.le_refl 4, hg, fun H2 s2 => ⟨_, _, rfl, rfl, _, rfl, ?_⟩⟩⟩
      by_cases h24 : szG 4 g ≤ 24
      · rw [decide_eq_true (show ((szG 4 g : Nat) : Int) < 25 by omega)]
        refine ifT rfl ⟨_, rfl, small (by show 1 ≤ 1000; decide), fun p hp => ?_⟩
        have sp := same_new hp (.lst [v])
        refine q _ _ ((s1.trans s2).trans sp) ?_
        rw [show dueD (.str z) = .list [g] by show dueG (readF 4 z.cps.toList) = _; rw [e]; exact if_pos h24]
        exact .lst (SqL.of upd_same) (.cons (dp_same (s2.trans sp) hv) .nil)
      · rw [decide_eq_false (show ¬ (((szG 4 g : Nat) : Int) < 25) by omega)]
        refine ifF rfl ?_
        have e2 : dueD (.str z) = textD := by show dueG (readF 4 z.cps.toList) = _; rw [e]; exact if_neg h24
        rw [e2] at q
        exact ⟨by show 2 ≤ sizeLine; decide, fun a ha => q _ _ ((s1.trans s2).trans (same_new ha _)) (.tup (SqT.of upd_same) (.cons (.str _) (.cons (.int _) .nil)))⟩
  · have e : strD d = false := by cases d <;> first | rfl | exact absurd ⟨_, rfl⟩ hs
    rw [e]
    refine ifF rfl ⟨_, rfl, rfl, _, rfl, ifF rfl (ifF rfl ?_)⟩
    exact no (by cases d <;> first | rfl | exact absurd ⟨_, rfl⟩ hs) H (Same.refl H)
end
/-! what is written down, laid anew -/
def dif (H H' : Hp) : Hp := fun b => match H b with
  | none => H' b
  | some _ => none
theorem dif_at {H H' : Hp} {p : Addr} {o : HO} (h : H p = none) (h' : H' p = some o) : dif H H' p = some o := by
  unfold dif
  rw [h]
  exact h'
theorem dif_some {H H' : Hp} {p : Addr} {o : HO} (h : dif H H' p = some o) : H p = none ∧ H' p = some o := by
  unfold dif at h
  cases e : H p with
  | none =>
    rw [e] at h
    exact ⟨rfl, h⟩
  | some u =>
    rw [e] at h
    cases h
theorem dif_l {H H1 H2 : Hp} (s : Same H1 H2) : Same (dif H H1) (dif H H2) := fun b o h => by
  obtain ⟨h1, h2⟩ := dif_some h
  exact dif_at h1 (s _ _ h2)
theorem dif_r {H H1 H2 : Hp} (s : Same H H1) : Same (dif H1 H2) (dif H H2) := fun b o h => by
  obtain ⟨h1, h2⟩ := dif_some h
  exact dif_at (s.free h1) h2
theorem dif_in {H H' : Hp} : Same (dif H H') H' := fun b o h => (dif_some h).2
def tLit (K : PySem.W.Frag) (d : PyData) : TE := fun _ H Q => ∀ v H', Same H H' → Dp K (dif H H') v d → Q v H'
def tLits (K : PySem.W.Frag) (ds : List PyData) : TA := fun _ H Q => ∀ vs H', Same H H' → DpAll K (dif H H') vs ds → Q vs H'
theorem pe_imp {X : Cx} {e : Expr} {t t' : TE} (h : PE X e t) (w : ∀ σ H Q, t' σ H Q → t σ H Q) : PE X e t' := ⟨fun pins s σ H Q I q => h.run pins s σ H Q I (w _ _ _ q)⟩
theorem pa_imp {X : Cx} {es : List Expr} {t t' : TA} (h : PA X es t) (w : ∀ σ H Q, t' σ H Q → t σ H Q) : PA X es t' := ⟨fun pos pins s σ H Q I q => h.run pos pins s σ H Q I (w _ _ _ q)⟩
section
variable {X : Cx}
theorem lits_nil : PA X [] (tLits X.K []) := pa_imp pa_nil fun σ H Q q => q [] H (Same.refl _) .nil
theorem lits_cons {e : Expr} {es : List Expr} {d : PyData} {ds : List PyData} (h : PE X e (tLit X.K d)) (hs : PA X es (tLits X.K ds)) (hst : starEach (e :: es) X.env = (false, eval e X.env) :: starEach es X.env := by rfl) : PA X (e :: es) (tLits X.K (d :: ds)) :=
  pa_imp (pa_cons h hs hst) fun σ H Q q v H1 s1 d1 vs H2 s2 d2 => q (v :: vs) H2 (s1.trans s2) (.cons (dp_same (dif_l s2) d1) (dps_same (dif_r s1) d2))
theorem lit_int {i : Int} {j : Nat} {pos : Pos} : PE X (.Constant (.int i) j pos) (tLit X.K (.int i)) := pe_imp pe_int fun σ H Q q => q _ H (Same.refl _) (.int _)
theorem lit_str {x : Str} {j : Nat} {pos : Pos} : PE X (.Constant (.str x) j pos) (tLit X.K (.str x)) := pe_imp pe_str fun σ H Q q => q _ H (Same.refl _) (.str _)
theorem lit_bl {b : Bool} {j : Nat} {pos : Pos} : PE X (.Constant (.bool b) j pos) (tLit X.K (.bool b)) := pe_imp pe_bl fun σ H Q q => q _ H (Same.refl _) (.bl _)
theorem lit_non {j : Nat} {pos : Pos} : PE X (.Constant .none j pos) (tLit X.K .none) := pe_imp pe_non fun σ H Q q => q _ H (Same.refl _) .non
theorem lit_neg {e : Expr} {i : Int} {pos : Pos} (h : PE X e (tC (.int i))) : PE X (.UnaryOp .USub e pos) (tLit X.K (.int (-i))) := pe_imp (pe_un un_neg h) fun σ H Q q => ⟨i, rfl, q _ H (Same.refl _) (.int _)⟩
theorem lit_tup {es : List Expr} {ds : List PyData} {x1 : Nat} {pos : Pos} (h : PA X es (tLits X.K ds)) (hl : ds.length ≤ 1000) : PE X (.Tuple es x1 pos) (tLit X.K (.tuple ds)) :=
  pe_imp (pe_tup h) fun σ H Q q vs H1 s1 d1 => ⟨small (by rw [dpAll_len d1]; exact hl), fun p hp => q _ _ (s1.trans (same_new hp _)) (.tup (SqT.of (dif_at (s1.free hp) upd_same)) (dps_same (dif_l (same_new hp _)) d1))⟩
theorem lit_lst {es : List Expr} {ds : List PyData} {pos : Pos} (h : PA X es (tLits X.K ds)) (hl : ds.length ≤ 1000) : PE X (.List es pos) (tLit X.K (.list ds)) :=
  pe_imp (pe_lst h) fun σ H Q q vs H1 s1 d1 => ⟨small (by rw [dpAll_len d1]; exact hl), fun p hp => q _ _ (s1.trans (same_new hp _)) (.lst (SqL.of (dif_at (s1.free hp) upd_same)) (dps_same (dif_l (same_new hp _)) d1))⟩
theorem lit_dict0 {pos : Pos} : PE X (.Dict [] [] pos) (tLit X.K (.dict (dictD []))) := pe_imp pe_dnewK fun σ H Q q p hp => q _ _ (same_new hp _) (.dct (ms := []) (dif_at hp upd_same))
theorem lit_dict1 {i k : Int} {j1 j2 : Nat} {p1 p2 pos : Pos} : PE X (.Dict [some (.Constant (.int i) j1 p1)] [.Constant (.int k) j2 p2] pos) (tLit X.K (.dict (dictD [(i, k)]))) :=
  pe_imp (pe_disp (pps_cons pe_int pe_int pps_nil) rfl rfl (by simp) (by show 1 ≤ 15; decide)) fun σ H Q q p hp => ⟨upd_same, [(Sum.inl i, V.int k)], rfl, by show 1 ≤ 15; decide, by
    rw [upd_upd]
    exact q _ _ (same_new hp _) (.dct (ms := [(i, k)]) (dif_at hp upd_same))⟩
end
section
variable {X : Cx}
theorem lit_big {j1 j2 : Nat} {p1 p2 pos : Pos} : PE X (.BinOp (.Constant (.int 10) j1 p1) .Pow (.Constant (.int 29) j2 p2) pos) (tLit X.K (.int (10 ^ 29))) := pe_imp (pe_op op_pow pe_int pe_int) fun σ H Q q => ⟨_, _, rfl, rfl, ⟨by decide, by decide, by decide⟩, q _ H (Same.refl _) (.int _)⟩
theorem lit_low {j0 j1 j2 : Nat} {p0 p1 p2 p3 pos : Pos} : PE X (.BinOp (.Constant (.int 0) j0 p0) .Sub (.BinOp (.Constant (.int 10) j1 p1) .Pow (.Constant (.int 29) j2 p2) p3) pos) (tLit X.K (.int (0 - 10 ^ 29))) := pe_imp (pe_op op_sub pe_int (pe_op op_pow pe_int pe_int)) fun σ H Q q => ⟨_, _, rfl, rfl, ⟨by decide, by decide, by decide⟩, _, _, rfl, rfl, q _ H (Same.refl _) (.int _)⟩
end
/-! odd things -/
def odd0 : List PyData := [.none, .bool true, .bool false, .int 0, .int 1, .int (-1), .int (10 ^ 29), .str "", .str "a", .str "G", .str "tie", .tuple [], .list [], .dict (dictD []), .tuple [.int 0], .list [.int 0], .tuple [.none]]
def odd1 : List PyData := [.tuple [.tuple []], .str "actor"]
def odd2 : List PyData := [.str "show", .dict (dictD [(0, 1)]), .tuple [.str "tie", .int 0], .tuple [.int 0, .int 1]]
/-- all but the state's list -/
def mn (st : Addr) (H : Hp) : Hp := fun b => if b = st then none else H b
theorem mn_at {st p : Addr} {H : Hp} {o : HO} (n : p ≠ st) (h : H p = some o) : mn st H p = some o := by
  unfold mn
  rw [if_neg n]
  exact h
theorem mn_some {st p : Addr} {H : Hp} {o : HO} (h : mn st H p = some o) : p ≠ st ∧ H p = some o := by
  unfold mn at h
  by_cases e : p = st
  · rw [if_pos e] at h
    cases h
  · rw [if_neg e] at h
    exact ⟨e, h⟩
theorem mn_kp {st : Addr} {H H' : Hp} (k : Kp st H H') : Same (mn st H) (mn st H') := fun b o h => by
  obtain ⟨n, h⟩ := mn_some h
  exact mn_at n (k b o n h)
theorem mn_in {st : Addr} {H : Hp} : Same (mn st H) H := fun b o h => (mn_some h).2
theorem mn_dif {st : Addr} {H H' : Hp} (s : ∃ l, H st = some l) : Same (dif H H') (mn st H') := fun b o h => by
  obtain ⟨h1, h2⟩ := dif_some h
  obtain ⟨l, hl⟩ := s
  exact mn_at (ne_of_none hl h1).symm h2
section
variable {P : Program} {w : World} {K : PySem.W.Frag} {mg : Str → Option Value} {base : Heap} {f : Addr} {fd : FuncData}
def spOdd (K : PySem.W.Frag) : Sp := fun vs H Q _ => ∃ (st : Addr), vs = [.ref st] ∧ StAt H st ∧ ∀ v d H', Mv st H H' → Dp K (mn st H') v d → d ∈ odd0 ++ odd1 ++ odd2 → Q v H'
theorem scOdd : FnScope ["_law_state_here", "_law_some"] ["_law_state_here"] (defScope sLOdd) := ⟨rfl, rfl, rfl, by decide +kernel, rfl, by decide +kernel, by decide +kernel⟩
theorem ok_odd {k : Nat} (F : Fun K "_law_odd" "_law_odd" sLOdd f fd) (T : Free mg) (cC : Cal P w K mg base "_law_choice" k ["_law_state_here", "_law_many"] spChoice) : FnOk P w K mg base CX0 (k + 1) f fd ["_law_state_here"] (spOdd K) := by
  refine F.ok scOdd (fun vs H Q E h => ?_) (fun cdv A outer s H vs Q E hr h => ?_)
  · obtain ⟨st, rfl, _⟩ := h
    rfl
  obtain ⟨st, rfl, sa, q⟩ := h
  refine ⟨_, pss_cons (ps_set (i := 1) scOdd.nd rfl (.inl rfl) (pe_lst (lits_cons lit_non (lits_cons lit_bl (lits_cons lit_bl (lits_cons lit_int (lits_cons lit_int (lits_cons (lit_neg pe_int) (lits_cons lit_big (lits_cons lit_str (lits_cons lit_str (lits_cons lit_str (lits_cons lit_str (lits_cons (lit_tup lits_nil (by decide)) (lits_cons (lit_lst lits_nil (by decide)) (lits_cons lit_dict0 (lits_cons (lit_tup (lits_cons lit_int lits_nil) (by decide)) (lits_cons (lit_lst (lits_cons lit_int lits_nil) (by decide)) (lits_cons (lit_tup (lits_cons lit_non lits_nil) (by decide)) lits_nil)))))))))))))))))))
    (pss_cons (ps_set (i := 1) scOdd.nd rfl (.inl rfl) (pe_op op_cat (pv 1) (pe_lst (lits_cons (lit_tup (lits_cons (lit_tup lits_nil (by decide)) lits_nil) (by decide)) (lits_cons lit_str lits_nil)))))
    (pss_one (ps_ret (pe_ix ix_list (pe_op op_cat (pv 1) (pe_lst (lits_cons lit_str (lits_cons lit_dict1 (lits_cons (lit_tup (lits_cons lit_str (lits_cons lit_int lits_nil)) (by decide)) (lits_cons (lit_tup (lits_cons lit_int (lits_cons lit_int lits_nil)) (by decide)) lits_nil)))))) (pe_cal cC hr rfl (pa_cons (pv 0) (pa_cons pe_int pa_nil))) (fun _ _ => rfl))))), ?_⟩
  have some_st := sa.some
  have stx : ∃ l, H st = some l := by
    obtain ⟨l, h⟩ := some_st
    exact ⟨_, h⟩
  intro v0 H0 s0 d0
  have l0 := dpAll_len d0
  refine ⟨small (by rw [l0]; decide), fun p0 h0 => ?_⟩
  have n0 := same_new h0 (.lst v0)
  refine ⟨_, rfl, fun v1 H1 s1 d1 => ?_⟩
  have l1 := dpAll_len d1
  refine ⟨small (by rw [l1]; decide), fun p1 h1 => ?_⟩
  have n1 := same_new h1 (.lst v1)
  refine ⟨p0, p1, v0, v1, rfl, rfl, n1 _ _ (s1 _ _ upd_same), upd_same, small (by rw [l0, l1]; decide), fun p2 h2 => ?_⟩
  have n2 := same_new h2 (.lst (v0 ++ v1))
  refine ⟨_, rfl, fun v3 H3 s3 d3 => ?_⟩
  have l3 := dpAll_len d3
  refine ⟨small (by rw [l3]; decide), fun p3 h3 => ?_⟩
  have n3 := same_new h3 (.lst v3)
  refine ⟨p2, p3, v0 ++ v1, v3, rfl, rfl, n3 _ _ (s3 _ _ upd_same), upd_same, small (by rw [List.length_append, l0, l1, l3]; decide), fun p4 h4 => ?_⟩
  have n4 := same_new h4 (.lst (v0 ++ v1 ++ v3))
  have sA := s0.trans n0
  have sB := sA.trans (s1.trans (n1.trans n2))
  have sC := sB.trans (s3.trans (n3.trans n4))
  have all : DpAll K (dif H (upd (upd H3 p3 (.lst v3)) p4 (.lst (v0 ++ v1 ++ v3)))) (v0 ++ v1 ++ v3) (odd0 ++ odd1 ++ odd2) :=
    dpAll_append (dps_same ((dif_r sB).trans (dif_l (n3.trans n4))) d3) (dpAll_append (dps_same ((dif_r sA).trans (dif_l (n1.trans (n2.trans (s3.trans (n3.trans n4)))))) d1) (dps_same (dif_l (n0.trans (s1.trans (n1.trans (n2.trans (s3.trans (n3.trans n4))))))) d0))
  have len := dpAll_len all
  refine ⟨_, rfl, st, 23, rfl, sa.same sC, by decide, by decide, fun r H5 r0 r1 mv => ?_⟩
  have len' : (v0 ++ v1 ++ v3).length = 23 := len
  have np4 : p4 ≠ st := (sa.same (sB.trans (s3.trans n3))).ne h4
  have hr5 : r.toNat < (v0 ++ v1 ++ v3).length := by omega
  have hx := List.getElem?_eq_getElem hr5
  obtain ⟨d, hd, hdp⟩ := dpAll_get' all hx
  refine ⟨p4, _, r, _, rfl, rfl, SqL.of (mv.kp _ _ np4 upd_same), atI_at r0 hx, q _ d H5 ⟨(Kp.of_same sC).trans mv.kp, mv.sa⟩ (dp_same ((mn_dif stx).trans (mn_kp mv.kp)) hdp) (List.mem_of_getElem? hd)⟩
end
/-! texts turned, odd things -/
section
open PySem.Spec PyProof.Rows LamX
variable {P : Program} {w : World} {K : PySem.W.Frag} {mg : Str → Option Value} {base : Heap} {f : Addr} {fd : FuncData}
theorem lcut_to (z : Str) {i : Int} (h : 0 ≤ i) : (cutS z none (some i)).length ≤ z.length := by
  obtain ⟨n, rfl⟩ := Int.eq_ofNat_of_zero_le h
  have e := congrArg List.length (cut_to z n)
  have l1 : (cutS z none (some ((n : Nat) : Int))).cps.toList.length = (cutS z none (some ((n : Nat) : Int))).length := Array.length_toList
  have l2 : z.cps.toList.length = z.length := Array.length_toList
  rw [List.length_take] at e
  have : (cutS z none (some ((n : Nat) : Int))).length = min n z.length := by rw [← l1, ← l2]; exact e
  show (cutS z none (some ((n : Nat) : Int))).length ≤ _
  omega
theorem lcut_fr (z : Str) {i : Int} (h : 0 ≤ i) : (cutS z (some i) none).length ≤ z.length := by
  obtain ⟨n, rfl⟩ := Int.eq_ofNat_of_zero_le h
  have e := congrArg List.length (cut_fr z n)
  have l1 : (cutS z (some ((n : Nat) : Int)) none).cps.toList.length = (cutS z (some ((n : Nat) : Int)) none).length := Array.length_toList
  have l2 : z.cps.toList.length = z.length := Array.length_toList
  rw [List.length_drop] at e
  have : (cutS z (some ((n : Nat) : Int)) none).length = z.length - n := by rw [← l1, ← l2]; exact e
  show (cutS z (some ((n : Nat) : Int)) none).length ≤ _
  omega
def spLTurned : Sp := fun vs H Q _ => ∃ (st : Addr) (z : Str), vs = [.ref st, .str z] ∧ z.length ≤ 100000 ∧ StAt H st ∧ ∀ y H', Mv st H H' → y.length ≤ 2 * z.length + 8 → Q (.str y) H'
abbrev NTu : List Str := ["_law_state_here", "_law_text_here", "_law_signs", "_law_at", "_law_sign", "_law_other", "_law_some"]
theorem scLTurned : FnScope NTu ["_law_state_here", "_law_text_here"] (defScope sLTurned) := ⟨rfl, rfl, rfl, by decide +kernel, rfl, by decide +kernel, by decide +kernel⟩
set_option maxHeartbeats 0 in
theorem ok_lturned {k : Nat} (F : Fun K "_law_turned" "_law_turned" sLTurned f fd) (T : Free mg) (cC : Cal P w K mg base "_law_choice" k ["_law_state_here", "_law_many"] spChoice) : FnOk P w K mg base CX0 (k + 1) f fd ["_law_state_here", "_law_text_here"] spLTurned := by
  refine F.ok scLTurned (fun vs H Q E h => ?_) (fun cdv A outer s H vs Q E hr h => ?_)
  · obtain ⟨st, z, rfl, _⟩ := h
    rfl
  obtain ⟨st, z, rfl, hz, sa, q⟩ := h
  refine ⟨_, pss_cons (ps_set (i := 2) scLTurned.nd rfl (.inl rfl) pe_str)
    (pss_cons (ps_par (i := 3) (j := 4) rfl scLTurned.nd rfl rfl (by decide) rfl rfl (pa_cons (pe_cal cC hr rfl (pa_cons (pv 0) (pa_cons (pe_op op_add (pe_callB call_len_str rfl T.len PySem.boot_len (pa_cons (pv 1) pa_nil)) pe_int) pa_nil))) (pa_cons (pe_ix ix_str (pv 2) (pe_cal cC hr rfl (pa_cons (pv 0) (pa_cons (pe_callB call_len_str rfl T.len PySem.boot_len (pa_cons (pv 2) pa_nil)) pa_nil))) (fun _ _ => rfl)) pa_nil)) rfl)
    (pss_cons (ps_set (i := 5) scLTurned.nd rfl (.inl rfl) (pe_cal cC hr rfl (pa_cons (pv 0) (pa_cons (pe_op op_add (pe_callB call_len_str rfl T.len PySem.boot_len (pa_cons (pv 1) pa_nil)) pe_int) pa_nil))))
    (pss_cons (ps_set (i := 6) scLTurned.nd rfl (.inl rfl) (pe_lst (pa_cons (pe_op op_add_str (pe_op op_add_str (pe_slice sl_str (pv 1) po_none (po_some (pv 3))) (pv 4)) (pe_slice sl_str (pv 1) (po_some (pv 3)) po_none))
      (pa_cons (pe_op op_add_str (pe_slice sl_str (pv 1) po_none (po_some (pv 3))) (pe_slice sl_str (pv 1) (po_some (pe_op op_add (pv 3) pe_int)) po_none))
      (pa_cons (pe_op op_add_str (pe_op op_add_str (pe_slice sl_str (pv 1) po_none (po_some (pv 3))) (pv 4)) (pe_slice sl_str (pv 1) (po_some (pe_op op_add (pv 3) pe_int)) po_none)) pa_nil)))))
    (pss_cons (ps_set (i := 6) scLTurned.nd rfl (.inl rfl) (pe_op op_cat (pv 6) (pe_lst (pa_cons (pe_op op_add_str (pe_slice sl_str (pv 1) po_none (po_some (pv 3))) (pe_slice sl_str (pv 1) (po_some (pv 5)) po_none))
      (pa_cons (pe_op op_add_str (pv 1) (pe_slice sl_str (pv 1) po_none (po_some (pv 3))))
      (pa_cons (pe_op op_add_str (pe_op op_add_str (pe_slice sl_str (pv 1) po_none (po_some (pv 3))) pe_str) (pe_slice sl_str (pv 1) (po_some (pv 3)) po_none)) pa_nil))))))
    (pss_one (ps_ret (pe_ix ix_list (pv 6) (pe_cal cC hr rfl (pa_cons (pv 0) (pa_cons pe_int pa_nil))) (fun _ _ => rfl)))))))), ?_⟩
  have sl : (16777216 : Nat) = sizeLine := rfl
  have zs : z.length ≤ sizeLine := by rw [← sl]; omega
  have lsg : ("0123456789~-+[]() ,ate\t\n|" : Str).length = 25 := by decide +kernel
  have lsl : ("0123456789~-+[]() ,ate\t\n|" : Str).cps.toList.length = ("0123456789~-+[]() ,ate\t\n|" : Str).length := Array.length_toList
  have l7 : ("[0 0 0]" : Str).length = 7 := by decide +kernel
  generalize ("0123456789~-+[]() ,ate\t\n|" : Str) = sg at lsg lsl ⊢
  refine ⟨_, rfl, _, rfl, z, rfl, zs, _, _, rfl, rfl, st, _, rfl, sa, by omega, by omega, fun r1 H1 r10 r11 mv1 => ?_⟩
  refine ⟨_, rfl, _, rfl, _, rfl, sg, rfl, by rw [lsg, ← sl]; decide, st, _, rfl, mv1.sa, by omega, by omega, fun r2 H2 r20 r21 mv2 => ?_⟩
  obtain ⟨c, hc⟩ : ∃ c, atI sg.cps.toList r2 = some c := ⟨_, atI_at r20 (List.getElem?_eq_getElem (show r2.toNat < sg.cps.toList.length by omega))⟩
  refine ⟨sg, r2, c, rfl, rfl, by rw [lsg, ← sl]; decide, hc, ?_⟩
  refine ⟨_, _, rfl, _, rfl, _, rfl, z, rfl, zs, _, _, rfl, rfl, st, _, rfl, mv2.sa, by omega, by omega, fun r3 H3 r30 r31 mv3 => ?_⟩
  have la := lcut_to z r10
  have lb := lcut_fr z r10
  have lc := lcut_fr z (show 0 ≤ r1 + 1 by omega)
  have lo := lcut_fr z r30
  have m3 : Mv st H H3 := ⟨(mv1.kp.trans mv2.kp).trans mv3.kp, mv3.sa⟩
  have lone : (⟨#[c]⟩ : Str).length = 1 := rfl
  generalize (⟨#[c]⟩ : Str) = sn at lone
  refine ⟨_, rfl, _, rfl, _, rfl, z, rfl, zs, _, rfl, _, _, rfl, rfl, by rw [← sl]; omega, _, rfl, _, rfl, _, rfl, z, rfl, zs, _, _, rfl, rfl, by rw [Str.length_append, ← sl]; omega, ?_⟩
  refine ⟨_, rfl, _, rfl, _, rfl, z, rfl, zs, _, rfl, _, rfl, _, _, rfl, rfl, _, rfl, z, rfl, zs, _, _, rfl, rfl, by rw [← sl]; omega, ?_⟩
  refine ⟨_, rfl, _, rfl, _, rfl, z, rfl, zs, _, rfl, _, _, rfl, rfl, by rw [← sl]; omega, _, rfl, _, rfl, _, _, rfl, rfl, _, rfl, z, rfl, zs, _, _, rfl, rfl, by rw [Str.length_append, ← sl]; omega, ?_⟩
  refine ⟨small (by show 3 ≤ 1000; decide), fun p1 h1 => ?_⟩
  refine ⟨_, rfl, _, rfl, _, rfl, _, rfl, z, rfl, zs, _, rfl, _, rfl, _, rfl, z, rfl, zs, _, _, rfl, rfl, by rw [← sl]; omega, ?_⟩
  refine ⟨_, rfl, _, rfl, _, rfl, _, rfl, z, rfl, zs, _, _, rfl, rfl, by rw [← sl]; omega, ?_⟩
  refine ⟨_, rfl, _, rfl, _, rfl, z, rfl, zs, _, _, rfl, rfl, by rw [l7, ← sl]; omega, _, rfl, _, rfl, _, rfl, z, rfl, zs, _, _, rfl, rfl, by rw [Str.length_append, l7, ← sl]; omega, ?_⟩
  refine ⟨small (by show 3 ≤ 1000; decide), fun p2 h2 => ?_⟩
  generalize hxs : ([.str (cutS z none (some r1) ++ sn ++ cutS z (some r1) none), .str (cutS z none (some r1) ++ cutS z (some (r1 + 1)) none), .str (cutS z none (some r1) ++ sn ++ cutS z (some (r1 + 1)) none)] : List V) = xs at h2 ⊢
  generalize hys : ([.str (cutS z none (some r1) ++ cutS z (some r3) none), .str (z ++ cutS z none (some r1)), .str (cutS z none (some r1) ++ "[0 0 0]" ++ cutS z (some r1) none)] : List V) = ys
  have lxs : xs.length = 3 := by rw [← hxs]; rfl
  have lys : ys.length = 3 := by rw [← hys]; rfl
  have s1 := same_new h1 (.lst xs)
  have s2 := same_new h2 (.lst ys)
  refine ⟨p1, p2, xs, ys, rfl, rfl, s2 _ _ upd_same, upd_same, small (by rw [lxs, lys]; decide), fun p3 h3 => ?_⟩
  have s3 := same_new h3 (.lst (xs ++ ys))
  have s := (s1.trans s2).trans s3
  refine ⟨_, rfl, _, rfl, st, 6, rfl, m3.sa.same s, by decide, by decide, fun r4 H4 r40 r41 mv4 => ?_⟩
  have m4 : Mv st H H4 := ⟨(m3.kp.trans (Kp.of_same s)).trans mv4.kp, mv4.sa⟩
  have n3 : p3 ≠ st := (m3.sa.same (s1.trans s2)).ne h3
  have g3 : H4 p3 = some (.lst (xs ++ ys)) := mv4.kp _ _ n3 upd_same
  subst hxs hys
  rcases (show r4 = 0 ∨ r4 = 1 ∨ r4 = 2 ∨ r4 = 3 ∨ r4 = 4 ∨ r4 = 5 by omega) with rfl | rfl | rfl | rfl | rfl | rfl
  · exact ⟨p3, _, 0, _, rfl, rfl, SqL.of g3, atI_nat (j := 0) rfl, q _ _ m4 (by rw [Str.length_append, Str.length_append]; omega)⟩
  · exact ⟨p3, _, 1, _, rfl, rfl, SqL.of g3, atI_nat (j := 1) rfl, q _ _ m4 (by rw [Str.length_append]; omega)⟩
  · exact ⟨p3, _, 2, _, rfl, rfl, SqL.of g3, atI_nat (j := 2) rfl, q _ _ m4 (by rw [Str.length_append, Str.length_append]; omega)⟩
  · exact ⟨p3, _, 3, _, rfl, rfl, SqL.of g3, atI_nat (j := 3) rfl, q _ _ m4 (by rw [Str.length_append]; omega)⟩
  · exact ⟨p3, _, 4, _, rfl, rfl, SqL.of g3, atI_nat (j := 4) rfl, q _ _ m4 (by rw [Str.length_append]; omega)⟩
  · exact ⟨p3, _, 5, _, rfl, rfl, SqL.of g3, atI_nat (j := 5) rfl, q _ _ m4 (by rw [Str.length_append, Str.length_append, l7]; omega)⟩
end
/-! the size of what is shown -/
theorem short_all {B : Nat} : ∀ {l : List PyData}, (∀ z ∈ l, z.leavesShort B = true) → PyData.leavesShortAll B l = true
  | [], _ => by simp only [PyData.leavesShortAll]
  | u :: v, h => by
    simp only [PyData.leavesShortAll, Bool.and_eq_true]
    exact ⟨h u List.mem_cons_self, short_all fun z hz => h z (List.mem_cons_of_mem _ hz)⟩
theorem show_all : ∀ {l : List PyData}, (∀ z ∈ l, z.showable = true) → PyData.showableAll l = true
  | [], _ => by simp only [PyData.showableAll]
  | u :: v, h => by
    simp only [PyData.showableAll, Bool.and_eq_true]
    exact ⟨h u List.mem_cons_self, show_all fun z hz => h z (List.mem_cons_of_mem _ hz)⟩
theorem dict_all : ∀ {l : List PyData}, (∀ z ∈ l, z.hasDict = false) → PyData.hasDictAll l = false
  | [], _ => by simp only [PyData.hasDictAll]
  | u :: v, h => by
    simp only [PyData.hasDictAll, Bool.or_eq_false_iff]
    exact ⟨h u List.mem_cons_self, dict_all fun z hz => h z (List.mem_cons_of_mem _ hz)⟩
theorem bulk_all {k : Nat} : ∀ {l : List PyData}, (∀ z ∈ l, z.bulk ≤ k) → PyData.bulkAll l ≤ (k + 1) * l.length
  | [], _ => by simp only [PyData.bulkAll]; exact Nat.zero_le _
  | u :: v, h => by
    have h1 := h u List.mem_cons_self
    have h2 := bulk_all (l := v) fun z hz => h z (List.mem_cons_of_mem _ hz)
    simp only [PyData.bulkAll, List.length_cons]
    rw [Nat.mul_add]
    omega
/-- may be shown, within this bulk and depth -/
structure Sh (b dp : Nat) (d : PyData) : Prop where
  shw : d.showable = true
  nod : d.hasDict = false
  sho : d.leavesShort 40 = true
  blk : d.bulk ≤ b
  dep : d.depth ≤ dp
theorem Sh.mono {b b' p p' : Nat} {d : PyData} (h : Sh b p d) (l : b ≤ b') (l' : p ≤ p') : Sh b' p' d := ⟨h.shw, h.nod, h.sho, Nat.le_trans h.blk l, Nat.le_trans h.dep l'⟩
theorem sh_tup {b p : Nat} {l : List PyData} (h : ∀ z ∈ l, Sh b p z) : Sh ((b + 1) * l.length) (p + 1) (.tuple l) :=
  ⟨by simp only [PyData.showable]; exact show_all fun z hz => (h z hz).shw, by simp only [PyData.hasDict]; exact dict_all fun z hz => (h z hz).nod, by simp only [PyData.leavesShort]; exact short_all fun z hz => (h z hz).sho,
    by simp only [PyData.bulk]; exact bulk_all fun z hz => (h z hz).blk, by simp only [PyData.depth]; have := depth_all fun z hz => (h z hz).dep; omega⟩
theorem sh_lst {b p : Nat} {l : List PyData} (h : ∀ z ∈ l, Sh b p z) : Sh ((b + 1) * l.length) (p + 1) (.list l) :=
  ⟨by simp only [PyData.showable]; exact show_all fun z hz => (h z hz).shw, by simp only [PyData.hasDict]; exact dict_all fun z hz => (h z hz).nod, by simp only [PyData.leavesShort]; exact short_all fun z hz => (h z hz).sho,
    by simp only [PyData.bulk]; exact bulk_all fun z hz => (h z hz).blk, by simp only [PyData.depth]; have := depth_all fun z hz => (h z hz).dep; omega⟩
theorem Sh.fits {b p : Nat} {d : PyData} (h : Sh b p d) (hb : b ≤ 100000) : d.shown.length ≤ sizeLine := by
  have h1 := PyData.shown_le_bulk 40 (by decide) d h.sho
  have h2 := h.blk
  have h3 := sizeLine_eq
  have : (40 + 2) * d.bulk ≤ 42 * 100000 := Nat.mul_le_mul_left 42 (Nat.le_trans h2 hb)
  omega
/-! what is shown of graphs -/
theorem sh_int {i : Int} (h : i.natAbs < 10 ^ 12) : Sh 0 0 (.int i) := by
  refine ⟨?_, by simp only [PyData.hasDict], ?_, by simp only [PyData.bulk]; exact Nat.le_refl _, by simp only [PyData.depth]; exact Nat.le_refl _⟩
  · simp only [PyData.showable, decide_eq_true_eq]
    by_cases z : i.natAbs = 0
    · rw [z]
      decide
    · exact Nat.lt_of_lt_of_le ((Nat.log2_lt z).mpr (Nat.lt_of_lt_of_le h (show 10 ^ 12 ≤ 2 ^ 40 by decide))) (by decide)
  · simp only [PyData.leavesShort, decide_eq_true_eq]
    exact Nat.le_trans (PyData.shown_int_le h) (by decide)
theorem sh_str : Sh 3 0 (.str "tie") := ⟨by simp only [PyData.showable], by simp only [PyData.hasDict], by decide +kernel, by decide +kernel, by simp only [PyData.depth]; exact Nat.le_refl _⟩
theorem sh_tie {j : Int} (h : j.natAbs < 10 ^ 12) : Sh 8 1 (.tuple [.str "tie", .int j]) := by
  refine (sh_tup (b := 3) (p := 0) fun z hz => ?_).mono (by simp) (by omega)
  rcases List.mem_cons.mp hz with rfl | hz
  · exact sh_str
  · rcases List.mem_cons.mp hz with rfl | hz
    · exact (sh_int h).mono (by omega) (by omega)
    · cases hz
theorem place_bulk {n m : Nat} (ih : ∀ d c, gsz n d = some c → d.bulk ≤ 40 * c) {p : PyData} {a : Nat} (h : placeN (gsz n) m p = some a) (hm : m ≤ 8) : p.bulk ≤ 8 + 40 * a := by
  rcases placeN_val h with ⟨e, rfl⟩ | ⟨_, e⟩
  · cases placeN_some h with
    | num _ _ => simp only [PyData.bulk]; omega
    | @tie j h1 h2 => exact Nat.le_trans (sh_tie (j := j) (by omega)).blk (by omega)
    | @graph ps r k hg => rw [isG_graph] at e; cases e
  · have := ih _ _ e
    omega
theorem bulk_places {n m : Nat} (hm : m ≤ 8) (ih : ∀ d c, gsz n d = some c → d.bulk ≤ 40 * c) : ∀ {ps : List PyData} {s : Nat}, sumO (placeN (gsz n) m) ps = some s → PyData.bulkAll ps ≤ 9 * ps.length + 40 * s
  | [], s, h => by simp only [PyData.bulkAll]; omega
  | p :: r, s, h => by
    obtain ⟨u, v, h1, h3, rfl⟩ := sumO_cons h
    have i1 := place_bulk ih h1 hm
    have i2 := bulk_places hm ih h3
    simp only [PyData.bulkAll, List.length_cons]
    omega
theorem bulk_boxes {n m : Nat} (hm : m ≤ 8) (ih : ∀ d c, gsz n d = some c → d.bulk ≤ 40 * c) : ∀ {bs : List PyData} {s : Nat}, sumO (boxN (placeN (gsz n) m)) bs = some s → PyData.bulkAll bs ≤ 28 * bs.length + 40 * s
  | [], s, h => by simp only [PyData.bulkAll]; omega
  | b :: r, s, h => by
    obtain ⟨u, v, h1, h3, rfl⟩ := sumO_cons h
    obtain ⟨p, q, t, rfl, hp⟩ := boxN_some h1
    have i1 := bulk_places hm ih hp
    have i2 := bulk_boxes hm ih h3
    simp only [PyData.bulkAll, PyData.bulk, List.length_cons, List.length_nil] at i1 ⊢
    omega
theorem bulk_graph : ∀ (n : Nat) (d : PyData) (c : Nat), gsz n d = some c → d.bulk ≤ 40 * c
  | 0, d, c, h => by cases h
  | n + 1, d, c, h => by
    obtain ⟨m, bs, s, e, rfl, l1, l8, hs, rfl, h24⟩ := gsz_some h
    cases e
    have := bulk_boxes l8 (bulk_graph n) hs
    simp only [PyData.bulk]
    omega
theorem shq_graph : ∀ (n : Nat) (d : PyData) (c : Nat), gsz n d = some c → Sh (40 * c) (2 * n + 1) d
  | 0, d, c, h => by cases h
  | n + 1, d, c, h => by
    have hb := bulk_graph _ _ _ h
    obtain ⟨m, bs, s, e, rfl, l1, l8, hs, _⟩ := gsz_some h
    cases e
    have q : Sh ((200 * (40 * 24 + 60) + 1) * bs.length) (2 * n + 3) (.tuple bs) := by
      refine sh_tup (b := 200 * (40 * 24 + 60)) (p := 2 * n + 2) fun b hbm => ?_
      obtain ⟨a, ha⟩ := sumO_mem hs hbm
      have hba : b.bulk ≤ 200 * (40 * 24 + 60) := by
        have z : ∀ {l : List PyData} {x : PyData}, x ∈ l → x.bulk ≤ PyData.bulkAll l := by
          intro l x
          induction l with
          | nil => intro hx; cases hx
          | cons u v ih =>
            intro hx
            simp only [PyData.bulkAll]
            rcases List.mem_cons.mp hx with rfl | hx
            · omega
            · have := ih hx
              omega
        have z1 := z hbm
        have z2 : (PyData.tuple bs).bulk = PyData.bulkAll bs := by simp only [PyData.bulk]
        obtain ⟨_, _, _, _, _, _, _, _, _, h24⟩ := gsz_some h
        omega
      obtain ⟨p, r, t, rfl, hp⟩ := boxN_some ha
      have q2 := sh_tup (l := [p, r, t]) (b := 200 * (40 * 24 + 60)) (p := 2 * n + 1) fun z hz => by
        obtain ⟨u, hu⟩ := sumO_mem hp hz
        have hzb : z.bulk ≤ 200 * (40 * 24 + 60) := by
          have z3 : z.bulk ≤ PyData.bulkAll [p, r, t] := by
            simp only [PyData.bulkAll]
            rcases List.mem_cons.mp hz with rfl | hz
            · omega
            rcases List.mem_cons.mp hz with rfl | hz
            · omega
            rcases List.mem_cons.mp hz with rfl | hz
            · omega
            cases hz
          have z4 : (PyData.tuple [p, r, t]).bulk = PyData.bulkAll [p, r, t] := by simp only [PyData.bulk]
          omega
        cases placeN_some hu with
        | @num i h1 h2 => exact (sh_int (i := i) (by omega)).mono (Nat.zero_le _) (by omega)
        | @tie j h1 h2 => exact (sh_tie (j := j) (by omega)).mono (by omega) (by omega)
        | graph hg =>
          have i := shq_graph n _ _ hg
          exact ⟨i.shw, i.nod, i.sho, hzb, i.dep⟩
      exact ⟨q2.shw, q2.nod, q2.sho, hba, q2.dep⟩
    exact ⟨q.shw, q.nod, q.sho, hb, q.dep⟩
mutual
theorem eqv_refl : ∀ d : PyData, tupOnly d = true → PyData.eqv d d = true
  | .int i, _ => by simp [PyData.eqv]
  | .str x, _ => by simp [PyData.eqv]
  | .tuple xs, h => by simp only [PyData.eqv]; exact eqvAll_refl xs (by simpa only [tupOnly] using h)
  | .none, h => by simp [tupOnly] at h
  | .bool _, h => by simp [tupOnly] at h
  | .list _, h => by simp [tupOnly] at h
  | .dict _, h => by simp [tupOnly] at h
theorem eqvAll_refl : ∀ ds : List PyData, tupOnlyAll ds = true → PyData.eqvAll ds ds = true
  | [], _ => by simp [PyData.eqvAll]
  | d :: ds, h => by
    simp only [tupOnlyAll, Bool.and_eq_true] at h
    simp only [PyData.eqvAll, Bool.and_eq_true]
    exact ⟨eqv_refl d h.1, eqvAll_refl ds h.2⟩
end
/-- the script, which nobody writes -/
def ScrOk (K : PySem.W.Frag) (H : Hp) (a : Addr) (xs : List V) : Prop := (∃ o, H a = some (.frz o (.lst xs))) ∨
  ∃ (o : Obj) (its : Array Value) (n : Nat), K.lookup a = some o ∧ o.cls = .type "list" ∧ o.dict = none ∧ o.data = .seq its n ∧ its.size ≤ sizeLine ∧ Vals xs its.toList
theorem ScrOk.kt {K : PySem.W.Frag} {H H' : Hp} {a : Addr} {xs : List V} (h : ScrOk K H a xs) (k : KT H H') : ScrOk K H' a xs := by
  rcases h with ⟨o, z⟩ | z
  · exact .inl ⟨o, k _ _ z (fun l q => by cases q)⟩
  · exact .inr z
theorem ScrOk.sq {K : PySem.W.Frag} {H : Hp} {a : Addr} {xs : List V} (h : ScrOk K H a xs) : SqL K H a xs := by
  rcases h with h | h
  · exact .inl (.inr h)
  · exact .inr h
/-! repr, where sys.modules stands in the base: no list and no dict of the law's is it -/
section
variable {X : Cx} {pins : List (Addr × Obj)} {σ : L2.St} {H : Hp} {s : Shared}
def SysB (base : Heap) : Prop := ∃ mm, base.Ns sysModules mm
theorem list_ne_sys (I : Inv X pins σ H s) (hs : SysB X.base) {r : Addr} {us : List V} (h : SqL X.K H r us) : r ≠ sysModules := by
  obtain ⟨mm, o0, es, ep, e0, d0, _⟩ := hs
  have hn := (I.bs _ _ e0).2
  intro e
  rw [e] at h
  rcases h with (z | ⟨o, z⟩) | ⟨o, its, n, hk, hc, hdn, hd, _⟩
  · rw [hn] at z
    cases z
  · rw [hn] at z
    cases z
  · have z := I.mod.kin _ _ hk
    rw [e0] at z
    cases z
    rw [d0] at hd
    cases hd
mutual
theorem Dp.rdS (I : Inv X pins σ H s) (hs : SysB X.base) : ∀ (d : PyData) (v : V) (u : Value), Dp X.K H v d → RelV v u → ∃ as, Reads s.heap u d as ∧ sysModules ∉ as
  | .none, v, u, h, r => by cases h; cases r; exact ⟨_, .none, fun z => nomatch z⟩
  | .bool b, v, u, h, r => by cases h; cases r; exact ⟨_, .bool b, fun z => nomatch z⟩
  | .int i, v, u, h, r => by cases h; obtain ⟨t, rfl⟩ := r; exact ⟨_, .int i t, fun z => nomatch z⟩
  | .str x, v, u, h, r => by cases h; obtain ⟨t, rfl⟩ := r; exact ⟨_, .str x t, fun z => nomatch z⟩
  | .list es, v, u, h, r => by
    cases h with
    | lst at_ each =>
      cases r
      have ne := list_ne_sys I hs at_
      obtain ⟨its, rv, ⟨o, n, ho, hc, _, hd⟩, _⟩ := I.list at_
      obtain ⟨as, hr, hn⟩ := Dp.rdsS I hs es _ its each rv
      refine ⟨_, .list ho hc hd hr, fun z => ?_⟩
      rcases List.mem_cons.mp z with z | z
      · exact ne z.symm
      · exact hn z
  | .tuple es, v, u, h, r => by
    cases h with
    | tup at_ each =>
      cases r
      obtain ⟨its, rv, ⟨o, ho, hc, n, hd⟩, _⟩ := I.tuple at_
      obtain ⟨as, hr, hn⟩ := Dp.rdsS I hs es _ its each rv
      exact ⟨_, .tuple ho hc hd hr, hn⟩
  | .dict kvs, v, u, h, r => by
    cases h with
    | dct at_ =>
      cases r
      obtain ⟨_, _, _, _, _, _, ns, rd⟩ := dct_reads I at_
      exact ⟨_, rd, fun z => by
        have z : sysModules ∈ [_] := z
        exact ns (List.mem_singleton.mp z).symm⟩
theorem Dp.rdsS (I : Inv X pins σ H s) (hs : SysB X.base) : ∀ (ds : List PyData) (vs : List V) (us : List Value), DpAll X.K H vs ds → Vals vs us → ∃ as, ReadsAll s.heap us ds as ∧ sysModules ∉ as
  | [], vs, us, h, r => by cases h; cases r; exact ⟨_, .nil, fun z => nomatch z⟩
  | d :: ds, vs, us, h, r => by
    cases h with
    | cons one more =>
      cases r with
      | cons r1 r2 =>
        obtain ⟨as, q1, n1⟩ := Dp.rdS I hs d _ _ one r1
        obtain ⟨bs, q2, n2⟩ := Dp.rdsS I hs ds _ _ more r2
        refine ⟨_, .cons q1 q2, fun hm => ?_⟩
        rcases List.mem_append.mp hm with hm | hm
        · exact n1 hm
        · exact n2 hm
end
end
theorem call_reprS {X : Cx} (hs : SysB X.base) (hg : X.A.guards = some []) (hu : X.A.units + 80 < cLine) : CallR X (.builtin "repr") (fun xs H Q => ∃ (a : Addr) (d : PyData), xs = [.ref a] ∧ Dp X.K H (.ref a) d ∧ d.showable = true ∧ d.depth ≤ 64 ∧ d.shown.length ≤ sizeLine ∧ Q (.str d.shown) H) := by
  intro pins s σ H xs us Q I r h
  obtain ⟨a, d, rfl, hd, h1, h3, h4, q⟩ := h
  obtain ⟨u, rfl, ru⟩ := vals1 r
  cases ru
  obtain ⟨as, hr, hn⟩ := Dp.rdS I hs d (.ref a) (.ref a) hd rfl
  exact repr_of_reads' hr h1 (fun _ => hn) hg (by omega) (fun _ _ e => e) (fun h' u tk hk => ⟨.str d.shown, H, I.kept hk, ⟨u, rfl⟩, q⟩) h4
theorem call_reprA {X : Cx} (hs : SysB X.base) (hg : X.A.guards = some []) (hu : X.A.units + 80 < cLine) : CallR X (.builtin "repr") (fun xs H Q => ∃ (v : V) (d : PyData), xs = [v] ∧ Dp X.K H v d ∧ d.showable = true ∧ d.depth ≤ 64 ∧ d.shown.length ≤ sizeLine ∧ Q (.str d.shown) H) := by
  intro pins s σ H xs us Q I r h
  obtain ⟨v, d, rfl, hd, h1, h3, h4, q⟩ := h
  have refs : ∀ a : Addr, v = .ref a → wpAny (model X.prog X.w) X.A (call (.builtin "repr") us) (EP X pins σ Q) X.xe s := fun a e => by
    subst e
    exact call_reprS hs hg hu pins s σ H _ us Q I r ⟨a, d, rfl, hd, h1, h3, h4, q⟩
  cases hd with
  | non =>
    obtain ⟨u, rfl, ru⟩ := vals1 r
    cases ru
    exact PySem.P.repr_of_none ⟨.str _, H, I.tok _, ⟨_, rfl⟩, q⟩
  | bl b =>
    obtain ⟨u, rfl, ru⟩ := vals1 r
    cases ru
    exact PySem.P.repr_of_bool ⟨.str _, H, I.tok _, ⟨_, rfl⟩, by simpa only [PyData.shown] using q⟩
  | int i =>
    obtain ⟨u, rfl, t, rfl⟩ := vals1 r
    exact PySem.P.repr_of_int (of_decide_eq_true (by simpa only [PyData.showable] using h1)) ⟨.str _, H, I.tok _, ⟨_, rfl⟩, by simpa only [PyData.shown] using q⟩
  | str x =>
    obtain ⟨u, rfl, t, rfl⟩ := vals1 r
    exact PySem.P.repr_of_str ⟨.str _, H, I.tok _, ⟨_, rfl⟩, by simpa only [PyData.shown] using q⟩ (by simpa only [PyData.shown] using h4)
  | lst _ _ => exact refs _ rfl
  | tup _ _ => exact refs _ rfl
  | dct _ => exact refs _ rfl
/-! the end of a law whose defs hold lambdas: the tables of their code are tracked, too -/
section
open PySem.Spec PyProof.Rows LamX
theorem run_law2 {P : Program} {w : World} {K : PySem.W.Frag} {mg : Str → Option Value} {base : Heap} {fa a : Addr} {fd : FuncData} {st : Stmt} {N : List Str} {k : Nat} {s : Shared} {H : Hp} {nm par : Str}
    (F : Fun K nm nm st fa fd) (S : FnScope N [par] (defScope st)) (room : Room (k + 1) callerA) (at0 : Env0 P w K mg base callerA [] s H) (bd : BindsTo s fd ⟨[.ref a], []⟩ [(par, .ref a)])
    (body : ∀ cdv, fd.code = cdv → Room k (callerA.deeper (envOfC nm (defScope st) s.heap.objs.size fa cdv)) →
      ∃ t, PSs (cxOf CX0 P w K mg base N nm (defScope st) fa cdv callerA [] s H E0).nox (defBody st) t ∧ t { nx := fun _ _ => False, rt := fun v _ => v = .bl true } (L2.start N [.ref a]) H) :
    codeAny (model P w) callerA (.call (.ref fa) ⟨[.ref a], []⟩) (CR CX0 [] P w H s (fun v _ => v = .bl true) E0) s := by
  obtain ⟨oc, od, kV, doc, pm, an, cdv, ct, osl, rfl, found, code⟩ := F.ex
  have kin : K.In s.heap := at0.mod.kin.keeps fun b o e => (at0.bs b o e).1
  have unl : s.heap.NoLimit := at0.mod.nolimit.keeps fun b o e => (at0.bs b o e).1
  have kinds : ∀ y ∈ [(par, Value.ref a)], (defScope st).names.lookup y.1 = some .local ∨ ((defScope st).names.lookup y.1 = some .cell ∧ ((cellsFrom (s.heap.objs.size + 1) (defScope st).names []).lookup y.1).isSome = true) := by
    intro y hy
    rcases List.mem_cons.mp hy with rfl | hy
    · rcases S.par par List.mem_cons_self with q | q
      · exact .inl q
      · exact .inr ⟨q, PySem.W.cellsFrom_some _ _ _ (.inl q)⟩
    · cases hy
  refine codeAny_call_function room.depth (kin _ _ found) rfl S.co S.gen rfl (PySem.W.codeRec_of kin code) (bd _ _ _ _ ?_)
  refine wpAny_newFunctionEnv_cells S.kind kinds fun env he s1 ic => ?_
  subst he
  refine ⟨unl.keeps ic.toInCall.keep, codeAny_func ?_⟩
  obtain ⟨t, ht, hq⟩ := body cdv rfl (room.deeper _)
  have start_ok := inv_start (CX := CX0) (E := E0) (us := [.ref a]) (vs := [.ref a]) S room.hd at0 rfl (.cons rfl .nil) ic
  refine wpAny_mono (ht.nox.run [] s1 _ H _ start_ok hq) (fun fl s' out => ?_) fun e s' out => out
  cases fl with
  | ret u =>
    obtain ⟨v, σ', H', J, rv, q⟩ := out
    exact ⟨v, H', J.os, J.bare, J.base, J.hok, rv, q⟩
  | next =>
    obtain ⟨_, _, _, q⟩ := out
    exact q.elim
  | brk =>
    obtain ⟨_, _, _, q⟩ := out
    exact q.elim
  | cont =>
    obtain ⟨_, _, _, q⟩ := out
    exact q.elim
/-- what the module's head leaves of tables -/
structure TabsAt (K : PySem.W.Frag) (mg : Str → Option Value) (h : Heap) (cs : List (Addr × Addr)) : Prop where
  empty : ∀ p ∈ cs, h.get? p.2 = some { cls := .none, data := .fields #[] }
  out : ∀ p ∈ cs, K.lookup p.2 = none
  heads : ∀ p ∈ cs, PySem.W.CodeHd h p.1 p.2
  sys : SysB h
  blt : ∃ (bm : Addr) (ob : Obj), mg "__builtins__" = some (.ref bm) ∧ bm ≠ builtinsNs ∧ h.get? bm = some ob ∧ ob.cls = .type "module" ∧ ob.dict = some builtinsNs ∧ ob.data = .plain
theorem law_endT {P : Program} {w : World} {K : PySem.W.Frag} {mg mb : Str → Option Value} {fa a : Addr} {cs : List (Addr × Addr)} {fd : FuncData} {st : Stmt} {N : List Str} {k : Nat} {s : Shared} {nm par : Str} {vs : List Value} {ns : List Int}
    (kin : K.In s.heap) (gl : s.heap.Ns mainGlobals mg) (bl : s.heap.Ns builtinsNs mb) (blb : ∀ x : Str, x ≠ "__name__" → mb x = bootBuiltins x) (unl : s.heap.NoLimit) (gens : s.gens = #[]) (TA : TabsAt K mg s.heap cs)
    (ha : s.heap.get? a = some { cls := .type "list", data := .seq vs.toArray }) (hi : IntsAre vs ns) (hl : ns.length ≤ sizeLine) (room : Room (k + 1) callerA)
    (F : Fun K nm nm st fa fd) (S : FnScope N [par] (defScope st)) (bd : ∀ (s : Shared) (u : Value), BindsTo s fd ⟨[u], []⟩ [(par, u)])
    (body : ∀ (base : Heap), K.In base → base.Ns mainGlobals mg → SysB base → (∀ p ∈ cs, TabB base mg p.1 p.2) → ∀ (H : Hp) cdv, fd.code = cdv → (∀ p ∈ cs, H p.2 = some (.tbl #[])) → ScrOk K H a (ns.map V.int) → Room k (callerA.deeper (envOfC nm (defScope st) s.heap.objs.size fa cdv)) →
      ∃ t, PSs (cxOf CX0 P w K mg base N nm (defScope st) fa cdv callerA [] s H E0).nox (defBody st) t ∧ t { nx := fun _ _ => False, rt := fun v _ => v = .bl true } (L2.start N [.ref a]) H) :
    codeAny (model P w) callerA (.call (.ref fa) ⟨[.ref a], []⟩) (fun r s' => r = .ok (.ret (.bool true)) ∧ OldK s.heap s'.heap ∧ s'.os = s.os ∧ AllBare s'.gens) s := by
  have vals := vals_ints hi
  have len := hi.length
  have no_tab : ∀ p ∈ cs, p.2 ≠ a := fun p hp z => by
    have e := TA.empty p hp
    rw [z, ha] at e
    have e : Data.seq vs.toArray _ = Data.fields #[] := congrArg Obj.data (Option.some.inj e)
    cases e
  -- whatever of the script is tracked
  have main : ∀ H : Hp, (∀ p ∈ cs, H p.2 = some (.tbl #[])) → ScrOk K H a (ns.map V.int) → HOk P w H s.heap →
      (∀ b u, H b = some u → (b = a ∧ K.lookup a = none ∧ ∃ o xs, u = .frz o (.lst xs)) ∨ ∃ p ∈ cs, b = p.2) →
      codeAny (model P w) callerA (.call (.ref fa) ⟨[.ref a], []⟩) (fun r s' => r = .ok (.ret (.bool true)) ∧ OldK s.heap s'.heap ∧ s'.os = s.os ∧ AllBare s'.gens) s := by
    intro H tabs scr hok alone
    have off : ∀ {b : Addr} {o : Obj}, s.heap.get? b = some o → (∀ us n, o.data ≠ .seq us n) → o.data ≠ .fields #[] → H b = none := by
      intro b o e n1 n2
      cases q : H b with
      | none => rfl
      | some u =>
        rcases alone b u q with ⟨rfl, _⟩ | ⟨p, hp, rfl⟩
        · rw [ha] at e
          cases e
          exact absurd rfl (n1 _ _)
        · rw [TA.empty p hp] at e
          cases e
          exact absurd rfl n2
    have spaces : ∀ {b : Addr} {m : Str → Option Value}, s.heap.Ns b m → (hidT s.heap H).Ns b m := by
      intro b m ⟨o, es, ep, e, d, r⟩
      refine ⟨o, es, ep, hidT_get e (off e (fun us n z => ?_) fun z => ?_), d, r⟩
      · rw [d] at z
        cases z
      · rw [d] at z
        cases z
    have kinB : K.In (hidT s.heap H) := by
      intro b o e
      refine hidT_get (kin b o e) ?_
      cases q : H b with
      | none => rfl
      | some u =>
        rcases alone b u q with ⟨rfl, z, _⟩ | ⟨p, hp, rfl⟩
        · rw [z] at e
          cases e
        · rw [TA.out p hp] at e
          cases e
    have TB : ∀ p ∈ cs, TabB (hidT s.heap H) mg p.1 p.2 := by
      intro p hp
      constructor
      · obtain ⟨o, us, x1, x2, x3, x4, x5, x6, x7, e, y1, y2, y3, y4⟩ := TA.heads p hp
        refine ⟨o, us, x1, x2, x3, x4, x5, x6, x7, hidT_get e (off e (fun vs n z => ?_) fun z => ?_), y1, y2, y3, y4⟩
        · rw [y2] at z
          cases z
        · rw [y2] at z
          cases z
          simp at y3
      · obtain ⟨bm, ob, g1, g2, g3, g4, g5, g6⟩ := TA.blt
        refine ⟨bm, ob, g1, g2, fun z => ?_, fun z => ?_, hidT_get g3 (off g3 (fun vs n z => ?_) fun z => ?_), g4, g5, g6⟩
        · obtain ⟨o, es, ep, e, d, _⟩ := gl
          rw [z, e] at g3
          cases g3
          rw [d] at g6
          cases g6
        · rw [z, TA.empty p hp] at g3
          cases g3
          cases g6
        · rw [g6] at z
          cases z
        · rw [g6] at z
          cases z
      · intro z
        obtain ⟨o, es, ep, e, d, _⟩ := gl
        rw [z, TA.empty p hp] at e
        cases e
        cases d
    obtain ⟨mc, un1, un2⟩ := unl
    have md : Mod K mg (hidT s.heap H) := ⟨kinB, spaces gl, ⟨mb, spaces bl, blb⟩, ⟨mc, spaces un1, un2⟩⟩
    have at0 : Env0 P w K mg (hidT s.heap H) callerA [] s H := by
      refine ⟨rfl, md, fun b o e => of_hidT e, Nat.le_of_eq (hidT_size _ _), trivial, fun b hb => ?_, hok, .of_eq gens⟩
      cases (show b ∈ ([] : List Addr) from hb)
    refine codeAny_mono (run_law2 F S room at0 (bd s (.ref a)) fun cdv hc hr => body _ kinB (spaces gl) (let ⟨mm, z⟩ := TA.sys; ⟨mm, spaces z⟩) TB H cdv hc tabs scr hr) fun r s' res => ?_
    match r, res with
    | .error e, res => exact (show False from res).elim
    | .ok .next, res => exact (show False from res).elim
    | .ok .brk, res => exact (show False from res).elim
    | .ok .cont, res => exact (show False from res).elim
    | .ok (.ret u), res =>
      obtain ⟨v, H', os, bare, un, hok', rv, q⟩ := res
      obtain rfl : v = .bl true := q
      obtain rfl : u = Value.bool true := rv
      have stays : ∀ b o, (∀ p ∈ cs, b ≠ p.2) → s.heap.get? b = some o → s'.heap.get? b = some o := by
        intro b o nb e
        cases q : H b with
        | none =>
          refine un.keep b o e q (fun z => ?_) (by simp)
          cases (show b ∈ ([] : List Addr) from z)
        | some u =>
          rcases alone b u q with ⟨_, _, ob, xs, rfl⟩ | ⟨p, hp, z⟩
          · obtain ⟨e1, _⟩ := hok b _ q
            obtain ⟨e2, _⟩ := hok' b _ (un.frzs b ob _ q)
            rw [e] at e1
            cases e1
            exact e2
          · exact absurd z (nb p hp)
      have grows : ∀ p ∈ cs, ∃ more : Array Value, s'.heap.get? p.2 = some { cls := .none, data := .fields more } := by
        intro p hp
        obtain ⟨more, z⟩ := un.tbls p.2 #[] (tabs p hp)
        exact ⟨_, hok' p.2 _ z⟩
      refine ⟨rfl, ⟨fun b o e => ?_, fun b o e => ?_⟩, os, bare⟩
      · by_cases nb : ∀ p ∈ cs, b ≠ p.2
        · exact .inl (stays b o nb e)
        · obtain ⟨p, hp, z⟩ : ∃ p ∈ cs, b = p.2 := by
            refine Classical.byContradiction fun no => nb fun p hp z => no ⟨p, hp, z⟩
          subst z
          obtain ⟨more, hm⟩ := grows p hp
          have e0 := TA.empty p hp
          rw [e0] at e
          cases e
          refine .inr (.inl ⟨((TA.heads p hp).tab (ps := #[]) e0).isCodeTable, rfl, #[], more, rfl, ?_⟩)
          rw [Array.empty_append]
          exact hm
      · by_cases nb : ∀ p ∈ cs, b ≠ p.2
        · exact ⟨o, stays b o nb e⟩
        · obtain ⟨p, hp, z⟩ : ∃ p ∈ cs, b = p.2 := by
            refine Classical.byContradiction fun no => nb fun p hp z => no ⟨p, hp, z⟩
          subst z
          obtain ⟨more, hm⟩ := grows p hp
          exact ⟨_, hm⟩
  -- the tables, and the script where it isn't written
  let tb : Addr → Bool := fun b => cs.any fun p => decide (b = p.2)
  have tb_in : ∀ {b}, tb b = true → ∃ p ∈ cs, b = p.2 := fun {b} z => by
    obtain ⟨p, hp, e⟩ := List.any_eq_true.mp z
    exact ⟨p, hp, of_decide_eq_true e⟩
  have in_tb : ∀ p ∈ cs, tb p.2 = true := fun p hp => List.any_eq_true.mpr ⟨p, hp, decide_eq_true rfl⟩
  cases hk : K.lookup a with
  | some o =>
    have e := kin a o hk
    rw [ha] at e
    cases e
    refine main (fun b => if tb b = true then some (.tbl #[]) else none) (fun p hp => if_pos (in_tb p hp)) (.inr ⟨_, vs.toArray, _, hk, rfl, rfl, rfl, by rw [List.size_toArray, len]; exact hl, by simpa using vals⟩) (fun b u z => ?_) (fun b u z => ?_)
    · by_cases c : tb b = true
      · obtain ⟨p, hp, rfl⟩ := tb_in c
        have z := (if_pos c).symm.trans z
        cases z
        exact TA.empty p hp
      · have z := (if_neg c).symm.trans z
        cases z
    · by_cases c : tb b = true
      · exact .inr (tb_in c)
      · have z := (if_neg c).symm.trans z
        cases z
  | none =>
    refine main (fun b => if b = a then some (.frz { cls := .type "list", data := .seq vs.toArray } (.lst (ns.map V.int))) else if tb b = true then some (.tbl #[]) else none) (fun p hp => (if_neg (no_tab p hp)).trans (if_pos (in_tb p hp))) (.inl ⟨_, if_pos rfl⟩) (fun b u z => ?_) (fun b u z => ?_)
    · by_cases c0 : b = a
      · have z := (if_pos c0).symm.trans z
        cases z
        rw [c0]
        exact ⟨ha, by rw [List.length_map]; exact hl, vs, _, vals, ha⟩
      · have z := (if_neg c0).symm.trans z
        by_cases c : tb b = true
        · obtain ⟨p, hp, rfl⟩ := tb_in c
          have z := (if_pos c).symm.trans z
          cases z
          exact TA.empty p hp
        · have z := (if_neg c).symm.trans z
          cases z
    · by_cases c0 : b = a
      · have z := (if_pos c0).symm.trans z
        exact .inl ⟨c0, hk, _, _, (Option.some.inj z).symm⟩
      · have z := (if_neg c0).symm.trans z
        by_cases c : tb b = true
        · exact .inr (tb_in c)
        · have z := (if_neg c).symm.trans z
          cases z
end
section
open PySem.Spec PyProof.Rows LamX
theorem st_ext {st : Addr} {H H' : Hp} (h : StAt H st) (e : ExtN H H') : StAt H' st := by
  obtain ⟨x, y, z, h, ok⟩ := h
  exact ⟨x, y, z, e _ _ h (fun ps q => by cases q), ok⟩
theorem scr_ext {K : PySem.W.Frag} {H H' : Hp} {a : Addr} {xs : List V} (h : ScrOk K H a xs) (e : ExtN H H') : ScrOk K H' a xs := by
  rcases h with ⟨o, z⟩ | z
  · exact .inl ⟨o, e _ _ z (fun ps q => by cases q)⟩
  · exact .inr z
end
def tKw (m : Nat) (sp : Sp) (gV : List V → List V → List V) (tk : TA) : TE := fun σ H Q => tk σ H fun zs H2 => zs.length = m ∧ sp (gV [] zs) H2 Q E0
def CalK (P : Program) (w : World) (K : PySem.W.Frag) (mg : Str → Option Value) (base : Heap) (x : Str) (k : Nat) (ps ks : List Str) (g : List Value → List Value → List Value) (gV : List V → List V → List V) (sp : Sp) : Prop :=
  ∃ (f : Addr) (fd : FuncData), FnOk P w K mg base CX0 k f fd ps sp ∧ mg x = some (.ref f) ∧ PySem.W.keepIn K (.ref f) = true ∧ KBn K fd ps 0 ks g gV
theorem pe_kw {X : Cx} {x : Str} {p pos : Pos} {k : Nat} {ps ks : List Str} {g : List Value → List Value → List Value} {gV : List V → List V → List V} {sp : Sp} {kws : List Keyword} {tk : TA}
    (C : CalK X.prog X.w X.K X.mg X.base x k ps ks g gV sp) (hr : Room k X.A) (hg : Gl X x) (hkw : PK X kws tk)
    (h1 : (backToKw pos (keywordEach kws X.env)).all (·.1.isSome) = true := by rfl) (h2 : (backToKw pos (keywordEach kws X.env)).filterMap (·.1) = ks := by rfl) (h3 : (x == ("__debug__" : Str)) = false := by decide)
    (h4 : ((backTo pos (starEach [] X.env)).any (·.1) || (backToKw pos (keywordEach kws X.env)).any (·.1.isNone)) = false := by rfl) :
    PE X (.Call (.Name x p) [] kws pos) (tKw ks.length sp gV tk) := by
  obtain ⟨f, fd, F, hm, hk, hb⟩ := C
  constructor
  intro pins s σ H Q I h
  refine wpAny_Call_Name_kw (ld_glob I hg hm ?_ h3)
  refine PySem.W.callWith_KW0 (h₀ := X.base) I.ok.mod.kin hk h1 ?_ h4
  refine thn (hkw.run pos pins s σ H _ I h) ?_
  rintro ws s2 ⟨zs, H2, I2, rz, l2, q2⟩
  refine ⟨I2.kIn, ?_⟩
  rw [h2]
  exact run_fnN (us := []) (vs := []) F hr hb pass0 I2 .nil rz rfl l2 q2
/-! repr of whatever data -/
structure FnG (P : Program) (w : World) (K : PySem.W.Frag) (mg : Str → Option Value) (base : Heap) (k : Nat) (f : Addr) (fd : FuncData) (ps : List Str) (sp : Sp) : Prop where
  len : ∀ vs H Q, sp vs H Q E0 → vs.length = ps.length
  run : ∀ (A : Around) (outer : List Env) (s : Shared) (H : Hp) (args : Args) (us : List Value) (vs : List V) (Q : VK), A.guards = some [] → Room k A → Env0 P w K mg base A outer s H → BindsTo s fd args (ps.zip us) → Vals vs us → sp vs H Q E0 →
    codeAny (model P w) A (.call (.ref f) args) (CR CX0 outer P w H s Q E0) s
theorem FnG.mono {P : Program} {w : World} {K : PySem.W.Frag} {mg : Str → Option Value} {base : Heap} {j k : Nat} {f : Addr} {fd : FuncData} {ps : List Str} {sp : Sp} (F : FnG P w K mg base j f fd ps sp) (h : j ≤ k) : FnG P w K mg base k f fd ps sp :=
  ⟨F.len, fun A outer s H args us vs Q hg hr => F.run A outer s H args us vs Q hg (hr.mono h)⟩
section
open PySem.Spec PyProof.Rows
theorem okG {P : Program} {w : World} {K : PySem.W.Frag} {mg : Str → Option Value} {base : Heap} {x : Str} {st : Stmt} {f : Addr} {fd : FuncData} {N ps : List Str} {k : Nat} {sp : Sp} (F : Fun K x x st f fd) (S : FnScope N ps (defScope st)) (len : ∀ vs H Q, sp vs H Q E0 → vs.length = ps.length)
    (body : ∀ (cdv : Value) (A : Around) (outer : List Env) (s : Shared) (H : Hp) (vs : List V) (Q : VK), fd.code = cdv → A.guards = some [] → Room k (A.deeper (envOfC x (defScope st) s.heap.objs.size f cdv)) → sp vs H Q E0 →
      ∃ t, PSs (cxOf CX0 P w K mg base N x (defScope st) f cdv A outer s H E0).nox (defBody st) t ∧ t { nx := fun _ H' => Q .non H', rt := Q } (L2.start N vs) H) : FnG P w K mg base (k + 1) f fd ps sp := by
  refine ⟨len, fun A outer s H args us vs Q guard room at0 bd rel prom => ?_⟩
  obtain ⟨oc, od, kV, doc, pm, an, cdv, ct, osl, rfl, found, code⟩ := F.ex
  have many := len _ _ _ prom
  have kin : K.In s.heap := at0.mod.kin.keeps fun b o e => (at0.bs b o e).1
  have unl : s.heap.NoLimit := at0.mod.nolimit.keeps fun b o e => (at0.bs b o e).1
  have kinds : ∀ y ∈ ps.zip us, (defScope st).names.lookup y.1 = some .local ∨ ((defScope st).names.lookup y.1 = some .cell ∧ ((cellsFrom (s.heap.objs.size + 1) (defScope st).names []).lookup y.1).isSome = true) := by
    intro y hy
    rcases S.par y.1 (List.of_mem_zip (show (y.1, y.2) ∈ ps.zip us from hy)).1 with q | q
    · exact .inl q
    · exact .inr ⟨q, PySem.W.cellsFrom_some _ _ _ (.inl q)⟩
  refine codeAny_call_function room.depth (kin _ _ found) rfl S.co S.gen rfl (PySem.W.codeRec_of kin code) (bd _ _ _ _ ?_)
  refine wpAny_newFunctionEnv_cells S.kind kinds fun env he s1 ic => ?_
  subst he
  refine ⟨unl.keeps ic.toInCall.keep, codeAny_func ?_⟩
  obtain ⟨t, ht, hq⟩ := body cdv A outer s H vs Q rfl guard (room.deeper _) prom
  have start_ok := inv_start (CX := CX0) (E := E0) S room.hd at0 many rel ic
  refine wpAny_mono (ht.nox.run [] s1 _ H _ start_ok hq) (fun fl s' out => ?_) fun e s' out => out
  cases fl with
  | ret u =>
    obtain ⟨v, σ', H', J, rv, q⟩ := out
    exact ⟨v, H', J.os, J.bare, J.base, J.hok, rv, q⟩
  | next =>
    obtain ⟨σ', H', J, q⟩ := out
    exact ⟨.non, H', J.os, J.bare, J.base, J.hok, rfl, q⟩
  | brk =>
    obtain ⟨_, _, _, q⟩ := out
    exact q.elim
  | cont =>
    obtain ⟨_, _, _, q⟩ := out
    exact q.elim
def CalS (P : Program) (w : World) (K : PySem.W.Frag) (mg : Str → Option Value) (base : Heap) (x : Str) (k : Nat) (ps : List Str) (sp : Sp) : Prop :=
  ∃ (f : Addr) (fd : FuncData), FnG P w K mg base k f fd ps sp ∧ mg x = some (.ref f) ∧ PySem.W.keepIn K (.ref f) = true ∧ Binds K fd ps []
theorem pe_calS {X : Cx} {x : Str} {p pos : Pos} {e : Expr} {es : List Expr} {t : TA} {k : Nat} {ps : List Str} {sp : Sp} (C : CalS X.prog X.w X.K X.mg X.base x k ps sp) (hg0 : X.A.guards = some []) (hr : Room k X.A) (hg : Gl X x) (ha : PA X (e :: es) t)
    (hdb : (x == ("__debug__" : Str)) = false := by decide) (h2 : starEach (e :: es) X.env = (false, eval e X.env) :: starEach es X.env := by rfl) (h3 : ((backTo pos (starEach es X.env)).any fun x => x.fst) = false := by rfl) :
    PE X (.Call (.Name x p) (e :: es) [] pos) (tCall sp [] E0 t) := by
  obtain ⟨f, fd, F, hm, hk, hb⟩ := C
  refine ⟨fun pins s σ H Q I h => ?_⟩
  refine wpAny_Call_Name_kw (ld_glob I hg hm ?_ hdb)
  refine PySem.W.callWith_K (h₀ := X.base) I.ok.mod.kin hk (thn (ha.run pos pins s σ H _ I h) fun us s1 ⟨vs, H1, I1, r, q⟩ => ⟨I1.kIn, ?_⟩) h2 h3
  have q : sp (vs ++ []) H1 Q E0 := q
  rw [List.append_nil] at q
  have l1 : us.length = ps.length := by rw [← r.length]; exact F.len _ _ _ q
  have b := hb s1 us I1.kIn (by rw [List.append_nil]; exact l1)
  rw [List.append_nil] at b
  refine wpAny_call (codeAny_mono (F.run X.A X.stack s1 H1 ⟨us, []⟩ us vs Q hg0 hr I1.env0 b r q) fun r s' res => ?_)
  match r, res with
  | .error e, res => exact (show False from res).elim
  | .ok (.ret u), res => exact I1.after res
  | .ok .next, res => exact (show False from res).elim
  | .ok .brk, res => exact (show False from res).elim
  | .ok .cont, res => exact (show False from res).elim
end
/-! data without a list stands while lists change -/
theorem TabsG.mk' {PT : TbP} {H H1 : Hp} {Pt : Addr} {q : Str} (t : TabsG PT H) (hm : (Pt, q) ∈ PT.t) (t1 : LamX.Tabs PT.t H1) (oth : ∀ b ps, b ≠ Pt → H b = some (.tbl ps) → H1 b = some (.tbl ps)) : TabsG PT H1 := ⟨fun P hP => by
  obtain ⟨ps, h, ok⟩ := t.1 P hP
  exact ⟨ps, oth _ _ (fun e => PT.ap _ hm (by rw [← e]; exact hP)) h, ok⟩, t1⟩
section
open PySem.Spec PyProof.Rows
def timesS (z : Str) (n : Nat) : Str := ⟨(List.replicate n z.cps.toList).flatten.toArray⟩
theorem fold_app (xs : Array Nat) : ∀ (n : Nat) (acc : Array Nat), ((List.replicate n xs).foldl (· ++ ·) acc) = (acc.toList ++ (List.replicate n xs.toList).flatten).toArray
  | 0, acc => by simp
  | n + 1, acc => by
    rw [List.replicate_succ, List.foldl_cons, fold_app xs n (acc ++ xs), List.replicate_succ, List.flatten_cons, Array.toList_append, List.append_assoc]
theorem len_tlz (z : Str) : z.cps.toList.length = z.length := Array.length_toList
variable {X : Cx}
theorem op_mulS : OpR X (binaryOp .Mult) (fun x y H Q => ∃ (z : Str) (n : Nat), x = .str z ∧ y = .int (n : Nat) ∧ z.length ≤ 1000 ∧ n ≤ 1000 ∧ Q (.str (timesS z n)) H) := by
  intro pins s σ H x y v u Q I rx ry h
  obtain ⟨z, n, rfl, rfl, hz, hn, q⟩ := h
  obtain ⟨t, rfl⟩ := rx
  obtain ⟨t', rfl⟩ := ry
  have hm : z.length * n ≤ 1000 * 1000 := Nat.mul_le_mul hz hn
  have lf : (timesS z n).length = z.length * n := by
    show ((List.replicate n z.cps.toList).flatten.toArray).size = _
    rw [List.size_toArray, List.length_flatten, List.map_replicate, List.sum_replicate_nat, len_tlz, Nat.mul_comm]
  refine PySem.P.mul_str (by rw [decide_eq_false (by omega), decide_eq_false (by omega)]; rfl) (fun h1 h2 h3 => ?_) (fun h1 h2 => ?_) ?_
  · have : (0 : Int) < (n : Int) := by omega
    have h4 : ((2 : Int) ^ 63 - 1) / (n : Int) ≥ (2 ^ 63 - 1) / 1000 := by
      refine (Int.le_ediv_iff_mul_le this).mpr ?_
      have e : ((2 : Int) ^ 63 - 1) / 1000 = 9223372036854775 := by decide
      rw [e]
      have : (9223372036854775 : Int) * (n : Int) ≤ 9223372036854775 * 1000 := Int.mul_le_mul_of_nonneg_left (by omega) (by decide)
      omega
    have e : ((2 : Int) ^ 63 - 1) / 1000 = 9223372036854775 := by decide
    omega
  · rw [Int.toNat_natCast]
    unfold Builtin.Str.tooLong
    first | exact decide_eq_false (by rw [sizeLine_eq]; omega) | (rw [sizeLine_eq]; exact decide_eq_false (by omega))
  · by_cases c1 : ((n : Nat) : Int) < 1
    · rw [if_pos c1]
      have n0 : n = 0 := by omega
      subst n0
      exact ⟨by decide, ⟨.str (timesS z 0), H, I.tok _, ⟨_, by rfl⟩, q⟩⟩
    · rw [if_neg c1]
      by_cases c2 : ((((n : Nat) : Int) == 1) || z.length == 0) = true
      · rw [if_pos c2]
        have e : timesS z n = z := by
          refine str_tl ?_
          show ((List.replicate n z.cps.toList).flatten.toArray).toList = _
          rw [List.toList_toArray]
          rcases Bool.or_eq_true_iff.mp c2 with h | h
          · have : n = 1 := by have := eq_of_beq h; omega
            subst this
            simp
          · have h0 := eq_of_beq h
            have : z.cps.toList = [] := List.length_eq_zero_iff.mp (by rw [len_tlz]; exact h0)
            rw [this]
            simp
        rw [e] at q
        exact ⟨.str z, H, I, ⟨t, rfl⟩, q⟩
      · rw [if_neg c2, Int.toNat_natCast]
        have e : (⟨(List.replicate n z.cps).foldl (· ++ ·) #[]⟩ : Str) = timesS z n := by
          rw [fold_app]
          rfl
        rw [e]
        refine ⟨by rw [lf, sizeLine_eq]; omega, ⟨.str (timesS z n), H, I.tok _, ⟨_, rfl⟩, q⟩⟩
end
theorem itL_bd {i : Int} (h0 : -9999 ≤ i) (h1 : i ≤ 9999) : (itL i).length ≤ 5 ∧ ∀ c ∈ itL i, c < 128 := by
  refine ⟨?_, fun c hc => ?_⟩
  · have := itS_len h0 h1
    rw [← it_tl]
    have e : (itS i).cps.toList.length = (itS i).length := by simp [Str.length]
    omega
  · unfold itL at hc
    split at hc
    · rcases List.mem_cons.mp hc with rfl | hc
      · decide
      · have := TL.numL_digits _ c hc
        omega
    · have := TL.numL_digits _ c hc
      omega
def TxB (k : Nat) (l : List Nat) : Prop := l.length ≤ k ∧ ∀ c ∈ l, c < 128
theorem TxB.cons {k c : Nat} {l : List Nat} (h : TxB k l) (hc : c < 128) : TxB (k + 1) (c :: l) := ⟨by rw [List.length_cons]; have := h.1; omega, fun d hd => by
  rcases List.mem_cons.mp hd with rfl | hd
  · exact hc
  · exact h.2 d hd⟩
theorem TxB.app {j k : Nat} {l m : List Nat} (h : TxB j l) (g : TxB k m) : TxB (j + k) (l ++ m) := ⟨by rw [List.length_append]; have := h.1; have := g.1; omega, fun d hd => by
  rcases List.mem_append.mp hd with hd | hd
  · exact h.2 d hd
  · exact g.2 d hd⟩
theorem TxB.mono {j k : Nat} {l : List Nat} (h : TxB j l) (g : j ≤ k) : TxB k l := ⟨Nat.le_trans h.1 g, h.2⟩
theorem pl_sz {n m : Nat} {d : PyData} (ih : ∀ d, grB n d = true → TxB (22 * szG n d) (gT n d).cps.toList) (m8 : m ≤ 8) (h : plB (grB n) m d = true) : TxB (6 + 22 * szP (szG n) d) (plL (gT n) d) := by
  rcases pl_cases h with ⟨i, rfl, i0, i1⟩ | ⟨j, rfl, j0, j1⟩ | ⟨y, r, rfl, hg⟩
  · rw [plL_int]
    exact TxB.mono (show TxB 5 (itL i) from itL_bd i0 i1) (by omega)
  · rw [plL_tie]
    exact TxB.mono ((show TxB 5 (itL j) from itL_bd (by omega) (by omega)).cons (by decide)) (by omega)
  · rw [plL_gr]
    exact TxB.mono (((ih _ hg).app (show TxB 1 [41] from ⟨by decide, by decide⟩)).cons (by decide)) (by show 22 * szG n _ + 1 + 1 ≤ 6 + 22 * szG n _; omega)
theorem bx_sz {n m : Nat} {b : PyData} (ih : ∀ d, grB n d = true → TxB (22 * szG n d) (gT n d).cps.toList) (m8 : m ≤ 8) (h : bxB (grB n) m b = true) : TxB (22 + 22 * szB (szG n) b) (bxL (gT n) b) := by
  obtain ⟨p, q, r, rfl, hall⟩ := bx3 h
  have hp := pl_sz ih m8 (hall p (by simp))
  have hq := pl_sz ih m8 (hall q (by simp))
  have hr := pl_sz ih m8 (hall r (by simp))
  rw [bxL_eq]
  refine TxB.mono ((hp.app ((hq.app ((hr.app (show TxB 1 [93] from ⟨by decide, by decide⟩)).cons (c := 32) (by decide))).cons (c := 32) (by decide))).cons (c := 91) (by decide)) ?_
  have e : szB (szG n) (.tuple [p, q, r]) = szP (szG n) p + (szP (szG n) q + (szP (szG n) r + 0)) := rfl
  rw [e]
  omega
theorem gT_sz : ∀ (n : Nat) (d : PyData), grB n d = true → TxB (22 * szG n d) (gT n d).cps.toList
  | 0, d, h => by cases d <;> cases h
  | n + 1, d, h => by
    obtain ⟨n', bs, en, rfl, l1, l8, hall⟩ := gr_is h
    cases en
    have ih := gT_sz n
    rw [gL_eq]
    have aux : ∀ l : List PyData, (∀ b ∈ l, bxB (grB n) bs.length b = true) → TxB (22 * (l.length + (l.map (szB (szG n))).sum)) (l.flatMap (bxL (gT n))) := fun l => by
      induction l with
      | nil => intro _; exact ⟨Nat.zero_le _, fun c hc => by cases hc⟩
      | cons b l il =>
        intro hl
        have h1 := bx_sz ih l8 (hl b List.mem_cons_self)
        have h2 := il fun z hz => hl z (List.mem_cons_of_mem _ hz)
        rw [List.flatMap_cons]
        refine TxB.mono (h1.app h2) ?_
        rw [List.length_cons, List.map_cons, List.sum_cons]
        omega
    exact aux bs hall
theorem gT_show {d : PyData} (h : grB 4 d = true) (hs : szG 4 d ≤ 24) : (PyData.str (gT 4 d)).showable = true ∧ (PyData.str (gT 4 d)).depth ≤ 64 ∧ (PyData.str (gT 4 d)).shown.length ≤ sizeLine := by
  have b := gT_sz 4 d h
  have l := PySem.StrLaws.reprText_len (gT 4 d) (fun c hc => by
    have h1 := b.2 c hc
    have h2 : (128 : Nat) < 16 ^ 8 := by decide
    omega)
  have e : (gT 4 d).cps.toList.length = (gT 4 d).length := by simp [Str.length]
  have b1 := b.1
  refine ⟨by simp only [PyData.showable], by simp only [PyData.depth]; omega, ?_⟩
  simp only [PyData.shown]
  have sl : (16777216 : Nat) = sizeLine := rfl
  omega
theorem TabsG.kp {PT : TbP} {H H' : Hp} {st : Addr} (t : TabsG PT H) (sa : StAt H st) (k : Kp st H H') : TabsG PT H' := t.keep fun b u hb n => k _ _ (fun z => by
  obtain ⟨l, hl⟩ := sa.some
  rw [z, hl] at hb
  rcases n with ⟨_, rfl⟩ | ⟨_, rfl⟩ <;> cases hb) hb
theorem kt_mn {st : Addr} {H : Hp} (sa : StAt H st) : KT H (mn st H) := fun b u h n => by
  refine mn_at (fun z => ?_) h
  obtain ⟨l, hl⟩ := sa.some
  rw [z, hl] at h
  exact n l (Option.some.inj h).symm
section
open PySem.Spec PyProof.Rows LamX
variable {P : Program} {w : World} {K : PySem.W.Frag} {mg : Str → Option Value} {base : Heap} {f : Addr} {fd : FuncData} {C : Addr} {PT : TbP}
def spLSame (K : PySem.W.Frag) : Sp := fun vs H Q _ => ∃ (x y : V) (d : PyData), vs = [x, y] ∧ Dp K H x d ∧ Dp K H y d ∧ (d.showable = true ∧ d.depth ≤ 64 ∧ d.shown.length ≤ sizeLine) ∧ Q (.bl true) H
theorem scLSame : FnScope ["_law_found", "_law_due_here"] ["_law_found", "_law_due_here"] (defScope sLSame) := ⟨rfl, rfl, rfl, by decide +kernel, rfl, by decide +kernel, by decide +kernel⟩
theorem ok_lsame {k : Nat} (F : Fun K "_law_same" "_law_same" sLSame f fd) (hR : mg "repr" = none) (sys : SysB base) : FnG P w K mg base (k + 1) f fd ["_law_found", "_law_due_here"] (spLSame K) := by
  refine okG F scLSame (fun vs H Q h => ?_) (fun cdv A outer s H vs Q _ hg hr h => ?_)
  · obtain ⟨x, y, d, rfl, _⟩ := h
    rfl
  obtain ⟨x, y, d, rfl, hx, hy, ⟨s1, s2, s3⟩, q⟩ := h
  have hu : (A.deeper (envOfC "_law_same" (defScope sLSame) s.heap.objs.size f cdv)).units + 80 < cLine := by
    have := hr.un
    omega
  refine ⟨_, pss_one (ps_ret (pe_cmpR op_eq (pe_callB (call_reprA sys hg hu) rfl hR (by decide +kernel) (pa_cons (pv 0) pa_nil)) (pe_callB (call_reprA sys hg hu) rfl hR (by decide +kernel) (pa_cons (pv 1) pa_nil)) (nomark _))), ?_⟩
  generalize hd : d.shown = z at s3
  refine ⟨_, rfl, x, d, rfl, hx, s1, s2, hd ▸ s3, _, rfl, y, d, rfl, hy, s1, s2, hd ▸ s3, rfl, ?_⟩
  rw [decide_eq_true rfl]
  exact q
end
/-! the law -/
section
open PySem PySem.Spec PyProof.Rows CwR
/-- a name set to what wants a token given out -/
theorem pst_set {X : Cx} {i : Nat} {x : Str} {e : Expr} {te : TE} {pos pos' : Pos} (hN : X.N.Nodup) (hi : X.N[i]? = some x) (hx : Loc X.env.scope x) (he : PET X e te) (hs : swapsWith e (some (.Name x pos')) pos.line X.env = pure false := by rfl) (hf : X.fn x = true ∨ X.env.scope.names.lookup x = some .local := by first | exact .inl rfl | exact .inr rfl | assumption) :
    PST X (.Assign [.Name x pos'] e pos) (tAsg te (gName i)) := by
  intro pins s σ H D h0 I h
  refine wpAny_Assign_Name (thn (he pins s σ H _ h0 I h) fun v s1 ⟨y, H1, I1, r1, q1⟩ => ?_) hs
  exact store_ok I1 hN hi hx r1 (fun s2 I2 => ⟨_, H1, I2, q1⟩) hf
end
section
open PySem.Spec PyProof.Rows LamX
variable {P : Program} {w : World} {K : PySem.W.Frag} {mg : Str → Option Value} {base : Heap} {f : Addr} {fd : FuncData} {PT : TbP}
/-! what is no graph, handed in to be written -/
def spBadG (K : PySem.W.Frag) (CG : Addr) : Sp := fun vs H _ E => ∃ (x : V) (d : PyData), vs = [x] ∧ Dp K H x d ∧ gsz 4 d = none ∧ E (.ref CG) none H
theorem bad_checkG {k : Nat} {CG : Addr} (F : Fun K "check_graph" "check_graph" sCheckG f fd) (X : Exn K mg "NoGraph" CG) (cG : Cal P w K mg base "is_graph" k ["thing"] (spIsGraph K)) : FnOk P w K mg base (L2.CX P w) (k + 1) f fd ["graph"] (spBadG K CG) := by
  refine F.okX scCheckG (fun vs H Q E h => ?_) (fun cdv A outer s H vs Q E hr h => ?_)
  · obtain ⟨x, d, rfl, _⟩ := h
    rfl
  obtain ⟨x, d, rfl, hx, e, q⟩ := h
  refine ⟨_, pss_one (ps_if (pt_not (pt_val (pe_cal cG hr rfl (pa_cons (pv 0) pa_nil)))) (pss_one (ps_raise rfl (takes_of (E := E) rfl rfl rfl rfl) (pmk_own PySem.F.excBase_ValueError X.q X.g X.k (raises_own X.s X.t) rfl))) pss_nil), ?_⟩
  refine ⟨_, rfl, x, d, rfl, hx, trivial, _, rfl, ?_⟩
  rw [e]
  exact ifT rfl q
theorem bad_graphText {k : Nat} {CG : Addr} (F : Fun K "graph_text" "graph_text" sGraphText f fd) (cC : CalX P w K mg base "check_graph" k ["graph"] (spBadG K CG)) : FnOk P w K mg base (L2.CX P w) (k + 1) f fd ["graph"] (spBadG K CG) := by
  refine F.okX scGraphT (fun vs H Q E h => ?_) (fun cdv A outer s H vs Q E hr h => ?_)
  · obtain ⟨x, d, rfl, _⟩ := h
    rfl
  obtain ⟨x, d, rfl, hx, e, q⟩ := h
  refine ⟨_, pss_cons (ps_expr (pe_calX (E := E) cC hr rfl (takes_of rfl rfl rfl rfl) (pa_cons (pv 0) pa_nil))) pss_never, ?_⟩
  exact ⟨_, rfl, x, d, rfl, hx, e, q⟩
/-- data whose texts are short -/
def ShV (K : PySem.W.Frag) (H : Hp) (v : V) : Prop := ∃ d, Dp K H v d ∧ ∀ z, d = .str z → z.length ≤ 1000
theorem ShV.ext {H H' : Hp} {v : V} (h : ShV K H v) (e : ExtN H H') : ShV K H' v := by
  obtain ⟨d, hd, hz⟩ := h
  exact ⟨d, dp_ext e _ _ hd, hz⟩
theorem shv_str {H : Hp} {z : Str} (h : z.length ≤ 1000) : ShV K H (.str z) := ⟨.str z, .str z, fun y e => by cases e; exact h⟩
theorem shv_strs {H : Hp} {ys : List Str} (h : ys.all (fun z => decide (z.length ≤ 1000)) = true) : ∀ v ∈ ys.map V.str, ShV K H v := fun v hv => by
  obtain ⟨z, hz, rfl⟩ := List.mem_map.mp hv
  exact shv_str (of_decide_eq_true (List.all_eq_true.mp h z hz))
/-- the list of fixed things, so far -/
structure PreI (K : PySem.W.Frag) (H0 G : Hp) (p : Addr) (vs : List V) (n : Nat) : Prop where
  s : Same H0 G
  at_ : G p = some (.lst vs)
  sh : ∀ v ∈ vs, ShV K G v
  len : vs.length ≤ n
theorem PreI.next {H0 G G1 : Hp} {p q p' : Addr} {vs ys : List V} {n m : Nat} (I : PreI K H0 G p vs n) (s1 : Same G G1) (sh : ∀ v ∈ ys, ShV K G1 v) (lm : ys.length ≤ m) (hq : G1 q = none) (hp : upd G1 q (.lst ys) p' = none) : PreI K H0 (upd (upd G1 q (.lst ys)) p' (.lst (vs ++ ys))) p' (vs ++ ys) (n + m) := by
  have s2 := (same_new hq (.lst ys)).trans (same_new hp (.lst (vs ++ ys)))
  refine ⟨(I.s.trans s1).trans s2, upd_same, fun v hv => ?_, by rw [List.length_append]; have := I.len; omega⟩
  rcases List.mem_append.mp hv with hv | hv
  · exact (I.sh v hv).ext (ext_same (s1.trans s2))
  · exact (sh v hv).ext (ext_same s2)
theorem tm_len (z : Str) (n : Nat) : (timesS z n).length = z.length * n := by
  show ((List.replicate n z.cps.toList).flatten.toArray).size = _
  have l : z.cps.toList.length = z.length := Array.length_toList
  rw [List.size_toArray, List.length_flatten, List.map_replicate, List.sum_replicate_nat, l, Nat.mul_comm]
abbrev NLaw : List Str := ["_law_script", "_law_bare", "_law_four", "_law_fixed", "_law_full", "_law_thing", "_law_k", "_law_state_here", "_law_turn", "_law_graph_here", "_law_text_here", "_law_lap", "_law_bad", "_law_again", "_law_bads"]
theorem scLaw : FnScope NLaw ["_law_script"] (defScope sLaw) := ⟨rfl, rfl, rfl, by decide +kernel, rfl, by decide +kernel, by decide +kernel⟩
structure Law66 (P : Program) (w : World) (K : PySem.W.Frag) (mg : Str → Option Value) (base : Heap) (PT : TbP) (CG CT CS fw g cL PL : Addr) (fdg : FuncData) (k : Nat) : Prop where
  cSt : Cal P w K mg base "_law_state" k ["_law_script", "_law_k"] (spState K)
  cC : Cal P w K mg base "_law_choice" k ["_law_state_here", "_law_many"] spChoice
  cF : Cal P w K mg base "_law_fit" k ["_law_state_here"] (spLFit K)
  cT : Cal P w K mg base "_law_text" k ["_law_graph_here"] (spLText K 4)
  cTu : Cal P w K mg base "_law_turned" k ["_law_state_here", "_law_text_here"] spLTurned
  cO : Cal P w K mg base "_law_odd" k ["_law_state_here"] (spOdd K)
  cDue : Cal P w K mg base "_law_due" k ["_law_thing"] (spLDue K)
  cSm : CalS P w K mg base "_law_same" k ["_law_found", "_law_due_here"] (spLSame K)
  cR : Cal P w K mg base "read_graph" k ["text"] (spReadG K PT)
  xR : CalX P w K mg base "read_graph" (k - 2) ["text"] (spOr (spReadG K PT) (spReadGX K PT CT))
  xG : CalX P w K mg base "graph_text" (k - 2) ["graph"] (spBadG K CG)
  Z : SaidF P w K mg base CS CG CT fw g fdg (k - 2)
  TB : LamX.TabB base mg cL PL
  hmT : (PL, ("law" : Str) ++ ".<locals>." ++ "<lambda>") ∈ PT.t
  hu : ∀ p ∈ PT.t, p.1 = PL → p.2 = ("law" : Str) ++ ".<locals>." ++ "<lambda>"
theorem show_due {g : PyData} {c : Nat} (h : gsz 4 g = some c) : (PyData.list [g]).showable = true ∧ (PyData.list [g]).depth ≤ 64 ∧ (PyData.list [g]).shown.length ≤ sizeLine := by
  have s := sh_lst (l := [g]) (fun z hz => by rw [List.mem_singleton.mp hz]; exact shq_graph 4 g c h)
  have h24 := (szG_of 4 g c h).2
  exact ⟨s.shw, Nat.le_trans s.dep (by decide), s.fits (by show (40 * c + 1) * 1 ≤ 100000; omega)⟩
theorem show_text : textD.showable = true ∧ textD.depth ≤ 64 ∧ textD.shown.length ≤ sizeLine := ⟨by decide +kernel, by decide +kernel, small (by decide +kernel)⟩
theorem small2 {n : Nat} (h : n ≤ 100000) : n ≤ sizeLine := Nat.le_trans h (by decide)
theorem mn_same {st : Addr} {G G' : Hp} (s : Same G G') : Same (mn st G) (mn st G') := mn_kp (Kp.of_same s)
theorem new_tup {st : Addr} {G : Hp} {p : Addr} {xs : List V} {ds : List PyData} (sa : StAt G st) (h : G p = none) (dx : DpAll K (mn st G) xs ds) : Dp K (mn st (upd G p (.tup xs))) (.ref p) (.tuple ds) :=
  .tup (SqT.of (mn_at (sa.ne h) upd_same)) (dps_same (mn_same (same_new h _)) dx)
/-- what is no graph -/
def BadV (K : PySem.W.Frag) (H : Hp) (v : V) : Prop := ∃ d, Dp K H v d ∧ gsz 4 d = none
theorem BadV.same {H H' : Hp} {v : V} (h : BadV K H v) (s : Same H H') : BadV K H' v := by
  obtain ⟨d, hd, e⟩ := h
  exact ⟨d, dp_same s hd, e⟩
theorem odd_no {d : PyData} (h : d ∈ odd0 ++ odd1 ++ odd2) : gsz 4 d = none := by
  have all : (odd0 ++ odd1 ++ odd2).all (fun d => (gsz 4 d).isNone) = true := by decide +kernel
  have := List.all_eq_true.mp all d h
  simpa using this
theorem w2_ : wordOf 2 = ("graph" : Str) := by decide +kernel
/-- behind the fixed things -/
def tMain (K : PySem.W.Frag) (PT : TbP) (ns : List Int) (a : Addr) : TS := fun D σ G => ∃ (p : Addr) (vs : List V) (o1 o2 o4 : Option V), σ = [some (.ref a), o1, o2, some (.ref p), o4, none, none, none, none, none, none, none, none, none, none] ∧ ScrOk K G a (ns.map V.int) ∧ TabsG PT G ∧ G p = some (.lst vs) ∧ (∀ v ∈ vs, ShV K G v) ∧ vs.length ≤ 100 ∧ ∀ H', D.rt (.bl true) H'
set_option maxHeartbeats 0 in
theorem law_body {k : Nat} {CG CT CS fw g cL PL : Addr} {fdg : FuncData} {s : Shared} {H : Hp} {a : Addr} {ns : List Int} (T : Free mg) (sys : SysB base) (scr : ScrOk K H a (ns.map V.int)) (h63 : ns.length ≤ 63) (tbs : TabsG PT H) (k2 : 2 ≤ k)
    (hr : Room (k + 1) (callerA.deeper (envOfC "law" (defScope sLaw) s.heap.objs.size f (.ref cL)))) (L : Law66 P w K mg base PT CG CT CS fw g cL PL fdg k) :
    ∃ t, PSs (cxOf CX0 P w K mg base NLaw "law" (defScope sLaw) f (.ref cL) callerA [] s H E0).nox (defBody sLaw) t ∧ t { nx := fun _ _ => False, rt := fun v _ => v = .bl true } (L2.start NLaw [.ref a]) H := by
  have hr0 := hr.mono (Nat.le_succ k)
  have hrS := hr0.mono (show k - 2 + 2 ≤ k by omega)
  have hu : (callerA.deeper (envOfC "law" (defScope sLaw) s.heap.objs.size f (.ref cL))).units + 80 < cLine := by
    have := hr.un
    omega
  refine ⟨_, pss_str (i := 1) scLaw.nd rfl (.inl rfl) (psst_cons (PST.of (ps_set (i := 2) scLaw.nd rfl (.inl rfl) pe_str)) (psst_cons (pst_set (i := 3) scLaw.nd rfl (.inl rfl) (pet_lst (pat_cons (CwR.PET.of pe_str) (pat_cons (CwR.PET.of pe_str) (pat_cons (CwR.PET.of (pe_op op_mulS (pv 1) pe_int)) (pat_cons (CwR.PET.of (pe_op op_mulS (pv 1) pe_int)) (pat_cons (CwR.PET.of (pv 2)) (pat_cons (CwR.pet_replC (pv 2)) (pat_cons (CwR.PET.of pe_str) pat_nil))))))))) (PSsT.of (pss_cons (ps_set (i := 3) scLaw.nd rfl (.inl rfl) (pe_op op_cat (pv 3) (pe_lst (pa_cons pe_str (pa_cons pe_str pa_nil)))))
    (pss_cons (ps_set (i := 3) scLaw.nd rfl (.inl rfl) (pe_op op_cat (pv 3) (pe_lst (pa_cons pe_str (pa_cons pe_str (pa_cons pe_str (pa_cons pe_str (pa_cons pe_str (pa_cons pe_str (pa_cons pe_str pa_nil))))))))))
    (pss_cons (ps_set (i := 3) scLaw.nd rfl (.inl rfl) (pe_op op_cat (pv 3) (pe_lst (pa_cons pe_str (pa_cons pe_str pa_nil)))))
    (pss_cons (ps_set (i := 3) scLaw.nd rfl (.inl rfl) (pe_op op_cat (pv 3) (pe_lst (pa_cons pe_str (pa_cons pe_str (pa_cons pe_str (pa_cons pe_str (pa_cons pe_str (pa_cons pe_str pa_nil)))))))))
    (pss_cons (ps_set (i := 3) scLaw.nd rfl (.inl rfl) (pe_op op_cat (pv 3) (pe_lst (pa_cons pe_str (pa_cons pe_str pa_nil)))))
    (pss_cons (ps_set (i := 4) scLaw.nd rfl (.inl rfl) (pe_op op_add_str (pe_op op_add_str (pe_op op_add_str (pe_op op_add_str pe_str (pe_op op_mulS (pv 1) pe_int)) pe_str) (pe_op op_mulS (pv 1) pe_int)) pe_str))
    (pss_cons (ps_set (i := 3) scLaw.nd rfl (.inl rfl) (pe_op op_cat (pv 3) (pe_lst (pa_cons (pe_op op_add_str (pv 4) (pe_op op_mulS (pv 1) pe_int)) (pa_cons (pe_op op_add_str (pv 4) (pe_op op_mulS (pv 1) pe_int)) (pa_cons (pe_op op_add_str (pv 4) (pe_op op_mulS (pv 1) pe_int)) (pa_cons (pe_op op_add_str (pe_op op_add_str pe_str (pe_op op_mulS pe_str pe_int)) pe_str) (pa_cons pe_str pa_nil))))))))
    (pss_cons (ps_set (i := 3) scLaw.nd rfl (.inl rfl) (pe_op op_cat (pv 3) (pe_lst (pa_cons pe_str (pa_cons pe_non (pa_cons pe_int (pa_cons (pe_lst (pa_cons (pv 1) pa_nil)) (pa_cons (pe_tup (pa_cons (pe_tup (pa_cons pe_int (pa_cons pe_int (pa_cons pe_int pa_nil)))) pa_nil)) pa_nil))))))))
    (pss_imp (t' := tMain K PT ns a) (pss_cons (ps_for PassesOwn.never rfl (pi_list (pv 3)) (pg_name (i := 5) scLaw.nd rfl (.inr rfl)) (pss_one (ps_if (pt_not (pt_val (pe_calS L.cSm rfl hr0 rfl (pa_cons (pe_saidV L.Z hrS rfl (pe_lamH (k := k - 2) (t := fun E => tCall (spOr (spReadG K PT) (spReadGX K PT CT)) [] E (tCons (tVar 5) tNil)) L.TB rfl L.hmT L.hu (lamS_by (sc := defScope sLaw) (by decide +kernel)) rfl (fun _ _ _ _ _ => rfl)
        (fun A outer s H E f c' hr2 => pe_calX (E := E) L.xR hr2 rfl (takes_of rfl rfl rfl rfl) (pa_cons (pv 5) pa_nil)))) (pa_cons (pe_cal L.cDue hr0 rfl (pa_cons (pv 5) pa_nil)) pa_nil))))) (pss_one (ps_ret pe_bl)) pss_nil)))
    (pss_cons (ps_for PassesOwn.never rfl (pi_range1 rfl T.range (pa_cons (pe_callB (call_max2 rfl) rfl T.max (by decide +kernel) (pa_cons pe_int (pa_cons (pe_callB (call_min2 rfl) rfl T.min (by decide +kernel)
        (pa_cons (pe_callB call_len_seq rfl T.len PySem.boot_len (pa_cons (pv 0) pa_nil)) (pa_cons pe_int pa_nil))) pa_nil))) pa_nil)) (pg_name (i := 6) scLaw.nd rfl (.inl rfl))
    (pss_cons (ps_set (i := 7) scLaw.nd rfl (.inl rfl) (pe_cal L.cSt hr0 rfl (pa_cons (pv 0) (pa_cons (pv 6) pa_nil))))
    (pss_cons (ps_for PassesOwn.never rfl (pi_range1 rfl T.range (pa_cons pe_int pa_nil)) (pg_name (i := 8) scLaw.nd rfl (.inl rfl))
    (pss_cons (ps_set (i := 9) scLaw.nd rfl (.inl rfl) (pe_cal L.cF hr0 rfl (pa_cons (pv 7) pa_nil)))
    (pss_cons (ps_set (i := 10) scLaw.nd rfl (.inl rfl) (pe_cal L.cT hr0 rfl (pa_cons (pv 9) pa_nil)))
    (pss_one (ps_for PassesOwn.never rfl (pi_range1 rfl T.range (pa_cons pe_int pa_nil)) (pg_name (i := 11) scLaw.nd rfl (.inl rfl))
    (pss_cons (ps_set (i := 12) scLaw.nd rfl (.inr rfl) (pe_cal L.cTu hr0 rfl (pa_cons (pv 7) (pa_cons (pv 10) pa_nil))))
    (pss_cons (ps_for PassesOwn.never rfl (pi_range1 rfl T.range (pa_cons (pe_cal L.cC hr0 rfl (pa_cons (pv 7) (pa_cons pe_int pa_nil))) pa_nil)) (pg_name (i := 13) scLaw.nd rfl (.inl rfl)) (pss_one (ps_set (i := 12) scLaw.nd rfl (.inr rfl) (pe_cal L.cTu hr0 rfl (pa_cons (pv 7) (pa_cons (pv 12) pa_nil))))))
    (pss_cons (ps_set (i := 12) scLaw.nd rfl (.inr rfl) (pe_slice sl_str (pv 12) po_none (po_some pe_int)))
    (pss_cons (ps_if (pt_not (pt_val (pe_calS L.cSm rfl hr0 rfl (pa_cons (pe_saidV L.Z hrS rfl (pe_lamH (k := k - 2) (t := fun E => tCall (spOr (spReadG K PT) (spReadGX K PT CT)) [] E (tCons (tVar 12) tNil)) L.TB rfl L.hmT L.hu (lamS_by (sc := defScope sLaw) (by decide +kernel)) rfl (fun _ _ _ _ _ => rfl)
        (fun A outer s H E f c' hr2 => pe_calX (E := E) L.xR hr2 rfl (takes_of rfl rfl rfl rfl) (pa_cons (pv 12) pa_nil)))) (pa_cons (pe_cal L.cDue hr0 rfl (pa_cons (pv 12) pa_nil)) pa_nil))))) (pss_one (ps_ret pe_bl)) pss_nil)
    (pss_one (ps_if (pt_cmpR op_ne (pe_callB (call_reprA sys rfl hu) rfl T.repr (by decide +kernel) (pa_cons (pe_cal L.cR hr0 rfl (pa_cons (pv 10) pa_nil)) pa_nil)) (pe_callB (call_reprA sys rfl hu) rfl T.repr (by decide +kernel) (pa_cons (pv 9) pa_nil)) (nomark _)) (pss_one (ps_ret pe_bl)) pss_nil)))))))))))
    (pss_cons (ps_set (i := 14) scLaw.nd rfl (.inl rfl) (pe_lst (pa_cons pe_non (pa_cons (pe_tup pa_nil) (pa_cons (pe_tup (pa_cons (pe_tup (pa_cons pe_int (pa_cons pe_int pa_nil))) pa_nil)) (pa_cons (pe_tup (pa_cons (pe_tup (pa_cons pe_int (pa_cons pe_int (pa_cons (pe_tup (pa_cons pe_str (pa_cons pe_int pa_nil))) pa_nil)))) pa_nil)) (pa_cons (pe_callTy call_list_of rfl T.list (by decide +kernel) (pa_cons (pv 9) pa_nil)) (pa_cons (pe_tup (pa_cons (pe_tup (pa_cons pe_bl (pa_cons pe_int (pa_cons pe_int pa_nil)))) pa_nil)) (pa_cons (pe_tup (pa_cons (pe_tup (pa_cons pe_int (pa_cons pe_int (pa_cons pe_int pa_nil)))) pa_nil)) pa_nil)))))))))
    (pss_one (ps_for PassesOwn.never rfl (pi_list (pe_op op_cat (pv 14) (pe_lst (pa_cons (pe_cal L.cO hr0 rfl (pa_cons (pv 7) pa_nil)) pa_nil)))) (pg_name (i := 12) scLaw.nd rfl (.inr rfl))
    (pss_one (ps_if (pt_cmpR (op_neD hr.units) (pe_saidV L.Z hrS rfl (pe_lamH (k := k - 2) (t := fun E => tCall (spBadG K CG) [] E (tCons (tVar 12) tNil)) L.TB rfl L.hmT L.hu (lamS_by (sc := defScope sLaw) (by decide +kernel)) rfl (fun _ _ _ _ _ => rfl)
        (fun A outer s H E f c' hr2 => pe_calX (E := E) L.xG hr2 rfl (takes_of rfl rfl rfl rfl) (pa_cons (pv 12) pa_nil)))) (pe_tup (pa_cons pe_str pa_nil)) (nomark _)) (pss_one (ps_ret pe_bl)) pss_nil))))))))
    (pss_one (ps_ret pe_bl)))) (fun D σ G h => ?main))))))))))))), ?pre⟩
  case pre =>
    have lb : ("[0 0 0]" : Str).length = 7 := by decide +kernel
    have lf : ("[0 0 ([0 0 ([0 0 ([0 0 0])])])]" : Str).length = 31 := by decide +kernel
    have lr : ("[0 0 ([0 0 0])]" : Str).length = 15 := by decide +kernel
    have l9 : ("9" : Str).length = 1 := by decide +kernel
    have lo : ("[(" : Str).length = 2 := by decide +kernel
    have lm : (") (" : Str).length = 3 := by decide +kernel
    have le : (") 0]" : Str).length = 4 := by decide +kernel
    have l1 : ("[" : Str).length = 1 := by decide +kernel
    have l5 : (" 0 0]" : Str).length = 5 := by decide +kernel
    have sl : (16777216 : Nat) = sizeLine := rfl
    generalize hbare : ("[0 0 0]" : Str) = bare at lb ⊢
    generalize hfour : ("[0 0 ([0 0 ([0 0 ([0 0 0])])])]" : Str) = four at lf ⊢
    generalize hrr : ("[0 0 ([0 0 0])]" : Str) = rr at lr ⊢
    have rep := TK.replace_len four bare rr
    refine ⟨_, rfl, bare, 8, rfl, rfl, by omega, by decide, _, rfl, bare, 9, rfl, rfl, by omega, by decide, _, rfl, _, rfl, four, rfl, by rw [lf, lr]; decide, small (by show 7 ≤ 1000; decide), fun p0 h0 => ?_⟩
    have I0 : PreI K H (upd H p0 (.lst [.str "", .str " ", .str (timesS bare 8), .str (timesS bare 9), .str four, .str (Txt.replace four bare rr), .str "[0 0 ~1]"])) p0 [.str "", .str " ", .str (timesS bare 8), .str (timesS bare 9), .str four, .str (Txt.replace four bare rr), .str "[0 0 ~1]"] 7 := by
      refine ⟨same_new h0 _, upd_same, fun v hv => ?_, Nat.le_refl 7⟩
      rcases List.mem_cons.mp hv with rfl | hv
      · exact shv_str (by decide +kernel)
      rcases List.mem_cons.mp hv with rfl | hv
      · exact shv_str (by decide +kernel)
      rcases List.mem_cons.mp hv with rfl | hv
      · exact shv_str (by rw [tm_len, lb]; decide)
      rcases List.mem_cons.mp hv with rfl | hv
      · exact shv_str (by rw [tm_len, lb]; decide)
      rcases List.mem_cons.mp hv with rfl | hv
      · exact shv_str (by omega)
      rcases List.mem_cons.mp hv with rfl | hv
      · refine shv_str (Nat.le_trans rep ?_)
        rw [lf, lr]
        decide
      rcases List.mem_cons.mp hv with rfl | hv
      · exact shv_str (by decide +kernel)
      · cases hv
    generalize ([.str "", .str " ", .str (timesS bare 8), .str (timesS bare 9), .str four, .str (Txt.replace four bare rr), .str "[0 0 ~1]"] : List V) = vs0 at I0 ⊢
    generalize upd H p0 (.lst vs0) = G0 at I0 ⊢
    refine ⟨_, rfl, small (by show 2 ≤ 1000; decide), fun q1 hq1 => ?_⟩
    refine ⟨p0, q1, vs0, ([.str "[0 0 ~-1]", .str "[~0 0 0]"] : List V), rfl, rfl, (same_new hq1 _) _ _ I0.at_, upd_same, small (by have := I0.len; show _ + 2 ≤ 1000; omega), fun p1 h1 => ?_⟩
    have I1 := I0.next (ys := [.str "[0 0 ~-1]", .str "[~0 0 0]"]) (Same.refl _) (shv_strs (ys := ["[0 0 ~-1]", "[~0 0 0]"]) (by decide +kernel)) (show _ ≤ 2 from Nat.le_refl 2) hq1 h1
    generalize vs0 ++ ([.str "[0 0 ~-1]", .str "[~0 0 0]"] : List V) = vs1 at I1 h1 ⊢
    generalize (upd (upd G0 q1 (.lst ([.str "[0 0 ~-1]", .str "[~0 0 0]"] : List V))) p1 (.lst vs1)) = G1 at I1 ⊢
    refine ⟨_, rfl, small (by show 7 ≤ 1000; decide), fun q2 hq2 => ?_⟩
    refine ⟨p1, q2, vs1, ([.str "[0 0]", .str "[0 0 0 0]", .str "[0 0 0", .str "0 0 0]", .str "[0  0 0]", .str "[ 0 0 0]", .str "[00 0 0]"] : List V), rfl, rfl, (same_new hq2 _) _ _ I1.at_, upd_same, small (by have := I1.len; show _ + 7 ≤ 1000; omega), fun p2 h2 => ?_⟩
    have I2 := I1.next (ys := [.str "[0 0]", .str "[0 0 0 0]", .str "[0 0 0", .str "0 0 0]", .str "[0  0 0]", .str "[ 0 0 0]", .str "[00 0 0]"]) (Same.refl _) (shv_strs (ys := ["[0 0]", "[0 0 0 0]", "[0 0 0", "0 0 0]", "[0  0 0]", "[ 0 0 0]", "[00 0 0]"]) (by decide +kernel)) (show _ ≤ 7 from Nat.le_refl 7) hq2 h2
    generalize vs1 ++ ([.str "[0 0]", .str "[0 0 0 0]", .str "[0 0 0", .str "0 0 0]", .str "[0  0 0]", .str "[ 0 0 0]", .str "[00 0 0]"] : List V) = vs2 at I2 h2 ⊢
    generalize (upd (upd G1 q2 (.lst ([.str "[0 0]", .str "[0 0 0 0]", .str "[0 0 0", .str "0 0 0]", .str "[0  0 0]", .str "[ 0 0 0]", .str "[00 0 0]"] : List V))) p2 (.lst vs2)) = G2 at I2 ⊢
    refine ⟨_, rfl, small (by show 2 ≤ 1000; decide), fun q3 hq3 => ?_⟩
    refine ⟨p2, q3, vs2, ([.str "[-0 0 0]", .str "[9999 0 0]"] : List V), rfl, rfl, (same_new hq3 _) _ _ I2.at_, upd_same, small (by have := I2.len; show _ + 2 ≤ 1000; omega), fun p3 h3 => ?_⟩
    have I3 := I2.next (ys := [.str "[-0 0 0]", .str "[9999 0 0]"]) (Same.refl _) (shv_strs (ys := ["[-0 0 0]", "[9999 0 0]"]) (by decide +kernel)) (show _ ≤ 2 from Nat.le_refl 2) hq3 h3
    generalize vs2 ++ ([.str "[-0 0 0]", .str "[9999 0 0]"] : List V) = vs3 at I3 h3 ⊢
    generalize (upd (upd G2 q3 (.lst ([.str "[-0 0 0]", .str "[9999 0 0]"] : List V))) p3 (.lst vs3)) = G3 at I3 ⊢
    refine ⟨_, rfl, small (by show 6 ≤ 1000; decide), fun q4 hq4 => ?_⟩
    refine ⟨p3, q4, vs3, ([.str "[10000 0 0]", .str "[-9999 0 0]", .str "[-10000 0 0]", .str "[() 0 0]", .str "[(0) 0 0]", .str "[~ 0 0]"] : List V), rfl, rfl, (same_new hq4 _) _ _ I3.at_, upd_same, small (by have := I3.len; show _ + 6 ≤ 1000; omega), fun p4 h4 => ?_⟩
    have I4 := I3.next (ys := [.str "[10000 0 0]", .str "[-9999 0 0]", .str "[-10000 0 0]", .str "[() 0 0]", .str "[(0) 0 0]", .str "[~ 0 0]"]) (Same.refl _) (shv_strs (ys := ["[10000 0 0]", "[-9999 0 0]", "[-10000 0 0]", "[() 0 0]", "[(0) 0 0]", "[~ 0 0]"]) (by decide +kernel)) (show _ ≤ 6 from Nat.le_refl 6) hq4 h4
    generalize vs3 ++ ([.str "[10000 0 0]", .str "[-9999 0 0]", .str "[-10000 0 0]", .str "[() 0 0]", .str "[(0) 0 0]", .str "[~ 0 0]"] : List V) = vs4 at I4 h4 ⊢
    generalize (upd (upd G3 q4 (.lst ([.str "[10000 0 0]", .str "[-9999 0 0]", .str "[-10000 0 0]", .str "[() 0 0]", .str "[(0) 0 0]", .str "[~ 0 0]"] : List V))) p4 (.lst vs4)) = G4 at I4 ⊢
    refine ⟨_, rfl, small (by show 2 ≤ 1000; decide), fun q5 hq5 => ?_⟩
    refine ⟨p4, q5, vs4, ([.str "[~00 0 0]", .str "[0 0 0]\n"] : List V), rfl, rfl, (same_new hq5 _) _ _ I4.at_, upd_same, small (by have := I4.len; show _ + 2 ≤ 1000; omega), fun p5 h5 => ?_⟩
    have I5 := I4.next (ys := [.str "[~00 0 0]", .str "[0 0 0]\n"]) (Same.refl _) (shv_strs (ys := ["[~00 0 0]", "[0 0 0]\n"]) (by decide +kernel)) (show _ ≤ 2 from Nat.le_refl 2) hq5 h5
    generalize vs4 ++ ([.str "[~00 0 0]", .str "[0 0 0]\n"] : List V) = vs5 at I5 h5 ⊢
    generalize (upd (upd G4 q5 (.lst ([.str "[~00 0 0]", .str "[0 0 0]\n"] : List V))) p5 (.lst vs5)) = G5 at I5 ⊢
    -- the full one
    have lt : ∀ n, (timesS bare n).length = 7 * n := fun n => by rw [tm_len, lb]
    have l98 : (timesS ("9" : Str) 40).length = 40 := by rw [tm_len, l9]
    refine ⟨_, rfl, bare, 8, rfl, rfl, by omega, by decide, _, _, rfl, rfl, by rw [lo, lt, ← sl]; decide, _, _, rfl, rfl, by rw [Str.length_append, lo, lm, lt, ← sl]; decide, _, rfl, bare, 8, rfl, rfl, by omega, by decide, _, _, rfl, rfl, by rw [Str.length_append, Str.length_append, lo, lm, lt, ← sl]; decide,
      _, _, rfl, rfl, by rw [Str.length_append, Str.length_append, Str.length_append, lo, lm, le, lt, ← sl]; decide, ?_⟩
    have lfull : (("[(" : Str) ++ timesS bare 8 ++ (") (" : Str) ++ timesS bare 8 ++ (") 0]" : Str)).length = 121 := by
      rw [Str.length_append, Str.length_append, Str.length_append, Str.length_append, lo, lm, le, lt]
    generalize (("[(" : Str) ++ timesS bare 8 ++ (") (" : Str) ++ timesS bare 8 ++ (") 0]" : Str)) = full at lfull ⊢
    refine ⟨_, rfl, _, rfl, _, rfl, bare, 6, rfl, rfl, by omega, by decide, _, _, rfl, rfl, by rw [lfull, lt, ← sl]; decide, _, rfl, _, rfl, bare, 7, rfl, rfl, by omega, by decide, _, _, rfl, rfl, by rw [lfull, lt, ← sl]; decide, _, rfl, _, rfl, bare, 8, rfl, rfl, by omega, by decide, _, _, rfl, rfl, by rw [lfull, lt, ← sl]; decide,
      ("9" : Str), 40, rfl, rfl, by omega, by decide, _, _, rfl, rfl, by rw [l1, l98, ← sl]; decide, _, _, rfl, rfl, by rw [Str.length_append, l1, l98, l5, ← sl]; decide, small (by show 5 ≤ 1000; decide), fun q6 hq6 => ?_⟩
    have sh6 : ∀ v ∈ ([.str (full ++ timesS bare 6), .str (full ++ timesS bare 7), .str (full ++ timesS bare 8), .str (("[" : Str) ++ timesS ("9" : Str) 40 ++ (" 0 0]" : Str)), .str "()"] : List V), ShV K G5 v := fun v hv => by
      rcases List.mem_cons.mp hv with rfl | hv
      · exact shv_str (by rw [Str.length_append, lfull, lt]; decide)
      rcases List.mem_cons.mp hv with rfl | hv
      · exact shv_str (by rw [Str.length_append, lfull, lt]; decide)
      rcases List.mem_cons.mp hv with rfl | hv
      · exact shv_str (by rw [Str.length_append, lfull, lt]; decide)
      rcases List.mem_cons.mp hv with rfl | hv
      · exact shv_str (by rw [Str.length_append, Str.length_append, l1, l98, l5]; decide)
      rcases List.mem_cons.mp hv with rfl | hv
      · exact shv_str (by decide +kernel)
      · cases hv
    generalize hy6 : ([.str (full ++ timesS bare 6), .str (full ++ timesS bare 7), .str (full ++ timesS bare 8), .str (("[" : Str) ++ timesS ("9" : Str) 40 ++ (" 0 0]" : Str)), .str "()"] : List V) = y6 at sh6 ⊢
    have ly6 : y6.length = 5 := by rw [← hy6]; rfl
    refine ⟨p5, q6, vs5, y6, rfl, rfl, (same_new hq6 _) _ _ I5.at_, upd_same, small (by have := I5.len; rw [ly6]; omega), fun p6 h6 => ?_⟩
    have I6 := I5.next (Same.refl _) sh6 (show _ ≤ 5 from Nat.le_of_eq ly6) hq6 h6
    generalize vs5 ++ y6 = vs6 at I6 h6 ⊢
    generalize upd (upd G5 q6 (.lst y6)) p6 (.lst vs6) = G6 at I6 ⊢
    -- what is no text
    refine ⟨_, rfl, _, rfl, small (by show 1 ≤ 1000; decide), fun r hr => small (by show 3 ≤ 1000; decide) |> fun z3 => ⟨z3, fun t1 ht1 => ⟨small (by show 1 ≤ 1000; decide), fun t2 ht2 => ?_⟩⟩⟩
    have sr := same_new hr (.lst [.str bare])
    have st1 := same_new ht1 (.tup [.int 0, .int 0, .int 0])
    have st2 := same_new ht2 (.tup [.ref t1])
    have gr : upd G6 r (.lst [.str bare]) r = some (.lst [.str bare]) := upd_same
    have g1 : upd (upd G6 r (.lst [.str bare])) t1 (.tup [.int 0, .int 0, .int 0]) t1 = some (.tup [.int 0, .int 0, .int 0]) := upd_same
    have g2 : upd (upd (upd G6 r (.lst [.str bare])) t1 (.tup [.int 0, .int 0, .int 0])) t2 (.tup [.ref t1]) t2 = some (.tup [.ref t1]) := upd_same
    have gr := st2 _ _ (st1 _ _ gr)
    have g1 := st2 _ _ g1
    have s7 := (sr.trans st1).trans st2
    generalize upd (upd (upd G6 r (.lst [.str bare])) t1 (.tup [.int 0, .int 0, .int 0])) t2 (.tup [.ref t1]) = G6b at s7 gr g1 g2 ⊢
    refine ⟨small (by show 5 ≤ 1000; decide), fun q7 hq7 => ?_⟩
    have sh7 : ∀ v ∈ ([.str "[]", .non, .int 0, .ref r, .ref t2] : List V), ShV K G6b v := fun v hv => by
      rcases List.mem_cons.mp hv with rfl | hv
      · exact shv_str (by decide +kernel)
      rcases List.mem_cons.mp hv with rfl | hv
      · exact ⟨.none, .non, fun z e => by cases e⟩
      rcases List.mem_cons.mp hv with rfl | hv
      · exact ⟨.int 0, .int 0, fun z e => by cases e⟩
      rcases List.mem_cons.mp hv with rfl | hv
      · exact ⟨.list [.str bare], .lst (SqL.of gr) (.cons (.str _) .nil), fun z e => by cases e⟩
      rcases List.mem_cons.mp hv with rfl | hv
      · exact ⟨.tuple [.tuple [.int 0, .int 0, .int 0]], .tup (SqT.of g2) (.cons (.tup (SqT.of g1) (.cons (.int _) (.cons (.int _) (.cons (.int _) .nil)))) .nil), fun z e => by cases e⟩
      · cases hv
    refine ⟨p6, q7, vs6, _, rfl, rfl, (same_new hq7 _) _ _ (s7 _ _ I6.at_), upd_same, small (by have := I6.len; show _ + 5 ≤ 1000; omega), fun p7 h7 => ?_⟩
    have I7 := I6.next s7 sh7 (show _ ≤ 5 from Nat.le_refl 5) hq7 h7
    generalize vs6 ++ ([.str "[]", .non, .int 0, .ref r, .ref t2] : List V) = vs7 at I7 h7 ⊢
    generalize upd (upd G6b q7 (.lst ([.str "[]", .non, .int 0, .ref r, .ref t2] : List V))) p7 (.lst vs7) = G7 at I7 ⊢
    exact ⟨p7, vs7, _, _, _, rfl, scr_ext scr (ext_same I7.s), tbs.same I7.s, I7.at_, I7.sh, by have := I7.len; omega, fun H' => rfl⟩
  case main =>
    obtain ⟨p, vs, o1, o2, o4, rfl, sc, tb, gp, sh, lv, fin⟩ := h
    refine ⟨_, rfl, p, rfl, ⟨_, SqL.of gp⟩, ?_⟩
    refine for_list (xs := vs) (fun _ σ G' => ∃ o5, σ = [some (.ref a), o1, o2, some (.ref p), o4, o5, none, none, none, none, none, none, none, none, none] ∧ ExtN G G' ∧ TabsG PT G') ⟨none, rfl, ExtN.refl G, tb⟩ (fun i σ G' _ h => ?_) (fun i v σ G' hv h => ?_) (fun σ G' h => ?_)
    · obtain ⟨_, _, e, _⟩ := h
      exact SqL.of (e _ _ gp (fun _ z => by cases z))
    · obtain ⟨o5, rfl, e, t⟩ := h
      obtain ⟨d, hd, hz⟩ := (sh v (List.mem_of_getElem? hv)).ext e
      refine ⟨t.2, fun fl cl H1 O x1 t1 ot hf lh => ⟨fl, cl, _, rfl, lh, lh, ?_⟩⟩
      have sf := same_new hf O
      have xx := x1.trans (ext_same sf)
      have tbL : TabsG PT (upd H1 fl O) := (TabsG.mk' t L.hmT t1 ot).same sf
      rcases due_is hz with ⟨g', c, ed, hg, hc, h24, edue⟩ | ⟨hno, edue⟩
      · subst ed
        cases hd
        refine ⟨_, rfl, .inl ⟨g', c, rfl, hg, hc, tbL, fun v2 H2 x2 t2 hv2 => ⟨small (by show 1 ≤ 1000; decide), fun pp hpp => ?_⟩⟩⟩
        have sp := same_new hpp (.lst [v2])
        refine ⟨_, rfl, .str (gT 4 g'), .str (gT 4 g'), rfl, .str _, hz, fun v3 H3 s3 hv3 => ?_⟩
        rw [edue] at hv3
        refine ⟨.ref pp, v3, .list [g'], rfl, .lst (SqL.of (s3 _ _ upd_same)) (.cons (dp_same (sp.trans s3) hv2) .nil), hv3, show_due hc, _, rfl, ifF rfl ?_⟩
        exact ⟨_, rfl, ((e.trans xx).trans x2).trans (ext_same (sp.trans s3)), t2.same (sp.trans s3)⟩
      · refine ⟨_, rfl, .inr ⟨v, d, rfl, dp_ext xx _ _ hd, hno, tbL, fun e2 H2 x2 t2 he => .inr ⟨rfl, e2, rfl, he, fun pw Gw sw gw => ?_⟩⟩⟩
        have xw := (xx.trans x2).trans (ext_same sw)
        refine ⟨_, rfl, v, d, rfl, dp_ext xw _ _ hd, hz, fun v3 H3 s3 hv3 => ?_⟩
        rw [edue] at hv3
        refine ⟨.ref pw, v3, textD, rfl, .tup (SqT.of (s3 _ _ gw)) (.cons (.str _) (.cons (.int _) .nil)), hv3, show_text, _, rfl, ifF rfl ?_⟩
        exact ⟨_, rfl, (e.trans xw).trans (ext_same s3), (t2.same sw).same s3⟩
    obtain ⟨o5, rfl, e, t⟩ := h
    have sc := scr_ext sc e
    clear sh gp tb
    have ll : (ns.map V.int).length = ns.length := List.length_map _
    have hm : 0 ≤ (if (if (5 : Int) < ((ns.map V.int).length : Int) then 5 else ((ns.map V.int).length : Int)) > 1 then (if (5 : Int) < ((ns.map V.int).length : Int) then 5 else ((ns.map V.int).length : Int)) else 1) ∧
        (if (if (5 : Int) < ((ns.map V.int).length : Int) then 5 else ((ns.map V.int).length : Int)) > 1 then (if (5 : Int) < ((ns.map V.int).length : Int) then 5 else ((ns.map V.int).length : Int)) else 1) ≤ 5 := by
      split <;> split <;> omega
    refine ⟨_, rfl, a, _, rfl, .inl sc.sq, _, _, rfl, _, _, rfl, _, rfl, by omega, by omega, ?_⟩
    refine for_range (lo := 0) (fun i σ H' => ∃ o5 o6 o7 o8 o9 o10 o11 o12 o13 o14, σ = [some (.ref a), o1, o2, some (.ref p), o4, o5, o6, o7, o8, o9, o10, o11, o12, o13, o14] ∧ ScrOk K H' a (ns.map V.int) ∧ TabsG PT H') ⟨_, _, _, _, _, _, _, _, _, _, rfl, sc, t⟩ (fun i σ H' hi h => ?_) (fun σ H' h => ?_)
    rotate_left
    · exact fin _
    obtain ⟨o5, o6, o7, o8, o9, o10, o11, o12, o13, o14, rfl, sc, tb'⟩ := h
    refine ⟨_, rfl, _, rfl, a, ns, 0 + (i : Int), rfl, sc.sq, by omega, fun st x y z hst ok => ?_⟩
    have s0 := same_new hst (.lst [.int x, .int y, .int z])
    have sa0 : StAt (upd H' st (.lst [.int x, .int y, .int z])) st := ⟨x, y, z, upd_same, ok⟩
    have sc0 := scr_ext sc (ext_same s0)
    have tb0 := tb'.same s0
    generalize upd H' st (.lst [.int x, .int y, .int z]) = H0 at sa0 sc0 tb0 ⊢
    clear s0
    refine ⟨3, rfl, by decide, by decide, ?_⟩
    refine for_range (lo := 0) (n := 3) (fun l σ H2 => ∃ o8 o9 o10 o11 o12 o13, σ = [some (.ref a), o1, o2, some (.ref p), o4, o5, some (.int (0 + (i : Int))), some (.ref st), o8, o9, o10, o11, o12, o13, o14] ∧ ScrOk K H2 a (ns.map V.int) ∧ TabsG PT H2 ∧ StAt H2 st ∧ (l = 0 ∨ ∃ v d, o9 = some v ∧ Dp K H2 v d ∧ grB 4 d = true))
      ⟨_, _, _, _, _, _, rfl, sc0, tb0, sa0, .inl rfl⟩ (fun l σ H2 hl h => ?_) (fun σ H2 h => ?_)
    · obtain ⟨o8, o9, o10, o11, o12, o13, rfl, sc2, tb2, sa2, _⟩ := h
      refine ⟨_, rfl, st, rfl, sa2, fun v d G mv hdv hd hs24 => ?_⟩
      have scG := sc2.kt (mv.kp.kt sa2)
      have tG := tb2.kp sa2 mv.kp
      have saG := mv.sa
      have hg := gsz_of 4 d hd hs24
      have shq := shq_graph _ _ _ hg
      have w1 := shq.shw
      have w2 : d.depth ≤ 64 := Nat.le_trans shq.dep (by decide)
      have w3 : d.shown.length ≤ sizeLine := shq.fits (by omega)
      have lT : (gT 4 d).length ≤ 528 := by
        have h1 := (gT_sz 4 d hd).1
        have h2 : (gT 4 d).cps.toList.length = (gT 4 d).length := Array.length_toList
        omega
      have td := (grB_shp 4 d hd).1
      refine ⟨_, rfl, v, d, rfl, hdv, hd, fun G1 s1 => ?_⟩
      refine ⟨8, rfl, by decide, by decide, ?_⟩
      refine for_range (lo := 0) (n := 8) (fun m σ G2 => ∃ o11 o12 o13, σ = [some (.ref a), o1, o2, some (.ref p), o4, o5, some (.int (0 + (i : Int))), some (.ref st), some (.int (0 + (l : Int))), some v, some (.str (gT 4 d)), o11, o12, o13, o14] ∧ ScrOk K G2 a (ns.map V.int) ∧ TabsG PT G2 ∧ StAt G2 st ∧ Dp K G2 v d)
        ⟨_, _, _, rfl, scr_ext scG (ext_same s1), tG.same s1, saG.same s1, dp_same s1 hdv⟩ (fun m σ G2 hm2 h => ?_) (fun σ G2 h => ?_)
      · obtain ⟨o11, o12, o13, rfl, sc3, tb3, sa3, hd3⟩ := h
        refine ⟨_, rfl, _, rfl, st, gT 4 d, rfl, by omega, sa3, fun y1 G3 mv1 ly1 => ?_⟩
        have sc4 := sc3.kt (mv1.kp.kt sa3)
        have tb4 := tb3.kp sa3 mv1.kp
        have hd4 := dp_kt (mv1.kp.kt sa3) _ _ td hd3
        refine ⟨_, rfl, st, 3, rfl, mv1.sa, by decide, by decide, fun r G4 r0 r1 mv2 => ?_⟩
        have sc5 := sc4.kt (mv2.kp.kt mv1.sa)
        have tb5 := tb4.kp mv1.sa mv2.kp
        have hd5 := dp_kt (mv2.kp.kt mv1.sa) _ _ td hd4
        refine ⟨r, rfl, by omega, by omega, ?_⟩
        refine for_range (lo := 0) (n := r.toNat) (fun q σ G5 => ∃ (y : Str) (o13 : Option V), σ = [some (.ref a), o1, o2, some (.ref p), o4, o5, some (.int (0 + (i : Int))), some (.ref st), some (.int (0 + (l : Int))), some v, some (.str (gT 4 d)), some (.int (0 + (m : Int))), some (.str y), o13, o14] ∧ ScrOk K G5 a (ns.map V.int) ∧ TabsG PT G5 ∧ StAt G5 st ∧ Dp K G5 v d ∧ ((q = 0 ∧ y.length ≤ 1100) ∨ (q = 1 ∧ y.length ≤ 2300) ∨ (q = 2 ∧ y.length ≤ 4700)))
          ⟨y1, _, rfl, sc5, tb5, mv2.sa, hd5, .inl ⟨rfl, by omega⟩⟩ (fun q σ G5 hq h => ?_) (fun σ G5 h => ?_)
        · obtain ⟨y, o13, rfl, sc6, tb6, sa6, hd6, ly⟩ := h
          refine ⟨_, rfl, _, rfl, st, y, rfl, by omega, sa6, fun y2 G6 mv3 ly2 => ?_⟩
          exact ⟨y2, _, rfl, sc6.kt (mv3.kp.kt sa6), tb6.kp sa6 mv3.kp, mv3.sa, dp_kt (mv3.kp.kt sa6) _ _ td hd6, by omega⟩
        obtain ⟨y, o13, rfl, sc6, tb6, sa6, hd6, ly⟩ := h
        refine ⟨_, rfl, _, rfl, y, rfl, small2 (by omega), ?_⟩
        have lc : (cutS y none (some 1000)).length ≤ 1000 := by
          have e := congrArg List.length (cut_to y 1000)
          have l1 : (cutS y none (some ((1000 : Nat) : Int))).cps.toList.length = (cutS y none (some ((1000 : Nat) : Int))).length := Array.length_toList
          rw [List.length_take] at e
          have h : (cutS y none (some ((1000 : Nat) : Int))).length ≤ 1000 := by omega
          exact h
        generalize cutS y none (some 1000) = bd at lc ⊢
        have hz : ∀ z, PyData.str bd = .str z → z.length ≤ 1000 := fun z e => by cases e; exact lc
        refine ⟨tb6.2, fun fl cl H1 O x1 t1 ot hf lh => ⟨fl, cl, _, rfl, lh, lh, ?_⟩⟩
        have sf := same_new hf O
        have xx := x1.trans (ext_same sf)
        have tbL : TabsG PT (upd H1 fl O) := (TabsG.mk' tb6 L.hmT t1 ot).same sf
        rcases due_is hz with ⟨g', c, ed, hg', hc, h24, edue⟩ | ⟨hno, edue⟩
        case' inl =>
          refine ⟨_, rfl, .inl ⟨g', c, by cases ed; rfl, hg', hc, tbL, fun v2 H2 x2 t2 hv2 => ⟨small (by show 1 ≤ 1000; decide), fun pp hpp => ?_⟩⟩⟩
          have sp := same_new hpp (.lst [v2])
          refine ⟨_, rfl, .str bd, .str bd, rfl, .str _, hz, fun v3 H3 s3 hv3 => ?_⟩
          rw [edue] at hv3
          refine ⟨.ref pp, v3, .list [g'], rfl, .lst (SqL.of (s3 _ _ upd_same)) (.cons (dp_same (sp.trans s3) hv2) .nil), hv3, show_due hc, _, rfl, ifF rfl ?_⟩
          have e7 := (xx.trans x2).trans (ext_same (sp.trans s3))
          have t7 := t2.same (sp.trans s3)
        case' inr =>
          refine ⟨_, rfl, .inr ⟨.str bd, .str bd, rfl, .str _, hno, tbL, fun e2 H2 x2 t2 he => .inr ⟨rfl, e2, rfl, he, fun pw Gw sw gw => ?_⟩⟩⟩
          have xw := (xx.trans x2).trans (ext_same sw)
          refine ⟨_, rfl, .str bd, .str bd, rfl, .str _, hz, fun v3 H3 s3 hv3 => ?_⟩
          rw [edue] at hv3
          refine ⟨.ref pw, v3, textD, rfl, .tup (SqT.of (s3 _ _ gw)) (.cons (.str _) (.cons (.int _) .nil)), hv3, show_text, _, rfl, ifF rfl ?_⟩
          have e7 := xw.trans (ext_same s3)
          have t7 := (t2.same sw).same s3
        all_goals
          refine ⟨_, rfl, d, _, rfl, hd, hg, t7, fun v4 G8 e8 t8 hv4 => ?_⟩
          refine ⟨v4, d, rfl, hv4, w1, w2, w3, _, rfl, v, d, rfl, dp_ext (e7.trans e8) _ _ hd6, w1, w2, w3, rfl, _, rfl, ?_⟩
          exact ifF (by rw [decide_eq_true rfl]; rfl) ⟨_, _, _, rfl, scr_ext sc6 (e7.trans e8), t8, st_ext sa6 (e7.trans e8), dp_ext (e7.trans e8) _ _ hd6⟩
      · obtain ⟨o11, o12, o13, rfl, sc3, tb3, sa3, hd3⟩ := h
        exact ⟨_, _, _, _, _, _, rfl, sc3, tb3, sa3, .inr ⟨v, d, rfl, hd3, hd⟩⟩
    obtain ⟨o8, o9, o10, o11, o12, o13, rfl, sc2, tb2, sa2, h9⟩ := h
    obtain ⟨v, d, rfl, hdv, hd⟩ : ∃ v d, o9 = some v ∧ Dp K H2 v d ∧ grB 4 d = true := h9.elim (fun z => by cases z) id
    have td := (grB_shp 4 d hd).1
    have mnd := dp_kt (kt_mn sa2) _ _ td hdv
    obtain ⟨gv, xs, es, rfl, rfl, at_, ges⟩ : ∃ gv xs es, v = .ref gv ∧ d = .tuple es ∧ SqT K H2 gv xs ∧ DpAll K (mn st H2) xs es := by
      obtain ⟨n', es, en, rfl, _⟩ := gr_is hd
      cases hdv with
      | @tup gv xs _ h1 h2 =>
      refine ⟨gv, xs, es, rfl, rfl, h1, ?_⟩
      exact dpAll_kt (kt_mn sa2) _ _ (by have := td; simpa only [tupOnly] using this) h2
    have tx0 := sa2
    generalize hT0 : H2 = T0 at tx0 ⊢
    have sx0 : Same H2 T0 := hT0 ▸ Same.refl H2
    replace ges : DpAll K (mn st T0) xs es := hT0 ▸ ges
    refine ⟨small (by show 0 ≤ 1000; decide), fun t0 ht0 => ?_⟩
    have sx1 := same_new ht0 (.tup [])
    have dt0 : Dp K (mn st (upd T0 t0 (.tup []))) (.ref t0) (.tuple []) := new_tup tx0 ht0 .nil
    have tx1 := tx0.same sx1
    generalize upd T0 t0 (.tup []) = T1 at sx1 dt0 tx1 ⊢
    refine ⟨small (by show 2 ≤ 1000; decide), fun a1 ha1 => ?_⟩
    have sx2 := same_new ha1 (.tup [.int 0, .int 0])
    have da1 : Dp K (mn st (upd T1 a1 (.tup [.int 0, .int 0]))) (.ref a1) (.tuple [.int 0, .int 0]) := new_tup tx1 ha1 (.cons (.int _) (.cons (.int _) .nil))
    have tx2 := tx1.same sx2
    generalize upd T1 a1 (.tup [.int 0, .int 0]) = T2 at sx2 da1 tx2 ⊢
    refine ⟨small (by show 1 ≤ 1000; decide), fun a2 ha2 => ?_⟩
    have sx3 := same_new ha2 (.tup [.ref a1])
    have da2 : Dp K (mn st (upd T2 a2 (.tup [.ref a1]))) (.ref a2) (.tuple [.tuple [.int 0, .int 0]]) := new_tup tx2 ha2 (.cons (da1) .nil)
    have tx3 := tx2.same sx3
    generalize upd T2 a2 (.tup [.ref a1]) = T3 at sx3 da2 tx3 ⊢
    refine ⟨small (by show 2 ≤ 1000; decide), fun b1 hb1 => ?_⟩
    have sx4 := same_new hb1 (.tup [.str "tie", .int 1])
    have db1 : Dp K (mn st (upd T3 b1 (.tup [.str "tie", .int 1]))) (.ref b1) (.tuple [.str "tie", .int 1]) := new_tup tx3 hb1 (.cons (.str _) (.cons (.int _) .nil))
    have tx4 := tx3.same sx4
    generalize upd T3 b1 (.tup [.str "tie", .int 1]) = T4 at sx4 db1 tx4 ⊢
    refine ⟨small (by show 3 ≤ 1000; decide), fun b2 hb2 => ?_⟩
    have sx5 := same_new hb2 (.tup [.int 0, .int 0, .ref b1])
    have db2 : Dp K (mn st (upd T4 b2 (.tup [.int 0, .int 0, .ref b1]))) (.ref b2) (.tuple [.int 0, .int 0, .tuple [.str "tie", .int 1]]) := new_tup tx4 hb2 (.cons (.int _) (.cons (.int _) (.cons (db1) .nil)))
    have tx5 := tx4.same sx5
    generalize upd T4 b2 (.tup [.int 0, .int 0, .ref b1]) = T5 at sx5 db2 tx5 ⊢
    refine ⟨small (by show 1 ≤ 1000; decide), fun b3 hb3 => ?_⟩
    have sx6 := same_new hb3 (.tup [.ref b2])
    have db3 : Dp K (mn st (upd T5 b3 (.tup [.ref b2]))) (.ref b3) (.tuple [.tuple [.int 0, .int 0, .tuple [.str "tie", .int 1]]]) := new_tup tx5 hb3 (.cons (db2) .nil)
    have tx6 := tx5.same sx6
    generalize upd T5 b3 (.tup [.ref b2]) = T6 at sx6 db3 tx6 ⊢
    refine ⟨_, rfl, gv, xs, rfl, .inr (sqT_same (sx0.trans (((((sx1.trans sx2).trans sx3).trans sx4).trans sx5).trans sx6)) at_), fun lq hlq => ?_⟩
    have sx7 := same_new hlq (.lst xs)
    have dlq : Dp K (mn st (upd T6 lq (.lst xs))) (.ref lq) (.list es) := .lst (SqL.of (mn_at (tx6.ne hlq) upd_same)) (dps_same (mn_same sx7) (dps_same (mn_same (((((sx1.trans sx2).trans sx3).trans sx4).trans sx5).trans sx6)) ges))
    have tx7 := tx6.same sx7
    generalize upd T6 lq (.lst xs) = T7 at sx7 dlq tx7 ⊢
    refine ⟨small (by show 3 ≤ 1000; decide), fun c1 hc1 => ?_⟩
    have sx8 := same_new hc1 (.tup [.bl true, .int 0, .int 0])
    have dc1 : Dp K (mn st (upd T7 c1 (.tup [.bl true, .int 0, .int 0]))) (.ref c1) (.tuple [.bool true, .int 0, .int 0]) := new_tup tx7 hc1 (.cons (.bl _) (.cons (.int _) (.cons (.int _) .nil)))
    have tx8 := tx7.same sx8
    generalize upd T7 c1 (.tup [.bl true, .int 0, .int 0]) = T8 at sx8 dc1 tx8 ⊢
    refine ⟨small (by show 1 ≤ 1000; decide), fun c2 hc2 => ?_⟩
    have sx9 := same_new hc2 (.tup [.ref c1])
    have dc2 : Dp K (mn st (upd T8 c2 (.tup [.ref c1]))) (.ref c2) (.tuple [.tuple [.bool true, .int 0, .int 0]]) := new_tup tx8 hc2 (.cons (dc1) .nil)
    have tx9 := tx8.same sx9
    generalize upd T8 c2 (.tup [.ref c1]) = T9 at sx9 dc2 tx9 ⊢
    refine ⟨small (by show 3 ≤ 1000; decide), fun e1 he1 => ?_⟩
    have sx10 := same_new he1 (.tup [.int 10000, .int 0, .int 0])
    have de1 : Dp K (mn st (upd T9 e1 (.tup [.int 10000, .int 0, .int 0]))) (.ref e1) (.tuple [.int 10000, .int 0, .int 0]) := new_tup tx9 he1 (.cons (.int _) (.cons (.int _) (.cons (.int _) .nil)))
    have tx10 := tx9.same sx10
    generalize upd T9 e1 (.tup [.int 10000, .int 0, .int 0]) = T10 at sx10 de1 tx10 ⊢
    refine ⟨small (by show 1 ≤ 1000; decide), fun e2 he2 => ?_⟩
    have sx11 := same_new he2 (.tup [.ref e1])
    have de2 : Dp K (mn st (upd T10 e2 (.tup [.ref e1]))) (.ref e2) (.tuple [.tuple [.int 10000, .int 0, .int 0]]) := new_tup tx10 he2 (.cons (de1) .nil)
    have tx11 := tx10.same sx11
    generalize upd T10 e2 (.tup [.ref e1]) = T11 at sx11 de2 tx11 ⊢
    refine ⟨small (by show 7 ≤ 1000; decide), fun Lb hLb => ?_⟩
    have sall := sx0.trans ((((((((((sx1.trans sx2).trans sx3).trans sx4).trans sx5).trans sx6).trans sx7).trans sx8).trans sx9).trans sx10).trans sx11)
    have bad7 : ∀ v ∈ ([.non, .ref t0, .ref a2, .ref b3, .ref lq, .ref c2, .ref e2] : List V), BadV K (mn st T11) v := fun v hv => by
      rcases List.mem_cons.mp hv with rfl | hv
      · exact ⟨.none, .non, rfl⟩
      rcases List.mem_cons.mp hv with rfl | hv
      · exact ⟨_, dp_same (mn_same (((((((((sx2.trans sx3).trans sx4).trans sx5).trans sx6).trans sx7).trans sx8).trans sx9).trans sx10).trans sx11)) dt0, by decide +kernel⟩
      rcases List.mem_cons.mp hv with rfl | hv
      · exact ⟨_, dp_same (mn_same (((((((sx4.trans sx5).trans sx6).trans sx7).trans sx8).trans sx9).trans sx10).trans sx11)) da2, by decide +kernel⟩
      rcases List.mem_cons.mp hv with rfl | hv
      · exact ⟨_, dp_same (mn_same ((((sx7.trans sx8).trans sx9).trans sx10).trans sx11)) db3, by decide +kernel⟩
      rcases List.mem_cons.mp hv with rfl | hv
      · exact ⟨_, dp_same (mn_same (((sx8.trans sx9).trans sx10).trans sx11)) dlq, rfl⟩
      rcases List.mem_cons.mp hv with rfl | hv
      · exact ⟨_, dp_same (mn_same (sx10.trans sx11)) dc2, by decide +kernel⟩
      rcases List.mem_cons.mp hv with rfl | hv
      · exact ⟨_, de2, by decide +kernel⟩
      cases hv
    generalize hv7 : ([.non, .ref t0, .ref a2, .ref b3, .ref lq, .ref c2, .ref e2] : List V) = v7 at bad7 ⊢
    have l7 : v7.length = 7 := by rw [← hv7]; rfl
    have sL := same_new hLb (.lst v7)
    have gL : upd T11 Lb (.lst v7) Lb = some (.lst v7) := upd_same
    have saL := tx11.same sL
    have nL : Lb ≠ st := tx11.ne hLb
    have bad7 : ∀ v ∈ v7, BadV K (mn st (upd T11 Lb (.lst v7))) v := fun v hv => (bad7 v hv).same (mn_same sL)
    have scL := scr_ext sc2 (ext_same (sall.trans sL))
    have tbL := tb2.same (sall.trans sL)
    generalize upd T11 Lb (.lst v7) = HL at gL saL bad7 scL tbL ⊢
    refine ⟨_, rfl, _, rfl, st, rfl, saL, fun vo do_ G8 mv8 hdo hodd => ⟨small (by show 1 ≤ 1000; decide), fun q8 hq8 => ?_⟩⟩
    have s8 := same_new hq8 (.lst [vo])
    refine ⟨Lb, q8, v7, [vo], rfl, rfl, s8 _ _ (mv8.kp _ _ nL gL), upd_same, small (by rw [l7]; show 7 + 1 ≤ 1000; decide), fun p9 hp9 => ?_⟩
    have s9 := same_new hp9 (.lst (v7 ++ [vo]))
    have g9 : upd (upd G8 q8 (.lst [vo])) p9 (.lst (v7 ++ [vo])) p9 = some (.lst (v7 ++ [vo])) := upd_same
    have bad8 : ∀ v ∈ v7 ++ [vo], BadV K (upd (upd G8 q8 (.lst [vo])) p9 (.lst (v7 ++ [vo]))) v := fun v hv => by
      have key : BadV K (mn st G8) v := by
        rcases List.mem_append.mp hv with hv | hv
        · exact (bad7 v hv).same (mn_kp mv8.kp)
        · rw [List.mem_singleton.mp hv]
          exact ⟨do_, hdo, odd_no hodd⟩
      exact key.same (mn_in.trans (s8.trans s9))
    have sc9 := scr_ext (scL.kt (mv8.kp.kt saL)) (ext_same (s8.trans s9))
    have tb9 := (tbL.kp saL mv8.kp).same (s8.trans s9)
    generalize upd (upd G8 q8 (.lst [vo])) p9 (.lst (v7 ++ [vo])) = G9 at g9 bad8 sc9 tb9 ⊢
    generalize v7 ++ [vo] = v8 at g9 bad8 ⊢
    refine ⟨p9, rfl, ⟨_, SqL.of g9⟩, ?_⟩
    refine for_list (xs := v8) (fun _ σ G' => ∃ o12, σ = [some (.ref a), o1, o2, some (.ref p), o4, o5, some (.int (0 + (i : Int))), some (.ref st), o8, some (.ref gv), o10, o11, o12, o13, some (.ref Lb)] ∧ ExtN G9 G' ∧ TabsG PT G') ⟨_, rfl, ExtN.refl G9, tb9⟩ (fun i σ G' _ h => ?_) (fun j v σ G' hv h => ?_) (fun σ G' h => ?_)
    · obtain ⟨_, _, e, _⟩ := h
      exact SqL.of (e _ _ g9 (fun _ z => by cases z))
    · obtain ⟨o12, rfl, e, t⟩ := h
      obtain ⟨d, hd, hno⟩ := bad8 v (List.mem_of_getElem? hv)
      refine ⟨t.2, fun fl cl H1 O x1 t1 ot hf lh => ⟨fl, cl, _, rfl, lh, lh, ?_⟩⟩
      have sf := same_new hf O
      have xx := e.trans (x1.trans (ext_same sf))
      have tbL : TabsG PT (upd H1 fl O) := (TabsG.mk' t L.hmT t1 ot).same sf
      refine ⟨_, rfl, v, d, rfl, dp_ext xx _ _ hd, hno, .inl ⟨rfl, rfl, .inl rfl, fun pw Gw sw gw => ?_⟩⟩
      rw [w2_] at gw
      refine ⟨small (by show 1 ≤ 1000; decide), fun q hq => ?_⟩
      have sq := same_new hq (.tup [V.str "graph"])
      refine ⟨.tuple [.str "graph"], .tuple [.str "graph"], .tup (SqT.of (sq _ _ gw)) (.cons (.str _) .nil), .tup (SqT.of upd_same) (.cons (.str _) .nil), by decide +kernel, by decide +kernel, _, rfl, ifF (by decide +kernel) ?_⟩
      exact ⟨_, rfl, xx.trans (ext_same (sw.trans sq)), tbL.same (sw.trans sq)⟩
    · obtain ⟨o12, rfl, e, t⟩ := h
      exact ⟨_, _, _, _, _, _, _, _, _, _, rfl, scr_ext sc9 e, t⟩
end
/-- a method of the text -/
structure MStd (K : PySem.W.Frag) (C : Addr) (m qual : Str) (st : Stmt) (ps : List Str) (f : Addr) (fd : FuncData) : Prop where
  fn : Fun K m qual st f fd
  me : Meth K C m f
  bi : Binds K fd ps []
theorem MStd.met {P : Program} {w : World} {K : PySem.W.Frag} {mg : Str → Option Value} {base : Heap} {C : Addr} {m qual : Str} {st : Stmt} {ps : List Str} {f : Addr} {fd : FuncData} {k j : Nat} {sp : Sp} (D : MStd K C m qual st ps f fd) (c : Cls K C) (F : FnOk P w K mg base CX0 k f fd ps sp) (h : k ≤ j := by omega) : MetC P w K mg base C m j ps sp :=
  ⟨f, fd, F.mono h, c, D.me, D.bi⟩
theorem MStd.mak {P : Program} {w : World} {K : PySem.W.Frag} {mg : Str → Option Value} {base : Heap} {C : Addr} {x qual : Str} {st : Stmt} {ps : List Str} {f : Addr} {fd : FuncData} {k j : Nat} {sp : Sp} (D : MStd K C "__init__" qual st ps f fd) (hm : PySem.W.makesIn K C = true) (hk : PySem.W.keepIn K (.ref C) = true) (mgC : mg x = some (.ref C)) (F : FnOk P w K mg base CX0 k f fd ps sp) (h : k ≤ j := by omega) : MakC P w K mg base x C j ps sp :=
  ⟨f, fd, F.mono h, ⟨hm, D.me.at_, D.me.fn, hk⟩, mgC, D.bi⟩
/-- a def of the text that stands under its name -/
structure Std0 (K : PySem.W.Frag) (mg : Str → Option Value) (x : Str) (st : Stmt) (f : Addr) (fd : FuncData) : Prop where
  fn : Fun K x x st f fd
  nm : mg x = some (.ref f)
structure Std (K : PySem.W.Frag) (mg : Str → Option Value) (x : Str) (st : Stmt) (ps : List Str) (f : Addr) (fd : FuncData) : Prop where
  fn : Fun K x x st f fd
  nm : mg x = some (.ref f)
  bi : Binds K fd ps []
theorem Std.cal {P : Program} {w : World} {K : PySem.W.Frag} {mg : Str → Option Value} {base : Heap} {x : Str} {st : Stmt} {ps : List Str} {f : Addr} {fd : FuncData} {k j : Nat} {sp : Sp} (D : Std K mg x st ps f fd) (F : FnOk P w K mg base CX0 k f fd ps sp) (h : k ≤ j := by omega) : Cal P w K mg base x j ps sp :=
  ⟨f, fd, F.mono h, D.nm, D.fn.kp, D.bi⟩
structure StdA (K : PySem.W.Frag) (mg : Str → Option Value) (g x : Str) (st : Stmt) (ps : List Str) (f : Addr) (fd : FuncData) : Prop where
  fn : Fun K x x st f fd
  nm : mg g = some (.ref f)
  bi : Binds K fd ps []
theorem StdA.cal {P : Program} {w : World} {K : PySem.W.Frag} {mg : Str → Option Value} {base : Heap} {g x : Str} {st : Stmt} {ps : List Str} {f : Addr} {fd : FuncData} {k j : Nat} {sp : Sp} (D : StdA K mg g x st ps f fd) (F : FnOk P w K mg base CX0 k f fd ps sp) (h : k ≤ j := by omega) : Cal P w K mg base g j ps sp :=
  ⟨f, fd, F.mono h, D.nm, D.fn.kp, D.bi⟩
theorem exm_mk {K : PySem.W.Frag} {C S : Addr} (h1 : PySem.W.subIn K (.ref S) (.type "BaseException") = some true) (h2 : PySem.W.isClsIn K S = true) (h3 : PySem.W.typeIn K (.ref S) = some (.type "type")) (h4 : PySem.W.subIn K (.ref C) (.ref S) = some true) : PySem.W.exmOne K (.ref C) (.ref S) = some true := by
  have h2 : (PySem.W.clsIn K S).isSome = true := h2
  unfold PySem.W.exmOne
  rw [if_pos (by rw [h1]; rfl)]
  show (if ((PySem.W.clsIn K S).isSome && PySem.W.typeIn K (.ref S) == some (.type "type")) = true then PySem.W.subIn K (.ref C) (.ref S) else none) = _
  rw [if_pos (by rw [h2, h3]; rfl), h4]
/-- the tables of methods' codes, from the head -/
abbrev tsM : List Addr := []
section
open PySem.Spec PyProof.Rows LamX
def tbOf (PA1 PA2 : Addr) (h : PA2 ∉ [PA1]) : TbP := ⟨[PA1], [(PA2, ("law" : Str) ++ ".<locals>." ++ "<lambda>")], fun p hp => by rw [List.mem_singleton.mp hp]; exact h⟩
theorem all_cals {P : Program} {w : World} {K : PySem.W.Frag} {mg : Str → Option Value} {base : Heap} {PA1 cA1 PA2 cA2 : Addr} {CSg gSg0 gSg1 gSg2 gSg3 CS C2 C17 gINt ccINt clINt : Addr} (sys : SysB base) (T : Free mg) (C : Cst mg) (e0 : mg "all" = none) (e1 : mg "str" = none) (e2 : mg "super" = none) (e3 : mg "ValueError" = none)
    (hMF : ∃ t, mg "MOST_FIGURES" = some (.int 5 t)) (SSg : SgC K mg CSg) (uSg : PySem.W.makesIn K CSg = true) (vSg : PySem.W.keepIn K (.ref CSg) = true) {dSg0 : FuncData} (MSg0 : MStd K CSg "__init__" "Signs.__init__" sSgInit ["self", "text"] gSg0 dSg0) {dSg1 : FuncData} (MSg1 : MStd K CSg "comes" "Signs.comes" sSgComes ["self", "sign"] gSg1 dSg1) {dSg2 : FuncData} (MSg2 : MStd K CSg "want" "Signs.want" sSgWant ["self", "sign"] gSg2 dSg2) {dSg3 : FuncData} (MSg3 : MStd K CSg "word" "Signs.word" sSgWord ["self"] gSg3 dSg3) (hGe : mg "GiveError" = some (.ref CS)) (X2 : Exn K mg "NoGraph" C2) (KI2 : Kin K mg C2 2) (xm2 : PySem.W.exmOne K (.ref C2) (.ref CS) = some true) (KI17 : Kin K mg C17 17) (xm17 : PySem.W.exmOne K (.ref C17) (.ref CS) = some true) {dINt : FuncData} (mNt : mg "NoText" = some (.ref C17)) (FINt : FunS K "__init__" "NoText.__init__" sNtInit gINt dINt ccINt clINt C17) (iNt : PySem.W.findIn K (.ref C17) "__init__" = some (some (.ref gINt))) (tNt : PySem.W.typeIn K (.ref gINt) = some (.type "function")) (bNt : Binds K dINt ["self", "row"] []) (SNt : SxC P K mg ccINt C17) (XfNt : XfC K C17)
    {f0 : Addr} {d0 : FuncData} (D0 : Std K mg "is_whole" sWhole ["thing"] f0 d0) {f1 : Addr} {d1 : FuncData} (D1 : Std K mg "is_within" sWithin ["thing", "least", "most"] f1 d1) {f2 : Addr} {d2 : FuncData} (D2 : Std K mg "is_tuple" sTuple ["thing", "least", "most"] f2 d2) {f3 : Addr} {d3 : FuncData} (D3 : Std K mg "is_number" sNumber ["thing"] f3 d3) {f4 : Addr} {d4 : FuncData} (D4 : Std K mg "has_box" sHasBox ["graph", "b"] f4 d4) {f5 : Addr} {d5 : FuncData} (D5 : Std K mg "is_tie" sTie ["thing", "graph"] f5 d5) {f6 : Addr} {d6 : FuncData} (D6 : Std K mg "place_size" sPsz ["thing", "graph", "deep"] f6 d6) {f7 : Addr} {d7 : FuncData} (D7 : Std K mg "graph_size" sGsz ["thing", "deep"] f7 d7) {f8 : Addr} {d8 : FuncData} (D8 : Std K mg "is_graph" sIsGraph ["thing"] f8 d8) {f9 : Addr} {d9 : FuncData} (D9 : Std K mg "check_graph" sCheckG ["graph"] f9 d9) {f10 : Addr} {d10 : FuncData} (D10 : Std K mg "sort_of" sSortOf ["place"] f10 d10) {f11 : Addr} {d11 : FuncData} (D11 : Std K mg "whole_from" sWholeFrom ["word", "most"] f11 d11) {f12 : Addr} {d12 : FuncData} (D12 : Std K mg "place_text" sPlaceText ["place"] f12 d12) {f13 : Addr} {d13 : FuncData} (D13 : Std K mg "box_text" sBoxText ["box"] f13 d13) {f14 : Addr} {d14 : FuncData} (D14 : Std K mg "boxes_text" sBoxesText ["graph"] f14 d14) {f15 : Addr} {d15 : FuncData} (D15 : Std K mg "graph_text" sGraphText ["graph"] f15 d15) {f16 : Addr} {d16 : FuncData} (D16 : Std K mg "read_boxes" sReadBoxes ["signs", "deep"] f16 d16) {f17 : Addr} {d17 : FuncData} (D17 : Std K mg "read_box" sReadBox ["signs", "deep"] f17 d17) {f18 : Addr} {d18 : FuncData} (D18 : Std K mg "read_place" sReadPlace ["signs", "deep"] f18 d18) {f19 : Addr} {d19 : FuncData} (D19 : Std K mg "read_number" sReadNumber ["signs"] f19 d19) {f20 : Addr} {d20 : FuncData} (D20 : Std K mg "read_graph" sReadGraph ["text"] f20 d20) {f21 : Addr} {d21 : FuncData} (D21 : Std K mg "_law_cell_at" sCell ["_law_script", "_law_k"] f21 d21) {f22 : Addr} {d22 : FuncData} (D22 : Std K mg "_law_state" sState ["_law_script", "_law_k"] f22 d22) {f23 : Addr} {d23 : FuncData} (D23 : Std K mg "_law_choice" sChoice ["_law_state_here", "_law_many"] f23 d23) {f24 : Addr} {d24 : FuncData} (D24 : Std K mg "_law_same" sLSame ["_law_found", "_law_due_here"] f24 d24) {f25 : Addr} {d25 : FuncData} (D25 : Std0 K mg "_law_marks" sMarks f25 d25) {f26 : Addr} {d26 : FuncData} (D26 : Std0 K mg "_law_word" sWord f26 d26) {f27 : Addr} {d27 : FuncData} (D27 : Std K mg "_law_said" sSaid ["_law_call"] f27 d27) {f28 : Addr} {d28 : FuncData} (D28 : Std K mg "_law_odd" sLOdd ["_law_state_here"] f28 d28) {f29 : Addr} {d29 : FuncData} (D29 : Std K mg "_law_inner" sInner ["_law_graph_here"] f29 d29) {f30 : Addr} {d30 : FuncData} (D30 : Std K mg "_law_size" sSize ["_law_graph_here"] f30 d30) {f31 : Addr} {d31 : FuncData} (D31 : Std K mg "_law_deep" sDeep ["_law_graph_here"] f31 d31) {f32 : Addr} {d32 : FuncData} (D32 : Std K mg "_law_graph" sGraph ["_law_state_here", "_law_deep_here", "_law_most"] f32 d32) {f33 : Addr} {d33 : FuncData} (D33 : Std K mg "_law_fit" sFit ["_law_state_here"] f33 d33) {f34 : Addr} {d34 : FuncData} (D34 : Std K mg "_law_text" sText ["_law_graph_here"] f34 d34) {f35 : Addr} {d35 : FuncData} (D35 : Std K mg "_law_number" sLNumber ["_law_word_here"] f35 d35) {f36 : Addr} {d36 : FuncData} (D36 : Std K mg "_law_shut" sLShut ["_law_text_here", "_law_at"] f36 d36) {f37 : Addr} {d37 : FuncData} (D37 : Std K mg "_law_place" sLPlace ["_law_text_here", "_law_many", "_law_deep_here"] f37 d37) {f38 : Addr} {d38 : FuncData} (D38 : Std K mg "_law_parts" sLParts ["_law_text_here"] f38 d38) {f39 : Addr} {d39 : FuncData} (D39 : Std K mg "_law_boxes" sLBoxes ["_law_text_here"] f39 d39) {f40 : Addr} {d40 : FuncData} (D40 : Std K mg "_law_read" sLRead ["_law_text_here", "_law_deep_here"] f40 d40) {f41 : Addr} {d41 : FuncData} (D41 : Std K mg "_law_due" sLDue ["_law_thing"] f41 d41) {f42 : Addr} {d42 : FuncData} (D42 : Std K mg "_law_turned" sLTurned ["_law_state_here", "_law_text_here"] f42 d42) (bK : ∀ (s : Shared) (u : Value), BindsTo s d25 ⟨[u], []⟩ [("_law_e", u)]) (bW : ∀ (s : Shared) (u : Value), BindsTo s d26 ⟨[u], []⟩ [("_law_e", u)])
    (ap : PA2 ∉ [PA1]) (cdA1 : d11.code = .ref cA1) (TA1 : LamX.TabB base mg cA1 PA1) (TA2 : LamX.TabB base mg cA2 PA2) : Law66 P w K mg base (tbOf PA1 PA2 ap) C2 C17 CS f26 f27 cA2 PA2 d27 40 := by
  have mA1 : PA1 ∈ (tbOf PA1 PA2 ap).g := List.mem_cons_self
  have mA2 : (PA2, ("law" : Str) ++ ".<locals>." ++ "<lambda>") ∈ (tbOf PA1 PA2 ap).t := List.mem_cons_self
  have uL : ∀ p ∈ (tbOf PA1 PA2 ap).t, p.1 = PA2 → p.2 = ("law" : Str) ++ ".<locals>." ++ "<lambda>" := fun p hp _ => by rw [List.mem_singleton.mp (show p ∈ [(PA2, ("law" : Str) ++ ".<locals>." ++ "<lambda>")] from hp)]
  generalize (tbOf PA1 PA2 ap) = PT at mA1 mA2 uL ⊢
  have cW := D0.cal (j := 1) (ok_whole (P := P) (w := w) (base := base) (k := 0) D0.fn T)
  have cWi := D1.cal (j := 2) (ok_within D1.fn cW)
  have cTu := D2.cal (j := 1) (ok_tuple (P := P) (w := w) (base := base) (k := 0) D2.fn T)
  have cNm := D3.cal (j := 3) (ok_number D3.fn C cWi)
  have cHb := D4.cal (j := 3) (ok_hasBox D4.fn T cWi)
  have cTi := D5.cal (j := 4) (ok_tie D5.fn (cTu.mono (by omega)) cHb)
  have sizes : ∀ n : Nat, Cal P w K mg base "graph_size" (5 + 2 * n) ["thing", "deep"] (spGsz K n) := by
    intro n
    induction n with
    | zero => exact D7.cal (ok_gsz (k := 4) (n := 0) D7.fn T C (cTu.mono (by omega)) (fun z => absurd rfl z))
    | succ n ih =>
      have cP : Cal P w K mg base "place_size" (6 + 2 * n) ["thing", "graph", "deep"] (spPsz K n) := D6.cal (ok_psz (k := 5 + 2 * n) D6.fn (cNm.mono (by omega)) (cTi.mono (by omega)) ih)
      exact D7.cal (ok_gsz (k := 6 + 2 * n) (n := n + 1) D7.fn T C (cTu.mono (by omega)) (fun _ => cP))
  have cIs := D8.cal (j := 14) (ok_isGraph D8.fn C (sizes 4))
  have cCk := D9.cal (j := 15) (ok_checkG D9.fn cIs)
  have cSo := D10.cal (j := 1) (ok_sortOf (P := P) (w := w) (base := base) (k := 0) D10.fn T C)
  have cWf := D11.cal (j := 2) (ok_wholeFrom (P := P) (w := w) (base := base) (k := 0) (PT := PT) D11.fn cdA1 TA1 mA1 T e0 e1)
  have cBx := D14.cal (j := 14) (all_boxes (k := 1) D14.fn D13.fn D12.fn D14.nm D13.nm D12.nm D14.bi D13.bi D12.bi T e1 C cSo 4 (by omega))
  have cCo := MSg1.met SSg.cl (j := 1) (ok_comes (P := P) (w := w) (base := base) (k := 0) MSg1.fn SSg)
  have cWa := MSg2.met SSg.cl (j := 2) (ok_want (k := 1) MSg2.fn SSg cCo)
  have cWd := MSg3.met SSg.cl (j := 1) (ok_word (P := P) (w := w) (base := base) (k := 0) MSg3.fn SSg T.len)
  have cRn := D19.cal (j := 3) (ok_readNumber (k := 2) D19.fn hMF (cWd.mono (by omega)) cWf)
  have cRb := D16.cal (j := 15) (all_reads (k := 3) D16.fn D17.fn D18.fn D16.nm D17.nm D18.nm D16.bi D17.bi D18.bi T C.places (cCo.mono (by omega)) (cWa.mono (by omega)) cRn 4)
  have cMk := MSg0.mak uSg vSg SSg.mgC (j := 14) (ok_sgInit (P := P) (w := w) (base := base) (k := 0) MSg0.fn SSg)
  have oRGG := ok_readGraph (k := 14) D20.fn T e1 C cMk cRb (cIs.mono (by omega)) (cBx.mono (by omega))
  have NT : NtX P w K mg base C17 1 := ⟨mNt, SNt.ox, gINt, _, ok_ntInit (k := 0) FINt SNt, iNt, tNt, bNt⟩
  have mWx : MetX P w K mg base CSg "want" 3 ["self", "sign"] (spWantX CSg C17 PT) := ⟨_, _, ok_wantX (k := 1) MSg2.fn SSg NT (cCo.mono (by omega)), SSg.cl, MSg2.me, MSg2.bi⟩
  have cRx : CalX P w K mg base "read_number" 3 ["signs"] (spRNumX CSg C17 PT) := ⟨_, _, ok_readNumberX (k := 1) D19.fn hMF NT (cWd.mono (by omega)) cWf, D19.nm, D19.fn.kp, D19.bi⟩
  have oRx := all_readsX (k := 3) D16.fn D17.fn D18.fn D16.nm D17.nm D18.nm D16.bi D17.bi D18.bi T C.places (NT.mono (by omega)) (cCo.mono (by omega)) mWx cRx 4
  have bRG := bad_readGraph (k := 15) D20.fn T e1 C (NT.mono (by omega)) (MSg0.mak uSg vSg SSg.mgC (j := 15) (ok_sgInit (P := P) (w := w) (base := base) (k := 0) MSg0.fn SSg)) (⟨_, _, oRx.mono (by omega), D16.nm, D16.fn.kp, D16.bi⟩) (cIs.mono (by omega)) (cBx.mono (by omega))
  have xR : CalX P w K mg base "read_graph" (40 - 2) ["text"] (spOr (spReadG K PT) (spReadGX K PT C17)) := ⟨_, _, FnOk.or ((FnOk.lift oRGG).mono (by omega)) (bRG.mono (by omega)), D20.nm, D20.fn.kp, D20.bi⟩
  have cCg : CalX P w K mg base "check_graph" 15 ["graph"] (spBadG K C2) := ⟨_, _, bad_checkG (k := 14) D9.fn X2 cIs, D9.nm, D9.fn.kp, D9.bi⟩
  have xG : CalX P w K mg base "graph_text" (40 - 2) ["graph"] (spBadG K C2) := ⟨_, _, (bad_graphText (k := 15) D15.fn cCg).mono (by omega), D15.nm, D15.fn.kp, D15.bi⟩
  have cCh := D23.cal (j := 1) (ok_choice (P := P) (w := w) (base := base) (mg := mg) (k := 0) D23.fn)
  have cCe := D21.cal (j := 1) (ok_cell (P := P) (w := w) (base := base) (k := 0) D21.fn T)
  have cIn := D29.cal (j := 1) (ok_inner (P := P) (w := w) (base := base) (k := 0) D29.fn T)
  have cLs := D30.cal (j := 5) (all_lsize (k := 1) D30.fn D30.nm D30.bi T cIn 4)
  have cLd := D31.cal (j := 5) (all_ldeep (k := 1) D31.fn D31.nm D31.bi T cIn 4)
  have cLg := D32.cal (j := 5) (FnOk.anyL fun n hn => (all_lgraph (k := 1) D32.fn D32.nm D32.bi T cCh n).mono (k := 5) (by omega))
  have lt0 : Cal P w K mg base "_law_text" 1 ["_law_graph_here"] (spLText K 0) := D34.cal (k := 1) ⟨(fun vs H Q E h => by obtain ⟨x, d, rfl, _⟩ := h; rfl), (fun A outer s H args us vs Q E hr he hb hv h => by obtain ⟨x, d, _, _, h, _⟩ := h; cases d <;> cases h)⟩
  have lt1 : Cal P w K mg base "_law_text" 2 ["_law_graph_here"] (spLText K 1) := D34.cal (ok_ltext (k := 1) (by omega) D34.fn T e1 lt0)
  have lt2 : Cal P w K mg base "_law_text" 3 ["_law_graph_here"] (spLText K 2) := D34.cal (ok_ltext (k := 2) (by omega) D34.fn T e1 lt1)
  have lt3 : Cal P w K mg base "_law_text" 4 ["_law_graph_here"] (spLText K 3) := D34.cal (ok_ltext (k := 3) (by omega) D34.fn T e1 lt2)
  have cPa := D38.cal (j := 1) (ok_lparts (P := P) (w := w) (base := base) (k := 0) D38.fn T T.int)
  have cSh := D36.cal (j := 1) (ok_lshut (P := P) (w := w) (base := base) (k := 0) D36.fn T T.int)
  have cLb := D39.cal (j := 2) (ok_lboxes (k := 1) D39.fn T cSh)
  have cNu := D35.cal (j := 1) (ok_lnumber (P := P) (w := w) (base := base) (k := 0) D35.fn T)
  have r0 := D40.cal (j := 3) (ok_lread0 (k := 2) D40.fn T cLb)
  have p0 := D37.cal (j := 4) (ok_lplace (k := 3) (n := 0) D37.fn (cNu.mono (by omega)) r0)
  have r1 := D40.cal (j := 5) (ok_lread (k := 4) (n := 0) D40.fn T (cLb.mono (by omega)) (cPa.mono (by omega)) p0)
  have p1 := D37.cal (j := 6) (ok_lplace (k := 5) (n := 1) D37.fn (cNu.mono (by omega)) r1)
  have r2 := D40.cal (j := 7) (ok_lread (k := 6) (n := 1) D40.fn T (cLb.mono (by omega)) (cPa.mono (by omega)) p1)
  have p2 := D37.cal (j := 8) (ok_lplace (k := 7) (n := 2) D37.fn (cNu.mono (by omega)) r2)
  have r3 := D40.cal (j := 9) (ok_lread (k := 8) (n := 2) D40.fn T (cLb.mono (by omega)) (cPa.mono (by omega)) p2)
  have p3 := D37.cal (j := 10) (ok_lplace (k := 9) (n := 3) D37.fn (cNu.mono (by omega)) r3)
  have r4 := D40.cal (j := 11) (ok_lread (k := 10) (n := 3) D40.fn T (cLb.mono (by omega)) (cPa.mono (by omega)) p3)
  have cDu := D41.cal (j := 12) (ok_ldue (k := 11) D41.fn T e1 r4 (cLs.mono (by omega)))
  have cTn := D42.cal (j := 2) (ok_lturned (k := 1) D42.fn T cCh)
  have cOd := D28.cal (j := 2) (ok_odd (k := 1) D28.fn T cCh)
  have hM2 : HotOk P w K mg base 1 f25 C2 none (RMarks none 2) := ok_marks (k := 0) D25.fn bK T KI2
  have hW2 : HotOk P w K mg base 38 f26 C2 none (RWord none 2) := (ok_lword (k := 1) D26.fn bW T e3 KI2 D25.nm D25.fn.kp hM2).mono (by omega)
  have hW17 : ∀ d, HotOk P w K mg base 38 f26 C17 d (RWordT d 0) := fun d => (ok_wordT (k := 1) D26.fn bW T e3 KI17 XfNt SNt.row D25.nm D25.fn.kp (ok_marks (k := 0) D25.fn bK T KI17)).mono (by omega)
  have Z : SaidF P w K mg base CS C2 C17 f26 f27 d27 (40 - 2) := ⟨⟨hGe, D26.nm, D26.fn.kp, hW2, hW17, xm2, xm17⟩, D27.fn, D27.bi, D27.nm⟩
  have cSm : CalS P w K mg base "_law_same" 40 ["_law_found", "_law_due_here"] (spLSame K) := ⟨_, _, (ok_lsame (k := 0) D24.fn T.repr sys).mono (by omega), D24.nm, D24.fn.kp, D24.bi⟩
  exact {
    cSt := D22.cal (ok_state D22.fn T cCe)
    cC := cCh.mono (by omega)
    cF := D33.cal (ok_lfit (k := 5) D33.fn T (cCh.mono (by omega)) cLg cLs cLd)
    cT := D34.cal (ok_ltext (k := 4) (by omega) D34.fn T e1 lt3)
    cTu := cTn.mono (by omega)
    cO := cOd.mono (by omega)
    cDue := cDu.mono (by omega)
    cSm := cSm
    cR := D20.cal oRGG
    xR := xR
    xG := xG
    Z := Z
    TB := TA2
    hmT := mA2
    hu := uL }
/-- a def with its code's table -/
def Coded (K : PySem.W.Frag) (mg : Str → Option Value) (x : Str) (st : Stmt) (c Pt : Addr) : Prop := ∃ (f : Addr) (fd : FuncData) (oT : Obj) (vT : Array Value), mg x = some (.ref f) ∧ Fun K x x st f fd ∧ fd.code = .ref c ∧ K.lookup c = some oT ∧ oT.data = .fields vT ∧ vT[11]? = some (.ref Pt) ∧ K.lookup Pt = none
/-- a method with its code's table -/
def MCoded (K : PySem.W.Frag) (c Pt : Addr) : Prop := K.lookup Pt = none ∧ Pt ∈ tsM ∧ PySem.W.codeHdIn K c Pt = true
/-- what the top leaves -/
def Left66 (K : PySem.W.Frag) (w : World) (mg : Str → Option Value) (fa : Addr) : Prop := ∃ (fd : FuncData) (cA1 PA1 cA2 PA2 : Addr), Fun K "law" "law" sLaw fa fd ∧ (∀ (s : Shared) (v : Value), BindsTo s fd ⟨[v], []⟩ [("_law_script", v)]) ∧ Free mg ∧ mg "all" = none ∧ mg "str" = none ∧ mg "super" = none ∧ mg "ValueError" = none ∧ 
  Coded K mg "whole_from" sWholeFrom cA1 PA1 ∧ Coded K mg "law" sLaw cA2 PA2 ∧ fd.code = .ref cA2 ∧  ∃ ap : PA2 ∉ [PA1],
  ∀ (P : Program) (base : Heap), P.main = PySem.Challenge.pw_giveway_k66_texts_of_no_graph.main → SysB base → LamX.TabB base mg cA1 PA1 → LamX.TabB base mg cA2 PA2 → ∃ CG CT CS fw g fdg, Law66 P w K mg base (tbOf PA1 PA2 ap) CG CT CS fw g cA2 PA2 fdg 40
set_option maxHeartbeats 8000000 in
theorem all_mk {K : PySem.W.Frag} {w : World} {h : Heap} {mg : Str → Option Value} {fa : Addr} (X : K.In h) (G : h.Ns mainGlobals mg) (hfa : mg "law" = some (.ref fa))
    {f0 : Addr} {od0 an0 : Option Addr} {sl0 : Array (Option Value)} {oc0 kV0 dc0 pm0 ct0 : Value} {cd0 : Value}
    (a0 : PySem.W.nsIn K mainGlobals "is_whole" = some (some (.ref f0))) (l0 : K.lookup f0 = some ⟨oc0, od0, .func (PySem.W.fnOf "is_whole" "is_whole" (defArgs sWhole) (defBody sWhole) (defScope sWhole) .none kV0 dc0 pm0 an0 cd0 ct0), sl0⟩) (c0 : PySem.W.codeIn K cd0 "is_whole" = true) (k0 : PySem.W.keepIn K (.ref f0) = true)
    {f1 : Addr} {od1 an1 : Option Addr} {sl1 : Array (Option Value)} {oc1 kV1 dc1 pm1 ct1 : Value} {cd1 : Value}
    (a1 : PySem.W.nsIn K mainGlobals "is_within" = some (some (.ref f1))) (l1 : K.lookup f1 = some ⟨oc1, od1, .func (PySem.W.fnOf "is_within" "is_within" (defArgs sWithin) (defBody sWithin) (defScope sWithin) .none kV1 dc1 pm1 an1 cd1 ct1), sl1⟩) (c1 : PySem.W.codeIn K cd1 "is_within" = true) (k1 : PySem.W.keepIn K (.ref f1) = true)
    {f2 : Addr} {od2 an2 : Option Addr} {sl2 : Array (Option Value)} {oc2 kV2 dc2 pm2 ct2 : Value} {cd2 : Value}
    (a2 : PySem.W.nsIn K mainGlobals "is_tuple" = some (some (.ref f2))) (l2 : K.lookup f2 = some ⟨oc2, od2, .func (PySem.W.fnOf "is_tuple" "is_tuple" (defArgs sTuple) (defBody sTuple) (defScope sTuple) .none kV2 dc2 pm2 an2 cd2 ct2), sl2⟩) (c2 : PySem.W.codeIn K cd2 "is_tuple" = true) (k2 : PySem.W.keepIn K (.ref f2) = true)
    {f3 : Addr} {od3 an3 : Option Addr} {sl3 : Array (Option Value)} {oc3 kV3 dc3 pm3 ct3 : Value} {cd3 : Value}
    (a3 : PySem.W.nsIn K mainGlobals "is_number" = some (some (.ref f3))) (l3 : K.lookup f3 = some ⟨oc3, od3, .func (PySem.W.fnOf "is_number" "is_number" (defArgs sNumber) (defBody sNumber) (defScope sNumber) .none kV3 dc3 pm3 an3 cd3 ct3), sl3⟩) (c3 : PySem.W.codeIn K cd3 "is_number" = true) (k3 : PySem.W.keepIn K (.ref f3) = true)
    {f4 : Addr} {od4 an4 : Option Addr} {sl4 : Array (Option Value)} {oc4 kV4 dc4 pm4 ct4 : Value} {cd4 : Value}
    (a4 : PySem.W.nsIn K mainGlobals "has_box" = some (some (.ref f4))) (l4 : K.lookup f4 = some ⟨oc4, od4, .func (PySem.W.fnOf "has_box" "has_box" (defArgs sHasBox) (defBody sHasBox) (defScope sHasBox) .none kV4 dc4 pm4 an4 cd4 ct4), sl4⟩) (c4 : PySem.W.codeIn K cd4 "has_box" = true) (k4 : PySem.W.keepIn K (.ref f4) = true)
    {f5 : Addr} {od5 an5 : Option Addr} {sl5 : Array (Option Value)} {oc5 kV5 dc5 pm5 ct5 : Value} {cd5 : Value}
    (a5 : PySem.W.nsIn K mainGlobals "is_tie" = some (some (.ref f5))) (l5 : K.lookup f5 = some ⟨oc5, od5, .func (PySem.W.fnOf "is_tie" "is_tie" (defArgs sTie) (defBody sTie) (defScope sTie) .none kV5 dc5 pm5 an5 cd5 ct5), sl5⟩) (c5 : PySem.W.codeIn K cd5 "is_tie" = true) (k5 : PySem.W.keepIn K (.ref f5) = true)
    {f6 : Addr} {od6 an6 : Option Addr} {sl6 : Array (Option Value)} {oc6 kV6 dc6 pm6 ct6 : Value} {cd6 : Value}
    (a6 : PySem.W.nsIn K mainGlobals "place_size" = some (some (.ref f6))) (l6 : K.lookup f6 = some ⟨oc6, od6, .func (PySem.W.fnOf "place_size" "place_size" (defArgs sPsz) (defBody sPsz) (defScope sPsz) .none kV6 dc6 pm6 an6 cd6 ct6), sl6⟩) (c6 : PySem.W.codeIn K cd6 "place_size" = true) (k6 : PySem.W.keepIn K (.ref f6) = true)
    {f7 : Addr} {od7 an7 : Option Addr} {sl7 : Array (Option Value)} {oc7 kV7 dc7 pm7 ct7 : Value} {cd7 : Value}
    (a7 : PySem.W.nsIn K mainGlobals "graph_size" = some (some (.ref f7))) (l7 : K.lookup f7 = some ⟨oc7, od7, .func (PySem.W.fnOf "graph_size" "graph_size" (defArgs sGsz) (defBody sGsz) (defScope sGsz) .none kV7 dc7 pm7 an7 cd7 ct7), sl7⟩) (c7 : PySem.W.codeIn K cd7 "graph_size" = true) (k7 : PySem.W.keepIn K (.ref f7) = true)
    {f8 : Addr} {od8 an8 : Option Addr} {sl8 : Array (Option Value)} {oc8 kV8 dc8 pm8 ct8 : Value} {cd8 : Value}
    (a8 : PySem.W.nsIn K mainGlobals "is_graph" = some (some (.ref f8))) (l8 : K.lookup f8 = some ⟨oc8, od8, .func (PySem.W.fnOf "is_graph" "is_graph" (defArgs sIsGraph) (defBody sIsGraph) (defScope sIsGraph) .none kV8 dc8 pm8 an8 cd8 ct8), sl8⟩) (c8 : PySem.W.codeIn K cd8 "is_graph" = true) (k8 : PySem.W.keepIn K (.ref f8) = true)
    {f9 : Addr} {od9 an9 : Option Addr} {sl9 : Array (Option Value)} {oc9 kV9 dc9 pm9 ct9 : Value} {cd9 : Value}
    (a9 : PySem.W.nsIn K mainGlobals "check_graph" = some (some (.ref f9))) (l9 : K.lookup f9 = some ⟨oc9, od9, .func (PySem.W.fnOf "check_graph" "check_graph" (defArgs sCheckG) (defBody sCheckG) (defScope sCheckG) .none kV9 dc9 pm9 an9 cd9 ct9), sl9⟩) (c9 : PySem.W.codeIn K cd9 "check_graph" = true) (k9 : PySem.W.keepIn K (.ref f9) = true)
    {f10 : Addr} {od10 an10 : Option Addr} {sl10 : Array (Option Value)} {oc10 kV10 dc10 pm10 ct10 : Value} {cd10 : Value}
    (a10 : PySem.W.nsIn K mainGlobals "sort_of" = some (some (.ref f10))) (l10 : K.lookup f10 = some ⟨oc10, od10, .func (PySem.W.fnOf "sort_of" "sort_of" (defArgs sSortOf) (defBody sSortOf) (defScope sSortOf) .none kV10 dc10 pm10 an10 cd10 ct10), sl10⟩) (c10 : PySem.W.codeIn K cd10 "sort_of" = true) (k10 : PySem.W.keepIn K (.ref f10) = true)
    {f11 : Addr} {od11 an11 : Option Addr} {sl11 : Array (Option Value)} {oc11 kV11 dc11 pm11 ct11 : Value} {cc11 : Addr}
    (a11 : PySem.W.nsIn K mainGlobals "whole_from" = some (some (.ref f11))) (l11 : K.lookup f11 = some ⟨oc11, od11, .func (PySem.W.fnOf "whole_from" "whole_from" (defArgs sWholeFrom) (defBody sWholeFrom) (defScope sWholeFrom) .none kV11 dc11 pm11 an11 (.ref cc11) ct11), sl11⟩) (c11 : PySem.W.codeIn K (.ref cc11) "whole_from" = true) (k11 : PySem.W.keepIn K (.ref f11) = true)
    {f12 : Addr} {od12 an12 : Option Addr} {sl12 : Array (Option Value)} {oc12 kV12 dc12 pm12 ct12 : Value} {cd12 : Value}
    (a12 : PySem.W.nsIn K mainGlobals "place_text" = some (some (.ref f12))) (l12 : K.lookup f12 = some ⟨oc12, od12, .func (PySem.W.fnOf "place_text" "place_text" (defArgs sPlaceText) (defBody sPlaceText) (defScope sPlaceText) .none kV12 dc12 pm12 an12 cd12 ct12), sl12⟩) (c12 : PySem.W.codeIn K cd12 "place_text" = true) (k12 : PySem.W.keepIn K (.ref f12) = true)
    {f13 : Addr} {od13 an13 : Option Addr} {sl13 : Array (Option Value)} {oc13 kV13 dc13 pm13 ct13 : Value} {cd13 : Value}
    (a13 : PySem.W.nsIn K mainGlobals "box_text" = some (some (.ref f13))) (l13 : K.lookup f13 = some ⟨oc13, od13, .func (PySem.W.fnOf "box_text" "box_text" (defArgs sBoxText) (defBody sBoxText) (defScope sBoxText) .none kV13 dc13 pm13 an13 cd13 ct13), sl13⟩) (c13 : PySem.W.codeIn K cd13 "box_text" = true) (k13 : PySem.W.keepIn K (.ref f13) = true)
    {f14 : Addr} {od14 an14 : Option Addr} {sl14 : Array (Option Value)} {oc14 kV14 dc14 pm14 ct14 : Value} {cd14 : Value}
    (a14 : PySem.W.nsIn K mainGlobals "boxes_text" = some (some (.ref f14))) (l14 : K.lookup f14 = some ⟨oc14, od14, .func (PySem.W.fnOf "boxes_text" "boxes_text" (defArgs sBoxesText) (defBody sBoxesText) (defScope sBoxesText) .none kV14 dc14 pm14 an14 cd14 ct14), sl14⟩) (c14 : PySem.W.codeIn K cd14 "boxes_text" = true) (k14 : PySem.W.keepIn K (.ref f14) = true)
    {f15 : Addr} {od15 an15 : Option Addr} {sl15 : Array (Option Value)} {oc15 kV15 dc15 pm15 ct15 : Value} {cd15 : Value}
    (a15 : PySem.W.nsIn K mainGlobals "graph_text" = some (some (.ref f15))) (l15 : K.lookup f15 = some ⟨oc15, od15, .func (PySem.W.fnOf "graph_text" "graph_text" (defArgs sGraphText) (defBody sGraphText) (defScope sGraphText) .none kV15 dc15 pm15 an15 cd15 ct15), sl15⟩) (c15 : PySem.W.codeIn K cd15 "graph_text" = true) (k15 : PySem.W.keepIn K (.ref f15) = true)
    {f16 : Addr} {od16 an16 : Option Addr} {sl16 : Array (Option Value)} {oc16 kV16 dc16 pm16 ct16 : Value} {cd16 : Value}
    (a16 : PySem.W.nsIn K mainGlobals "read_boxes" = some (some (.ref f16))) (l16 : K.lookup f16 = some ⟨oc16, od16, .func (PySem.W.fnOf "read_boxes" "read_boxes" (defArgs sReadBoxes) (defBody sReadBoxes) (defScope sReadBoxes) .none kV16 dc16 pm16 an16 cd16 ct16), sl16⟩) (c16 : PySem.W.codeIn K cd16 "read_boxes" = true) (k16 : PySem.W.keepIn K (.ref f16) = true)
    {f17 : Addr} {od17 an17 : Option Addr} {sl17 : Array (Option Value)} {oc17 kV17 dc17 pm17 ct17 : Value} {cd17 : Value}
    (a17 : PySem.W.nsIn K mainGlobals "read_box" = some (some (.ref f17))) (l17 : K.lookup f17 = some ⟨oc17, od17, .func (PySem.W.fnOf "read_box" "read_box" (defArgs sReadBox) (defBody sReadBox) (defScope sReadBox) .none kV17 dc17 pm17 an17 cd17 ct17), sl17⟩) (c17 : PySem.W.codeIn K cd17 "read_box" = true) (k17 : PySem.W.keepIn K (.ref f17) = true)
    {f18 : Addr} {od18 an18 : Option Addr} {sl18 : Array (Option Value)} {oc18 kV18 dc18 pm18 ct18 : Value} {cd18 : Value}
    (a18 : PySem.W.nsIn K mainGlobals "read_place" = some (some (.ref f18))) (l18 : K.lookup f18 = some ⟨oc18, od18, .func (PySem.W.fnOf "read_place" "read_place" (defArgs sReadPlace) (defBody sReadPlace) (defScope sReadPlace) .none kV18 dc18 pm18 an18 cd18 ct18), sl18⟩) (c18 : PySem.W.codeIn K cd18 "read_place" = true) (k18 : PySem.W.keepIn K (.ref f18) = true)
    {f19 : Addr} {od19 an19 : Option Addr} {sl19 : Array (Option Value)} {oc19 kV19 dc19 pm19 ct19 : Value} {cd19 : Value}
    (a19 : PySem.W.nsIn K mainGlobals "read_number" = some (some (.ref f19))) (l19 : K.lookup f19 = some ⟨oc19, od19, .func (PySem.W.fnOf "read_number" "read_number" (defArgs sReadNumber) (defBody sReadNumber) (defScope sReadNumber) .none kV19 dc19 pm19 an19 cd19 ct19), sl19⟩) (c19 : PySem.W.codeIn K cd19 "read_number" = true) (k19 : PySem.W.keepIn K (.ref f19) = true)
    {f20 : Addr} {od20 an20 : Option Addr} {sl20 : Array (Option Value)} {oc20 kV20 dc20 pm20 ct20 : Value} {cd20 : Value}
    (a20 : PySem.W.nsIn K mainGlobals "read_graph" = some (some (.ref f20))) (l20 : K.lookup f20 = some ⟨oc20, od20, .func (PySem.W.fnOf "read_graph" "read_graph" (defArgs sReadGraph) (defBody sReadGraph) (defScope sReadGraph) .none kV20 dc20 pm20 an20 cd20 ct20), sl20⟩) (c20 : PySem.W.codeIn K cd20 "read_graph" = true) (k20 : PySem.W.keepIn K (.ref f20) = true)
    {f21 : Addr} {od21 an21 : Option Addr} {sl21 : Array (Option Value)} {oc21 kV21 dc21 pm21 ct21 : Value} {cd21 : Value}
    (a21 : PySem.W.nsIn K mainGlobals "_law_cell_at" = some (some (.ref f21))) (l21 : K.lookup f21 = some ⟨oc21, od21, .func (PySem.W.fnOf "_law_cell_at" "_law_cell_at" (defArgs sCell) (defBody sCell) (defScope sCell) .none kV21 dc21 pm21 an21 cd21 ct21), sl21⟩) (c21 : PySem.W.codeIn K cd21 "_law_cell_at" = true) (k21 : PySem.W.keepIn K (.ref f21) = true)
    {f22 : Addr} {od22 an22 : Option Addr} {sl22 : Array (Option Value)} {oc22 kV22 dc22 pm22 ct22 : Value} {cd22 : Value}
    (a22 : PySem.W.nsIn K mainGlobals "_law_state" = some (some (.ref f22))) (l22 : K.lookup f22 = some ⟨oc22, od22, .func (PySem.W.fnOf "_law_state" "_law_state" (defArgs sState) (defBody sState) (defScope sState) .none kV22 dc22 pm22 an22 cd22 ct22), sl22⟩) (c22 : PySem.W.codeIn K cd22 "_law_state" = true) (k22 : PySem.W.keepIn K (.ref f22) = true)
    {f23 : Addr} {od23 an23 : Option Addr} {sl23 : Array (Option Value)} {oc23 kV23 dc23 pm23 ct23 : Value} {cd23 : Value}
    (a23 : PySem.W.nsIn K mainGlobals "_law_choice" = some (some (.ref f23))) (l23 : K.lookup f23 = some ⟨oc23, od23, .func (PySem.W.fnOf "_law_choice" "_law_choice" (defArgs sChoice) (defBody sChoice) (defScope sChoice) .none kV23 dc23 pm23 an23 cd23 ct23), sl23⟩) (c23 : PySem.W.codeIn K cd23 "_law_choice" = true) (k23 : PySem.W.keepIn K (.ref f23) = true)
    {f24 : Addr} {od24 an24 : Option Addr} {sl24 : Array (Option Value)} {oc24 kV24 dc24 pm24 ct24 : Value} {cd24 : Value}
    (a24 : PySem.W.nsIn K mainGlobals "_law_same" = some (some (.ref f24))) (l24 : K.lookup f24 = some ⟨oc24, od24, .func (PySem.W.fnOf "_law_same" "_law_same" (defArgs sLSame) (defBody sLSame) (defScope sLSame) .none kV24 dc24 pm24 an24 cd24 ct24), sl24⟩) (c24 : PySem.W.codeIn K cd24 "_law_same" = true) (k24 : PySem.W.keepIn K (.ref f24) = true)
    {f25 : Addr} {od25 an25 : Option Addr} {sl25 : Array (Option Value)} {oc25 kV25 dc25 pm25 ct25 : Value} {cd25 : Value}
    (a25 : PySem.W.nsIn K mainGlobals "_law_marks" = some (some (.ref f25))) (l25 : K.lookup f25 = some ⟨oc25, od25, .func (PySem.W.fnOf "_law_marks" "_law_marks" (defArgs sMarks) (defBody sMarks) (defScope sMarks) .none kV25 dc25 pm25 an25 cd25 ct25), sl25⟩) (c25 : PySem.W.codeIn K cd25 "_law_marks" = true) (k25 : PySem.W.keepIn K (.ref f25) = true)
    {f26 : Addr} {od26 an26 : Option Addr} {sl26 : Array (Option Value)} {oc26 kV26 dc26 pm26 ct26 : Value} {cd26 : Value}
    (a26 : PySem.W.nsIn K mainGlobals "_law_word" = some (some (.ref f26))) (l26 : K.lookup f26 = some ⟨oc26, od26, .func (PySem.W.fnOf "_law_word" "_law_word" (defArgs sWord) (defBody sWord) (defScope sWord) .none kV26 dc26 pm26 an26 cd26 ct26), sl26⟩) (c26 : PySem.W.codeIn K cd26 "_law_word" = true) (k26 : PySem.W.keepIn K (.ref f26) = true)
    {f27 : Addr} {od27 an27 : Option Addr} {sl27 : Array (Option Value)} {oc27 kV27 dc27 pm27 ct27 : Value} {cd27 : Value}
    (a27 : PySem.W.nsIn K mainGlobals "_law_said" = some (some (.ref f27))) (l27 : K.lookup f27 = some ⟨oc27, od27, .func (PySem.W.fnOf "_law_said" "_law_said" (defArgs sSaid) (defBody sSaid) (defScope sSaid) .none kV27 dc27 pm27 an27 cd27 ct27), sl27⟩) (c27 : PySem.W.codeIn K cd27 "_law_said" = true) (k27 : PySem.W.keepIn K (.ref f27) = true)
    {f28 : Addr} {od28 an28 : Option Addr} {sl28 : Array (Option Value)} {oc28 kV28 dc28 pm28 ct28 : Value} {cd28 : Value}
    (a28 : PySem.W.nsIn K mainGlobals "_law_odd" = some (some (.ref f28))) (l28 : K.lookup f28 = some ⟨oc28, od28, .func (PySem.W.fnOf "_law_odd" "_law_odd" (defArgs sLOdd) (defBody sLOdd) (defScope sLOdd) .none kV28 dc28 pm28 an28 cd28 ct28), sl28⟩) (c28 : PySem.W.codeIn K cd28 "_law_odd" = true) (k28 : PySem.W.keepIn K (.ref f28) = true)
    {f29 : Addr} {od29 an29 : Option Addr} {sl29 : Array (Option Value)} {oc29 kV29 dc29 pm29 ct29 : Value} {cd29 : Value}
    (a29 : PySem.W.nsIn K mainGlobals "_law_inner" = some (some (.ref f29))) (l29 : K.lookup f29 = some ⟨oc29, od29, .func (PySem.W.fnOf "_law_inner" "_law_inner" (defArgs sInner) (defBody sInner) (defScope sInner) .none kV29 dc29 pm29 an29 cd29 ct29), sl29⟩) (c29 : PySem.W.codeIn K cd29 "_law_inner" = true) (k29 : PySem.W.keepIn K (.ref f29) = true)
    {f30 : Addr} {od30 an30 : Option Addr} {sl30 : Array (Option Value)} {oc30 kV30 dc30 pm30 ct30 : Value} {cd30 : Value}
    (a30 : PySem.W.nsIn K mainGlobals "_law_size" = some (some (.ref f30))) (l30 : K.lookup f30 = some ⟨oc30, od30, .func (PySem.W.fnOf "_law_size" "_law_size" (defArgs sSize) (defBody sSize) (defScope sSize) .none kV30 dc30 pm30 an30 cd30 ct30), sl30⟩) (c30 : PySem.W.codeIn K cd30 "_law_size" = true) (k30 : PySem.W.keepIn K (.ref f30) = true)
    {f31 : Addr} {od31 an31 : Option Addr} {sl31 : Array (Option Value)} {oc31 kV31 dc31 pm31 ct31 : Value} {cd31 : Value}
    (a31 : PySem.W.nsIn K mainGlobals "_law_deep" = some (some (.ref f31))) (l31 : K.lookup f31 = some ⟨oc31, od31, .func (PySem.W.fnOf "_law_deep" "_law_deep" (defArgs sDeep) (defBody sDeep) (defScope sDeep) .none kV31 dc31 pm31 an31 cd31 ct31), sl31⟩) (c31 : PySem.W.codeIn K cd31 "_law_deep" = true) (k31 : PySem.W.keepIn K (.ref f31) = true)
    {f32 : Addr} {od32 an32 : Option Addr} {sl32 : Array (Option Value)} {oc32 kV32 dc32 pm32 ct32 : Value} {cd32 : Value}
    (a32 : PySem.W.nsIn K mainGlobals "_law_graph" = some (some (.ref f32))) (l32 : K.lookup f32 = some ⟨oc32, od32, .func (PySem.W.fnOf "_law_graph" "_law_graph" (defArgs sGraph) (defBody sGraph) (defScope sGraph) .none kV32 dc32 pm32 an32 cd32 ct32), sl32⟩) (c32 : PySem.W.codeIn K cd32 "_law_graph" = true) (k32 : PySem.W.keepIn K (.ref f32) = true)
    {f33 : Addr} {od33 an33 : Option Addr} {sl33 : Array (Option Value)} {oc33 kV33 dc33 pm33 ct33 : Value} {cd33 : Value}
    (a33 : PySem.W.nsIn K mainGlobals "_law_fit" = some (some (.ref f33))) (l33 : K.lookup f33 = some ⟨oc33, od33, .func (PySem.W.fnOf "_law_fit" "_law_fit" (defArgs sFit) (defBody sFit) (defScope sFit) .none kV33 dc33 pm33 an33 cd33 ct33), sl33⟩) (c33 : PySem.W.codeIn K cd33 "_law_fit" = true) (k33 : PySem.W.keepIn K (.ref f33) = true)
    {f34 : Addr} {od34 an34 : Option Addr} {sl34 : Array (Option Value)} {oc34 kV34 dc34 pm34 ct34 : Value} {cd34 : Value}
    (a34 : PySem.W.nsIn K mainGlobals "_law_text" = some (some (.ref f34))) (l34 : K.lookup f34 = some ⟨oc34, od34, .func (PySem.W.fnOf "_law_text" "_law_text" (defArgs sText) (defBody sText) (defScope sText) .none kV34 dc34 pm34 an34 cd34 ct34), sl34⟩) (c34 : PySem.W.codeIn K cd34 "_law_text" = true) (k34 : PySem.W.keepIn K (.ref f34) = true)
    {f35 : Addr} {od35 an35 : Option Addr} {sl35 : Array (Option Value)} {oc35 kV35 dc35 pm35 ct35 : Value} {cd35 : Value}
    (a35 : PySem.W.nsIn K mainGlobals "_law_number" = some (some (.ref f35))) (l35 : K.lookup f35 = some ⟨oc35, od35, .func (PySem.W.fnOf "_law_number" "_law_number" (defArgs sLNumber) (defBody sLNumber) (defScope sLNumber) .none kV35 dc35 pm35 an35 cd35 ct35), sl35⟩) (c35 : PySem.W.codeIn K cd35 "_law_number" = true) (k35 : PySem.W.keepIn K (.ref f35) = true)
    {f36 : Addr} {od36 an36 : Option Addr} {sl36 : Array (Option Value)} {oc36 kV36 dc36 pm36 ct36 : Value} {cd36 : Value}
    (a36 : PySem.W.nsIn K mainGlobals "_law_shut" = some (some (.ref f36))) (l36 : K.lookup f36 = some ⟨oc36, od36, .func (PySem.W.fnOf "_law_shut" "_law_shut" (defArgs sLShut) (defBody sLShut) (defScope sLShut) .none kV36 dc36 pm36 an36 cd36 ct36), sl36⟩) (c36 : PySem.W.codeIn K cd36 "_law_shut" = true) (k36 : PySem.W.keepIn K (.ref f36) = true)
    {f37 : Addr} {od37 an37 : Option Addr} {sl37 : Array (Option Value)} {oc37 kV37 dc37 pm37 ct37 : Value} {cd37 : Value}
    (a37 : PySem.W.nsIn K mainGlobals "_law_place" = some (some (.ref f37))) (l37 : K.lookup f37 = some ⟨oc37, od37, .func (PySem.W.fnOf "_law_place" "_law_place" (defArgs sLPlace) (defBody sLPlace) (defScope sLPlace) .none kV37 dc37 pm37 an37 cd37 ct37), sl37⟩) (c37 : PySem.W.codeIn K cd37 "_law_place" = true) (k37 : PySem.W.keepIn K (.ref f37) = true)
    {f38 : Addr} {od38 an38 : Option Addr} {sl38 : Array (Option Value)} {oc38 kV38 dc38 pm38 ct38 : Value} {cd38 : Value}
    (a38 : PySem.W.nsIn K mainGlobals "_law_parts" = some (some (.ref f38))) (l38 : K.lookup f38 = some ⟨oc38, od38, .func (PySem.W.fnOf "_law_parts" "_law_parts" (defArgs sLParts) (defBody sLParts) (defScope sLParts) .none kV38 dc38 pm38 an38 cd38 ct38), sl38⟩) (c38 : PySem.W.codeIn K cd38 "_law_parts" = true) (k38 : PySem.W.keepIn K (.ref f38) = true)
    {f39 : Addr} {od39 an39 : Option Addr} {sl39 : Array (Option Value)} {oc39 kV39 dc39 pm39 ct39 : Value} {cd39 : Value}
    (a39 : PySem.W.nsIn K mainGlobals "_law_boxes" = some (some (.ref f39))) (l39 : K.lookup f39 = some ⟨oc39, od39, .func (PySem.W.fnOf "_law_boxes" "_law_boxes" (defArgs sLBoxes) (defBody sLBoxes) (defScope sLBoxes) .none kV39 dc39 pm39 an39 cd39 ct39), sl39⟩) (c39 : PySem.W.codeIn K cd39 "_law_boxes" = true) (k39 : PySem.W.keepIn K (.ref f39) = true)
    {f40 : Addr} {od40 an40 : Option Addr} {sl40 : Array (Option Value)} {oc40 kV40 dc40 pm40 ct40 : Value} {cd40 : Value}
    (a40 : PySem.W.nsIn K mainGlobals "_law_read" = some (some (.ref f40))) (l40 : K.lookup f40 = some ⟨oc40, od40, .func (PySem.W.fnOf "_law_read" "_law_read" (defArgs sLRead) (defBody sLRead) (defScope sLRead) .none kV40 dc40 pm40 an40 cd40 ct40), sl40⟩) (c40 : PySem.W.codeIn K cd40 "_law_read" = true) (k40 : PySem.W.keepIn K (.ref f40) = true)
    {f41 : Addr} {od41 an41 : Option Addr} {sl41 : Array (Option Value)} {oc41 kV41 dc41 pm41 ct41 : Value} {cd41 : Value}
    (a41 : PySem.W.nsIn K mainGlobals "_law_due" = some (some (.ref f41))) (l41 : K.lookup f41 = some ⟨oc41, od41, .func (PySem.W.fnOf "_law_due" "_law_due" (defArgs sLDue) (defBody sLDue) (defScope sLDue) .none kV41 dc41 pm41 an41 cd41 ct41), sl41⟩) (c41 : PySem.W.codeIn K cd41 "_law_due" = true) (k41 : PySem.W.keepIn K (.ref f41) = true)
    {f42 : Addr} {od42 an42 : Option Addr} {sl42 : Array (Option Value)} {oc42 kV42 dc42 pm42 ct42 : Value} {cd42 : Value}
    (a42 : PySem.W.nsIn K mainGlobals "_law_turned" = some (some (.ref f42))) (l42 : K.lookup f42 = some ⟨oc42, od42, .func (PySem.W.fnOf "_law_turned" "_law_turned" (defArgs sLTurned) (defBody sLTurned) (defScope sLTurned) .none kV42 dc42 pm42 an42 cd42 ct42), sl42⟩) (c42 : PySem.W.codeIn K cd42 "_law_turned" = true) (k42 : PySem.W.keepIn K (.ref f42) = true)
    {f43 : Addr} {od43 an43 : Option Addr} {sl43 : Array (Option Value)} {oc43 kV43 dc43 pm43 ct43 : Value} {cc43 : Addr}
    (a43 : PySem.W.nsIn K mainGlobals "law" = some (some (.ref f43))) (l43 : K.lookup f43 = some ⟨oc43, od43, .func (PySem.W.fnOf "law" "law" (defArgs sLaw) (defBody sLaw) (defScope sLaw) .none kV43 dc43 pm43 an43 (.ref cc43) ct43), sl43⟩) (c43 : PySem.W.codeIn K (.ref cc43) "law" = true) (k43 : PySem.W.keepIn K (.ref f43) = true)
    {t0 : Tok} (n0 : PySem.W.nsIn K mainGlobals "MOST_BOXES" = some (some (.int (8) t0)))
    {t1 : Tok} (n1 : PySem.W.nsIn K mainGlobals "MOST_IN_ALL" = some (some (.int (24) t1)))
    {t2 : Tok} (n2 : PySem.W.nsIn K mainGlobals "MOST_DEEP" = some (some (.int (4) t2)))
    {t3 : Tok} (n3 : PySem.W.nsIn K mainGlobals "PLACES" = some (some (.int (3) t3)))
    {t4 : Tok} (n4 : PySem.W.nsIn K mainGlobals "GREATEST" = some (some (.int (9999) t4)))
    {t5 : Tok} (n5 : PySem.W.nsIn K mainGlobals "NUMBER" = some (some (.int (0) t5)))
    {t6 : Tok} (n6 : PySem.W.nsIn K mainGlobals "TIE" = some (some (.int (1) t6)))
    {t7 : Tok} (n7 : PySem.W.nsIn K mainGlobals "GRAPH" = some (some (.int (2) t7)))
    (z0 : PySem.W.nsIn K mainGlobals "isinstance" = some none)
    (z1 : PySem.W.nsIn K mainGlobals "int" = some none)
    (z2 : PySem.W.nsIn K mainGlobals "bool" = some none)
    (z3 : PySem.W.nsIn K mainGlobals "tuple" = some none)
    (z4 : PySem.W.nsIn K mainGlobals "len" = some none)
    (z5 : PySem.W.nsIn K mainGlobals "range" = some none)
    (z6 : PySem.W.nsIn K mainGlobals "min" = some none)
    (z7 : PySem.W.nsIn K mainGlobals "max" = some none)
    (z8 : PySem.W.nsIn K mainGlobals "sum" = some none)
    (z9 : PySem.W.nsIn K mainGlobals "list" = some none)
    (z10 : PySem.W.nsIn K mainGlobals "repr" = some none)
    (z11 : PySem.W.nsIn K mainGlobals "all" = some none)
    (z12 : PySem.W.nsIn K mainGlobals "str" = some none)
    (z13 : PySem.W.nsIn K mainGlobals "super" = some none)
    (z14 : PySem.W.nsIn K mainGlobals "ValueError" = some none)
    {oTA1 : Option Addr} {vTA1 : Array Value} {sTA1 : Array (Option Value)} {PA1 : Addr} (lkA1 : K.lookup cc11 = some ⟨.type "code", oTA1, .fields vTA1, sTA1⟩) (pA1 : vTA1[11]? = some (.ref PA1)) (noA1 : K.lookup PA1 = none)
    {oTA2 : Option Addr} {vTA2 : Array Value} {sTA2 : Array (Option Value)} {PA2 : Addr} (lkA2 : K.lookup cc43 = some ⟨.type "code", oTA2, .fields vTA2, sTA2⟩) (pA2 : vTA2[11]? = some (.ref PA2)) (noA2 : K.lookup PA2 = none)
    {tMF : Tok} (nMF : PySem.W.nsIn K mainGlobals "MOST_FIGURES" = some (some (.int (5) tMF)))
    {CSg : Addr} {gSg0 : Addr} {odSg0 anSg0 : Option Addr} {slSg0 : Array (Option Value)} {ocSg0 kVSg0 dcSg0 pmSg0 cdSg0 ctSg0 : Value} {gSg1 : Addr} {odSg1 anSg1 : Option Addr} {slSg1 : Array (Option Value)} {ocSg1 kVSg1 dcSg1 pmSg1 cdSg1 ctSg1 : Value} {gSg2 : Addr} {odSg2 anSg2 : Option Addr} {slSg2 : Array (Option Value)} {ocSg2 kVSg2 dcSg2 pmSg2 cdSg2 ctSg2 : Value} {gSg3 : Addr} {odSg3 anSg3 : Option Addr} {slSg3 : Array (Option Value)} {ocSg3 kVSg3 dcSg3 pmSg3 cdSg3 ctSg3 : Value} (aSg : PySem.W.nsIn K mainGlobals "Signs" = some (some (.ref CSg))) (fSg0 : PySem.W.findIn K (.ref CSg) "__init__" = some (some (.ref gSg0))) (iSg0 : PySem.W.isFn K (.ref gSg0) = true) (lSg0 : K.lookup gSg0 = some ⟨ocSg0, odSg0, .func (PySem.W.fnOf "__init__" "Signs.__init__" (defArgs sSgInit) (defBody sSgInit) (defScope sSgInit) .none kVSg0 dcSg0 pmSg0 anSg0 cdSg0 ctSg0), slSg0⟩) (cSg0 : PySem.W.codeIn K cdSg0 "Signs.__init__" = true) (kSg0 : PySem.W.keepIn K (.ref gSg0) = true) (fSg1 : PySem.W.findIn K (.ref CSg) "comes" = some (some (.ref gSg1))) (iSg1 : PySem.W.isFn K (.ref gSg1) = true) (lSg1 : K.lookup gSg1 = some ⟨ocSg1, odSg1, .func (PySem.W.fnOf "comes" "Signs.comes" (defArgs sSgComes) (defBody sSgComes) (defScope sSgComes) .none kVSg1 dcSg1 pmSg1 anSg1 cdSg1 ctSg1), slSg1⟩) (cSg1 : PySem.W.codeIn K cdSg1 "Signs.comes" = true) (kSg1 : PySem.W.keepIn K (.ref gSg1) = true) (fSg2 : PySem.W.findIn K (.ref CSg) "want" = some (some (.ref gSg2))) (iSg2 : PySem.W.isFn K (.ref gSg2) = true) (lSg2 : K.lookup gSg2 = some ⟨ocSg2, odSg2, .func (PySem.W.fnOf "want" "Signs.want" (defArgs sSgWant) (defBody sSgWant) (defScope sSgWant) .none kVSg2 dcSg2 pmSg2 anSg2 cdSg2 ctSg2), slSg2⟩) (cSg2 : PySem.W.codeIn K cdSg2 "Signs.want" = true) (kSg2 : PySem.W.keepIn K (.ref gSg2) = true) (fSg3 : PySem.W.findIn K (.ref CSg) "word" = some (some (.ref gSg3))) (iSg3 : PySem.W.isFn K (.ref gSg3) = true) (lSg3 : K.lookup gSg3 = some ⟨ocSg3, odSg3, .func (PySem.W.fnOf "word" "Signs.word" (defArgs sSgWord) (defBody sSgWord) (defScope sSgWord) .none kVSg3 dcSg3 pmSg3 anSg3 cdSg3 ctSg3), slSg3⟩) (cSg3 : PySem.W.codeIn K cdSg3 "Signs.word" = true) (kSg3 : PySem.W.keepIn K (.ref gSg3) = true) (pgSg : PySem.W.plainGet K CSg Str.empty = true) (hdSg : PySem.W.hasDictIn K CSg = true) (poSg : PySem.W.plainOver K CSg = true) (saSg : PySem.W.findIn K (.ref CSg) "__setattr__" = some (some (.builtin "object.__setattr__"))) (mkSg : PySem.W.makesIn K CSg = true) (kcSg : PySem.W.keepIn K (.ref CSg) = true) (nSg0 : PySem.W.findIn K (.ref CSg) "text" = some none) (nSg1 : PySem.W.findIn K (.ref CSg) "here" = some none)
    {C0 : Addr} {C1 : Addr} {C2 : Addr} {C3 : Addr} {C4 : Addr} {C5 : Addr} {C6 : Addr} {C7 : Addr} {C8 : Addr} {C9 : Addr} {C10 : Addr} {C11 : Addr} {C12 : Addr} {C13 : Addr} {C14 : Addr} {C15 : Addr} {C16 : Addr} {C17 : Addr} {C18 : Addr} (x0 : PySem.W.nsIn K mainGlobals "NoChart" = some (some (.ref C0))) (x1 : PySem.W.nsIn K mainGlobals "NoPoints" = some (some (.ref C1))) (x2 : PySem.W.nsIn K mainGlobals "NoGraph" = some (some (.ref C2))) (x3 : PySem.W.nsIn K mainGlobals "NoPlace" = some (some (.ref C3))) (x4 : PySem.W.nsIn K mainGlobals "NoNet" = some (some (.ref C4))) (x5 : PySem.W.nsIn K mainGlobals "NoActor" = some (some (.ref C5))) (x6 : PySem.W.nsIn K mainGlobals "NoWeaving" = some (some (.ref C6))) (x7 : PySem.W.nsIn K mainGlobals "NoName" = some (some (.ref C7))) (x8 : PySem.W.nsIn K mainGlobals "NoChannel" = some (some (.ref C8))) (x9 : PySem.W.nsIn K mainGlobals "NoMost" = some (some (.ref C9))) (x10 : PySem.W.nsIn K mainGlobals "NoCode" = some (some (.ref C10))) (x11 : PySem.W.nsIn K mainGlobals "NoRow" = some (some (.ref C11))) (x12 : PySem.W.nsIn K mainGlobals "NoAddress" = some (some (.ref C12))) (x13 : PySem.W.nsIn K mainGlobals "NoDeed" = some (some (.ref C13))) (x14 : PySem.W.nsIn K mainGlobals "NotFull" = some (some (.ref C14))) (x15 : PySem.W.nsIn K mainGlobals "NotStill" = some (some (.ref C15))) (x16 : PySem.W.nsIn K mainGlobals "NoLine" = some (some (.ref C16))) (x17 : PySem.W.nsIn K mainGlobals "NoText" = some (some (.ref C17))) (x18 : PySem.W.nsIn K mainGlobals "Unsafe" = some (some (.ref C18)))
    {CS : Addr} (xs : PySem.W.nsIn K mainGlobals "GiveError" = some (some (.ref CS))) (og : PySem.W.specialIn K (.builtin "object.__class__") "__get__" = some (some (.builtin "getset_descriptor.__get__"))) (ot : PySem.W.takesIn K (.builtin "object.__class__") = some true) (sb : PySem.W.subIn K (.ref CS) (.type "BaseException") = some true) (si : PySem.W.isClsIn K CS = true) (stt : PySem.W.typeIn K (.ref CS) = some (.type "type"))
     (qG2 : PySem.W.excIn K C2 [.type "ValueError", .type "Exception", .type "BaseException", .type "object"] "ValueError.__new__" = true) (eG2k : PySem.W.keepIn K (.ref C2) = true) (eG2s : PySem.W.subIn K (.ref C2) (.type "BaseException") = some true) (eG2t : PySem.W.typeIn K (.ref C2) = some (.type "type")) (eG2g : PySem.W.findIn K (.ref C2) "__getattribute__" = some (some (.builtin "BaseException.__getattribute__"))) (eG2h : PySem.W.findIn K (.ref C2) "__getattr__" = some none) (eG2d : PySem.W.hasDictIn K C2 = true) (eG2a : PySem.W.findIn K (.ref C2) "__class__" = some (some (.builtin "object.__class__"))) (eG2m : PySem.W.mroIn K C2 (.type "object") = some true) (eG2v : PySem.W.kitOne K (.ref C2) (.type "ValueError") = some true) (eG2x : PySem.W.subIn K (.ref C2) (.ref CS) = some true)
     (kit2_0 : PySem.W.kitOne K (.ref C2) (.ref C0) = some false) (kit2_1 : PySem.W.kitOne K (.ref C2) (.ref C1) = some false) (kit2_2 : PySem.W.kitOne K (.ref C2) (.ref C2) = some true) (kit2_3 : PySem.W.kitOne K (.ref C2) (.ref C3) = some false) (kit2_4 : PySem.W.kitOne K (.ref C2) (.ref C4) = some false) (kit2_5 : PySem.W.kitOne K (.ref C2) (.ref C5) = some false) (kit2_6 : PySem.W.kitOne K (.ref C2) (.ref C6) = some false) (kit2_7 : PySem.W.kitOne K (.ref C2) (.ref C7) = some false) (kit2_8 : PySem.W.kitOne K (.ref C2) (.ref C8) = some false) (kit2_9 : PySem.W.kitOne K (.ref C2) (.ref C9) = some false) (kit2_10 : PySem.W.kitOne K (.ref C2) (.ref C10) = some false) (kit2_11 : PySem.W.kitOne K (.ref C2) (.ref C11) = some false) (kit2_12 : PySem.W.kitOne K (.ref C2) (.ref C12) = some false) (kit2_13 : PySem.W.kitOne K (.ref C2) (.ref C13) = some false) (kit2_14 : PySem.W.kitOne K (.ref C2) (.ref C14) = some false) (kit2_15 : PySem.W.kitOne K (.ref C2) (.ref C15) = some false) (kit2_16 : PySem.W.kitOne K (.ref C2) (.ref C16) = some false) (kit2_17 : PySem.W.kitOne K (.ref C2) (.ref C17) = some false) (kit2_18 : PySem.W.kitOne K (.ref C2) (.ref C18) = some false)
     (eG17k : PySem.W.keepIn K (.ref C17) = true) (eG17s : PySem.W.subIn K (.ref C17) (.type "BaseException") = some true) (eG17t : PySem.W.typeIn K (.ref C17) = some (.type "type")) (eG17g : PySem.W.findIn K (.ref C17) "__getattribute__" = some (some (.builtin "BaseException.__getattribute__"))) (eG17h : PySem.W.findIn K (.ref C17) "__getattr__" = some none) (eG17d : PySem.W.hasDictIn K C17 = true) (eG17a : PySem.W.findIn K (.ref C17) "__class__" = some (some (.builtin "object.__class__"))) (eG17m : PySem.W.mroIn K C17 (.type "object") = some true) (eG17v : PySem.W.kitOne K (.ref C17) (.type "ValueError") = some true) (eG17x : PySem.W.subIn K (.ref C17) (.ref CS) = some true)
     (kit17_0 : PySem.W.kitOne K (.ref C17) (.ref C0) = some false) (kit17_1 : PySem.W.kitOne K (.ref C17) (.ref C1) = some false) (kit17_2 : PySem.W.kitOne K (.ref C17) (.ref C2) = some false) (kit17_3 : PySem.W.kitOne K (.ref C17) (.ref C3) = some false) (kit17_4 : PySem.W.kitOne K (.ref C17) (.ref C4) = some false) (kit17_5 : PySem.W.kitOne K (.ref C17) (.ref C5) = some false) (kit17_6 : PySem.W.kitOne K (.ref C17) (.ref C6) = some false) (kit17_7 : PySem.W.kitOne K (.ref C17) (.ref C7) = some false) (kit17_8 : PySem.W.kitOne K (.ref C17) (.ref C8) = some false) (kit17_9 : PySem.W.kitOne K (.ref C17) (.ref C9) = some false) (kit17_10 : PySem.W.kitOne K (.ref C17) (.ref C10) = some false) (kit17_11 : PySem.W.kitOne K (.ref C17) (.ref C11) = some false) (kit17_12 : PySem.W.kitOne K (.ref C17) (.ref C12) = some false) (kit17_13 : PySem.W.kitOne K (.ref C17) (.ref C13) = some false) (kit17_14 : PySem.W.kitOne K (.ref C17) (.ref C14) = some false) (kit17_15 : PySem.W.kitOne K (.ref C17) (.ref C15) = some false) (kit17_16 : PySem.W.kitOne K (.ref C17) (.ref C16) = some false) (kit17_17 : PySem.W.kitOne K (.ref C17) (.ref C17) = some true) (kit17_18 : PySem.W.kitOne K (.ref C17) (.ref C18) = some false)
    {gINt ccINt clINt NX : Addr} {odINt odCNt odLNt anINt ddX : Option Addr} {slINt slCNt slLNt : Array (Option Value)} {ocINt ocCNt ocLNt kVINt dcINt pmINt ctINt : Value} {vCNt : Array Value} {tCNt : Tok} {nmX qX : Str} {bsX bmX : List Value} {snX : List Str} {subX : List Value} {abX : Bool} {colX : Option Bool} {k0X k1X k2X k3X k5X : Option Value} (fINt : PySem.W.findIn K (.ref C17) "__init__" = some (some (.ref gINt))) (tINt : PySem.W.typeIn K (.ref gINt) = some (.type "function")) (lINt : K.lookup gINt = some ⟨ocINt, odINt, .func (PySem.W.fnX "__init__" "NoText.__init__" (defArgs sNtInit) (defBody sNtInit) (defScope sNtInit) [("__class__", clINt)] .none kVINt dcINt pmINt anINt (.ref ccINt) ctINt), slINt⟩) (cINt : PySem.W.codeIn K (.ref ccINt) "NoText.__init__" = true) (kINt : PySem.W.keepIn K (.ref gINt) = true) (lLNt : K.lookup clINt = some ⟨ocLNt, odLNt, .cell (some (.ref C17)), slLNt⟩) (lCNt : K.lookup ccINt = some ⟨ocCNt, odCNt, .fields vCNt, slCNt⟩) (fCNt : vCNt[2]? = some (.str PySem.Challenge.pw_giveway_k66_texts_of_no_graph.main.file tCNt)) (sbNt : PySem.W.mroIn K C17 (.ref C17) = some true) (npNt : PySem.W.nsIn K cStatics "thirdparty.any" = some none) (suNt : PySem.W.ks_superIn K C17 C17 "__init__" = some (some (.builtin "ValueError.__init__"))) (veNt : PySem.W.subIn K (.ref C17) (.type "ValueError") = some true) (lX : K.lookup C17 = some (PySem.excClassObj nmX qX C17 NX bsX bmX true snX subX abX colX ddX k0X k1X k2X k3X k5X "ValueError.__new__")) (rX : PySem.HandSPX.refsVE bmX = true) (saNt : PySem.W.findIn K (.ref C17) "__setattr__" = some (some (.builtin "object.__setattr__"))) (roNt : PySem.W.findIn K (.ref C17) "row" = some none)
     (apA1 : PA2 ≠ PA1) :
    Left66 K w mg fa := by
  have e := hfa.symm.trans (PySem.W.mg_of X G a43)
  cases e
  have T : Free mg := ⟨PySem.W.mg_none_of X G z0, PySem.W.mg_none_of X G z1, PySem.W.mg_none_of X G z2, PySem.W.mg_none_of X G z3, PySem.W.mg_none_of X G z4, PySem.W.mg_none_of X G z5, PySem.W.mg_none_of X G z6, PySem.W.mg_none_of X G z7, PySem.W.mg_none_of X G z8, PySem.W.mg_none_of X G z9, PySem.W.mg_none_of X G z10⟩
  have C : Cst mg := ⟨⟨_, PySem.W.mg_of X G n0⟩, ⟨_, PySem.W.mg_of X G n1⟩, ⟨_, PySem.W.mg_of X G n2⟩, ⟨_, PySem.W.mg_of X G n3⟩, ⟨_, PySem.W.mg_of X G n4⟩, ⟨_, PySem.W.mg_of X G n5⟩, ⟨_, PySem.W.mg_of X G n6⟩, ⟨_, PySem.W.mg_of X G n7⟩⟩
  have F0 := fun_mk (st := sWhole) l0 c0 k0
  have S0 : Std K mg "is_whole" sWhole ["thing"] f0 _ := ⟨F0, PySem.W.mg_of X G a0, F0.binds (ps := ["thing"]) fun _ _ _ _ _ _ us hl => match us, hl with | [_], _ => rfl⟩
  have F1 := fun_mk (st := sWithin) l1 c1 k1
  have S1 : Std K mg "is_within" sWithin ["thing", "least", "most"] f1 _ := ⟨F1, PySem.W.mg_of X G a1, F1.binds (ps := ["thing", "least", "most"]) fun _ _ _ _ _ _ us hl => match us, hl with | [_, _, _], _ => rfl⟩
  have F2 := fun_mk (st := sTuple) l2 c2 k2
  have S2 : Std K mg "is_tuple" sTuple ["thing", "least", "most"] f2 _ := ⟨F2, PySem.W.mg_of X G a2, F2.binds (ps := ["thing", "least", "most"]) fun _ _ _ _ _ _ us hl => match us, hl with | [_, _, _], _ => rfl⟩
  have F3 := fun_mk (st := sNumber) l3 c3 k3
  have S3 : Std K mg "is_number" sNumber ["thing"] f3 _ := ⟨F3, PySem.W.mg_of X G a3, F3.binds (ps := ["thing"]) fun _ _ _ _ _ _ us hl => match us, hl with | [_], _ => rfl⟩
  have F4 := fun_mk (st := sHasBox) l4 c4 k4
  have S4 : Std K mg "has_box" sHasBox ["graph", "b"] f4 _ := ⟨F4, PySem.W.mg_of X G a4, F4.binds (ps := ["graph", "b"]) fun _ _ _ _ _ _ us hl => match us, hl with | [_, _], _ => rfl⟩
  have F5 := fun_mk (st := sTie) l5 c5 k5
  have S5 : Std K mg "is_tie" sTie ["thing", "graph"] f5 _ := ⟨F5, PySem.W.mg_of X G a5, F5.binds (ps := ["thing", "graph"]) fun _ _ _ _ _ _ us hl => match us, hl with | [_, _], _ => rfl⟩
  have F6 := fun_mk (st := sPsz) l6 c6 k6
  have S6 : Std K mg "place_size" sPsz ["thing", "graph", "deep"] f6 _ := ⟨F6, PySem.W.mg_of X G a6, F6.binds (ps := ["thing", "graph", "deep"]) fun _ _ _ _ _ _ us hl => match us, hl with | [_, _, _], _ => rfl⟩
  have F7 := fun_mk (st := sGsz) l7 c7 k7
  have S7 : Std K mg "graph_size" sGsz ["thing", "deep"] f7 _ := ⟨F7, PySem.W.mg_of X G a7, F7.binds (ps := ["thing", "deep"]) fun _ _ _ _ _ _ us hl => match us, hl with | [_, _], _ => rfl⟩
  have F8 := fun_mk (st := sIsGraph) l8 c8 k8
  have S8 : Std K mg "is_graph" sIsGraph ["thing"] f8 _ := ⟨F8, PySem.W.mg_of X G a8, F8.binds (ps := ["thing"]) fun _ _ _ _ _ _ us hl => match us, hl with | [_], _ => rfl⟩
  have F9 := fun_mk (st := sCheckG) l9 c9 k9
  have S9 : Std K mg "check_graph" sCheckG ["graph"] f9 _ := ⟨F9, PySem.W.mg_of X G a9, F9.binds (ps := ["graph"]) fun _ _ _ _ _ _ us hl => match us, hl with | [_], _ => rfl⟩
  have F10 := fun_mk (st := sSortOf) l10 c10 k10
  have S10 : Std K mg "sort_of" sSortOf ["place"] f10 _ := ⟨F10, PySem.W.mg_of X G a10, F10.binds (ps := ["place"]) fun _ _ _ _ _ _ us hl => match us, hl with | [_], _ => rfl⟩
  have F11 := fun_mk (st := sWholeFrom) l11 c11 k11
  have S11 : Std K mg "whole_from" sWholeFrom ["word", "most"] f11 _ := ⟨F11, PySem.W.mg_of X G a11, F11.binds (ps := ["word", "most"]) fun _ _ _ _ _ _ us hl => match us, hl with | [_, _], _ => rfl⟩
  have F12 := fun_mk (st := sPlaceText) l12 c12 k12
  have S12 : Std K mg "place_text" sPlaceText ["place"] f12 _ := ⟨F12, PySem.W.mg_of X G a12, F12.binds (ps := ["place"]) fun _ _ _ _ _ _ us hl => match us, hl with | [_], _ => rfl⟩
  have F13 := fun_mk (st := sBoxText) l13 c13 k13
  have S13 : Std K mg "box_text" sBoxText ["box"] f13 _ := ⟨F13, PySem.W.mg_of X G a13, F13.binds (ps := ["box"]) fun _ _ _ _ _ _ us hl => match us, hl with | [_], _ => rfl⟩
  have F14 := fun_mk (st := sBoxesText) l14 c14 k14
  have S14 : Std K mg "boxes_text" sBoxesText ["graph"] f14 _ := ⟨F14, PySem.W.mg_of X G a14, F14.binds (ps := ["graph"]) fun _ _ _ _ _ _ us hl => match us, hl with | [_], _ => rfl⟩
  have F15 := fun_mk (st := sGraphText) l15 c15 k15
  have S15 : Std K mg "graph_text" sGraphText ["graph"] f15 _ := ⟨F15, PySem.W.mg_of X G a15, F15.binds (ps := ["graph"]) fun _ _ _ _ _ _ us hl => match us, hl with | [_], _ => rfl⟩
  have F16 := fun_mk (st := sReadBoxes) l16 c16 k16
  have S16 : Std K mg "read_boxes" sReadBoxes ["signs", "deep"] f16 _ := ⟨F16, PySem.W.mg_of X G a16, F16.binds (ps := ["signs", "deep"]) fun _ _ _ _ _ _ us hl => match us, hl with | [_, _], _ => rfl⟩
  have F17 := fun_mk (st := sReadBox) l17 c17 k17
  have S17 : Std K mg "read_box" sReadBox ["signs", "deep"] f17 _ := ⟨F17, PySem.W.mg_of X G a17, F17.binds (ps := ["signs", "deep"]) fun _ _ _ _ _ _ us hl => match us, hl with | [_, _], _ => rfl⟩
  have F18 := fun_mk (st := sReadPlace) l18 c18 k18
  have S18 : Std K mg "read_place" sReadPlace ["signs", "deep"] f18 _ := ⟨F18, PySem.W.mg_of X G a18, F18.binds (ps := ["signs", "deep"]) fun _ _ _ _ _ _ us hl => match us, hl with | [_, _], _ => rfl⟩
  have F19 := fun_mk (st := sReadNumber) l19 c19 k19
  have S19 : Std K mg "read_number" sReadNumber ["signs"] f19 _ := ⟨F19, PySem.W.mg_of X G a19, F19.binds (ps := ["signs"]) fun _ _ _ _ _ _ us hl => match us, hl with | [_], _ => rfl⟩
  have F20 := fun_mk (st := sReadGraph) l20 c20 k20
  have S20 : Std K mg "read_graph" sReadGraph ["text"] f20 _ := ⟨F20, PySem.W.mg_of X G a20, F20.binds (ps := ["text"]) fun _ _ _ _ _ _ us hl => match us, hl with | [_], _ => rfl⟩
  have F21 := fun_mk (st := sCell) l21 c21 k21
  have S21 : Std K mg "_law_cell_at" sCell ["_law_script", "_law_k"] f21 _ := ⟨F21, PySem.W.mg_of X G a21, F21.binds (ps := ["_law_script", "_law_k"]) fun _ _ _ _ _ _ us hl => match us, hl with | [_, _], _ => rfl⟩
  have F22 := fun_mk (st := sState) l22 c22 k22
  have S22 : Std K mg "_law_state" sState ["_law_script", "_law_k"] f22 _ := ⟨F22, PySem.W.mg_of X G a22, F22.binds (ps := ["_law_script", "_law_k"]) fun _ _ _ _ _ _ us hl => match us, hl with | [_, _], _ => rfl⟩
  have F23 := fun_mk (st := sChoice) l23 c23 k23
  have S23 : Std K mg "_law_choice" sChoice ["_law_state_here", "_law_many"] f23 _ := ⟨F23, PySem.W.mg_of X G a23, F23.binds (ps := ["_law_state_here", "_law_many"]) fun _ _ _ _ _ _ us hl => match us, hl with | [_, _], _ => rfl⟩
  have F24 := fun_mk (st := sLSame) l24 c24 k24
  have S24 : Std K mg "_law_same" sLSame ["_law_found", "_law_due_here"] f24 _ := ⟨F24, PySem.W.mg_of X G a24, F24.binds (ps := ["_law_found", "_law_due_here"]) fun _ _ _ _ _ _ us hl => match us, hl with | [_, _], _ => rfl⟩
  have F25 := fun_mk (st := sMarks) l25 c25 k25
  have S25 : Std0 K mg "_law_marks" sMarks f25 _ := ⟨F25, PySem.W.mg_of X G a25⟩
  have F26 := fun_mk (st := sWord) l26 c26 k26
  have S26 : Std0 K mg "_law_word" sWord f26 _ := ⟨F26, PySem.W.mg_of X G a26⟩
  have F27 := fun_mk (st := sSaid) l27 c27 k27
  have S27 : Std K mg "_law_said" sSaid ["_law_call"] f27 _ := ⟨F27, PySem.W.mg_of X G a27, F27.binds (ps := ["_law_call"]) fun _ _ _ _ _ _ us hl => match us, hl with | [_], _ => rfl⟩
  have F28 := fun_mk (st := sLOdd) l28 c28 k28
  have S28 : Std K mg "_law_odd" sLOdd ["_law_state_here"] f28 _ := ⟨F28, PySem.W.mg_of X G a28, F28.binds (ps := ["_law_state_here"]) fun _ _ _ _ _ _ us hl => match us, hl with | [_], _ => rfl⟩
  have F29 := fun_mk (st := sInner) l29 c29 k29
  have S29 : Std K mg "_law_inner" sInner ["_law_graph_here"] f29 _ := ⟨F29, PySem.W.mg_of X G a29, F29.binds (ps := ["_law_graph_here"]) fun _ _ _ _ _ _ us hl => match us, hl with | [_], _ => rfl⟩
  have F30 := fun_mk (st := sSize) l30 c30 k30
  have S30 : Std K mg "_law_size" sSize ["_law_graph_here"] f30 _ := ⟨F30, PySem.W.mg_of X G a30, F30.binds (ps := ["_law_graph_here"]) fun _ _ _ _ _ _ us hl => match us, hl with | [_], _ => rfl⟩
  have F31 := fun_mk (st := sDeep) l31 c31 k31
  have S31 : Std K mg "_law_deep" sDeep ["_law_graph_here"] f31 _ := ⟨F31, PySem.W.mg_of X G a31, F31.binds (ps := ["_law_graph_here"]) fun _ _ _ _ _ _ us hl => match us, hl with | [_], _ => rfl⟩
  have F32 := fun_mk (st := sGraph) l32 c32 k32
  have S32 : Std K mg "_law_graph" sGraph ["_law_state_here", "_law_deep_here", "_law_most"] f32 _ := ⟨F32, PySem.W.mg_of X G a32, F32.binds (ps := ["_law_state_here", "_law_deep_here", "_law_most"]) fun _ _ _ _ _ _ us hl => match us, hl with | [_, _, _], _ => rfl⟩
  have F33 := fun_mk (st := sFit) l33 c33 k33
  have S33 : Std K mg "_law_fit" sFit ["_law_state_here"] f33 _ := ⟨F33, PySem.W.mg_of X G a33, F33.binds (ps := ["_law_state_here"]) fun _ _ _ _ _ _ us hl => match us, hl with | [_], _ => rfl⟩
  have F34 := fun_mk (st := sText) l34 c34 k34
  have S34 : Std K mg "_law_text" sText ["_law_graph_here"] f34 _ := ⟨F34, PySem.W.mg_of X G a34, F34.binds (ps := ["_law_graph_here"]) fun _ _ _ _ _ _ us hl => match us, hl with | [_], _ => rfl⟩
  have F35 := fun_mk (st := sLNumber) l35 c35 k35
  have S35 : Std K mg "_law_number" sLNumber ["_law_word_here"] f35 _ := ⟨F35, PySem.W.mg_of X G a35, F35.binds (ps := ["_law_word_here"]) fun _ _ _ _ _ _ us hl => match us, hl with | [_], _ => rfl⟩
  have F36 := fun_mk (st := sLShut) l36 c36 k36
  have S36 : Std K mg "_law_shut" sLShut ["_law_text_here", "_law_at"] f36 _ := ⟨F36, PySem.W.mg_of X G a36, F36.binds (ps := ["_law_text_here", "_law_at"]) fun _ _ _ _ _ _ us hl => match us, hl with | [_, _], _ => rfl⟩
  have F37 := fun_mk (st := sLPlace) l37 c37 k37
  have S37 : Std K mg "_law_place" sLPlace ["_law_text_here", "_law_many", "_law_deep_here"] f37 _ := ⟨F37, PySem.W.mg_of X G a37, F37.binds (ps := ["_law_text_here", "_law_many", "_law_deep_here"]) fun _ _ _ _ _ _ us hl => match us, hl with | [_, _, _], _ => rfl⟩
  have F38 := fun_mk (st := sLParts) l38 c38 k38
  have S38 : Std K mg "_law_parts" sLParts ["_law_text_here"] f38 _ := ⟨F38, PySem.W.mg_of X G a38, F38.binds (ps := ["_law_text_here"]) fun _ _ _ _ _ _ us hl => match us, hl with | [_], _ => rfl⟩
  have F39 := fun_mk (st := sLBoxes) l39 c39 k39
  have S39 : Std K mg "_law_boxes" sLBoxes ["_law_text_here"] f39 _ := ⟨F39, PySem.W.mg_of X G a39, F39.binds (ps := ["_law_text_here"]) fun _ _ _ _ _ _ us hl => match us, hl with | [_], _ => rfl⟩
  have F40 := fun_mk (st := sLRead) l40 c40 k40
  have S40 : Std K mg "_law_read" sLRead ["_law_text_here", "_law_deep_here"] f40 _ := ⟨F40, PySem.W.mg_of X G a40, F40.binds (ps := ["_law_text_here", "_law_deep_here"]) fun _ _ _ _ _ _ us hl => match us, hl with | [_, _], _ => rfl⟩
  have F41 := fun_mk (st := sLDue) l41 c41 k41
  have S41 : Std K mg "_law_due" sLDue ["_law_thing"] f41 _ := ⟨F41, PySem.W.mg_of X G a41, F41.binds (ps := ["_law_thing"]) fun _ _ _ _ _ _ us hl => match us, hl with | [_], _ => rfl⟩
  have F42 := fun_mk (st := sLTurned) l42 c42 k42
  have S42 : Std K mg "_law_turned" sLTurned ["_law_state_here", "_law_text_here"] f42 _ := ⟨F42, PySem.W.mg_of X G a42, F42.binds (ps := ["_law_state_here", "_law_text_here"]) fun _ _ _ _ _ _ us hl => match us, hl with | [_, _], _ => rfl⟩
  have F43 := fun_mk (st := sLaw) l43 c43 k43
  have SSg : SgC K mg CSg := ⟨⟨pgSg, hdSg, poSg, saSg⟩, nSg0, nSg1, PySem.W.mg_of X G aSg⟩
  have FSg0 := fun_mk (st := sSgInit) lSg0 cSg0 kSg0
  have MSg0 : MStd K CSg "__init__" "Signs.__init__" sSgInit ["self", "text"] gSg0 _ := ⟨FSg0, ⟨fSg0, iSg0, kSg0⟩, FSg0.binds (ps := ["self", "text"]) fun _ _ _ _ _ _ us hl => match us, hl with | [_, _], _ => rfl⟩
  have FSg1 := fun_mk (st := sSgComes) lSg1 cSg1 kSg1
  have MSg1 : MStd K CSg "comes" "Signs.comes" sSgComes ["self", "sign"] gSg1 _ := ⟨FSg1, ⟨fSg1, iSg1, kSg1⟩, FSg1.binds (ps := ["self", "sign"]) fun _ _ _ _ _ _ us hl => match us, hl with | [_, _], _ => rfl⟩
  have FSg2 := fun_mk (st := sSgWant) lSg2 cSg2 kSg2
  have MSg2 : MStd K CSg "want" "Signs.want" sSgWant ["self", "sign"] gSg2 _ := ⟨FSg2, ⟨fSg2, iSg2, kSg2⟩, FSg2.binds (ps := ["self", "sign"]) fun _ _ _ _ _ _ us hl => match us, hl with | [_, _], _ => rfl⟩
  have FSg3 := fun_mk (st := sSgWord) lSg3 cSg3 kSg3
  have MSg3 : MStd K CSg "word" "Signs.word" sSgWord ["self"] gSg3 _ := ⟨FSg3, ⟨fSg3, iSg3, kSg3⟩, FSg3.binds (ps := ["self"]) fun _ _ _ _ _ _ us hl => match us, hl with | [_], _ => rfl⟩
  have X2 : Exn K mg "NoGraph" C2 := ⟨qG2, PySem.W.mg_of X G x2, eG2k, eG2s, eG2t⟩
  have KI2 : Kin K mg C2 2 := by
    refine ⟨⟨eG2g, eG2h, eG2s, eG2d, eG2a, og, ot, eG2m⟩, fun i x e => ?_, eG2v⟩
    match i, e with
    | 0, e => cases e; exact ⟨_, PySem.W.mg_of X G x0, kit2_0⟩
    | 1, e => cases e; exact ⟨_, PySem.W.mg_of X G x1, kit2_1⟩
    | 2, e => cases e; exact ⟨_, PySem.W.mg_of X G x2, kit2_2⟩
    | 3, e => cases e; exact ⟨_, PySem.W.mg_of X G x3, kit2_3⟩
    | 4, e => cases e; exact ⟨_, PySem.W.mg_of X G x4, kit2_4⟩
    | 5, e => cases e; exact ⟨_, PySem.W.mg_of X G x5, kit2_5⟩
    | 6, e => cases e; exact ⟨_, PySem.W.mg_of X G x6, kit2_6⟩
    | 7, e => cases e; exact ⟨_, PySem.W.mg_of X G x7, kit2_7⟩
    | 8, e => cases e; exact ⟨_, PySem.W.mg_of X G x8, kit2_8⟩
    | 9, e => cases e; exact ⟨_, PySem.W.mg_of X G x9, kit2_9⟩
    | 10, e => cases e; exact ⟨_, PySem.W.mg_of X G x10, kit2_10⟩
    | 11, e => cases e; exact ⟨_, PySem.W.mg_of X G x11, kit2_11⟩
    | 12, e => cases e; exact ⟨_, PySem.W.mg_of X G x12, kit2_12⟩
    | 13, e => cases e; exact ⟨_, PySem.W.mg_of X G x13, kit2_13⟩
    | 14, e => cases e; exact ⟨_, PySem.W.mg_of X G x14, kit2_14⟩
    | 15, e => cases e; exact ⟨_, PySem.W.mg_of X G x15, kit2_15⟩
    | 16, e => cases e; exact ⟨_, PySem.W.mg_of X G x16, kit2_16⟩
    | 17, e => cases e; exact ⟨_, PySem.W.mg_of X G x17, kit2_17⟩
    | 18, e => cases e; exact ⟨_, PySem.W.mg_of X G x18, kit2_18⟩
    | n + 19, e => exact absurd e (by simp [names19])
  have KI17 : Kin K mg C17 17 := by
    refine ⟨⟨eG17g, eG17h, eG17s, eG17d, eG17a, og, ot, eG17m⟩, fun i x e => ?_, eG17v⟩
    match i, e with
    | 0, e => cases e; exact ⟨_, PySem.W.mg_of X G x0, kit17_0⟩
    | 1, e => cases e; exact ⟨_, PySem.W.mg_of X G x1, kit17_1⟩
    | 2, e => cases e; exact ⟨_, PySem.W.mg_of X G x2, kit17_2⟩
    | 3, e => cases e; exact ⟨_, PySem.W.mg_of X G x3, kit17_3⟩
    | 4, e => cases e; exact ⟨_, PySem.W.mg_of X G x4, kit17_4⟩
    | 5, e => cases e; exact ⟨_, PySem.W.mg_of X G x5, kit17_5⟩
    | 6, e => cases e; exact ⟨_, PySem.W.mg_of X G x6, kit17_6⟩
    | 7, e => cases e; exact ⟨_, PySem.W.mg_of X G x7, kit17_7⟩
    | 8, e => cases e; exact ⟨_, PySem.W.mg_of X G x8, kit17_8⟩
    | 9, e => cases e; exact ⟨_, PySem.W.mg_of X G x9, kit17_9⟩
    | 10, e => cases e; exact ⟨_, PySem.W.mg_of X G x10, kit17_10⟩
    | 11, e => cases e; exact ⟨_, PySem.W.mg_of X G x11, kit17_11⟩
    | 12, e => cases e; exact ⟨_, PySem.W.mg_of X G x12, kit17_12⟩
    | 13, e => cases e; exact ⟨_, PySem.W.mg_of X G x13, kit17_13⟩
    | 14, e => cases e; exact ⟨_, PySem.W.mg_of X G x14, kit17_14⟩
    | 15, e => cases e; exact ⟨_, PySem.W.mg_of X G x15, kit17_15⟩
    | 16, e => cases e; exact ⟨_, PySem.W.mg_of X G x16, kit17_16⟩
    | 17, e => cases e; exact ⟨_, PySem.W.mg_of X G x17, kit17_17⟩
    | 18, e => cases e; exact ⟨_, PySem.W.mg_of X G x18, kit17_18⟩
    | n + 19, e => exact absurd e (by simp [names19])
  have OX : OexC K C17 := ⟨⟨_, _, _, _, _, _, _, _, _, _, _, _, _, _, _, lX, rX⟩, saNt, eG17s, eG17t, eG17k⟩
  have FINt : FunS K "__init__" "NoText.__init__" sNtInit gINt _ ccINt clINt C17 := ⟨⟨_, _, _, _, _, _, _, _, rfl, lINt, cINt⟩, kINt, ⟨_, _, _, lLNt⟩⟩
  have bINt : Binds K _ ["self", "row"] [] := kb_sNtInit FINt
  have ap : PA2 ∉ [PA1] := fun z => by
    simp only [List.mem_cons, List.not_mem_nil, or_false] at z
    rcases z with z
    · exact apA1 z
  exact ⟨_, _, _, _, _, F43, fun s v => .of_eq rfl, T, (PySem.W.mg_none_of X G z11), (PySem.W.mg_none_of X G z12), (PySem.W.mg_none_of X G z13), (PySem.W.mg_none_of X G z14), ⟨_, _, _, _, PySem.W.mg_of X G a11, F11, rfl, lkA1, rfl, pA1, noA1⟩, ⟨_, _, _, _, PySem.W.mg_of X G a43, F43, rfl, lkA2, rfl, pA2, noA2⟩, rfl, ap, fun P base hPm sys TA1 TA2 =>
    ⟨_, _, _, _, _, _, all_cals sys T C (PySem.W.mg_none_of X G z11) (PySem.W.mg_none_of X G z12) (PySem.W.mg_none_of X G z13) (PySem.W.mg_none_of X G z14) ⟨_, PySem.W.mg_of X G nMF⟩ SSg mkSg kcSg MSg0 MSg1 MSg2 MSg3 (PySem.W.mg_of X G xs) X2 KI2 (exm_mk sb si stt eG2x) KI17 (exm_mk sb si stt eG17x) (PySem.W.mg_of X G x17) FINt fINt tINt bINt ⟨PySem.W.mg_none_of X G z13, ⟨_, _, _, _, tCNt, lCNt, by rw [hPm]; exact fCNt⟩, by rw [hPm]; decide +kernel, sbNt, npNt, suNt, veNt, OX, roNt⟩ ⟨eG17g, eG17h, eG17s, eG17d⟩ S0 S1 S2 S3 S4 S5 S6 S7 S8 S9 S10 S11 S12 S13 S14 S15 S16 S17 S18 S19 S20 S21 S22 S23 S24 S25 S26 S27 S28 S29 S30 S31 S32 S33 S34 S35 S36 S37 S38 S39 S40 S41 S42 (fun s v => .of_eq rfl) (fun s v => .of_eq rfl) ap rfl TA1 TA2⟩⟩
theorem tab_of {q : Program} {loose : List Str} {mean : ExcName → Option Value} {mg mb : Str → Option Value} {h : Heap} (T : Top q loose mean mg mb h) {x : Str} (hx : (recsOf q).any (fun d => d.name == x) = true) {K : PySem.W.Frag} (KX : K.In h) {st : Stmt} {f c Pt : Addr} {fd : FuncData} (F : Fun K x x st f fd) (hm : mg x = some (.ref f)) (hc : fd.code = .ref c)
    {oT : Obj} {vT : Array Value} (lk : K.lookup c = some oT) (hd : oT.data = .fields vT) (hp : vT[11]? = some (.ref Pt)) : h.get? Pt = some { cls := .none, data := .fields #[] } ∧ PySem.W.CodeHd h c Pt := by
  obtain ⟨d, hdm, e⟩ := List.any_eq_true.mp hx
  have e : d.name = x := eq_of_beq e
  obtain ⟨a, o, fd', c', P', m1, g1, d1, c1, isC, tab⟩ := T.tab d hdm
  rw [e, hm] at m1
  cases m1
  obtain ⟨oc, od, kV, doc, pm, an, cdv, ct, osl, rfl, found, code⟩ := F.ex
  have g2 := KX _ _ found
  rw [g1] at g2
  cases g2
  cases d1
  have hc : cdv = .ref c := hc
  have c1 : cdv = .ref c' := c1
  rw [hc] at c1
  cases c1
  obtain ⟨⟨o2, vs2, e1, e2, e3, e4⟩, e5⟩ := id tab
  have g3 := KX _ _ lk
  rw [e1] at g3
  cases g3
  rw [e3] at hd
  cases hd
  rw [e4] at hp
  cases hp
  exact ⟨e5, PySem.W.CodeHd.of isC tab⟩
theorem walk {l : PySem.W.OpenLaw} {q : Program} {loose : List Str} {XP : (Str → Option Value) → Heap → Prop} {YP : World → Heap → Prop} {d : DefRec} {K : Params → PySem.W.Frag} (hn : l.most = some 63) (hdf : d.params.defaults = []) (hnm : d.name = "law") (hi : importsNone q = true) (hmain : l.prog.main = PySem.Challenge.pw_giveway_k66_texts_of_no_graph.main) (hA1 : (recsOf q).any (fun d => d.name == ("whole_from" : Str)) = true) (hA2 : (recsOf q).any (fun d => d.name == ("law" : Str)) = true)
    (hY : ∀ (w : World) (h : Heap), YP w h → (K w.params).In h)
    (F : ∀ (w : World) (mg : Str → Option Value) (fa : Addr) (h : Heap), (K w.params).In h → h.Ns mainGlobals mg → mg d.name = some (.ref fa) → Left66 (K w.params) w mg fa) :
    PySem.W.WalkO q loose XP YP l.row.toRowW d [] (fun f vs => PySem.call f vs) := by
  refine Att.attach_call hn hdf fun w s0 s1 mg mb fa o pm cd doc a vs ns G Y ho hd hcd hmg hobj hints hlen hg => ?_
  have KX := hY w _ Y
  obtain ⟨fd, cA1, PA1, cA2, PA2, FL, bd, T, ex0, ex1, ex2, ex3, ⟨_, _, _, _, mA1, FA1, codeA1, lkA1, dA1, pA1, nA1⟩, ⟨_, _, _, _, mA2, FA2, codeA2, lkA2, dA2, pA2, nA2⟩, hcL, ap, cals⟩ := F w mg fa _ KX G.T.g hmg
  obtain ⟨tA1, uA1⟩ := tab_of G.T hA1 KX FA1 mA1 codeA1 lkA1 dA1 pA1
  obtain ⟨tA2, uA2⟩ := tab_of G.T hA2 KX FA2 mA2 codeA2 lkA2 dA2 pA2
  obtain ⟨mm, sy, _⟩ := (G.T.seer hi).mods
  have each : ∀ {Pr : Addr × Addr → Prop}, Pr (cA1, PA1) → Pr (cA2, PA2) → ∀ p ∈ [(cA1, PA1), (cA2, PA2)], Pr p := fun h0 h1 p hp => by
    simp only [List.mem_cons, List.not_mem_nil, or_false] at hp
    rcases hp with rfl | rfl
    · exact h0
    · exact h1
  refine law_endT (k := 41) (cs := [(cA1, PA1), (cA2, PA2)]) KX G.T.g G.T.b G.T.builtins G.T.nolimit hg ⟨each tA1 tA2, each nA1 nA2, each uA1 uA2, ⟨mm, sy⟩, G.T.bmain⟩ hobj hints (small (by omega)) ⟨rfl, by decide, by decide⟩ FL scLaw bd fun base _ _ sb TB H cdv hc tabs scr hr => ?_
  obtain rfl : cdv = .ref cA2 := hc.symm.trans hcL
  obtain ⟨_, _, _, _, _, _, lw⟩ := cals l.prog base hmain sb (TB _ List.mem_cons_self) (TB _ (List.mem_cons_of_mem _ List.mem_cons_self))
  refine law_body (k := 40) T sb scr hlen ⟨fun p hp => ?_, fun p hp => ?_⟩ (by omega) hr lw
  · have hp : p ∈ [PA1] := hp
    simp only [List.mem_cons, List.not_mem_nil, or_false] at hp
    rcases hp with rfl
    · exact ⟨#[], tabs _ List.mem_cons_self, trivial⟩
  · rw [List.mem_singleton.mp (show p ∈ [(PA2, ("law" : Str) ++ ".<locals>." ++ "<lambda>")] from hp)]
    exact TabS.nil (tabs _ (List.mem_cons_of_mem _ List.mem_cons_self))
end
end Gw
open PySem PySem.W PyProof.Rows
set_option maxRecDepth 100000 in
set_option maxHeartbeats 0 in
theorem PySem.Challenge.cw_giveway_k66_texts_of_no_graph_holds : PySem.Challenge.rw_giveway_k66_texts_of_no_graph.Holds := by
  w_on; o_law; k_head; (case hw => w_witness2)
  k_fill
  refine Gw.walk (l := PySem.Challenge.rw_giveway_k66_texts_of_no_graph) rfl rfl rfl (by decide +kernel) rfl (by decide +kernel) (by decide +kernel) (fun w h Y => PySem.W.km_in_of Y) ?F
  case F =>
    intro w mg fa h KX G hmg
    refine' Gw.all_mk KX G hmg ?a0 ?l0 ?c0 ?k0 ?a1 ?l1 ?c1 ?k1 ?a2 ?l2 ?c2 ?k2 ?a3 ?l3 ?c3 ?k3 ?a4 ?l4 ?c4 ?k4 ?a5 ?l5 ?c5 ?k5 ?a6 ?l6 ?c6 ?k6 ?a7 ?l7 ?c7 ?k7 ?a8 ?l8 ?c8 ?k8 ?a9 ?l9 ?c9 ?k9 ?a10 ?l10 ?c10 ?k10 ?a11 ?l11 ?c11 ?k11 ?a12 ?l12 ?c12 ?k12 ?a13 ?l13 ?c13 ?k13 ?a14 ?l14 ?c14 ?k14 ?a15 ?l15 ?c15 ?k15 ?a16 ?l16 ?c16 ?k16 ?a17 ?l17 ?c17 ?k17 ?a18 ?l18 ?c18 ?k18 ?a19 ?l19 ?c19 ?k19 ?a20 ?l20 ?c20 ?k20 ?a21 ?l21 ?c21 ?k21 ?a22 ?l22 ?c22 ?k22 ?a23 ?l23 ?c23 ?k23 ?a24 ?l24 ?c24 ?k24 ?a25 ?l25 ?c25 ?k25 ?a26 ?l26 ?c26 ?k26 ?a27 ?l27 ?c27 ?k27 ?a28 ?l28 ?c28 ?k28 ?a29 ?l29 ?c29 ?k29 ?a30 ?l30 ?c30 ?k30 ?a31 ?l31 ?c31 ?k31 ?a32 ?l32 ?c32 ?k32 ?a33 ?l33 ?c33 ?k33 ?a34 ?l34 ?c34 ?k34 ?a35 ?l35 ?c35 ?k35 ?a36 ?l36 ?c36 ?k36 ?a37 ?l37 ?c37 ?k37 ?a38 ?l38 ?c38 ?k38 ?a39 ?l39 ?c39 ?k39 ?a40 ?l40 ?c40 ?k40 ?a41 ?l41 ?c41 ?k41 ?a42 ?l42 ?c42 ?k42 ?a43 ?l43 ?c43 ?k43 ?n0 ?n1 ?n2 ?n3 ?n4 ?n5 ?n6 ?n7 ?z0 ?z1 ?z2 ?z3 ?z4 ?z5 ?z6 ?z7 ?z8 ?z9 ?z10 ?z11 ?z12 ?z13 ?z14 ?lkA1 ?pA1 ?noA1 ?lkA2 ?pA2 ?noA2 ?nMF ?aSg ?fSg0 ?iSg0 ?lSg0 ?cSg0 ?kSg0 ?fSg1 ?iSg1 ?lSg1 ?cSg1 ?kSg1 ?fSg2 ?iSg2 ?lSg2 ?cSg2 ?kSg2 ?fSg3 ?iSg3 ?lSg3 ?cSg3 ?kSg3 ?pgSg ?hdSg ?poSg ?saSg ?mkSg ?kcSg ?nSg0 ?nSg1 ?x0 ?x1 ?x2 ?x3 ?x4 ?x5 ?x6 ?x7 ?x8 ?x9 ?x10 ?x11 ?x12 ?x13 ?x14 ?x15 ?x16 ?x17 ?x18 ?xs ?og ?ot ?sb ?si ?stt ?qG2 ?eG2k ?eG2s ?eG2t ?eG2g ?eG2h ?eG2d ?eG2a ?eG2m ?eG2v ?eG2x ?kit2_0 ?kit2_1 ?kit2_2 ?kit2_3 ?kit2_4 ?kit2_5 ?kit2_6 ?kit2_7 ?kit2_8 ?kit2_9 ?kit2_10 ?kit2_11 ?kit2_12 ?kit2_13 ?kit2_14 ?kit2_15 ?kit2_16 ?kit2_17 ?kit2_18 ?eG17k ?eG17s ?eG17t ?eG17g ?eG17h ?eG17d ?eG17a ?eG17m ?eG17v ?eG17x ?kit17_0 ?kit17_1 ?kit17_2 ?kit17_3 ?kit17_4 ?kit17_5 ?kit17_6 ?kit17_7 ?kit17_8 ?kit17_9 ?kit17_10 ?kit17_11 ?kit17_12 ?kit17_13 ?kit17_14 ?kit17_15 ?kit17_16 ?kit17_17 ?kit17_18 ?fINt ?tINt ?lINt ?cINt ?kINt ?lLNt ?lCNt ?fCNt ?sbNt ?npNt ?suNt ?veNt ?lX ?rX ?saNt ?roNt ?apA1
    (case a0 => k_is)
    (case l0 => k_is)
    (case c0 => k_is)
    (case k0 => k_is)
    (case a1 => k_is)
    (case l1 => k_is)
    (case c1 => k_is)
    (case k1 => k_is)
    (case a2 => k_is)
    (case l2 => k_is)
    (case c2 => k_is)
    (case k2 => k_is)
    (case a3 => k_is)
    (case l3 => k_is)
    (case c3 => k_is)
    (case k3 => k_is)
    (case a4 => k_is)
    (case l4 => k_is)
    (case c4 => k_is)
    (case k4 => k_is)
    (case a5 => k_is)
    (case l5 => k_is)
    (case c5 => k_is)
    (case k5 => k_is)
    (case a6 => k_is)
    (case l6 => k_is)
    (case c6 => k_is)
    (case k6 => k_is)
    (case a7 => k_is)
    (case l7 => k_is)
    (case c7 => k_is)
    (case k7 => k_is)
    (case a8 => k_is)
    (case l8 => k_is)
    (case c8 => k_is)
    (case k8 => k_is)
    (case a9 => k_is)
    (case l9 => k_is)
    (case c9 => k_is)
    (case k9 => k_is)
    (case a10 => k_is)
    (case l10 => k_is)
    (case c10 => k_is)
    (case k10 => k_is)
    (case a11 => k_is)
    (case l11 => k_is)
    (case c11 => k_is)
    (case k11 => k_is)
    (case a12 => k_is)
    (case l12 => k_is)
    (case c12 => k_is)
    (case k12 => k_is)
    (case a13 => k_is)
    (case l13 => k_is)
    (case c13 => k_is)
    (case k13 => k_is)
    (case a14 => k_is)
    (case l14 => k_is)
    (case c14 => k_is)
    (case k14 => k_is)
    (case a15 => k_is)
    (case l15 => k_is)
    (case c15 => k_is)
    (case k15 => k_is)
    (case a16 => k_is)
    (case l16 => k_is)
    (case c16 => k_is)
    (case k16 => k_is)
    (case a17 => k_is)
    (case l17 => k_is)
    (case c17 => k_is)
    (case k17 => k_is)
    (case a18 => k_is)
    (case l18 => k_is)
    (case c18 => k_is)
    (case k18 => k_is)
    (case a19 => k_is)
    (case l19 => k_is)
    (case c19 => k_is)
    (case k19 => k_is)
    (case a20 => k_is)
    (case l20 => k_is)
    (case c20 => k_is)
    (case k20 => k_is)
    (case a21 => k_is)
    (case l21 => k_is)
    (case c21 => k_is)
    (case k21 => k_is)
    (case a22 => k_is)
    (case l22 => k_is)
    (case c22 => k_is)
    (case k22 => k_is)
    (case a23 => k_is)
    (case l23 => k_is)
    (case c23 => k_is)
    (case k23 => k_is)
    (case a24 => k_is)
    (case l24 => k_is)
    (case c24 => k_is)
    (case k24 => k_is)
    (case a25 => k_is)
    (case l25 => k_is)
    (case c25 => k_is)
    (case k25 => k_is)
    (case a26 => k_is)
    (case l26 => k_is)
    (case c26 => k_is)
    (case k26 => k_is)
    (case a27 => k_is)
    (case l27 => k_is)
    (case c27 => k_is)
    (case k27 => k_is)
    (case a28 => k_is)
    (case l28 => k_is)
    (case c28 => k_is)
    (case k28 => k_is)
    (case a29 => k_is)
    (case l29 => k_is)
    (case c29 => k_is)
    (case k29 => k_is)
    (case a30 => k_is)
    (case l30 => k_is)
    (case c30 => k_is)
    (case k30 => k_is)
    (case a31 => k_is)
    (case l31 => k_is)
    (case c31 => k_is)
    (case k31 => k_is)
    (case a32 => k_is)
    (case l32 => k_is)
    (case c32 => k_is)
    (case k32 => k_is)
    (case a33 => k_is)
    (case l33 => k_is)
    (case c33 => k_is)
    (case k33 => k_is)
    (case a34 => k_is)
    (case l34 => k_is)
    (case c34 => k_is)
    (case k34 => k_is)
    (case a35 => k_is)
    (case l35 => k_is)
    (case c35 => k_is)
    (case k35 => k_is)
    (case a36 => k_is)
    (case l36 => k_is)
    (case c36 => k_is)
    (case k36 => k_is)
    (case a37 => k_is)
    (case l37 => k_is)
    (case c37 => k_is)
    (case k37 => k_is)
    (case a38 => k_is)
    (case l38 => k_is)
    (case c38 => k_is)
    (case k38 => k_is)
    (case a39 => k_is)
    (case l39 => k_is)
    (case c39 => k_is)
    (case k39 => k_is)
    (case a40 => k_is)
    (case l40 => k_is)
    (case c40 => k_is)
    (case k40 => k_is)
    (case a41 => k_is)
    (case l41 => k_is)
    (case c41 => k_is)
    (case k41 => k_is)
    (case a42 => k_is)
    (case l42 => k_is)
    (case c42 => k_is)
    (case k42 => k_is)
    (case a43 => k_is)
    (case l43 => k_is)
    (case c43 => k_is)
    (case k43 => k_is)
    (case n0 => k_is)
    (case n1 => k_is)
    (case n2 => k_is)
    (case n3 => k_is)
    (case n4 => k_is)
    (case n5 => k_is)
    (case n6 => k_is)
    (case n7 => k_is)
    (case z0 => k_is)
    (case z1 => k_is)
    (case z2 => k_is)
    (case z3 => k_is)
    (case z4 => k_is)
    (case z5 => k_is)
    (case z6 => k_is)
    (case z7 => k_is)
    (case z8 => k_is)
    (case z9 => k_is)
    (case z10 => k_is)
    (case z11 => k_is)
    (case z12 => k_is)
    (case z13 => k_is)
    (case z14 => k_is)
    (case lkA1 => k_is)
    (case pA1 => rfl)
    (case noA1 => first | rfl | k_is)
    (case lkA2 => k_is)
    (case pA2 => rfl)
    (case noA2 => first | rfl | k_is)
    (case nMF => k_is)
    (case aSg => k_is)
    (case fSg0 => k_is)
    (case iSg0 => k_is)
    (case lSg0 => k_is)
    (case cSg0 => k_is)
    (case kSg0 => k_is)
    (case fSg1 => k_is)
    (case iSg1 => k_is)
    (case lSg1 => k_is)
    (case cSg1 => k_is)
    (case kSg1 => k_is)
    (case fSg2 => k_is)
    (case iSg2 => k_is)
    (case lSg2 => k_is)
    (case cSg2 => k_is)
    (case kSg2 => k_is)
    (case fSg3 => k_is)
    (case iSg3 => k_is)
    (case lSg3 => k_is)
    (case cSg3 => k_is)
    (case kSg3 => k_is)
    (case pgSg => k_is)
    (case hdSg => k_is)
    (case poSg => k_is)
    (case saSg => k_is)
    (case mkSg => k_is)
    (case kcSg => k_is)
    (case nSg0 => k_is)
    (case nSg1 => k_is)
    (case x0 => k_is)
    (case x1 => k_is)
    (case x2 => k_is)
    (case x3 => k_is)
    (case x4 => k_is)
    (case x5 => k_is)
    (case x6 => k_is)
    (case x7 => k_is)
    (case x8 => k_is)
    (case x9 => k_is)
    (case x10 => k_is)
    (case x11 => k_is)
    (case x12 => k_is)
    (case x13 => k_is)
    (case x14 => k_is)
    (case x15 => k_is)
    (case x16 => k_is)
    (case x17 => k_is)
    (case x18 => k_is)
    (case xs => k_is)
    (case og => k_is)
    (case ot => k_is)
    (case sb => k_is)
    (case si => k_is)
    (case stt => k_is)
    (case qG2 => k_exc)
    (case eG2k => k_is)
    (case eG2s => k_is)
    (case eG2t => k_is)
    (case eG2g => k_is)
    (case eG2h => k_is)
    (case eG2d => k_is)
    (case eG2a => k_is)
    (case eG2m => k_is)
    (case eG2v => kit_is)
    (case eG2x => k_is)
    (case kit2_0 => kit_is)
    (case kit2_1 => kit_is)
    (case kit2_2 => kit_is)
    (case kit2_3 => kit_is)
    (case kit2_4 => kit_is)
    (case kit2_5 => kit_is)
    (case kit2_6 => kit_is)
    (case kit2_7 => kit_is)
    (case kit2_8 => kit_is)
    (case kit2_9 => kit_is)
    (case kit2_10 => kit_is)
    (case kit2_11 => kit_is)
    (case kit2_12 => kit_is)
    (case kit2_13 => kit_is)
    (case kit2_14 => kit_is)
    (case kit2_15 => kit_is)
    (case kit2_16 => kit_is)
    (case kit2_17 => kit_is)
    (case kit2_18 => kit_is)
    (case eG17k => k_is)
    (case eG17s => k_is)
    (case eG17t => k_is)
    (case eG17g => k_is)
    (case eG17h => k_is)
    (case eG17d => k_is)
    (case eG17a => k_is)
    (case eG17m => k_is)
    (case eG17v => kit_is)
    (case eG17x => k_is)
    (case kit17_0 => kit_is)
    (case kit17_1 => kit_is)
    (case kit17_2 => kit_is)
    (case kit17_3 => kit_is)
    (case kit17_4 => kit_is)
    (case kit17_5 => kit_is)
    (case kit17_6 => kit_is)
    (case kit17_7 => kit_is)
    (case kit17_8 => kit_is)
    (case kit17_9 => kit_is)
    (case kit17_10 => kit_is)
    (case kit17_11 => kit_is)
    (case kit17_12 => kit_is)
    (case kit17_13 => kit_is)
    (case kit17_14 => kit_is)
    (case kit17_15 => kit_is)
    (case kit17_16 => kit_is)
    (case kit17_17 => kit_is)
    (case kit17_18 => kit_is)
    (case fINt => k_is)
    (case tINt => k_is)
    (case lINt => k_is)
    (case cINt => k_is)
    (case kINt => k_is)
    (case lLNt => k_is)
    (case lCNt => k_is)
    (case fCNt => rfl)
    (case sbNt => k_is)
    (case npNt => k_is)
    (case suNt => ks_is)
    (case veNt => k_is)
    (case lX => k_is)
    (case rX => decide +kernel)
    (case saNt => k_is)
    (case roNt => k_is)
    (case apA1 => decide)
