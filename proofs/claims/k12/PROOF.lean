import PyProof.Rows.All
import Wide.All
import OpenK.AllK
import Wide.FinOn
import HandS.ForMost
import HandS.IsInst
import HandS.Defaults
import HandS.Conv
import HandS.TupAny
import KE.DataMinMax
import HandS.ForExc
import HandS.Lambda
import HandS.ExcIs
import HandS.Dict
import HandS.EndTab
import PyProof.FactsAll.dict
import HandS.GenList
import HandS.AnyAll
import HandS.RaiseMore
import HandS.Iter
import HandS.Steps
import HandS.Text
import HandS.Zip
import PyProof.TupleOfGen
import HandS.DictEq
import KE.KEqNest
import HandS.More
import KE.GoesMore
import HandS.DictComp
import HandS.List
import HandS.Codes
import HandS.NoneIn
import HandS.SetFor
import HandS.Walk
import HandS.TupLe
import HandS.Style
import HandS.Ends
import KE.RegKIsAll
import PySem.Challenge.RW_giveway_k12_flat_code
set_option Elab.async false
set_option linter.all false
set_option maxRecDepth 100000
namespace Gw
open PySem L2
def top (i : Nat) : Stmt := PySem.Challenge.pw_giveway_k12_flat_code.main.body.getD i (.Pass ⟨0, 0, 0, 0⟩)
abbrev sWhole : Stmt := top 5
abbrev sWithin : Stmt := top 6
abbrev sTuple : Stmt := top 7
abbrev sNumber : Stmt := top 11
abbrev sPlace : Stmt := top 12
abbrev sSmall : Stmt := top 24
abbrev sNumName : Stmt := top 25
abbrev sGraphName : Stmt := top 26
abbrev sFits : Stmt := top 27
abbrev sWordOf : Stmt := top 28
abbrev sIsDeed : Stmt := top 29
abbrev sIsBranch : Stmt := top 30
abbrev sStSize : Stmt := top 31
abbrev sBlSize : Stmt := top 32
abbrev sIsChan : Stmt := top 33
abbrev sSends : Stmt := top 34
abbrev sTakes : Stmt := top 35
abbrev sIsNet : Stmt := top 36
abbrev sCheckNet : Stmt := top 37
abbrev sHands : Stmt := top 43
abbrev sIsTest : Stmt := top 44
abbrev sFlatDeed : Stmt := top 45
abbrev sIsRow : Stmt := top 46
abbrev sAreRows : Stmt := top 47
abbrev sIsCode : Stmt := top 48
abbrev sCheckCode : Stmt := top 49
abbrev sWithWay : Stmt := top 50
abbrev sCopying : Stmt := top 51
abbrev sSizeOf : Stmt := top 52
abbrev sFlatBl : Stmt := top 53
abbrev sFlatSt : Stmt := top 54
abbrev sFlatIf : Stmt := top 55
abbrev sFlatWh : Stmt := top 56
abbrev sFlat : Stmt := top 57
abbrev sIsOwn : Stmt := top 58
abbrev sCell : Stmt := top 60
abbrev sState : Stmt := top 61
abbrev sChoice : Stmt := top 62
abbrev sMany : Stmt := top 63
abbrev sSimple : Stmt := top 64
abbrev sBlock : Stmt := top 65
abbrev sEnds : Stmt := top 66
abbrev sNet : Stmt := top 67
abbrev sLFlat : Stmt := top 68
abbrev sMarked : Stmt := top 69
abbrev sEob : Stmt := top 70
abbrev sLaw : Stmt := top 71
/-! data, dicts of whole numbers among it -/
def dictK (ms : List (Int × Int)) : List (Key × V) := ms.map fun m => (Sum.inl m.1, V.int m.2)
def dictD (ms : List (Int × Int)) : List (PyData × PyData) := ms.map fun m => (PyData.int m.1, PyData.int m.2)
mutual
inductive Dp (K : PySem.W.Frag) (Hh : Hp) : V → PyData → Prop
  | non : Dp K Hh .non .none
  | bl (t : Bool) : Dp K Hh (.bl t) (.bool t)
  | int (n : Int) : Dp K Hh (.int n) (.int n)
  | str (t : Str) : Dp K Hh (.str t) (.str t)
  | lst {r : Addr} {us : List V} {es : List PyData} (at_ : SqL K Hh r us) (each : DpAll K Hh us es) : Dp K Hh (.ref r) (.list es)
  | tup {r : Addr} {us : List V} {es : List PyData} (at_ : SqT K Hh r us) (each : DpAll K Hh us es) : Dp K Hh (.ref r) (.tuple es)
  | dct {r : Addr} {ms : List (Int × Int)} (at_ : Hh r = some (.dK (dictK ms))) : Dp K Hh (.ref r) (.dict (dictD ms))
inductive DpAll (K : PySem.W.Frag) (Hh : Hp) : List V → List PyData → Prop
  | nil : DpAll K Hh [] []
  | cons {u : V} {us : List V} {e : PyData} {es : List PyData} (one : Dp K Hh u e) (more : DpAll K Hh us es) : DpAll K Hh (u :: us) (e :: es)
end
/-! no list is in it -/
mutual
def noL : PyData → Bool
  | .list _ => false
  | .tuple es => noLs es
  | _ => true
def noLs : List PyData → Bool
  | [] => true
  | e :: es => noL e && noLs es
end
theorem reads_dict {Pg : Program} {wd : World} {h : Heap} : ∀ (ms : List (Int × Int)) (vs : List (Key × Value)) (es : List DictEntry), KV (dictK ms) vs → Pairs (mixKind Pg wd) es vs →
    ReadsAll h (es.map fun e => e.key) ((dictD ms).map fun p => p.1) [] ∧ ReadsAll h (es.map fun e => e.val) ((dictD ms).map fun p => p.2) []
  | [], vs, es, kv, pr => by
    cases kv
    cases pr
    exact ⟨.nil, .nil⟩
  | m :: ms, vs, es, kv, pr => by
    cases kv with
    | cons h1 h2 =>
      cases pr with
      | cons p1 p2 p3 =>
        obtain ⟨q1, q2⟩ := reads_dict (h := h) ms _ _ h2 p3
        obtain ⟨e1, e2⟩ := h1
        rw [← e1] at p1
        have p1 : keyIs (Sum.inl m.1) _ = true := p1
        rcases keyIs_shape p1 with ⟨i, t, z1, z2⟩ | ⟨x, t, z1, z2⟩
        · cases z1
          obtain ⟨t2, e2⟩ := e2
          refine ⟨?_, ?_⟩
          · refine (show ReadsAll h (_ :: _) (PyData.int m.1 :: _) ([] ++ []) from ?_)
            dsimp only
            rw [z2]
            exact .cons (.int _ _) q1
          · refine (show ReadsAll h (_ :: _) (PyData.int m.2 :: _) ([] ++ []) from ?_)
            dsimp only
            rw [p2, e2]
            exact .cons (.int _ _) q2
        · cases z1
section
variable {X : Cx} {pins : List (Addr × Obj)} {σ : L2.St} {H : Hp} {s : Shared}
theorem dct_reads (I : Inv X pins σ H s) {r : Addr} {ms : List (Int × Int)} (h : H r = some (.dK (dictK ms))) : ∃ o es n, s.heap.get? r = some o ∧ o.ExactDict ∧ o.data = .dict es n ∧ r ≠ sysModules ∧ Reads s.heap (.ref r) (.dict (dictD ms)) (r :: [] ++ []) := by
  obtain ⟨_, ns, vs, kv, o, es, ep, g, ex, dd, _, pr, _⟩ := I.hok r _ h
  obtain ⟨q1, q2⟩ := reads_dict ms vs es.toList kv pr
  exact ⟨o, es, ep, g, ex, dd, beq_eq_false_iff_ne.mp ns, .dict g ex.1 dd q1 q2⟩
mutual
theorem Dp.rd (I : Inv X pins σ H s) : ∀ (d : PyData) (v : V) (u : Value), Dp X.K H v d → RelV v u → ∃ as, Reads s.heap u d as ∧ (noL d = true → sysModules ∉ as)
  | .none, v, u, h, r => by cases h; cases r; exact ⟨_, .none, fun _ z => nomatch z⟩
  | .bool b, v, u, h, r => by cases h; cases r; exact ⟨_, .bool b, fun _ z => nomatch z⟩
  | .int i, v, u, h, r => by cases h; obtain ⟨t, rfl⟩ := r; exact ⟨_, .int i t, fun _ z => nomatch z⟩
  | .str x, v, u, h, r => by cases h; obtain ⟨t, rfl⟩ := r; exact ⟨_, .str x t, fun _ z => nomatch z⟩
  | .list es, v, u, h, r => by
    cases h with
    | lst at_ each =>
      cases r
      obtain ⟨its, rv, ⟨o, n, ho, hc, _, hd⟩, _⟩ := I.list at_
      obtain ⟨as, hr, _⟩ := Dp.rds I es _ its each rv
      exact ⟨_, .list ho hc hd hr, fun z => by simp [noL] at z⟩
  | .tuple es, v, u, h, r => by
    cases h with
    | tup at_ each =>
      cases r
      obtain ⟨its, rv, ⟨o, ho, hc, n, hd⟩, _⟩ := I.tuple at_
      obtain ⟨as, hr, hn⟩ := Dp.rds I es _ its each rv
      exact ⟨_, .tuple ho hc hd hr, fun z => hn (by simpa only [noL] using z)⟩
  | .dict kvs, v, u, h, r => by
    cases h with
    | dct at_ =>
      cases r
      obtain ⟨_, _, _, _, _, _, ns, rd⟩ := dct_reads I at_
      exact ⟨_, rd, fun _ z => by
        have z : sysModules ∈ [_] := z
        exact ns (List.mem_singleton.mp z).symm⟩
theorem Dp.rds (I : Inv X pins σ H s) : ∀ (ds : List PyData) (vs : List V) (us : List Value), DpAll X.K H vs ds → Vals vs us → ∃ as, ReadsAll s.heap us ds as ∧ (noLs ds = true → sysModules ∉ as)
  | [], vs, us, h, r => by cases h; cases r; exact ⟨_, .nil, fun _ z => nomatch z⟩
  | d :: ds, vs, us, h, r => by
    cases h with
    | cons one more =>
      cases r with
      | cons r1 r2 =>
        obtain ⟨as, q1, n1⟩ := Dp.rd I d _ _ one r1
        obtain ⟨bs, q2, n2⟩ := Dp.rds I ds _ _ more r2
        refine ⟨_, .cons q1 q2, fun z => ?_⟩
        have z' : noL d = true ∧ noLs ds = true := by simpa [noLs] using z
        intro hm
        rcases List.mem_append.mp hm with hm | hm
        · exact n1 z'.1 hm
        · exact n2 z'.2 hm
end
end
/-! a dict against a text -/
section
open PySem.SeqAt
theorem dict_declines (l : Addr) (es : Array DictEntry) (n : Nat) (b : Str) (u : Tok) :
    Meets (Builtin.«dict.__eq__» ⟨[.ref l, .str b u], []⟩) (fun _ R s => s.heap.get? l = some { cls := .type "dict", data := .dict es n } ∧ R (.ok (.ret .notImplemented)) s) :=
  .of_wp fun prog w A R s h => by obtain ⟨hp, g, d, tk, os⟩ := s; obtain ⟨hl, h⟩ := h; have f1 := F.sub_str_dict; wp_walk using AutoSeq1.wpAny_loadPart' hl; exact ⟨_, rfl, h⟩
theorem str_declines_dict (b : Str) (u : Tok) (l : Addr) (es : Array DictEntry) (n : Nat) :
    Meets (Builtin.«str.__eq__» ⟨[.str b u, .ref l], []⟩) (fun _ R s => s.heap.get? l = some { cls := .type "dict", data := .dict es n } ∧ R (.ok (.ret .notImplemented)) s) :=
  .of_wp fun prog w A R s h => by obtain ⟨hp, g, d, tk, os⟩ := s; obtain ⟨hl, h⟩ := h; wp_walk using AutoSeq1.wpAny_loadPart' hl, wpAny_load hl; exact ⟨_, rfl, h⟩
theorem rc_dict_str {A : Around} {s : Shared} {l : Addr} {es : Array DictEntry} {n : Nat} (b : Str) (u : Tok) (ho : s.heap.get? l = some { cls := .type "dict", data := .dict es n }) (hu : A.units < cLine) : RcAt A s (.ref l) (.str b u) false := fun prog w E Q h =>
  rc_eq_decline_or (k := false) ⟨_, ho, rfl⟩ (typeIs_str s b u) (by decide) F.sub_str_dict F.slot_dict_eq F.slot_str_eq_refl
    (fun _ hq => call_meets F.slot_dict_eq ⟨_, ho, rfl⟩ F.entry_dict_eq (F.args_dict_eq_2 _ _) (dict_declines l es n b u) ⟨ho, hq⟩)
    (fun _ hq => call_meets F.slot_str_eq_refl (typeIs_str s b u) F.entry_str_eq (F.args_str_eq_2 _ _) (str_declines_dict b u l es n) ⟨ho, hq⟩)
    (fun _ hq => wpAny_of_eq (rfl : isSame (.ref l) (.str b u) = pure false) hq) (.inr hu) h
end
def OkL (_ : PyData) : Prop := True
def OkR (e : PyData) : Prop := ∃ t, e = .str t
theorem okL_mem {ds : List PyData} {d : PyData} (h : OkL (.tuple ds)) (hm : d ∈ ds) : OkL d := trivial
theorem okR_tie : OkR (.str "tie") := ⟨_, rfl⟩
/-- whatever it is against a text -/
def rEqT (K : PySem.W.Frag) : R2 := fun x y H Q => ∃ d e, Dp K H x d ∧ Dp K H y e ∧ OkL d ∧ OkR e ∧ Q (.bl (PyData.eqv d e)) H
theorem op_eqT {X : Cx} (hu : X.A.units + 64 < cLine) : OpR X (compareOp .Eq) (rEqT X.K) := by
  intro pins s σ H x y v u Q I rx ry h
  obtain ⟨d, e, hd, he, _, ⟨t, rfl⟩, q⟩ := h
  cases he
  obtain ⟨tk, rfl⟩ := ry
  have fin : ∀ b, PyData.eqv d (.str t) = b → SeqAt.RcAt X.A s v (.str t tk) b → wpAny (model X.prog X.w) X.A (compareOp .Eq v (.str t tk)) (EP X pins σ Q) X.xe s := fun b e rc => by
    refine rc X.prog X.w _ _ ⟨.bl b, H, I, rfl, ?_⟩
    rw [← e]
    exact q
  have hu' : X.A.units < cLine := by omega
  cases hd with
  | non => cases rx; exact fin false (by simp [PyData.eqv]) (SeqAt.RcAt.none_str _ _)
  | bl b => cases rx; exact fin false (by simp [PyData.eqv]) (SeqAt.RcAt.bool_str _ _ _)
  | int i => obtain ⟨k, rfl⟩ := rx; exact fin false (by simp [PyData.eqv]) (SeqAt.RcAt.int_str _ _ _ _)
  | str z => obtain ⟨k, rfl⟩ := rx; exact fin (z == t) (by simp [PyData.eqv]) (SeqAt.RcAt.str_str _ _ _ _)
  | lst at_ each =>
    cases rx
    obtain ⟨its, rv, ⟨o, n, ho, hc, _, hd⟩, _⟩ := I.list at_
    exact fin false (by simp [PyData.eqv]) (SeqAt.RcAt.list_str _ _ ⟨o, ho, hc, n, hd⟩ hu')
  | tup at_ each =>
    cases rx
    obtain ⟨its, rv, ⟨o, ho, hc, n, hd⟩, _⟩ := I.tuple at_
    exact fin false (by simp [PyData.eqv]) (SeqAt.RcAt.tuple_str _ _ ⟨o, ho, hc, n, hd⟩ hu')
  | dct at_ =>
    cases rx
    obtain ⟨⟨oc, od, oda, osl⟩, es, n, g, ⟨e1, e2, e3⟩, e4, _, _⟩ := dct_reads I at_
    dsimp only at e1 e2 e3 e4
    subst e1 e2 e3 e4
    exact fin false (by simp [PyData.eqv]) (rc_dict_str _ _ g hu')
/-- data without dicts against such -/
def rNeD (K : PySem.W.Frag) : R2 := fun x y Hh Q => ∃ d e, Dp K Hh x d ∧ Dp K Hh y e ∧ SeqAt.shaped d = true ∧ SeqAt.shaped e = true ∧ Q (.bl (!PyData.eqv d e)) Hh
theorem op_neD {X : Cx} (hu : X.A.units + 64 < cLine) : OpR X (compareOp .NotEq) (rNeD X.K) := by
  intro pins s σ Hh x y v u Q I rx ry h
  obtain ⟨d, e, hd, he, sd, se, q⟩ := h
  obtain ⟨as, r1, _⟩ := Dp.rd I d x v hd rx
  obtain ⟨bs, r2, _⟩ := Dp.rd I e y u he ry
  exact SeqAt.compareNe_shaped r1 r2 sd se hu ⟨.bl _, Hh, I, rfl, q⟩
/-! repr -/
theorem call_reprD {X : Cx} (hg : X.A.guards = some []) (hu : X.A.units + 80 < cLine) : CallR X (.builtin "repr") (fun xs H Q => ∃ (a : Addr) (d : PyData), xs = [.ref a] ∧ Dp X.K H (.ref a) d ∧ d.showable = true ∧ (d.hasDict = true → noL d = true) ∧ d.depth ≤ 64 ∧ d.shown.length ≤ sizeLine ∧ Q (.str d.shown) H) := by
  intro pins s σ H xs us Q I r h
  obtain ⟨a, d, rfl, hd, h1, h2, h3, h4, q⟩ := h
  obtain ⟨u, rfl, ru⟩ := vals1 r
  cases ru
  obtain ⟨as, hr, hn⟩ := Dp.rd I d (.ref a) (.ref a) hd rfl
  exact repr_of_reads' hr h1 (fun z => hn (h2 z)) hg (by omega) (fun _ _ e => e) (fun h' u tk hk => ⟨.str d.shown, H, I.kept hk, ⟨u, rfl⟩, q⟩) h4
/-- the names that the module leaves to the built-ins -/
structure Free (mg : Str → Option Value) : Prop where
  isi : mg "isinstance" = none
  int : mg "int" = none
  bool : mg "bool" = none
  tuple : mg "tuple" = none
  len : mg "len" = none
  range : mg "range" = none
  min : mg "min" = none
  max : mg "max" = none
  sum : mg "sum" = none
  list : mg "list" = none
  repr : mg "repr" = none
/-- a def that stands under its name and keeps a promise -/
def Cal (P : Program) (w : World) (K : PySem.W.Frag) (mg : Str → Option Value) (base : Heap) (x : Str) (k : Nat) (ps : List Str) (sp : Sp) : Prop :=
  ∃ (f : Addr) (fd : FuncData), FnOk P w K mg base CX0 k f fd ps sp ∧ mg x = some (.ref f) ∧ PySem.W.keepIn K (.ref f) = true ∧ Binds K fd ps []
theorem Cal.mono {P : Program} {w : World} {K : PySem.W.Frag} {mg : Str → Option Value} {base : Heap} {x : Str} {j k : Nat} {ps : List Str} {sp : Sp} (C : Cal P w K mg base x j ps sp) (h : j ≤ k) : Cal P w K mg base x k ps sp := by
  obtain ⟨f, fd, F, r⟩ := C
  exact ⟨f, fd, F.mono h, r⟩
theorem pe_cal {X : Cx} {x : Str} {p pos : Pos} {e : Expr} {es : List Expr} {t : TA} {k : Nat} {ps : List Str} {sp : Sp} (C : Cal X.prog X.w X.K X.mg X.base x k ps sp) (hr : Room k X.A) (hg : Gl X x) (ha : PA X (e :: es) t)
    (hdb : (x == ("__debug__" : Str)) = false := by decide) (he : starEach (e :: es) X.env = (false, eval e X.env) :: starEach es X.env := by rfl) (hpl : ((backTo pos (starEach es X.env)).any fun x => x.fst) = false := by rfl) :
    PE X (.Call (.Name x p) (e :: es) [] pos) (tCall sp [] E0 t) := by
  obtain ⟨f, fd, F, hm, hk, hb⟩ := C
  exact pe_call F hr hg hm hk hb .nil pass0 ha hdb he hpl
/-! the kinds of data -/
def kindD : PyData → String
  | .none => "NoneType"
  | .bool _ => "bool"
  | .int _ => "int"
  | .str _ => "str"
  | .list _ => "list"
  | .tuple _ => "tuple"
  | .dict _ => "dict"
theorem ty_lst {K : PySem.W.Frag} {H : Hp} {a : Addr} {xs : List V} (h : SqL K H a xs) : TyX K H (.ref a) (.type "list") := by
  rcases h with (h | ⟨o, h⟩) | ⟨o, its, n, hk, hc, _⟩
  · exact .base (.lst h)
  · exact .base (.frz h)
  · exact .kList hk hc
theorem ty_tup {K : PySem.W.Frag} {H : Hp} {a : Addr} {xs : List V} (h : SqT K H a xs) : TyX K H (.ref a) (.type "tuple") := by
  rcases h with (h | ⟨o, h⟩) | ⟨o, its, n, hk, hc, _⟩
  · exact .base (.tup h)
  · exact .fTuple h
  · exact .kTuple hk hc
theorem ty_of {K : PySem.W.Frag} {H : Hp} {x : V} {d : PyData} (h : Dp K H x d) : TyX K H x (.type (kindD d)) := by
  cases h with
  | non => exact .base .non
  | bl b => exact .base (.bl b)
  | int i => exact .base (.int i)
  | str s => exact .base (.str s)
  | lst h _ => exact ty_lst h
  | dct h => exact .base (.dK h)
  | tup h _ => exact ty_tup h
def intD : PyData → Bool
  | .int _ => true
  | .bool _ => true
  | _ => false
def boolD : PyData → Bool
  | .bool _ => true
  | _ => false
def tupleD : PyData → Bool
  | .tuple _ => true
  | _ => false
theorem kit_int {K : PySem.W.Frag} (d : PyData) : PySem.W.kitOne K (.type (kindD d)) (.type "int") = some (intD d) := by
  cases d with
  | none => exact kit_ty (show kitB "NoneType" "int" = some false by decide +kernel)
  | bool _ => exact kit_ty (show kitB "bool" "int" = some true by decide +kernel)
  | int _ => exact kit_ty (show kitB "int" "int" = some true by decide +kernel)
  | str _ => exact kit_ty (show kitB "str" "int" = some false by decide +kernel)
  | list _ => exact kit_ty (show kitB "list" "int" = some false by decide +kernel)
  | tuple _ => exact kit_ty (show kitB "tuple" "int" = some false by decide +kernel)
  | dict _ => exact kit_ty (show kitB "dict" "int" = some false by decide +kernel)
theorem kit_bool {K : PySem.W.Frag} (d : PyData) : PySem.W.kitOne K (.type (kindD d)) (.type "bool") = some (boolD d) := by
  cases d with
  | none => exact kit_ty (show kitB "NoneType" "bool" = some false by decide +kernel)
  | bool _ => exact kit_ty (show kitB "bool" "bool" = some true by decide +kernel)
  | int _ => exact kit_ty (show kitB "int" "bool" = some false by decide +kernel)
  | str _ => exact kit_ty (show kitB "str" "bool" = some false by decide +kernel)
  | list _ => exact kit_ty (show kitB "list" "bool" = some false by decide +kernel)
  | tuple _ => exact kit_ty (show kitB "tuple" "bool" = some false by decide +kernel)
  | dict _ => exact kit_ty (show kitB "dict" "bool" = some false by decide +kernel)
theorem kit_tuple {K : PySem.W.Frag} (d : PyData) : PySem.W.kitOne K (.type (kindD d)) (.type "tuple") = some (tupleD d) := by
  cases d with
  | none => exact kit_ty (show kitB "NoneType" "tuple" = some false by decide +kernel)
  | bool _ => exact kit_ty (show kitB "bool" "tuple" = some false by decide +kernel)
  | int _ => exact kit_ty (show kitB "int" "tuple" = some false by decide +kernel)
  | str _ => exact kit_ty (show kitB "str" "tuple" = some false by decide +kernel)
  | list _ => exact kit_ty (show kitB "list" "tuple" = some false by decide +kernel)
  | tuple _ => exact kit_ty (show kitB "tuple" "tuple" = some true by decide +kernel)
  | dict _ => exact kit_ty (show kitB "dict" "tuple" = some false by decide +kernel)
theorem ifT {c : Bool} {A B : Prop} (e : c = true) (h : A) : if c = true then A else B := by rw [if_pos e]; exact h
theorem ifF {c : Bool} {A B : Prop} (e : c = false) (h : B) : if c = true then A else B := by rw [if_neg (by rw [e]; decide)]; exact h
def wholeD : PyData → Bool
  | .int _ => true
  | _ => false
def withinD (lo hi : Int) : PyData → Bool
  | .int i => decide (lo ≤ i) && decide (i ≤ hi)
  | _ => false
def tupD (lo hi : Int) : PyData → Bool
  | .tuple xs => decide (lo ≤ (xs.length : Int)) && decide ((xs.length : Int) ≤ hi)
  | _ => false
theorem dpAll_len {K : PySem.W.Frag} {H : Hp} : ∀ {xs : List V} {ds : List PyData}, DpAll K H xs ds → xs.length = ds.length
  | _, _, .nil => rfl
  | _, _, .cons _ t => by rw [List.length_cons, List.length_cons, dpAll_len t]
theorem dpAll_get {K : PySem.W.Frag} {H : Hp} : ∀ {xs : List V} {ds : List PyData} {i : Nat} {d : PyData}, DpAll K H xs ds → ds[i]? = some d → ∃ x, xs[i]? = some x ∧ Dp K H x d
  | _, _, 0, _, .cons h _, e => by cases e; exact ⟨_, rfl, h⟩
  | _, _, i + 1, _, .cons _ t, e => dpAll_get (i := i) t e
  | _, _, _, _, .nil, e => by cases e
theorem dpAll_get' {K : PySem.W.Frag} {H : Hp} : ∀ {xs : List V} {ds : List PyData} {i : Nat} {x : V}, DpAll K H xs ds → xs[i]? = some x → ∃ d, ds[i]? = some d ∧ Dp K H x d
  | _, _, 0, _, .cons h _, e => by cases e; exact ⟨_, rfl, h⟩
  | _, _, i + 1, _, .cons _ t, e => dpAll_get' (i := i) t e
  | _, _, _, _, .nil, e => by cases e
section
variable {P : Program} {w : World} {K : PySem.W.Frag} {mg : Str → Option Value} {base : Heap} {f : Addr} {fd : FuncData}
def spWhole (K : PySem.W.Frag) : Sp := fun vs H Q _ => ∃ (x : V) (d : PyData), vs = [x] ∧ Dp K H x d ∧ Q (.bl (wholeD d)) H
theorem scWhole : FnScope ["thing"] ["thing"] (defScope sWhole) := ⟨rfl, rfl, rfl, by decide +kernel, rfl, by decide +kernel, by decide +kernel⟩
theorem ok_whole {k : Nat} (F : Fun K "is_whole" "is_whole" sWhole f fd) (T : Free mg) : FnOk P w K mg base CX0 (k + 1) f fd ["thing"] (spWhole K) := by
  refine F.ok scWhole (fun vs H Q E h => ?_) (fun cdv A outer s H vs Q E hr h => ?_)
  · obtain ⟨x, d, rfl, _⟩ := h
    rfl
  obtain ⟨x, d, rfl, hx, q⟩ := h
  refine ⟨_, pss_one (ps_ret (pe_and (pe_callB call_isi rfl T.isi (by decide +kernel) (pa_cons (pv 0) (pa_cons (pe_bltn (v := .ty "int") rfl T.int (by decide +kernel) rfl) pa_nil)))
    (pe_one (pe_not (pe_callB call_isi rfl T.isi (by decide +kernel) (pa_cons (pv 0) (pa_cons (pe_bltn (v := .ty "bool") rfl T.bool (by decide +kernel) rfl) pa_nil))))))), ?_⟩
  have ht := ty_of hx
  refine ⟨_, rfl, x, _, _, _, _, rfl, .ty "int", ht, kit_int d, _, rfl, ?_⟩
  cases d with
  | int i => exact ifT rfl ⟨_, rfl, _, _, _, _, _, rfl, .ty "bool", ht, kit_bool _, _, rfl, q⟩
  | bool b => exact ifT rfl ⟨_, rfl, _, _, _, _, _, rfl, .ty "bool", ht, kit_bool _, _, rfl, q⟩
  | none => exact ifF rfl q
  | str _ => exact ifF rfl q
  | list _ => exact ifF rfl q
  | tuple _ => exact ifF rfl q
  | dict _ => exact ifF rfl q
/-! is_within -/
def spWithin (K : PySem.W.Frag) : Sp := fun vs H Q _ => ∃ (x : V) (d : PyData) (lo hi : Int), vs = [x, .int lo, .int hi] ∧ Dp K H x d ∧ Q (.bl (withinD lo hi d)) H
theorem scWithin : FnScope ["thing", "least", "most"] ["thing", "least", "most"] (defScope sWithin) := ⟨rfl, rfl, rfl, by decide +kernel, rfl, by decide +kernel, by decide +kernel⟩
theorem ok_within {k : Nat} (F : Fun K "is_within" "is_within" sWithin f fd) (cW : Cal P w K mg base "is_whole" k ["thing"] (spWhole K)) : FnOk P w K mg base CX0 (k + 1) f fd ["thing", "least", "most"] (spWithin K) := by
  refine F.ok scWithin (fun vs H Q E h => ?_) (fun cdv A outer s H vs Q E hr h => ?_)
  · obtain ⟨x, d, lo, hi, rfl, _⟩ := h
    rfl
  obtain ⟨x, d, lo, hi, rfl, hx, q⟩ := h
  refine ⟨_, pss_one (ps_ret (pe_and (pe_cal cW hr rfl (pa_cons (pv 0) pa_nil)) (pe_one (pe_chain op_le op_le (pv 1) (pv 0) (pv 2))))), ?_⟩
  refine ⟨_, rfl, x, d, rfl, hx, _, rfl, ?_⟩
  cases d with
  | int i =>
    cases hx
    refine ifT rfl ⟨_, rfl, _, rfl, _, _, rfl, rfl, _, rfl, ?_⟩
    have e : withinD lo hi (.int i) = (decide (lo ≤ i) && decide (i ≤ hi)) := rfl
    rw [e] at q
    by_cases c : lo ≤ i
    · refine ifT (decide_eq_true c) ⟨_, rfl, _, _, rfl, rfl, ?_⟩
      rw [decide_eq_true c, Bool.true_and] at q
      exact q
    · refine ifF (decide_eq_false c) ?_
      rw [decide_eq_false c, Bool.false_and] at q
      exact q
  | bool b => exact ifF rfl q
  | none => exact ifF rfl q
  | str _ => exact ifF rfl q
  | list _ => exact ifF rfl q
  | tuple _ => exact ifF rfl q
  | dict _ => exact ifF rfl q
/-! is_tuple -/
end
theorem atI_at {α : Type} {xs : List α} {i : Int} {v : α} (h0 : 0 ≤ i) (h : xs[i.toNat]? = some v) : atI xs i = some v := by
  have q := atI_nat h
  rw [show ((i.toNat : Nat) : Int) = i by omega] at q
  exact q
/-! heaps: what stands, but for the state's list -/
def StOk (x y z : Int) : Prop := 0 ≤ x ∧ 0 ≤ y ∧ y < 4294967296
def StAt (H : Hp) (st : Addr) : Prop := ∃ x y z, H st = some (.lst [.int x, .int y, .int z]) ∧ StOk x y z
def Kp (st : Addr) (H H' : Hp) : Prop := ∀ b u, b ≠ st → H b = some u → H' b = some u
structure Mv (st : Addr) (H H' : Hp) : Prop where
  kp : Kp st H H'
  sa : StAt H' st
/-- what is no list stands -/
def KT (H H' : Hp) : Prop := ∀ b u, H b = some u → (∀ l, u ≠ .lst l) → H' b = some u
theorem Kp.refl (st : Addr) (H : Hp) : Kp st H H := fun _ _ _ h => h
theorem Kp.trans {st : Addr} {H H1 H2 : Hp} (a : Kp st H H1) (b : Kp st H1 H2) : Kp st H H2 := fun c u n h => b c u n (a c u n h)
theorem Kp.of_same {st : Addr} {H H' : Hp} (a : Same H H') : Kp st H H' := fun c u _ h => a c u h
theorem KT.refl (H : Hp) : KT H H := fun _ _ h _ => h
theorem KT.trans {H H1 H2 : Hp} (a : KT H H1) (b : KT H1 H2) : KT H H2 := fun c u h n => b c u (a c u h n) n
theorem KT.of_same {H H' : Hp} (a : Same H H') : KT H H' := fun c u h _ => a c u h
theorem Kp.kt {st : Addr} {H H' : Hp} (k : Kp st H H') (s : StAt H st) : KT H H' := fun b u h n => k b u (fun e => by
  obtain ⟨x, y, z, hs, _⟩ := s
  rw [e, hs] at h
  cases h
  exact n _ rfl) h
theorem KT.upd {H : Hp} {p : Addr} {l l' : List V} (h : H p = some (.lst l)) : KT H (upd H p (.lst l')) := fun b u hb n => by
  by_cases e : b = p
  · subst e
    rw [h] at hb
    cases hb
    exact absurd rfl (n l)
  · rw [upd_ne e]
    exact hb
theorem same_new {H : Hp} {p : Addr} (h : H p = none) (o : HO) : Same H (upd H p o) := fun b u q => by rw [upd_ne (ne_of_none q h)]; exact q
theorem Kp.upd {st : Addr} {H0 H : Hp} {p : Addr} {o : HO} (k : Kp st H0 H) (h : H0 p = none) : Kp st H0 (upd H p o) := fun b u n hb => by
  rw [upd_ne (ne_of_none hb h)]
  exact k b u n hb
theorem Kp.free {st : Addr} {H H' : Hp} (k : Kp st H H') {p : Addr} (n : p ≠ st) (h : H' p = none) : H p = none := by
  cases e : H p with
  | none => rfl
  | some u =>
    rw [k p u n e] at h
    cases h
theorem StAt.some {H : Hp} {st : Addr} (s : StAt H st) : ∃ l, H st = some (.lst l) := by
  obtain ⟨x, y, z, h, _⟩ := s
  exact ⟨_, h⟩
theorem StAt.ne {H : Hp} {st p : Addr} (s : StAt H st) (h : H p = none) : p ≠ st := fun e => by
  obtain ⟨l, hs⟩ := s.some
  rw [e, hs] at h
  cases h
theorem StAt.same {H H' : Hp} {st : Addr} (s : StAt H st) (k : Same H H') : StAt H' st := by
  obtain ⟨x, y, z, h, ok⟩ := s
  exact ⟨x, y, z, k _ _ h, ok⟩
theorem StAt.upd {H : Hp} {st p : Addr} {o : HO} (s : StAt H st) (n : p ≠ st) : StAt (upd H p o) st := by
  obtain ⟨x, y, z, h, ok⟩ := s
  exact ⟨x, y, z, by rw [upd_ne n.symm]; exact h, ok⟩
/-! data that is tuples, ints and texts alone -/
mutual
def tupOnly : PyData → Bool
  | .int _ | .str _ => true
  | .tuple xs => tupOnlyAll xs
  | _ => false
def tupOnlyAll : List PyData → Bool
  | [] => true
  | x :: r => tupOnly x && tupOnlyAll r
end
theorem sqT_kt {K : PySem.W.Frag} {H H' : Hp} {a : Addr} {xs : List V} (k : KT H H') (h : SqT K H a xs) : SqT K H' a xs := by
  rcases h with (h | ⟨o, h⟩) | h
  · exact .inl (.inl (k _ _ h (fun l z => by cases z)))
  · exact .inl (.inr ⟨o, k _ _ h (fun l z => by cases z)⟩)
  · exact .inr h
mutual
theorem dp_kt {K : PySem.W.Frag} {H H' : Hp} (k : KT H H') : ∀ (d : PyData) (v : V), tupOnly d = true → Dp K H v d → Dp K H' v d
  | .int i, v, _, h => by cases h; exact .int i
  | .str x, v, _, h => by cases h; exact .str x
  | .tuple ds, v, t, h => by
    cases h with
    | tup hs ha => exact .tup (sqT_kt k hs) (dpAll_kt k ds _ (by simpa only [tupOnly] using t) ha)
  | .none, v, t, h => by simp [tupOnly] at t
  | .bool _, v, t, h => by simp [tupOnly] at t
  | .list _, v, t, h => by simp [tupOnly] at t
  | .dict _, v, t, h => by simp [tupOnly] at t
theorem dpAll_kt {K : PySem.W.Frag} {H H' : Hp} (k : KT H H') : ∀ (ds : List PyData) (vs : List V), tupOnlyAll ds = true → DpAll K H vs ds → DpAll K H' vs ds
  | [], vs, _, h => by cases h; exact .nil
  | d :: ds, vs, t, h => by
    simp only [tupOnlyAll, Bool.and_eq_true] at t
    cases h with
    | cons h1 h2 => exact .cons (dp_kt k d _ t.1 h1) (dpAll_kt k ds _ t.2 h2)
end
theorem dpAll_snoc {K : PySem.W.Frag} {H : Hp} {v : V} {d : PyData} (h : Dp K H v d) : ∀ {vs : List V} {ds : List PyData}, DpAll K H vs ds → DpAll K H (vs ++ [v]) (ds ++ [d])
  | _, _, .nil => .cons h .nil
  | _, _, .cons a t => .cons a (dpAll_snoc h t)
theorem dpAll_append {K : PySem.W.Frag} {H : Hp} {ws : List V} {es : List PyData} (h : DpAll K H ws es) : ∀ {vs : List V} {ds : List PyData}, DpAll K H vs ds → DpAll K H (vs ++ ws) (ds ++ es)
  | _, _, .nil => h
  | _, _, .cons a t => .cons a (dpAll_append h t)
theorem tupOnly_snoc : ∀ {ds : List PyData} {d : PyData}, tupOnlyAll ds = true → tupOnly d = true → tupOnlyAll (ds ++ [d]) = true
  | [], d, _, h => by simp [tupOnlyAll, h]
  | x :: r, d, t, h => by
    simp only [tupOnlyAll, Bool.and_eq_true, List.cons_append] at *
    exact ⟨t.1, tupOnly_snoc t.2 h⟩
theorem small {n : Nat} (h : n ≤ 1000) : n ≤ sizeLine := Nat.le_of_lt (small1000 h)
section
variable {P : Program} {w : World} {K : PySem.W.Frag} {mg : Str → Option Value} {base : Heap} {f : Addr} {fd : FuncData}
/-! _law_cell_at -/
def spCell (K : PySem.W.Frag) : Sp := fun vs H Q _ => ∃ (a : Addr) (ns : List Int) (i : Int), vs = [.ref a, .int i] ∧ SqL K H a (ns.map V.int) ∧ 0 ≤ i ∧ ∀ n : Int, Q (.int n) H
theorem scCell : FnScope ["_law_script", "_law_k"] ["_law_script", "_law_k"] (defScope sCell) := ⟨rfl, rfl, rfl, by decide +kernel, rfl, by decide +kernel, by decide +kernel⟩
theorem ok_cell {k : Nat} (F : Fun K "_law_cell_at" "_law_cell_at" sCell f fd) (T : Free mg) : FnOk P w K mg base CX0 (k + 1) f fd ["_law_script", "_law_k"] (spCell K) := by
  refine F.ok scCell (fun vs H Q E h => ?_) (fun cdv A outer s H vs Q E hr h => ?_)
  · obtain ⟨a, ns, i, rfl, _⟩ := h
    rfl
  obtain ⟨a, ns, i, rfl, hs, h0, q⟩ := h
  refine ⟨_, pss_cons (ps_if (pt_cmpR op_lt (pv 1) (pe_callB call_len_seq rfl T.len PySem.boot_len (pa_cons (pv 0) pa_nil)) (nomark _)) (pss_one (ps_ret (pe_ix ix_list (pv 0) (pv 1) (fun _ _ => rfl)))) pss_nil) (pss_one (ps_ret pe_int)), ?_⟩
  refine ⟨_, rfl, _, rfl, a, _, rfl, .inl hs, _, _, rfl, rfl, _, rfl, ?_⟩
  refine ite2 (fun c => ?_) (fun c => q 0)
  have c : i < (((ns.map V.int).length : Nat) : Int) := of_decide_eq_true c
  have hk : i.toNat < ns.length := by rw [List.length_map] at c; omega
  exact ⟨_, rfl, _, rfl, a, _, i, .int ns[i.toNat], rfl, rfl, hs, atI_at h0 (by rw [List.getElem?_map, List.getElem?_eq_getElem hk] <;> rfl), q _⟩
/-! _law_state -/
def spState (K : PySem.W.Frag) : Sp := fun vs H Q _ => ∃ (a : Addr) (ns : List Int) (i : Int), vs = [.ref a, .int i] ∧ SqL K H a (ns.map V.int) ∧ 0 ≤ i ∧ ∀ p x y z, H p = none → StOk x y z → Q (.ref p) (upd H p (.lst [.int x, .int y, .int z]))
theorem scState : FnScope ["_law_script", "_law_k", "_law_cell"] ["_law_script", "_law_k"] (defScope sState) := ⟨rfl, rfl, rfl, by decide +kernel, rfl, by decide +kernel, by decide +kernel⟩
theorem ok_state {k : Nat} (F : Fun K "_law_state" "_law_state" sState f fd) (T : Free mg) (cC : Cal P w K mg base "_law_cell_at" k ["_law_script", "_law_k"] (spCell K)) : FnOk P w K mg base CX0 (k + 1) f fd ["_law_script", "_law_k"] (spState K) := by
  refine F.ok scState (fun vs H Q E h => ?_) (fun cdv A outer s H vs Q E hr h => ?_)
  · obtain ⟨a, ns, i, rfl, _⟩ := h
    rfl
  obtain ⟨a, ns, i, rfl, hs, h0, q⟩ := h
  refine ⟨_, pss_cons (ps_set (i := 2) scState.nd rfl (.inl rfl) (pe_cal cC hr rfl (pa_cons (pv 0) (pa_cons (pv 1) pa_nil))))
    (pss_one (ps_ret (pe_lst (pa_cons (pe_callB (call_max2 rfl) rfl T.max (by decide +kernel) (pa_cons pe_int (pa_cons (pe_op op_sub (pv 2) (pe_op op_pow pe_int pe_int)) pa_nil)))
      (pa_cons (pe_op op_add (pe_op op_mod (pv 2) pe_int) pe_int) (pa_cons pe_int pa_nil)))))), ?_⟩
  refine ⟨_, rfl, _, rfl, a, ns, i, rfl, hs, h0, fun n => ?_⟩
  refine ⟨_, rfl, _, _, rfl, rfl, ⟨by decide, by decide, by decide⟩, _, _, rfl, rfl, _, _, rfl, ?_⟩
  refine ⟨_, rfl, _, _, rfl, rfl, (by show (0 : Int) < 2147483629; decide), _, _, rfl, rfl, small (by show 3 ≤ 1000; decide), fun p hp => ?_⟩
  refine q p _ _ _ hp ⟨?_, ?_, ?_⟩
  · split <;> omega
  · have := Int.emod_nonneg n (show (2147483629 : Int) ≠ 0 by decide)
    omega
  · have := Int.emod_lt_of_pos n (show (0 : Int) < 2147483629 by decide)
    omega
/-! _law_choice -/
def spChoice : Sp := fun vs H Q _ => ∃ (st : Addr) (many : Int), vs = [.ref st, .int many] ∧ StAt H st ∧ 0 < many ∧ many < 1000000 ∧ ∀ r H', 0 ≤ r → r < many → Mv st H H' → Q (.int r) H'
theorem scChoice : FnScope ["_law_state_here", "_law_many_here", "_law_found", "_law_mixed"] ["_law_state_here", "_law_many_here"] (defScope sChoice) := ⟨rfl, rfl, rfl, by decide +kernel, rfl, by decide +kernel, by decide +kernel⟩
theorem mv_upd {H : Hp} {st : Addr} {x y z : Int} (ok : StOk x y z) : Mv st H (upd H st (.lst [.int x, .int y, .int z])) :=
  ⟨fun b u n h => by rw [upd_ne n]; exact h, ⟨x, y, z, upd_same, ok⟩⟩
theorem ok_choice {k : Nat} (F : Fun K "_law_choice" "_law_choice" sChoice f fd) : FnOk P w K mg base CX0 (k + 1) f fd ["_law_state_here", "_law_many_here"] spChoice := by
  refine F.ok scChoice (fun vs H Q E h => ?_) (fun cdv A outer s H vs Q E hr h => ?_)
  · obtain ⟨st, many, rfl, _⟩ := h
    rfl
  obtain ⟨st, many, rfl, ⟨x, y, z, hst, hx, hy, hy2⟩, h0, hm, q⟩ := h
  refine ⟨_, pss_cons (ps_if (pt_cmpR op_gt (pe_ix ix_list (pv 0) pe_int (fun _ _ => rfl)) pe_int (nomark _))
      (pss_cons (ps_set (i := 2) scChoice.nd rfl (.inl rfl) (pe_op op_mod (pe_ix ix_list (pv 0) pe_int (fun _ _ => rfl)) (pv 1)))
      (pss_cons (ps_asg (pe_op op_fdiv (pe_ix ix_list (pv 0) pe_int (fun _ _ => rfl)) (pv 1)) (pg_sub (pv 0) pe_int set_list))
      (pss_one (ps_ret (pv 2))))) pss_nil)
    (pss_cons (ps_asg (pe_op op_add (pe_ix ix_list (pv 0) pe_int (fun _ _ => rfl)) pe_int) (pg_sub (pv 0) pe_int set_list))
    (pss_cons (ps_asg (pe_op op_mod (pe_op op_add (pe_op op_add (pe_op op_mul (pe_ix ix_list (pv 0) pe_int (fun _ _ => rfl)) pe_int) pe_int) (pe_ix ix_list (pv 0) pe_int (fun _ _ => rfl))) pe_int) (pg_sub (pv 0) pe_int set_list))
    (pss_cons (ps_set (i := 3) scChoice.nd rfl (.inl rfl) (pe_op op_mod (pe_op op_add (pe_op op_add (pe_op op_mul (pe_ix ix_list (pv 0) pe_int (fun _ _ => rfl)) (pe_ix ix_list (pv 0) pe_int (fun _ _ => rfl))) (pe_op op_mul pe_int (pe_ix ix_list (pv 0) pe_int (fun _ _ => rfl)))) pe_int) pe_int))
    (pss_cons (ps_set (i := 3) scChoice.nd rfl (.inl rfl) (pe_op op_mod (pe_op op_add (pe_op op_mul (pv 3) (pv 3)) (pe_op op_mul pe_int (pv 3))) pe_int))
    (pss_one (ps_ret (pe_op op_mod (pe_op op_fdiv (pv 3) pe_int) (pv 1)))))))), ?_⟩
  have rd : ∀ {H : Hp} {x y z : Int}, H st = some (.lst [.int x, .int y, .int z]) → SqL K H st [.int x, .int y, .int z] := fun h => SqL.of h
  refine ⟨_, rfl, st, _, 0, _, rfl, rfl, rd hst, rfl, _, _, rfl, rfl, _, rfl, ?_⟩
  refine ite2 (fun c => ?_) (fun c => ?_)
  · refine ⟨_, rfl, st, _, 0, _, rfl, rfl, rd hst, rfl, _, rfl, _, _, rfl, rfl, h0, ?_⟩
    refine ⟨_, rfl, st, _, 0, _, rfl, rfl, rd hst, rfl, _, rfl, _, _, rfl, rfl, ⟨h0, by omega⟩, ?_⟩
    refine ⟨_, rfl, st, _, 0, 0, rfl, rfl, hst, rfl, ?_⟩
    refine ⟨_, rfl, q _ _ (Int.emod_nonneg x (by omega)) (Int.emod_lt_of_pos x h0) (mv_upd (x := x / many) (y := y) (z := z) ⟨Int.ediv_nonneg hx (by omega), hy, hy2⟩)⟩
  · refine ⟨_, rfl, st, _, 2, _, rfl, rfl, rd hst, rfl, _, _, rfl, rfl, ?_⟩
    refine ⟨_, rfl, st, _, 2, 2, rfl, rfl, hst, rfl, ?_⟩
    refine ⟨_, rfl, st, _, 1, _, rfl, rfl, rd upd_same, rfl, _, _, rfl, rfl, .inl ⟨by omega, by omega⟩, _, _, rfl, rfl, _, rfl, st, _, 2, _, rfl, rfl, rd upd_same, rfl, _, _, rfl, rfl, _, _, rfl, rfl, (by show (0 : Int) < 2147483647; decide), ?_⟩
    refine ⟨_, rfl, st, _, 1, 1, rfl, rfl, upd_same, rfl, ?_⟩
    rw [upd_upd]
    have b1 := Int.emod_nonneg (y * 48271 + 29 + (z + 1)) (show (2147483647 : Int) ≠ 0 by decide)
    have b2 := Int.emod_lt_of_pos (y * 48271 + 29 + (z + 1)) (show (0 : Int) < 2147483647 by decide)
    generalize hv : (y * 48271 + 29 + (z + 1)) % 2147483647 = v at b1 b2
    show tSeq _ _ _ _ (upd H st (.lst [.int x, .int ((y * 48271 + 29 + (z + 1)) % 2147483647), .int (z + 1)]))
    rw [hv]
    refine ⟨_, rfl, st, _, 1, _, rfl, rfl, rd upd_same, rfl, _, rfl, st, _, 1, _, rfl, rfl, rd upd_same, rfl, _, _, rfl, rfl, .inl ⟨by omega, by omega⟩, _, rfl, st, _, 1, _, rfl, rfl, rd upd_same, rfl, _, _, rfl, rfl, .inl ⟨by decide, by decide⟩, _, _, rfl, rfl, _, _, rfl, rfl, _, _, rfl, rfl, (by show (0 : Int) < 2147483629; decide), ?_⟩
    have c1 := Int.emod_nonneg (v * v + 39373 * v + 7) (show (2147483629 : Int) ≠ 0 by decide)
    have c2 := Int.emod_lt_of_pos (v * v + 39373 * v + 7) (show (0 : Int) < 2147483629 by decide)
    refine ⟨_, rfl, _, rfl, _, _, rfl, rfl, .inl ⟨by omega, by omega⟩, _, rfl, _, _, rfl, rfl, .inl ⟨by decide, by decide⟩, _, _, rfl, rfl, _, _, rfl, rfl, (by show (0 : Int) < 2147483587; decide), ?_⟩
    refine ⟨_, rfl, _, _, rfl, rfl, ⟨by decide, by decide⟩, _, rfl, _, _, rfl, rfl, h0, ?_⟩
    exact q _ _ (Int.emod_nonneg _ (by omega)) (Int.emod_lt_of_pos _ h0) (mv_upd ⟨hx, b1, by omega⟩)
end
section
open PySem.Spec PyProof.Rows LamX
theorem okC {P : Program} {w : World} {K : PySem.W.Frag} {mg : Str → Option Value} {base : Heap} {x qual : Str} {st : Stmt} {f c : Addr} {fd : FuncData} {N ps : List Str} {k : Nat} {sp : Sp} (F : Fun K x qual st f fd) (hc : fd.code = .ref c) (S : FnScope N ps (defScope st)) (len : ∀ vs H Q E, sp vs H Q E → vs.length = ps.length)
    (hbody : ∀ (A : Around) (outer : List Env) (s : Shared) (H : Hp) (vs : List V) (Q : VK) (E : XK), Room k (A.deeper (envOfC qual (defScope st) s.heap.objs.size f (.ref c))) → sp vs H Q E →
      ∃ t, PSs (cxOf CX0 P w K mg base N qual (defScope st) f (.ref c) A outer s H E).nox (defBody st) t ∧ t { nx := fun _ H' => Q .non H', rt := Q } (L2.start N vs) H) : FnOk P w K mg base CX0 (k + 1) f fd ps sp := by
  obtain ⟨oc, od, kV, doc, pm, an, cdv, ct, osl, rfl, lk, hcd⟩ := F.ex
  obtain rfl : cdv = .ref c := hc
  refine fn_of lk hcd S len fun A outer s H vs Q E hr hsp => ?_
  obtain ⟨t, h, q⟩ := hbody A outer s H vs Q E hr hsp
  exact ⟨t, h.nox, q⟩
mutual
theorem dp_ext {K : PySem.W.Frag} {H H' : Hp} (e : ExtN H H') : ∀ (d : PyData) (v : V), Dp K H v d → Dp K H' v d
  | .none, v, h => by cases h; exact .non
  | .bool b, v, h => by cases h; exact .bl b
  | .int i, v, h => by cases h; exact .int i
  | .str x, v, h => by cases h; exact .str x
  | .list es, v, h => by
    cases h with
    | lst at_ each =>
      refine .lst ?_ (dp_exts e es _ each)
      rcases at_ with (z | ⟨o, z⟩) | z
      · exact .inl (.inl (e _ _ z fun ps q => by cases q))
      · exact .inl (.inr ⟨o, e _ _ z fun ps q => by cases q⟩)
      · exact .inr z
  | .tuple es, v, h => by
    cases h with
    | tup at_ each =>
      refine .tup ?_ (dp_exts e es _ each)
      rcases at_ with (z | ⟨o, z⟩) | z
      · exact .inl (.inl (e _ _ z fun ps q => by cases q))
      · exact .inl (.inr ⟨o, e _ _ z fun ps q => by cases q⟩)
      · exact .inr z
  | .dict kvs, v, h => by
    cases h with
    | dct at_ => exact .dct (e _ _ at_ fun ps q => by cases q)
theorem dp_exts {K : PySem.W.Frag} {H H' : Hp} (e : ExtN H H') : ∀ (ds : List PyData) (vs : List V), DpAll K H vs ds → DpAll K H' vs ds
  | [], vs, h => by cases h; exact .nil
  | d :: ds, vs, h => by
    cases h with
    | cons one more => exact .cons (dp_ext e d _ one) (dp_exts e ds _ more)
end
theorem tabs_upd {T : List (Addr × Str)} {H : Hp} {fa : Addr} {l l' : List V} (t : Tabs T H) (h : H fa = some (.lst l)) : Tabs T (upd H fa (.lst l')) := by
  intro p hp
  obtain ⟨ps, h1, h2, h3⟩ := t p hp
  refine ⟨ps, ?_, h2, fun pos cv hc => ?_⟩
  · rw [upd_ne (show p.1 ≠ fa from fun z => by rw [z, h] at h1; cases h1)]
    exact h1
  · obtain ⟨c, e1, e2⟩ := h3 pos cv hc
    refine ⟨c, e1, ?_⟩
    rw [upd_ne (show c ≠ fa from fun z => by rw [z, h] at e2; cases e2)]
    exact e2
theorem ext_upd {H0 H : Hp} {fa : Addr} {o : HO} (e : ExtN H0 H) (h : ∀ u, H0 fa = some u → ∃ ps, u = .tbl ps) : ExtN H0 (upd H fa o) := fun b u hb n => by
  have nb : b ≠ fa := fun z => by
    rw [z] at hb
    obtain ⟨ps, q⟩ := h u hb
    exact n ps q
  rw [upd_ne nb]
  exact e b u hb n
theorem ext_lst {H H' : Hp} {p : Addr} {l : List V} (e : ExtN H H') (h : H p = some (.lst l)) : H' p = some (.lst l) := e _ _ h fun ps q => by cases q
theorem ext_same {H H' : Hp} (s : Same H H') : ExtN H H' := fun b o h _ => s b o h
end
/-! all(.. for ..) and any(.. for ..), whatever is walked, the element may call defs -/
section
open PySem.Spec PyProof.Rows
/-- the generator expression's own frame, woken from the frames of X -/
def gxCx (X : Cx) (A : Around) (s : Shared) (H : Hp) (ce : Env) (fp : List Addr) (pn : List (Addr × Obj)) : Cx where
  prog := X.prog
  w := X.w
  K := X.K
  mg := X.mg
  base := X.base
  A := A
  N := X.N
  s_0 := s
  H_0 := H
  env := ce
  outer := X.stack
  stack := ce :: X.stack
  ex := fp
  fn := fun _ => false
  calm := true
  pn := pn
  xe := fun _ _ => False
theorem inv_sh {X : Cx} {pins : List (Addr × Obj)} {σ : L2.St} {H : Hp} {s s' : Shared} (I : Inv X pins σ H s) (h1 : s'.heap = s.heap) (h2 : s'.os = s.os) (h3 : AllBare s'.gens) : Inv X pins σ H s' :=
  ⟨I.ok, h2.trans I.os, h3, by rw [h1]; exact I.base, by rw [h1]; exact I.loc, by rw [h1]; exact I.cell, I.free, I.freeC, by rw [h1]; exact I.pin, by rw [h1]; exact I.hok, I.len⟩
section
variable {X : Cx} {pins : List (Addr × Obj)} {σ : L2.St} {H : Hp} {s : Shared}
theorem gx_start {A : Around} {scope : Scope} {own : List (Str × Nat)} {fp : List Addr} {code : Value} {a : Addr} {go : Obj} {h5 : Heap} {g5 : Array GenState} {t5 : Nat} {m0 : Str → Option Value}
    (I : Inv X pins σ H s) (hN : X.N.Nodup) (ok : BlkOk X.N X.env.scope scope own) (nocell : ∀ y ∈ scope.names, y.2 ≠ .cell) (hA : A.handled = none)
    (hfr : A.frames = some (genEnv scope (cloFrom X.env.cells scope.names []) s.heap.objs.size code builtinsNs X.env :: X.stack)) (hfp : ∀ b ∈ fp, FpOk X pins H b ∧ b < s.heap.objs.size)
    (hns : h5.Ns s.heap.objs.size m0) (kp : ∀ b o, s.heap.get? b = some o → h5.get? b = some o) (hgo : h5.get? a = some go) (ha : s.heap.objs.size < a) (hgd : ∀ v, go.data ≠ .cell v) (hg : AllBare g5) :
    Inv (gxCx X A s H (genEnv scope (cloFrom X.env.cells scope.names []) s.heap.objs.size code builtinsNs X.env) fp [(a, go)]) [] (wipe σ (own.map (·.2))) H { s with heap := h5, gens := g5, toks := t5 } := by
  have cm : ∀ {y c}, (cloFrom X.env.cells scope.names []).lookup y = some c → X.env.cells.lookup y = some c := fun {y c} e => by
    rcases cloFrom_mem (PySem.mem_of_lookup e) with hm | ⟨h1, h2⟩
    · cases hm
    · have hy : ∃ c1, X.env.cells.lookup y = some c1 := by
        rcases ok.free _ h1 rfl with k | k
        · exact I.ok.has _ (.inl k)
        · exact I.ok.has _ (.inr k)
      obtain ⟨c1, hc⟩ := hy
      have e2 : c = c1 := by
        rw [h2, hc] <;> rfl
      rw [e2]
      exact hc
  have look : ∀ {y}, scope.names.lookup y = some .free → ∃ c, (cloFrom X.env.cells scope.names []).lookup y = some c := fun {y} hl =>
    mem_lookup (cloFrom_has (cells := X.env.cells) (acc := []) (PySem.mem_of_lookup hl : (y, NameKind.free) ∈ scope.names))
  have cellK : ∀ {c : Addr} {v : Option Value}, s.heap.IsCell c v → h5.IsCell c v := fun {c v} ⟨o, ho, hd⟩ => ⟨o, kp _ _ ho, hd⟩
  refine ⟨⟨I.ok.mod, ok.kind, I.ok.glob, rfl, Nat.le_refl _, fun y z c e1 e2 => I.ok.inj y z c (cm e1) (cm e2), fun y hy => ?_, fun y c z _ => ?_, fun _ => hA, hfr, .inr ⟨rfl, rfl⟩, fun b hb => ⟨?_, fun y c e => ?_⟩, I.bs, Nat.le_trans I.ok.bsz I.sz, fun b o e hb => ?_, fun b hb z => ?_, I.stack, I.stkFree⟩,
    rfl, hg, Un.kept kp, ⟨m0, hns, fun i y v e1 e2 e3 => ?_⟩, fun y c e => ?_, I.hok.fresh (Nat.le_refl _), fun y c e => I.freeC y c (cm e), fun p hp => ?_, I.hok.kept kp, ?_⟩
  · have hy : scope.names.lookup y = some .cell ∨ scope.names.lookup y = some .free := hy
    rcases hy with hy | hy
    · exact absurd rfl (nocell _ (PySem.mem_of_lookup hy))
    · exact look hy
  · have z : false = true := z
    cases z
  · exact Nat.ne_of_lt (hfp b hb).2
  · exact (hfp b hb).1.2.2.2.2.1 y c (cm e)
  · rcases (hfp b hb).1.2.2.2.1 with z | z
    · exact I.ok.noex b o e z
    · have h1 : b < X.base.objs.size := Heap.lt_size e
      exact absurd (Nat.lt_of_lt_of_le h1 (Nat.le_trans I.ok.bsz z)) (Nat.lt_irrefl _)
  · rcases List.mem_cons.mp (I.stkSub b z) with z | z
    · exact (hfp b hb).1.2.1 z
    · exact (hfp b hb).1.2.2.1 z
  · obtain ⟨e2, nv⟩ := wipe_some e2
    have e3 : Vis scope y := e3
    rcases e3 with k | k | k
    · rcases ok.own _ (PySem.mem_of_lookup k) (.inl rfl) with z | z
      · obtain ⟨p, hp, ep⟩ := List.mem_map.mp z
        have e4 := ok.ix p hp
        rw [show p.1 = y from ep] at e4
        exact absurd (List.mem_map.mpr ⟨p, hp, nodup_ix hN e4 e1⟩) nv
      · exact absurd (List.mem_of_getElem? e1) z
    · exact absurd rfl (nocell _ (PySem.mem_of_lookup k))
    · obtain ⟨m, hn, hl⟩ := I.loc
      have hvis : Vis X.env.scope y := (ok.free _ (PySem.mem_of_lookup k) rfl).elim (fun k => .inr (.inl k)) (fun k => .inr (.inr k))
      obtain ⟨u, r, q⟩ := hl i y v e1 e2 hvis
      obtain ⟨c2, h2⟩ := look k
      refine ⟨u, r, .inr ⟨.inr k, c2, h2, ?_⟩⟩
      have c1 := cm h2
      rcases q with ⟨k', _⟩ | ⟨_, c3, e', z⟩
      · have k' : X.env.scope.names.lookup y = some .local := k'
        rcases ok.free _ (PySem.mem_of_lookup k) rfl with k2 | k2 <;> rw [show X.env.scope.names.lookup y = _ from k2] at k' <;> cases k'
      · rw [c1] at e'
        cases e'
        exact cellK z
  · obtain ⟨u, z⟩ := I.cell y c (cm e)
    exact ⟨u, cellK z⟩
  · have hp : p ∈ [(a, go)] ++ [] := hp
    rw [List.append_nil] at hp
    rw [List.mem_singleton.mp hp]
    refine ⟨hgo, I.hok.fresh (Nat.le_of_lt ha), Nat.ne_of_gt ha, fun z => ?_, hgd⟩
    rcases List.mem_cons.mp (I.stkSub a z) with z | z
    · have h1 := I.lt
      rw [z] at ha
      exact absurd (Nat.lt_trans ha h1) (Nat.lt_irrefl _)
    · exact I.nofs (Nat.le_of_lt ha) z
  · rw [wipe_length]
    exact I.len
end
/-- what stands where the generator ends, and where it hands out a truth -/
def GxE (Z : Cx) (σ0 : L2.St) (Qe : Hp → Prop) : Nat → Shared → Shared → Prop := fun _ _ s1 => ∃ H, Inv Z [] σ0 H s1 ∧ Qe H
def GxY (Z : Cx) (e : Bool) (Qn : Hp → Prop) : Protocol := fun _ _ v s kap => ∃ (c : Bool) (H : Hp) (σ' : L2.St), v = .bool c ∧ Inv Z [] σ' H s ∧ (c = e → ∀ s' : Shared, s'.heap = s.heap → s'.os = s.os → AllBare s'.gens → kap (.send .none) s') ∧ (c ≠ e → Qn H)
abbrev gxTurn (J : It) (g : TG) (tt : TT) (te : TE) (vs : List Nat) (σ0 : L2.St) (e : Bool) (Qe Qn : Hp → Prop) (W : Nat → Nat → Hp → Prop) : Prop :=
  ∀ i m H, W i m H → (J.stop i H ∧ Qe H) ∨ (J.go i H ∧ ∃ Nx : Hp → Prop, (∀ H', Nx H' → ∃ m', m' < m ∧ W (i + 1) m' H') ∧ ∀ x H', J.yld i H x H' → g x σ0 H' fun σ2 H2 => wipe σ2 vs = σ0 ∧ tt σ2 H2 fun b H3 =>
    if b = true then te σ2 H3 fun y H4 => ∃ c, y = .bl c ∧ (c = e → Nx H4) ∧ (c ≠ e → Qn H4) else Nx H3)
section
variable {X : Cx} {A0 : Around} {s1 : Shared} {H1 : Hp} {ce : Env} {fp : List Addr} {pn : List (Addr × Obj)} {elt tg iter : Expr} {ifs : List Expr} {scope : Scope} {gpos : Pos} {it : Addr} {tn : Nat → Heap → Prop} {J : It} {g : TG} {tt : TT} {te : TE} {vs : List Nat} {σ0 : L2.St} {e : Bool} {Qe Qn : Hp → Prop} {W : Nat → Nat → Hp → Prop}
abbrev gxCode (elt tg iter : Expr) (ifs : List Expr) (scope : Scope) (gpos : Pos) (it : Addr) (ce : Env) : Code := .compLoop (.GeneratorExp elt [⟨tg, iter, ifs, 0⟩] scope gpos) 0 (.ref it) .none ce
abbrev gxZ (X : Cx) (A0 : Around) (s1 : Shared) (H1 : Hp) (ce : Env) (fp : List Addr) (pn : List (Addr × Obj)) (elt tg iter : Expr) (ifs : List Expr) (scope : Scope) (gpos : Pos) (it : Addr) : Cx := gxCx X (A0.over (gxCode elt tg iter ifs scope gpos it ce) []) s1 H1 ce fp pn
theorem gx_fp {Z : Cx} (hZ : Z = gxZ X A0 s1 H1 ce fp pn elt tg iter ifs scope gpos it) (hpn : ∀ p ∈ pn, p.1 ∉ fp) {σ' : L2.St} {H' : Hp} {s' : Shared} (I : Inv Z [] σ' H' s') (hn : ∀ b ∈ fp, H' b = none) : ∀ b ∈ fp, FpOk Z [] H' b := by
  subst hZ
  intro b hb
  refine ⟨hn b hb, (I.ok.exf b hb).1, I.ok.exfs b hb, .inl hb, fun x c e => (I.ok.exf b hb).2 x c e, fun p hp z => ?_⟩
  have hp : p ∈ pn := by
    rcases List.mem_append.mp hp with hp | hp
    · exact hp
    · cases hp
  exact hpn p hp (by rw [z]; exact hb)
theorem seg_gx {Z : Cx} (hZ : Z = gxZ X A0 s1 H1 ce fp pn elt tg iter ifs scope gpos it) (hpn : ∀ p ∈ pn, p.1 ∉ fp) (hco : ce.scope.isCoroutine = false) (T : Turn X.prog X.w X.K tg J fp it tn) (pg : PG Z tg g) (pt : PTs Z ifs tt) (pe : PE Z elt te) (turn : gxTurn J g tt te vs σ0 e Qe Qn W) :
    ∀ (m i n : Nat) (s₀ s : Shared) (H : Hp), m < n → W i m H → Inv Z [] σ0 H s → tn i s.heap → (∀ b ∈ fp, H b = none) →
      Seg (model X.prog X.w) A0 (fun n s₀ r s1 => r = .ok .next ∧ GxE Z σ0 Qe n s₀ s1) (GxY Z e Qn) n s₀ (gxCode elt tg iter ifs scope gpos it ce) ((model X.prog X.w).den (gxCode elt tg iter ifs scope gpos it ce)) [] s := by
  intro m
  induction m using Nat.strongRecOn with
  | ind m ih =>
    intro i n s₀ s H hmn w0 I st nf
    have fpo := gx_fp hZ hpn I nf
    show Seg _ A0 _ _ _ s₀ _ ((compTurn (.GeneratorExp elt [⟨tg, iter, ifs, 0⟩] scope gpos) 0 (.ref it) .none ce).onRaise (leaving ce)) [] s
    rw [compTurn_gen, Sem.onRaise_eq_wrap]
    refine seg_bind_wrap (wpAny_standAt ?_)
    rcases turn i m H w0 with ⟨stop, qe⟩ | ⟨go, Nx, hNx, step⟩
    · have td := T.done Z (by rw [hZ]; rfl) (by rw [hZ]; rfl) (by rw [hZ]; rfl) (by rw [hZ]; rfl) i [] s σ0 H (fun _ _ => False) I fpo st stop
      have hA : Z.A = A0.over (gxCode elt tg iter ifs scope gpos it ce) [] := by rw [hZ]; rfl
      rw [hA] at td
      refine seg_bind_wrap (wpAny_mono td (fun r s2 hr => ?_) fun _ _ z => z.elim)
      obtain ⟨rfl, I2⟩ := hr
      exact seg_end (.ok .next) ⟨rfl, H, I2, qe⟩
    · have hA : Z.A = A0.over (gxCode elt tg iter ifs scope gpos it ce) [] := by rw [hZ]; rfl
      have hE : Z.env = ce := by rw [hZ]; rfl
      have hPr : Z.prog = X.prog := by rw [hZ]; rfl
      have hWd : Z.w = X.w := by rw [hZ]; rfl
      have hXe : Z.xe = fun _ _ => False := by rw [hZ]; rfl
      have ti := T.item Z hPr hWd (by rw [hZ]; rfl) (by rw [hZ]; rfl) i [] s σ0 H (fun _ _ => False) I fpo st go
      rw [hA] at ti
      refine seg_bind_wrap (wpAny_mono ti (fun r s2 hr => ?_) fun _ _ z => z.elim)
      obtain ⟨u, rfl, ti⟩ := hr
      refine seg_bind_wrap (wpAny_mono ti (fun _ s7 h7 => ?_) fun _ _ z => z.elim)
      obtain ⟨x, H7, I7, r7, y7, st7, n7⟩ := h7
      have I7' := I7.pinned (gx_fp hZ hpn I7 n7) (T.obj _ _ st7)
      have ta := pg.run _ s7 _ H7 x u _ I7' r7 (step x H7 y7)
      rw [hPr, hWd, hA, hE, hXe] at ta
      refine seg_bind_wrap (wpAny_mono ta (fun _ s8 h8 => ?_) fun _ _ z => z.elim)
      obtain ⟨σ8, H8, I8, hw8, q8⟩ := h8
      have tt' := pt.run _ s8 σ8 H8 _ I8 q8
      rw [hPr, hWd, hA, hE, hXe] at tt'
      refine seg_bind_wrap (wpAny_mono tt' (fun b s9 h9 => ?_) fun _ _ z => z.elim)
      obtain ⟨H9, I9, q9⟩ := h9
      -- what stands at the next turn
      have next : ∀ {sn s' : Shared} {H' : Hp}, Inv Z ([] ++ pinsAt fp s7.heap) σ8 H' sn → s'.heap = sn.heap → s'.os = sn.os → AllBare s'.gens → Inv Z [] σ0 H' s' ∧ tn (i + 1) s'.heap ∧ ∀ b ∈ fp, H' b = none := fun {sn s' H'} I' e1 e2 e3 => by
        have pin' : ∀ b ∈ fp, ∀ o, s7.heap.get? b = some o → sn.heap.get? b = some o ∧ H' b = none := fun b hb o eo =>
          let z := I'.pin (b, o) (List.mem_append_right _ (List.mem_append_right _ (mem_pinsAt hb eo)))
          ⟨z.1, z.2.1⟩
        have hl : σ0.length = σ8.length := by rw [← hw8, wipe_length]
        have I'' : Inv Z [] σ0 H' sn := (I'.unpinned (pins := [])).weak hl fun j v ev => by
          rw [← hw8] at ev
          exact (wipe_some ev).1
        refine ⟨inv_sh I'' e1 e2 e3, ?_, fun b hb => ?_⟩
        · rw [e1]
          exact T.keep _ _ _ st7 fun b hb o eo => (pin' b hb o eo).1
        · obtain ⟨o, eo, _⟩ := T.obj _ _ st7 b hb
          exact (pin' b hb o eo).2
      cases b with
      | false =>
        simp only [Bool.false_eq_true, if_false] at q9 ⊢
        obtain ⟨m', hm, w'⟩ := hNx _ q9
        obtain ⟨J1, J2, J3⟩ := next I9 rfl rfl I9.bare
        exact seg_again rfl (ih m' hm (i + 1) n s₀ s9 H9 (by omega) w' J1 J2 J3)
      | true =>
        simp only [if_true] at q9 ⊢
        have out : ∀ v, yieldOut ce v = yieldValue v := fun v => by simp only [yieldOut, hco, Bool.false_eq_true, if_false]
        simp only [out]
        rw [Sem.bind_eq_wrap', Sem.bind_eq_wrap']; rw [Sem.wrap_wrap, Sem.wrap_wrap]
        have tel := pe.run _ s9 σ8 H9 _ I9 q9
        rw [hPr, hWd, hA, hE, hXe] at tel
        refine seg_wrap (wpAny_mono tel (fun y s10 h10 => ?_) fun _ _ z => z.elim)
        obtain ⟨yv, H10, I10, r10, cb, rfl, qn, qx⟩ := h10
        obtain rfl : y = Value.bool cb := r10
        obtain ⟨n', rfl⟩ : ∃ n', n = n' + 1 := ⟨n - 1, by omega⟩
        refine seg_at (seg_yield rfl rfl rfl ⟨cb, H10, σ8, rfl, I10.unpinned, fun hc s' e1 e2 e3 => ?_, qx⟩)
        obtain ⟨m', hm, w'⟩ := hNx _ (qn hc)
        obtain ⟨J1, J2, J3⟩ := next I10 e1 e2 e3
        exact seg_again rfl (ih m' hm (i + 1) n' s' s' H10 (by omega) w' J1 J2 J3)
/-- its begin -/
theorem seg_gx0 {Z : Cx} (hZ : Z = gxZ X A0 s1 H1 ce fp pn elt tg iter ifs scope gpos it) (hpn : ∀ p ∈ pn, p.1 ∉ fp) (hco : ce.scope.isCoroutine = false) (T : Turn X.prog X.w X.K tg J fp it tn) (pg : PG Z tg g) (pt : PTs Z ifs tt) (pe : PE Z elt te) (turn : gxTurn J g tt te vs σ0 e Qe Qn W)
    {m n : Nat} {s₀ s : Shared} {H : Hp} (hmn : m < n) (w0 : W 0 m H) (I : Inv Z [] σ0 H s) (st : tn 0 s.heap) (nf : ∀ b ∈ fp, H b = none) :
    Seg (model X.prog X.w) A0 (fun n s₀ r s1 => r = .ok .next ∧ GxE Z σ0 Qe n s₀ s1) (GxY Z e Qn) n s₀ (.compStart (.GeneratorExp elt [⟨tg, iter, ifs, 0⟩] scope gpos) 0 (.ref it) .none ce) ((model X.prog X.w).den (.compStart (.GeneratorExp elt [⟨tg, iter, ifs, 0⟩] scope gpos) 0 (.ref it) .none ce)) [] s := by
  have loop := seg_gx hZ hpn hco T pg pt pe turn m 0 n s₀ s H hmn w0 I st nf
  show Seg _ A0 _ _ _ s₀ _ ((compStart (.GeneratorExp elt [⟨tg, iter, ifs, 0⟩] scope gpos) 0 (.ref it) .none ce).onRaise (leaving ce)) [] s
  unfold compStart
  rw [Sem.onRaise_eq_wrap]
  show Seg _ A0 _ _ _ s₀ _ ((ask >>= _).wrap _ _ _ _) [] s
  refine seg_bind_wrap (wpAny_askSetting ?_)
  split
  · exact seg_again rfl loop
  · refine seg_bind_wrap (wpAny_rule ?_)
    show Seg _ A0 _ _ _ s₀ _ ((standAt iter.pos >>= _).wrap _ _ _ _) [] s
    exact seg_bind_wrap (wpAny_standAt (seg_bind_wrap (T.self _ 0 s _ _ st (seg_again rfl loop))))
end
theorem un_kept {fs ex : List Addr} {H H' : Hp} {h h1 h2 : Heap} (u : Un fs ex H H' h h1) (k : ∀ b o, h1.get? b = some o → h2.get? b = some o) : Un fs ex H H' h h2 := u.trans (Un.kept k)
/-- all, over it -/
theorem gx_all {Z : Cx} {A : Around} {a : Addr} {g : Nat} {σ0 : L2.St} {Qe Qn : Hp → Prop} {R : Result → Shared → Prop} (hh : A.handled = none) (hd : A.depth < recursionLimit) (isG : ∀ {σ' : L2.St} {H' : Hp} {s' : Shared}, Inv Z [] σ' H' s' → s'.heap.IsGen a g)
    (hE : ∀ (s' : Shared) (H' : Hp), s'.os = Z.s_0.os → AllBare s'.gens → Un Z.fs Z.ex Z.H_0 H' Z.s_0.heap s'.heap → HOk Z.prog Z.w H' s'.heap → Qe H' → R (.ok (.ret (.bool true))) s')
    (hN : ∀ (s' : Shared) (H' : Hp), s'.os = Z.s_0.os → AllBare s'.gens → Un Z.fs Z.ex Z.H_0 H' Z.s_0.heap s'.heap → HOk Z.prog Z.w H' s'.heap → Qn H' → R (.ok (.ret (.bool false))) s') :
    ∀ (m : Nat) (s : Shared), s.heap.IsGen a g → s.heap.NoLimit → (∃ gs, s.gens[g]? = some gs ∧ gs.Goes (model Z.prog Z.w) A.in1.in1 (fun n s₀ r s1 => r = .ok .next ∧ GxE Z σ0 Qe n s₀ s1) (GxY Z true Qn) m (.send .none) (s.setGen g .running)) →
      codeAny (model Z.prog Z.w) A (.builtin "all.loop" ⟨[.ref a], []⟩) R s := by
  intro m
  induction m with
  | zero =>
    intro s hg hl ⟨gs, hgs, goes⟩
    refine codeAny_builtin F.entry_all_loop ?_
    rw [Around.under_plainId F.plain_all_loop _]
    show wpAny _ A.in1 (pyNext (.ref a) >>= _) _ _ s
    refine wpAny_bind (wpAny_pyNext_genexpQ (A := A.in1) hh hl hd hg hgs goes (fun v s1 gs' hbare hv => ?_) (fun s1 hp h' hk => ?_))
    · obtain ⟨c, H', σ', rfl, I, more, last⟩ := hv
      have b1 := allBare_setGen (g := g) I.bare hbare
      refine wpAny_bind (wpAny_holding (wpAny_truthy_bool (wpAny_bind (wpAny_letGo ?_))))
      cases c with
      | true => exact False.elim (more rfl s1 rfl rfl I.bare)
      | false =>
        simp only [Bool.false_eq_true, if_false]
        exact wpAny_bind (wpAny_rule (wpAny_pure (hN _ H' I.os b1 I.base I.hok (last (by decide)))))
    · obtain ⟨H', I, q⟩ := hp
      exact wpAny_bind (wpAny_rule (wpAny_pure (hE _ H' I.os (allBare_setGen I.bare rfl) (un_kept I.base hk) (I.hok.kept hk) q)))
  | succ m ih =>
    intro s hg hl ⟨gs, hgs, goes⟩
    have hgl : g < s.gens.size := (Array.getElem?_eq_some_iff.mp hgs).1
    refine codeAny_builtin F.entry_all_loop ?_
    rw [Around.under_plainId F.plain_all_loop _]
    show wpAny _ A.in1 (pyNext (.ref a) >>= _) _ _ s
    refine wpAny_bind (GenW.wpAny_gsz (n := g + 1) hgl (wpAny_pyNext_genexpQ (A := A.in1) hh hl hd hg hgs goes (fun v s1 gs' hbare hv => ?_) (fun s1 hp h' hk => ?_)))
    · intro hsz
      obtain ⟨c, H', σ', rfl, I, more, last⟩ := hv
      have b1 := allBare_setGen (g := g) I.bare hbare
      refine wpAny_bind (wpAny_holding (wpAny_truthy_bool (wpAny_bind (wpAny_letGo ?_))))
      cases c with
      | true =>
        simp only [if_true]
        have hsz1 : g < s1.gens.size := by
          have q : (s1.setGen g gs').gens.size = s1.gens.size := GenW.setGen_size _ _ _
          have hsz' : g + 1 ≤ (s1.setGen g gs').gens.size := hsz
          omega
        refine wpAny_pure ⟨plainId_quiet F.plain_all_loop _, ih (s1.setGen g gs') (isG (s' := s1) I) I.nolimit ⟨gs', setGen_at hsz1, ?_⟩⟩
        exact more rfl _ rfl rfl (allBare_setGen (s := s1.setGen g gs') b1 rfl)
      | false =>
        simp only [Bool.false_eq_true, if_false]
        exact wpAny_bind (wpAny_rule (wpAny_pure (hN _ H' I.os b1 I.base I.hok (last (by decide)))))
    · intro hsz
      obtain ⟨H', I, q⟩ := hp
      exact wpAny_bind (wpAny_rule (wpAny_pure (hE _ H' I.os (allBare_setGen I.bare rfl) (un_kept I.base hk) (I.hok.kept hk) q)))
/-- any, over it -/
theorem gx_any {Z : Cx} {A : Around} {a : Addr} {g : Nat} {σ0 : L2.St} {Qe Qn : Hp → Prop} {R : Result → Shared → Prop} (hh : A.handled = none) (hd : A.depth < recursionLimit) (isG : ∀ {σ' : L2.St} {H' : Hp} {s' : Shared}, Inv Z [] σ' H' s' → s'.heap.IsGen a g)
    (hE : ∀ (s' : Shared) (H' : Hp), s'.os = Z.s_0.os → AllBare s'.gens → Un Z.fs Z.ex Z.H_0 H' Z.s_0.heap s'.heap → HOk Z.prog Z.w H' s'.heap → Qe H' → R (.ok (.ret (.bool false))) s')
    (hN : ∀ (s' : Shared) (H' : Hp), s'.os = Z.s_0.os → AllBare s'.gens → Un Z.fs Z.ex Z.H_0 H' Z.s_0.heap s'.heap → HOk Z.prog Z.w H' s'.heap → Qn H' → R (.ok (.ret (.bool true))) s') :
    ∀ (m : Nat) (s : Shared), s.heap.IsGen a g → s.heap.NoLimit → (∃ gs, s.gens[g]? = some gs ∧ gs.Goes (model Z.prog Z.w) A.in1.in1 (fun n s₀ r s1 => r = .ok .next ∧ GxE Z σ0 Qe n s₀ s1) (GxY Z false Qn) m (.send .none) (s.setGen g .running)) →
      codeAny (model Z.prog Z.w) A (.builtin "any.loop" ⟨[.ref a], []⟩) R s := by
  intro m
  induction m with
  | zero =>
    intro s hg hl ⟨gs, hgs, goes⟩
    refine codeAny_builtin F.entry_any_loop ?_
    rw [Around.under_plainId F.plain_any_loop _]
    show wpAny _ A.in1 (pyNext (.ref a) >>= _) _ _ s
    refine wpAny_bind (wpAny_pyNext_genexpQ (A := A.in1) hh hl hd hg hgs goes (fun v s1 gs' hbare hv => ?_) (fun s1 hp h' hk => ?_))
    · obtain ⟨c, H', σ', rfl, I, more, last⟩ := hv
      have b1 := allBare_setGen (g := g) I.bare hbare
      refine wpAny_bind (wpAny_holding (wpAny_truthy_bool (wpAny_bind (wpAny_letGo ?_))))
      cases c with
      | false => exact False.elim (more rfl s1 rfl rfl I.bare)
      | true =>
        simp only [if_true]
        exact wpAny_bind (wpAny_rule (wpAny_pure (hN _ H' I.os b1 I.base I.hok (last (by decide)))))
    · obtain ⟨H', I, q⟩ := hp
      exact wpAny_bind (wpAny_rule (wpAny_pure (hE _ H' I.os (allBare_setGen I.bare rfl) (un_kept I.base hk) (I.hok.kept hk) q)))
  | succ m ih =>
    intro s hg hl ⟨gs, hgs, goes⟩
    have hgl : g < s.gens.size := (Array.getElem?_eq_some_iff.mp hgs).1
    refine codeAny_builtin F.entry_any_loop ?_
    rw [Around.under_plainId F.plain_any_loop _]
    show wpAny _ A.in1 (pyNext (.ref a) >>= _) _ _ s
    refine wpAny_bind (GenW.wpAny_gsz (n := g + 1) hgl (wpAny_pyNext_genexpQ (A := A.in1) hh hl hd hg hgs goes (fun v s1 gs' hbare hv => ?_) (fun s1 hp h' hk => ?_)))
    · intro hsz
      obtain ⟨c, H', σ', rfl, I, more, last⟩ := hv
      have b1 := allBare_setGen (g := g) I.bare hbare
      refine wpAny_bind (wpAny_holding (wpAny_truthy_bool (wpAny_bind (wpAny_letGo ?_))))
      cases c with
      | false =>
        simp only [Bool.false_eq_true, if_false]
        have hsz1 : g < s1.gens.size := by
          have q : (s1.setGen g gs').gens.size = s1.gens.size := GenW.setGen_size _ _ _
          have hsz' : g + 1 ≤ (s1.setGen g gs').gens.size := hsz
          omega
        refine wpAny_pure ⟨plainId_quiet F.plain_any_loop _, ih (s1.setGen g gs') (isG (s' := s1) I) I.nolimit ⟨gs', setGen_at hsz1, ?_⟩⟩
        exact more rfl _ rfl rfl (allBare_setGen (s := s1.setGen g gs') b1 rfl)
      | true =>
        simp only [if_true]
        exact wpAny_bind (wpAny_rule (wpAny_pure (hN _ H' I.os b1 I.base I.hok (last (by decide)))))
    · intro hsz
      obtain ⟨H', I, q⟩ := hp
      exact wpAny_bind (wpAny_rule (wpAny_pure (hE _ H' I.os (allBare_setGen I.bare rfl) (un_kept I.base hk) (I.hok.kept hk) q)))
/-- the generator stands ready to be walked -/
def GxReady (X : Cx) (pins : List (Addr × Obj)) (σ : L2.St) (e : Bool) (Qe Qn : Hp → Prop) (a : Addr) (s5 : Shared) : Prop :=
  ∃ (g m : Nat) (Z : Cx) (σ0 : L2.St), Z.prog = X.prog ∧ Z.w = X.w ∧ s5.heap.IsGen a g ∧ s5.heap.NoLimit ∧ (∀ {σ' : L2.St} {H' : Hp} {s' : Shared}, Inv Z [] σ' H' s' → s'.heap.IsGen a g) ∧
    (∃ gs, s5.gens[g]? = some gs ∧ gs.Goes (model Z.prog Z.w) X.A.in1.in1 (fun n s₀ r s1 => r = .ok .next ∧ GxE Z σ0 Qe n s₀ s1) (GxY Z e Qn) m (.send .none) (s5.setGen g .running)) ∧
    ∀ (s' : Shared) (H' : Hp), s'.os = Z.s_0.os → AllBare s'.gens → Un Z.fs Z.ex Z.H_0 H' Z.s_0.heap s'.heap → HOk Z.prog Z.w H' s'.heap → Inv X pins σ H' s'
theorem gx_room {A : Around} {k : Nat} {elt tg iter : Expr} {ifs : List Expr} {scope : Scope} {gpos : Pos} {it : Addr} {ce : Env} (r : Room (k + 1) A) : Room k (A.in1.in1.over (gxCode elt tg iter ifs scope gpos it ce) []) :=
  ⟨r.hd, by have := r.dp; show A.depth + 1 + 3 * k + 5 < _; omega, by have := r.un; show A.units + 1 + 1 + 3 + 16 * k + 200 < _; omega⟩
theorem gx_frames {A : Around} {st : List Env} {elt tg iter : Expr} {ifs : List Expr} {scope : Scope} {gpos : Pos} {it : Addr} {ce : Env} (h : A.frames = some st) : (A.in1.in1.over (gxCode elt tg iter ifs scope gpos it ce) []).frames = some (ce :: st) := by
  obtain ⟨hd, d, fr, gs, u⟩ := A
  obtain rfl : fr = some st := h
  rfl
abbrev tQuant (P : Addr) (wi : TI) (g : TG) (tt : TT) (te : TE) (vs : List Nat) (e : Bool) : TE := fun σ H Q => wi σ H fun J H1 => GxR.TabG H1 P ∧ ∀ H2, GxR.Tabbed P H1 H2 → ∃ W : Nat → Nat → Hp → Prop, (∃ m, W 0 m H2) ∧ gxTurn J g tt te vs (wipe σ vs) e (fun H => Q (.bl e) H) (fun H => Q (.bl (!e)) H) W
theorem gx_eval {X : Cx} {pins : List (Addr × Obj)} {σ : L2.St} {H : Hp} {s : Shared} {c P : Addr} {elt tg iter : Expr} {ifs : List Expr} {scope : Scope} {own : List (Str × Nat)} {gpos : Pos} {wi : TI} {g : TG} {tt : TT} {te : TE} {e : Bool} {k : Nat} {Q : VK} {Q' : Value → Shared → Prop}
    (hN : X.N.Nodup) (hr : Room (k + 1) X.A) (TB : LamX.TabB X.base X.mg c P) (hcode : X.env.code = .ref c) (ok : BlkOk X.N X.env.scope scope own) (nocell : ∀ y ∈ scope.names, y.2 ≠ .cell) (hco : scope.isCoroutine = false) (dot : scope.names.lookup (".0" : Str) = some NameKind.local)
    (hi : PI X tg iter wi)
    (hg : ∀ (A : Around) (s : Shared) (H : Hp) (cl : List (Str × Addr)) (C : Addr) (code : Value) (bi : Addr) (fp : List Addr) (pn : List (Addr × Obj)), Room k A → PG (gxCx X A s H (genEnv scope cl C code bi X.env) fp pn) tg g)
    (ht : ∀ (A : Around) (s : Shared) (H : Hp) (cl : List (Str × Addr)) (C : Addr) (code : Value) (bi : Addr) (fp : List Addr) (pn : List (Addr × Obj)), Room k A → PTs (gxCx X A s H (genEnv scope cl C code bi X.env) fp pn) ifs tt)
    (he : ∀ (A : Around) (s : Shared) (H : Hp) (cl : List (Str × Addr)) (C : Addr) (code : Value) (bi : Addr) (fp : List Addr) (pn : List (Addr × Obj)), Room k A → PE (gxCx X A s H (genEnv scope cl C code bi X.env) fp pn) elt te)
    (hs : ∀ v, genFold iter X.env v = pure v) (I : Inv X pins σ H s) (h : tQuant P wi g tt te (own.map (·.2)) e σ H Q)
    (hQ : ∀ a s5, GxReady X pins σ e (fun H => Q (.bl e) H) (fun H => Q (.bl (!e)) H) a s5 → Q' (.ref a) s5) :
    wpAny (model X.prog X.w) X.A (eval (.GeneratorExp elt [⟨tg, iter, ifs, 0⟩] scope gpos) X.env) Q' X.xe s := by
  have hfree : ∀ y ∈ scope.names, y.2 = .free → ∃ c, X.env.cells.lookup y.1 = some c := fun y hy ey => by
    rcases ok.free y hy ey with z | z
    · exact I.ok.has _ (.inl z)
    · exact I.ok.has _ (.inr z)
  refine wpAny_GeneratorExp_make hco (closure_ok hfree) nocell dot ok.kind hr.depth ?_ hs
  refine thn (hi.run pins s σ H _ I h) fun xv s1 hx => thn hx fun itv s2 h2 => ?_
  obtain ⟨it, fp, tn, J, H2, rfl, I2, T, st2, f2, ⟨ps, hP, tro⟩, q⟩ := h2
  refine ⟨I2.nolimit, ?_⟩
  have hPs : s2.heap.get? P = some { cls := .none, data := .fields ps } := I2.hok P _ hP
  have cd : PySem.W.CodeHd s2.heap c P := TB.code.keeps fun b u z => I2.bk b u z
  have szf : ∀ b ∈ fp, b < s2.heap.objs.size := fun b hb => by
    obtain ⟨o, eo, _⟩ := T.obj _ _ st2 b hb
    exact Heap.lt_size eo
  -- behind the code object
  have cont : ∀ (code : Value) (h3 : Heap) (tk : Nat) (ps' : Array Value), Heap.ExtBut P s2.heap h3 → s2.heap.objs.size ≤ h3.objs.size → h3.get? P = some { cls := .none, data := .fields ps' } → (∃ more, ps' = ps ++ more) → TriplesOk ps'.toList →
      wpAny (model X.prog X.w) X.A (builtinsFor X.env.globals X.env.builtins) (fun bi s4 => ∀ h', h'.Ns s4.heap.objs.size (fun y => if y = ".0" then some (.ref it) else none) → Heap.SameBut s4.heap.objs.size (s4.heap.push { cls := .type "frame", data := .dict #[] }) h' →
        Q' (.ref h'.objs.size) { s4 with
          gens := s4.gens.push (.fresh (.compStart (.GeneratorExp elt [⟨tg, iter, ifs, 0⟩] scope gpos) 0 (.ref it) .none (genEnv scope (cloFrom X.env.cells scope.names []) s4.heap.objs.size code bi X.env)))
          toks := s4.toks + 1 + 1 + 1
          heap := h'.push { cls := .type "generator", data := .fields #[.int s4.gens.size 0, .str "<genexpr>" (s4.toks + 1), .str (X.env.qual ++ "<genexpr>") (s4.toks + 1 + 1)] } }) X.xe { s2 with heap := h3, toks := tk } := by
    intro code h3 tk ps' hx hsz hP3 ⟨more, em⟩ tro'
    obtain ⟨bm, ob, e1, e2, e3, e4, e5, e6, e7, e8⟩ := TB.bm
    have keep3 : ∀ b u, b ≠ P → s2.heap.get? b = some u → h3.get? b = some u := fun b u hb z => hx b u hb z
    refine wpAny_builtinsFor (m := X.mg) (by rw [I2.ok.glob]; exact (I2.mod.glob.keeps I2.bk).extBut hx TB.gP) e1 e2 (keep3 _ _ e4 (I2.bk _ _ e5)) e6 e7 e8 ?_
    intro h' hns hsame
    have J4 := GxR.inv_tab (more := more) (h' := h3) (g' := s2.gens) (d' := s2.drawn) (t' := tk) I2 hP keep3 (by rw [← em]; exact hP3) I2.bare
    have tabbed : GxR.Tabbed P H2 (upd H2 P (.tbl (ps ++ more))) := ⟨⟨ps ++ more, upd_same, by rw [← em]; exact tro'⟩, fun b hb => upd_ne hb⟩
    obtain ⟨W, ⟨m0, w0⟩, turn⟩ := q _ tabbed
    have hsz' : h'.objs.size = h3.objs.size + 1 := by rw [hsame.1, Heap.size_push]
    have kp5 : ∀ (go : Obj) b o, h3.get? b = some o → (h'.push go).get? b = some o := fun go b o eo => Heap.get?_push_of_some _ (hsame.extBut b o (Nat.ne_of_lt (Heap.lt_size eo)) (Heap.get?_push_of_some _ eo))
    have fpP : ∀ b ∈ fp, b ≠ P := fun b hb z => by
      have := (f2 b hb).1
      rw [z, hP] at this
      cases this
    have nf : ∀ b ∈ fp, upd H2 P (.tbl (ps ++ more)) b = none := fun b hb => by rw [upd_ne (fpP b hb)]; exact (f2 b hb).1
    have f3 : ∀ b ∈ fp, FpOk X pins (upd H2 P (.tbl (ps ++ more))) b ∧ b < h3.objs.size := fun b hb => ⟨⟨nf b hb, (f2 b hb).2⟩, Nat.lt_of_lt_of_le (szf b hb) hsz⟩
    refine hQ _ _ ?_
    show GxReady X pins σ e _ _ h'.objs.size { s2 with
      gens := s2.gens.push (.fresh (.compStart (.GeneratorExp elt [⟨tg, iter, ifs, 0⟩] scope gpos) 0 (.ref it) .none (genEnv scope (cloFrom X.env.cells scope.names []) h3.objs.size code builtinsNs X.env)))
      toks := tk + 1 + 1 + 1
      heap := h'.push { cls := .type "generator", data := .fields #[.int s2.gens.size 0, .str "<genexpr>" (tk + 1), .str (X.env.qual ++ "<genexpr>") (tk + 1 + 1)] } }
    generalize hgo : ({ cls := .type "generator", data := .fields #[.int s2.gens.size 0, .str "<genexpr>" (tk + 1), .str (X.env.qual ++ "<genexpr>") (tk + 1 + 1)] } : Obj) = go
    have goC : go.cls = .type "generator" := by rw [← hgo]
    have goD : go.data = .fields #[.int s2.gens.size 0, .str "<genexpr>" (tk + 1), .str (X.env.qual ++ "<genexpr>") (tk + 1 + 1)] := by rw [← hgo]
    have goS : go.slots = #[] := by rw [← hgo]
    have at5 : (h'.push go).get? h'.objs.size = some go := by rw [← hgo]; exact Heap.get?_push_size _ rfl
    have isG : ∀ h : Heap, h.get? h'.objs.size = some go → h.IsGen h'.objs.size s2.gens.size := fun h eo => ⟨go, _, _, eo, goC, goD, goS⟩
    generalize hst : GenState.fresh (.compStart (.GeneratorExp elt [⟨tg, iter, ifs, 0⟩] scope gpos) 0 (.ref it) .none (genEnv scope (cloFrom X.env.cells scope.names []) h3.objs.size code builtinsNs X.env)) = fr
    have bare5 : AllBare (s2.gens.push fr) := I2.bare.push (by rw [← hst]; rfl)
    have rm := gx_room (elt := elt) (tg := tg) (iter := iter) (ifs := ifs) (scope := scope) (gpos := gpos) (it := it) (ce := genEnv scope (cloFrom X.env.cells scope.names []) h3.objs.size code builtinsNs X.env) hr
    obtain ⟨ce, hce⟩ : ∃ ce, ce = genEnv scope (cloFrom X.env.cells scope.names []) h3.objs.size code builtinsNs X.env := ⟨_, rfl⟩
    obtain ⟨s4, hs4⟩ : ∃ s4 : Shared, s4 = { s2 with heap := h3, gens := s2.gens, drawn := s2.drawn, toks := tk } := ⟨_, rfl⟩
    obtain ⟨H4, hH4⟩ : ∃ H4, H4 = upd H2 P (.tbl (ps ++ more)) := ⟨_, rfl⟩
    obtain ⟨Z, hZ⟩ : ∃ Z, Z = gxZ X X.A.in1.in1 s4 H4 ce fp [(h'.objs.size, go)] elt tg iter ifs scope gpos it := ⟨_, rfl⟩
    have J4' : Inv X pins σ H4 s4 := by rw [hs4, hH4]; exact J4
    have Z0 : Inv Z [] (wipe σ (own.map (·.2))) H4 { s2 with heap := h'.push go, gens := s2.gens.push fr, toks := tk + 1 + 1 + 1 } := by
      rw [hZ, hs4, hH4, hce]
      exact gx_start (A := X.A.in1.in1.over (gxCode elt tg iter ifs scope gpos it (genEnv scope (cloFrom X.env.cells scope.names []) h3.objs.size code builtinsNs X.env)) []) (a := h'.objs.size) (go := go) (h5 := h'.push go) (g5 := s2.gens.push fr) (t5 := tk + 1 + 1 + 1) (code := code) J4 hN ok nocell rm.hd (gx_frames J4.ok.frames) f3 (hns.push _) (kp5 go) at5 (by show h3.objs.size < _; omega) (fun v z => by rw [goD] at z; cases z) bare5
    rw [← hH4] at w0
    refine ⟨s2.gens.size, m0 + 1, Z, wipe σ (own.map (·.2)), by rw [hZ]; rfl, by rw [hZ]; rfl, isG _ at5, Z0.nolimit, fun {σ' H' s'} IZ => ?_, ⟨fr, Array.getElem?_push_size .., ?_⟩, fun s' H' os bare un hok => ?_⟩
    · refine isG _ (IZ.pin (h'.objs.size, go) (List.mem_append_left _ ?_)).1
      rw [hZ]
      exact List.mem_cons_self
    · rw [← hst, show Z.prog = X.prog by rw [hZ]; rfl, show Z.w = X.w by rw [hZ]; rfl, ← hce]
      refine ⟨rfl, seg_gx0 (H := H4) hZ (fun p hp z => ?_) (by rw [hce]; exact hco) T (by rw [hZ, hce]; exact hg _ _ _ _ _ _ _ _ _ rm) (by rw [hZ, hce]; exact ht _ _ _ _ _ _ _ _ _ rm) (by rw [hZ, hce]; exact he _ _ _ _ _ _ _ _ _ rm) turn (Nat.lt_succ_self _) w0 (inv_sh Z0 rfl rfl (allBare_setGen (by show AllBare (s2.gens.push _); rw [hce, hst]; exact bare5) rfl)) ?_ fun b hb => by rw [hH4]; exact nf b hb⟩
      · rw [List.mem_singleton.mp hp] at z
        have z1 := (f3 _ z).2
        have z2 : h'.objs.size < h3.objs.size := z1
        omega
      · exact T.keep _ _ _ st2 fun b hb o eo => kp5 go b o (keep3 b o (fpP b hb) eo)
    · refine J4'.call' (ch := fp) ?_ ?_ ?_ bare fun b hb => ?_
      · rw [os, hZ]
        rfl
      · rw [hZ] at un
        exact un
      · rw [hZ] at hok
        exact hok
      · have z := (f3 b hb).1
        exact ⟨z.2.2.2.1, z.2.1, z.2.2.2.2.1, z.2.2.2.2.2⟩
  cases hf : codeAmong gpos ps.toList with
  | none =>
    refine wpAny_genexprCodeX hcode (cd.code hPs tro) (cd.tab hPs) hf fun c' h' tk hx hge hlt hco' _ htab' _ => ?_
    obtain ⟨o1, us, y1, y2, y3, y4, y5, y6, y7, y8, _, _, _, _, _, _, _, _, _, htr, _⟩ := hco'
    exact cont _ h' tk _ hx (Nat.le_trans hge (Nat.le_of_lt hlt)) htab'.2 ⟨_, rfl⟩ htr
  | some cv =>
    refine wpAny_genexprCode_hit hcode (cd.code hPs tro) hf ?_
    exact cont cv s2.heap s2.toks ps (Heap.ExtBut.refl _ _) (Nat.le_refl _) hPs ⟨#[], by simp⟩ tro
end
section
variable {X : Cx} {c P : Addr} {elt tg iter : Expr} {ifs : List Expr} {scope : Scope} {own : List (Str × Nat)} {p pos gpos : Pos} {wi : TI} {g : TG} {tt : TT} {te : TE} {k : Nat}
theorem pe_allG (hN : X.N.Nodup) (hr : Room (k + 1) X.A) (hg : Gl X "all") (hm : X.mg "all" = none) (hb : bootBuiltins "all" = some (.builtin "all")) (TB : LamX.TabB X.base X.mg c P) (hcode : X.env.code = .ref c) (ok : BlkOk X.N X.env.scope scope own) (nocell : ∀ y ∈ scope.names, y.2 ≠ .cell) (hco : scope.isCoroutine = false) (dot : scope.names.lookup (".0" : Str) = some NameKind.local)
    (hi : PI X tg iter wi)
    (pg : ∀ (A : Around) (s : Shared) (H : Hp) (cl : List (Str × Addr)) (C : Addr) (code : Value) (bi : Addr) (fp : List Addr) (pn : List (Addr × Obj)), Room k A → PG (gxCx X A s H (genEnv scope cl C code bi X.env) fp pn) tg g)
    (pt : ∀ (A : Around) (s : Shared) (H : Hp) (cl : List (Str × Addr)) (C : Addr) (code : Value) (bi : Addr) (fp : List Addr) (pn : List (Addr × Obj)), Room k A → PTs (gxCx X A s H (genEnv scope cl C code bi X.env) fp pn) ifs tt)
    (pe : ∀ (A : Around) (s : Shared) (H : Hp) (cl : List (Str × Addr)) (C : Addr) (code : Value) (bi : Addr) (fp : List Addr) (pn : List (Addr × Obj)), Room k A → PE (gxCx X A s H (genEnv scope cl C code bi X.env) fp pn) elt te)
    (hs : ∀ v, genFold iter X.env v = pure v)
    (he : starEach [.GeneratorExp elt [⟨tg, iter, ifs, 0⟩] scope gpos] X.env = (false, eval (.GeneratorExp elt [⟨tg, iter, ifs, 0⟩] scope gpos) X.env) :: starEach [] X.env := by rfl) :
    PE X (.Call (.Name "all" p) [.GeneratorExp elt [⟨tg, iter, ifs, 0⟩] scope gpos] [] pos) (tQuant P wi g tt te (own.map (·.2)) true) := by
  refine ⟨fun pins s σ H Q I h => ?_⟩
  refine wpAny_Call_Name_kw (ld_blt I hg hm hb ?_)
  refine PyProof.Rows.callWith_builtin1 ?_ he (by rfl)
  rw [he]
  show wpAny _ _ (spliced ((false, eval (.GeneratorExp elt [⟨tg, iter, ifs, 0⟩] scope gpos) X.env) :: backTo pos (starEach [] X.env))) _ _ s
  refine Calls.spliced_cons (gx_eval hN hr TB hcode ok nocell hco dot hi pg pt pe hs I h fun a s5 hR => ?_)
  obtain ⟨gi, m, Z, σ0, e1, e2, isG, nl, isG', goes, back⟩ := hR
  refine Calls.spliced_nil ?_
  refine call_function_tree F.kind_all F.plain_all F.entry_all (F.args_all1 _) ?_
  unfold Builtin.«all»
  refine wpAny_bind ?_
  show wpAny _ _ (pure (Value.ref a)) _ _ s5
  refine wpAny_pure (wpAny_bind (wpAny_pyIter_gen isG (wpAny_pure ⟨plainId_quiet F.plain_all_loop _, ?_⟩)))
  rw [← e1, ← e2]
  exact gx_all hr.hd (by have := hr.dp; omega) isG' (fun s' H' o1 o2 o3 o4 q => ⟨.bl true, H', back s' H' o1 o2 o3 o4, rfl, q⟩) (fun s' H' o1 o2 o3 o4 q => ⟨.bl false, H', back s' H' o1 o2 o3 o4, rfl, q⟩) m s5 isG nl goes
theorem pe_anyG (hN : X.N.Nodup) (hr : Room (k + 1) X.A) (hg : Gl X "any") (hm : X.mg "any" = none) (hb : bootBuiltins "any" = some (.builtin "any")) (TB : LamX.TabB X.base X.mg c P) (hcode : X.env.code = .ref c) (ok : BlkOk X.N X.env.scope scope own) (nocell : ∀ y ∈ scope.names, y.2 ≠ .cell) (hco : scope.isCoroutine = false) (dot : scope.names.lookup (".0" : Str) = some NameKind.local)
    (hi : PI X tg iter wi)
    (pg : ∀ (A : Around) (s : Shared) (H : Hp) (cl : List (Str × Addr)) (C : Addr) (code : Value) (bi : Addr) (fp : List Addr) (pn : List (Addr × Obj)), Room k A → PG (gxCx X A s H (genEnv scope cl C code bi X.env) fp pn) tg g)
    (pt : ∀ (A : Around) (s : Shared) (H : Hp) (cl : List (Str × Addr)) (C : Addr) (code : Value) (bi : Addr) (fp : List Addr) (pn : List (Addr × Obj)), Room k A → PTs (gxCx X A s H (genEnv scope cl C code bi X.env) fp pn) ifs tt)
    (pe : ∀ (A : Around) (s : Shared) (H : Hp) (cl : List (Str × Addr)) (C : Addr) (code : Value) (bi : Addr) (fp : List Addr) (pn : List (Addr × Obj)), Room k A → PE (gxCx X A s H (genEnv scope cl C code bi X.env) fp pn) elt te)
    (hs : ∀ v, genFold iter X.env v = pure v)
    (he : starEach [.GeneratorExp elt [⟨tg, iter, ifs, 0⟩] scope gpos] X.env = (false, eval (.GeneratorExp elt [⟨tg, iter, ifs, 0⟩] scope gpos) X.env) :: starEach [] X.env := by rfl) :
    PE X (.Call (.Name "any" p) [.GeneratorExp elt [⟨tg, iter, ifs, 0⟩] scope gpos] [] pos) (tQuant P wi g tt te (own.map (·.2)) false) := by
  refine ⟨fun pins s σ H Q I h => ?_⟩
  refine wpAny_Call_Name_kw (ld_blt I hg hm hb ?_)
  refine PyProof.Rows.callWith_builtin1 ?_ he (by rfl)
  rw [he]
  show wpAny _ _ (spliced ((false, eval (.GeneratorExp elt [⟨tg, iter, ifs, 0⟩] scope gpos) X.env) :: backTo pos (starEach [] X.env))) _ _ s
  refine Calls.spliced_cons (gx_eval hN hr TB hcode ok nocell hco dot hi pg pt pe hs I h fun a s5 hR => ?_)
  obtain ⟨gi, m, Z, σ0, e1, e2, isG, nl, isG', goes, back⟩ := hR
  refine Calls.spliced_nil ?_
  refine call_function_tree F.kind_any F.plain_any F.entry_any (F.args_any1 _) ?_
  unfold Builtin.«any»
  refine wpAny_bind ?_
  show wpAny _ _ (pure (Value.ref a)) _ _ s5
  refine wpAny_pure (wpAny_bind (wpAny_pyIter_gen isG (wpAny_pure ⟨plainId_quiet F.plain_any_loop _, ?_⟩)))
  rw [← e1, ← e2]
  exact gx_any hr.hd (by have := hr.dp; omega) isG' (fun s' H' o1 o2 o3 o4 q => ⟨.bl false, H', back s' H' o1 o2 o3 o4, rfl, q⟩) (fun s' H' o1 o2 o3 o4 q => ⟨.bl true, H', back s' H' o1 o2 o3 o4, rfl, q⟩) m s5 isG nl goes
end
def TabsG (PT : List Addr) (H : Hp) : Prop := ∀ P ∈ PT, GxR.TabG H P
theorem TabsG.same {PT : List Addr} {H H' : Hp} (t : TabsG PT H) (s : Same H H') : TabsG PT H' := fun P hP => by
  obtain ⟨ps, h, ok⟩ := t P hP
  exact ⟨ps, s _ _ h, ok⟩
theorem tabbed_ext {P : Addr} {H H' : Hp} (t : GxR.TabG H P) (b : GxR.Tabbed P H H') : LamX.ExtN H H' := fun c o h n => by
  by_cases e : c = P
  · subst e
    obtain ⟨ps, h', _⟩ := t
    rw [h] at h'
    cases h'
    exact absurd rfl (n ps)
  · rw [b.2 c e]
    exact h
theorem TabsG.tabbed {PT : List Addr} {P : Addr} {H H' : Hp} (t : TabsG PT H) (b : GxR.Tabbed P H H') : TabsG PT H' := fun Q hQ => by
  by_cases e : Q = P
  · rw [e]
    exact b.1
  · obtain ⟨ps, h, ok⟩ := t Q hQ
    exact ⟨ps, by rw [b.2 Q e]; exact h, ok⟩
theorem gx_tup {K : PySem.W.Frag} {a : Addr} {xs : List V} {g : TG} {tt : TT} {te : TE} {vs : List Nat} {σ0 : L2.St} {e : Bool} {Qe Qn : Hp → Prop} {H : Hp} (Pv : Nat → Hp → Prop) (h0 : Pv 0 H) (hl : ∀ i H, i ≤ xs.length → Pv i H → SqT K H a xs)
    (hs : ∀ i x H, xs[i]? = some x → Pv i H → g x σ0 H fun σ2 H2 => wipe σ2 vs = σ0 ∧ tt σ2 H2 fun b H3 => if b = true then te σ2 H3 fun y H4 => ∃ c, y = .bl c ∧ (c = e → Pv (i + 1) H4) ∧ (c ≠ e → Qn H4) else Pv (i + 1) H3) (hd : ∀ H, Pv xs.length H → Qe H) :
    ∃ W : Nat → Nat → Hp → Prop, (∃ m, W 0 m H) ∧ gxTurn (Itt K a) g tt te vs σ0 e Qe Qn W := by
  refine ⟨fun i m H => m = xs.length - i ∧ i ≤ xs.length ∧ Pv i H, ⟨xs.length, by simp, Nat.zero_le _, h0⟩, ?_⟩
  rintro i m H ⟨rfl, hi, p⟩
  have q := hl i H hi p
  by_cases hlt : i < xs.length
  · refine .inr ⟨⟨xs, xs[i], q, by simp [hlt]⟩, Pv (i + 1), fun H' p' => ⟨xs.length - (i + 1), by omega, rfl, hlt, p'⟩, fun x H' y => ?_⟩
    obtain ⟨e, y⟩ := y
    subst e
    exact hs i x _ (y xs q) p
  · have e : i = xs.length := by omega
    subst e
    exact .inl ⟨⟨xs, q, Nat.le_refl _⟩, hd H p⟩
theorem sqT_ext {K : PySem.W.Frag} {H H' : Hp} (e : LamX.ExtN H H') {a : Addr} {xs : List V} (h : SqT K H a xs) : SqT K H' a xs := by
  rcases h with (z | ⟨o, z⟩) | z
  · exact .inl (.inl (e _ _ z fun ps q => by cases q))
  · exact .inl (.inr ⟨o, e _ _ z fun ps q => by cases q⟩)
  · exact .inr z
theorem yesG {σ : L2.St} {H : Hp} {R : Bool → Hp → Prop} (h : R true H) : tYes σ H R := h
theorem all_take {α : Type} {p : α → Bool} {l : List α} {i : Nat} {x : α} (h : l[i]? = some x) : (l.take (i + 1)).all p = ((l.take i).all p && p x) := by
  have hi : i < l.length := by
    obtain ⟨q, _⟩ := List.getElem?_eq_some_iff.mp h
    exact q
  rw [List.take_add_one, h]
  simp [List.all_append]
abbrev rLen (K : PySem.W.Frag) : List V → Hp → VK → Prop := fun xs H Q => ∃ p ys, xs = [.ref p] ∧ (SqL K H p ys ∨ SqT K H p ys) ∧ Q (.int ys.length) H
theorem bulk_mem : ∀ {l : List PyData} {x : PyData}, x ∈ l → x.bulk + 1 ≤ PyData.bulkAll l
  | u :: v, x, h => by
    simp only [PyData.bulkAll]
    rcases List.mem_cons.mp h with rfl | h
    · omega
    · have := bulk_mem h
      omega
def strD : PyData → Bool
  | .str _ => true
  | _ => false
theorem kit_str {K : PySem.W.Frag} (d : PyData) : PySem.W.kitOne K (.type (kindD d)) (.type "str") = some (strD d) := by
  cases d with
  | none => exact kit_ty (show kitB "NoneType" "str" = some false by decide +kernel)
  | bool _ => exact kit_ty (show kitB "bool" "str" = some false by decide +kernel)
  | int _ => exact kit_ty (show kitB "int" "str" = some false by decide +kernel)
  | str _ => exact kit_ty (show kitB "str" "str" = some true by decide +kernel)
  | list _ => exact kit_ty (show kitB "list" "str" = some false by decide +kernel)
  | tuple _ => exact kit_ty (show kitB "tuple" "str" = some false by decide +kernel)
  | dict _ => exact kit_ty (show kitB "dict" "str" = some false by decide +kernel)
theorem pe_globI {X : Cx} {x : Str} {n : Int} {pos : Pos} (hg : Gl X x) (h : ∃ t, X.mg x = some (.int n t)) (hd : (x == ("__debug__" : Str)) = false := by decide) : PE X (.Name x pos) (tC (.int n)) := by
  obtain ⟨t, h⟩ := h
  exact pe_glob hg h ⟨t, rfl⟩ hd
def optV : Option Nat → V
  | none => .non
  | some n => .int n
def sumO (f : PyData → Option Nat) : List PyData → Option Nat
  | [] => some 0
  | x :: r => match f x with
    | none => none
    | some a => match sumO f r with
      | none => none
      | some b => some (a + b)
theorem sumO_none {f : PyData → Option Nat} : ∀ {l : List PyData} {x : PyData}, x ∈ l → f x = none → sumO f l = none
  | y :: r, x, hm, h => by
    rcases List.mem_cons.mp hm with rfl | hm
    · simp only [sumO, h]
    · have ih := sumO_none hm h
      simp only [sumO, ih]
      cases f y <;> rfl
theorem sumO_snoc {f : PyData → Option Nat} : ∀ {l : List PyData} {x : PyData} {s a : Nat}, sumO f l = some s → f x = some a → sumO f (l ++ [x]) = some (s + a)
  | [], x, s, a, h, hx => by
    simp only [sumO, Option.some.injEq] at h
    subst h
    simp [sumO, hx]
  | y :: r, x, s, a, h, hx => by
    simp only [sumO] at h
    cases hy : f y with
    | none => rw [hy] at h; cases h
    | some b =>
      rw [hy] at h
      cases hr : sumO f r with
      | none => rw [hr] at h; cases h
      | some c =>
        rw [hr] at h
        have ih := sumO_snoc hr hx
        simp only [Option.some.injEq] at h
        subst h
        show sumO f (y :: (r ++ [x])) = _
        simp only [sumO, hy, ih]
        congr 1
        omega
theorem sumO_mem {f : PyData → Option Nat} {l : List PyData} {x : PyData} {s : Nat} (h : sumO f l = some s) (hm : x ∈ l) : ∃ a, f x = some a := by
  cases e : f x with
  | none => rw [sumO_none hm e] at h; cases h
  | some a => exact ⟨a, rfl⟩
theorem take_more {α : Type} {l : List α} {i : Nat} {x : α} (h : l[i]? = some x) : l.take (i + 1) = l.take i ++ [x] := by
  rw [List.take_add_one, h]
  rfl
section
variable {P : Program} {w : World} {K : PySem.W.Frag} {mg : Str → Option Value} {base : Heap} {f : Addr} {fd : FuncData}
def spTuple (K : PySem.W.Frag) : Sp := fun vs H Q _ => ∃ (x : V) (d : PyData) (lo hi : Int), vs = [x, .int lo, .int hi] ∧ Dp K H x d ∧ Q (.bl (tupD lo hi d)) H
theorem scTuple : FnScope ["thing", "least", "most"] ["thing", "least", "most"] (defScope sTuple) := ⟨rfl, rfl, rfl, by decide +kernel, rfl, by decide +kernel, by decide +kernel⟩
theorem ok_tuple {k : Nat} (F : Fun K "is_tuple" "is_tuple" sTuple f fd) (T : Free mg) : FnOk P w K mg base CX0 (k + 1) f fd ["thing", "least", "most"] (spTuple K) := by
  refine F.ok scTuple (fun vs H Q E h => ?_) (fun cdv A outer s H vs Q E hr h => ?_)
  · obtain ⟨x, d, lo, hi, rfl, _⟩ := h
    rfl
  obtain ⟨x, d, lo, hi, rfl, hx, q⟩ := h
  refine ⟨_, pss_one (ps_ret (pe_and (pe_callB call_isi rfl T.isi (by decide +kernel) (pa_cons (pv 0) (pa_cons (pe_bltn (v := .ty "tuple") rfl T.tuple (by decide +kernel) rfl) pa_nil)))
    (pe_one (pe_chain op_le op_le (pv 1) (pe_callB call_len_seq rfl T.len PySem.boot_len (pa_cons (pv 0) pa_nil)) (pv 2))))), ?_⟩
  have ht := ty_of hx
  refine ⟨_, rfl, x, _, _, _, _, rfl, .ty "tuple", ht, kit_tuple d, _, rfl, ?_⟩
  cases d with
  | tuple ds =>
    cases hx with
    | tup hs ha =>
      refine ifT rfl ⟨_, rfl, _, rfl, _, _, rfl, .inr hs, _, _, rfl, rfl, _, rfl, ?_⟩
      rw [dpAll_len ha]
      have e : tupD lo hi (.tuple ds) = (decide (lo ≤ (ds.length : Int)) && decide ((ds.length : Int) ≤ hi)) := rfl
      rw [e] at q
      by_cases c : lo ≤ (ds.length : Int)
      · refine ifT (decide_eq_true c) ⟨_, rfl, _, _, rfl, rfl, ?_⟩
        rw [decide_eq_true c, Bool.true_and] at q
        exact q
      · refine ifF (decide_eq_false c) ?_
        rw [decide_eq_false c, Bool.false_and] at q
        exact q
  | int _ => exact ifF rfl q
  | bool b => exact ifF rfl q
  | none => exact ifF rfl q
  | str _ => exact ifF rfl q
  | list _ => exact ifF rfl q
  | dict _ => exact ifF rfl q
end
/-! names -/
def smallB (c : Nat) : Bool := decide (97 ≤ c) && decide (c ≤ 122)
theorem gx_str {x : Str} {g : TG} {tt : TT} {te : TE} {vs : List Nat} {σ0 : L2.St} {e : Bool} {Qe Qn : Hp → Prop} {H : Hp} (Pv : Nat → Hp → Prop) (h0 : Pv 0 H)
    (hs : ∀ i c H, x.cps[i]? = some c → Pv i H → g (.str ⟨#[c]⟩) σ0 H fun σ2 H2 => wipe σ2 vs = σ0 ∧ tt σ2 H2 fun b H3 => if b = true then te σ2 H3 fun y H4 => ∃ c, y = .bl c ∧ (c = e → Pv (i + 1) H4) ∧ (c ≠ e → Qn H4) else Pv (i + 1) H3) (hd : ∀ H, Pv x.cps.size H → Qe H) :
    ∃ W : Nat → Nat → Hp → Prop, (∃ m, W 0 m H) ∧ gxTurn (Its x) g tt te vs σ0 e Qe Qn W := by
  refine ⟨fun i m H => m = x.cps.size - i ∧ i ≤ x.cps.size ∧ Pv i H, ⟨x.cps.size, rfl, Nat.zero_le _, h0⟩, ?_⟩
  rintro i m H ⟨rfl, hi, p⟩
  by_cases hlt : i < x.cps.size
  · refine .inr ⟨hlt, Pv (i + 1), fun H' p' => ⟨x.cps.size - (i + 1), by omega, rfl, hlt, p'⟩, fun v H' y => ?_⟩
    obtain ⟨rfl, c, hc, rfl⟩ := y
    exact hs i c _ hc p
  · have e : i = x.cps.size := by omega
    exact .inl ⟨by show x.cps.size ≤ i; omega, hd H (by rw [← e]; exact p)⟩
def areSmall (x : Str) : Bool := x.cps.toList.all smallB
theorem lt_one (a b : Nat) : decide (([a] : List Nat) < [b]) = decide (a < b) := by
  rw [Bool.eq_iff_iff, decide_eq_true_eq, decide_eq_true_eq]
  constructor
  · intro h
    cases h with
    | rel h => exact h
    | cons h => cases h
  · intro h
    exact List.Lex.rel h
section
open PySem.Spec PyProof.Rows LamX
variable {P : Program} {w : World} {K : PySem.W.Frag} {mg : Str → Option Value} {base : Heap} {f : Addr} {fd : FuncData}
def spSmall (K : PySem.W.Frag) (PT : List Addr) : Sp := fun vs H Q _ => ∃ x : Str, vs = [.str x] ∧ TabsG PT H ∧ ∀ H', ExtN H H' → TabsG PT H' → Q (.bl (areSmall x)) H'
theorem scSmall : FnScope ["text", "sign"] ["text"] (defScope sSmall) := ⟨rfl, rfl, rfl, by decide +kernel, rfl, by decide +kernel, by decide +kernel⟩
theorem ok_small {k : Nat} {c Pc : Addr} {PT : List Addr} (F : Fun K "are_small" "are_small" sSmall f fd) (hc : fd.code = .ref c) (TB : LamX.TabB base mg c Pc) (hPT : Pc ∈ PT) (hA : mg "all" = none) : FnOk P w K mg base CX0 (k + 2) f fd ["text"] (spSmall K PT) := by
  refine okC F hc scSmall (fun vs H Q E h => ?_) (fun A outer s H vs Q E hr h => ?_)
  · obtain ⟨x, rfl, _⟩ := h
    rfl
  obtain ⟨x, rfl, tb, q⟩ := h
  refine ⟨_, pss_one (ps_ret (pe_allG (own := [("sign", 1)]) (wi := iStr (tVar 0)) (g := gName 1) (tt := tYes) (te := tChain (fun x y H Q => ∃ i j, x = .str i ∧ y = .str j ∧ Q (.bl (!decide (j.cps.toList < i.cps.toList))) H) (fun x y H Q => ∃ i j, x = .str i ∧ y = .str j ∧ Q (.bl (!decide (j.cps.toList < i.cps.toList))) H) (tC (.str "a")) (tVar 1) (tC (.str "z"))) scSmall.nd hr rfl hA (by decide +kernel) TB rfl
      (blkOk_by (own := [("sign", 1)]) (N := ["text", "sign"]) (sc := defScope sSmall) (by decide +kernel)) (by decide +kernel) rfl rfl (pi_str (pv 0))
      (fun _ _ _ _ _ _ _ _ _ _ => pg_name (i := 1) scSmall.nd rfl (Or.inl rfl)) (fun _ _ _ _ _ _ _ _ _ _ => pts_nil)
      (fun _ _ _ _ _ _ _ _ _ hr' => pe_chain op_le_str op_le_str pe_str (pv 1) pe_str) (fun _ => rfl))), ?_⟩
  refine ⟨_, rfl, x, rfl, tb Pc hPT, fun H2 b2 => ?_⟩
  have e2 := tabbed_ext (tb Pc hPT) b2
  have t2 := tb.tabbed b2
  refine gx_str (x := x) (fun i G => G = H2 ∧ (x.cps.toList.take i).all smallB = true) ⟨rfl, rfl⟩ (fun i c G hc h => ?_) (fun G h => ?_)
  · obtain ⟨rfl, all⟩ := h
    have hc' : x.cps.toList[i]? = some c := by rw [← hc]; simp
    have no : smallB c = false → Q (.bl false) G := fun z => by
      have r := q G e2 t2
      have e : areSmall x = false := by
        cases y : areSmall x with
        | false => rfl
        | true =>
          have := List.all_eq_true.mp y c (List.mem_of_getElem? hc')
          rw [z] at this
          cases this
      rw [e] at r
      exact r
    refine ⟨rfl, yesG ⟨_, rfl, _, _, rfl, rfl, _, rfl, ?_⟩⟩
    have e1 : (!decide (([c] : List Nat) < [97])) = decide (97 ≤ c) := by rw [lt_one]; by_cases z : 97 ≤ c <;> simp [z] <;> omega
    have e3 : (!decide (([122] : List Nat) < [c])) = decide (c ≤ 122) := by rw [lt_one]; by_cases z : c ≤ 122 <;> simp [z] <;> omega
    show if (!decide (([c] : List Nat) < [97])) = true then _ else _
    rw [e1]
    by_cases c1 : 97 ≤ c
    · refine ifT (decide_eq_true c1) ⟨_, _, rfl, rfl, ?_⟩
      refine ⟨decide (c ≤ 122), congrArg V.bl e3, fun z => ⟨rfl, ?_⟩, fun z => no ?_⟩
      · rw [all_take hc', all]
        unfold smallB
        rw [decide_eq_true c1, z]
        rfl
      · unfold smallB
        rw [decide_eq_true c1, Bool.true_and]
        exact Bool.eq_false_iff.mpr z
    · refine ifF (decide_eq_false c1) ⟨false, rfl, (fun z => by cases z), (fun _ => no ?_)⟩
      unfold smallB
      rw [decide_eq_false c1, Bool.false_and]
  · obtain ⟨rfl, all⟩ := h
    have e : areSmall x = true := by
      rw [show x.cps.size = x.cps.toList.length by simp, List.take_length] at all
      exact all
    have r := q G e2 t2
    rw [e] at r
    exact r
/-! is_number_name -/
structure Cst (mg : Str → Option Value) : Prop where
  mostSigns : ∃ t, mg "MOST_SIGNS" = some (.int 6 t)
  mostInBlock : ∃ t, mg "MOST_IN_BLOCK" = some (.int 12 t)
  mostWithin : ∃ t, mg "MOST_WITHIN" = some (.int 4 t)
  mostStatements : ∃ t, mg "MOST_STATEMENTS" = some (.int 40 t)
  mostChannels : ∃ t, mg "MOST_CHANNELS" = some (.int 6 t)
  mostActors : ∃ t, mg "MOST_ACTORS" = some (.int 4 t)
  places : ∃ t, mg "PLACES" = some (.int 3 t)
  greatest : ∃ t, mg "GREATEST" = some (.int 9999 t)
  mostRows : ∃ t, mg "MOST_ROWS" = some (.int 40 t)
  fin : ∃ t, mg "END" = some (.int (-1) t)
/-- texts of it are no longer than a line -/
def TxtOk (d : PyData) : Prop := ∀ x, d = .str x → x.length ≤ sizeLine
def numNameD : PyData → Bool
  | .str x => decide (1 ≤ x.length) && decide (x.length ≤ 6) && areSmall x
  | _ => false
def spName (K : PySem.W.Frag) (PT : List Addr) (fn : PyData → Bool) : Sp := fun vs H Q _ => ∃ (x : V) (d : PyData), vs = [x] ∧ Dp K H x d ∧ TxtOk d ∧ TabsG PT H ∧ ∀ H', ExtN H H' → TabsG PT H' → Q (.bl (fn d)) H'
theorem scNumName : FnScope ["thing"] ["thing"] (defScope sNumName) := ⟨rfl, rfl, rfl, by decide +kernel, rfl, by decide +kernel, by decide +kernel⟩
theorem ok_numName {k : Nat} {PT : List Addr} (F : Fun K "is_number_name" "is_number_name" sNumName f fd) (T : Free mg) (hS : mg "str" = none) (C : Cst mg) (cS : Cal P w K mg base "are_small" k ["text"] (spSmall K PT)) : FnOk P w K mg base CX0 (k + 1) f fd ["thing"] (spName K PT numNameD) := by
  refine F.ok scNumName (fun vs H Q E h => ?_) (fun cdv A outer s H vs Q E hr h => ?_)
  · obtain ⟨x, d, rfl, _⟩ := h
    rfl
  obtain ⟨x, d, rfl, hx, ht, tb, q⟩ := h
  refine ⟨_, pss_one (ps_ret (pe_and (pe_callB call_isi rfl T.isi (by decide +kernel) (pa_cons (pv 0) (pa_cons (pe_bltn (v := .ty "str") rfl hS (by decide +kernel) rfl) pa_nil)))
    (pe_and (pe_chain op_le op_le pe_int (pe_callB call_len_str rfl T.len PySem.boot_len (pa_cons (pv 0) pa_nil)) (pe_globI rfl C.mostSigns)) (pe_one (pe_cal cS hr rfl (pa_cons (pv 0) pa_nil)))))), ?_⟩
  refine ⟨_, rfl, x, _, _, _, _, rfl, .ty "str", ty_of hx, kit_str d, _, rfl, ?_⟩
  cases hs : strD d with
  | false =>
    have e : numNameD d = false := by cases d <;> first | rfl | cases hs
    rw [e] at q
    exact ifF rfl (q H (ExtN.refl _) tb)
  | true =>
    obtain ⟨z, rfl⟩ : ∃ z, d = .str z := by cases d <;> first | exact ⟨_, rfl⟩ | cases hs
    have q : ∀ H', ExtN H H' → TabsG PT H' → Q (.bl (decide (1 ≤ z.length) && decide (z.length ≤ 6) && areSmall z)) H' := q
    cases hx
    refine ifT rfl ⟨_, rfl, z, rfl, ht z rfl, _, _, rfl, rfl, _, rfl, ?_⟩
    by_cases c1 : 1 ≤ z.length
    · refine ifT (decide_eq_true (by omega)) ⟨_, _, rfl, rfl, _, rfl, ?_⟩
      by_cases c2 : z.length ≤ 6
      · refine ifT (decide_eq_true (by omega)) ⟨_, rfl, z, rfl, tb, fun H' e t => ?_⟩
        have r := q H' e t
        rw [decide_eq_true c1, decide_eq_true c2] at r
        exact r
      · refine ifF (decide_eq_false (by omega)) ?_
        have r := q H (ExtN.refl _) tb
        rw [decide_eq_false c2, Bool.and_false, Bool.false_and] at r
        exact r
    · refine ifF (decide_eq_false (by omega)) ⟨_, rfl, ifF rfl ?_⟩
      have r := q H (ExtN.refl _) tb
      rw [decide_eq_false c1, Bool.false_and, Bool.false_and] at r
      exact r
/-! is_graph_name -/
def bigB (c : Nat) : Bool := decide (65 ≤ c) && decide (c ≤ 90)
def graphNameD : PyData → Bool
  | .str x => decide (1 ≤ x.length) && decide (x.length ≤ 6) && (bigB (x.cps.toList.headD 0) && areSmall (cutS x (some 1) none))
  | _ => false
theorem scGraphName : FnScope ["thing"] ["thing"] (defScope sGraphName) := ⟨rfl, rfl, rfl, by decide +kernel, rfl, by decide +kernel, by decide +kernel⟩
theorem ok_graphName {k : Nat} {PT : List Addr} (F : Fun K "is_graph_name" "is_graph_name" sGraphName f fd) (T : Free mg) (hS : mg "str" = none) (C : Cst mg) (cS : Cal P w K mg base "are_small" k ["text"] (spSmall K PT)) : FnOk P w K mg base CX0 (k + 1) f fd ["thing"] (spName K PT graphNameD) := by
  refine F.ok scGraphName (fun vs H Q E h => ?_) (fun cdv A outer s H vs Q E hr h => ?_)
  · obtain ⟨x, d, rfl, _⟩ := h
    rfl
  obtain ⟨x, d, rfl, hx, ht, tb, q⟩ := h
  refine ⟨_, pss_cons (ps_if (PW.pt (pw_or (pt_not (pt_val (pe_callB call_isi rfl T.isi (by decide +kernel) (pa_cons (pv 0) (pa_cons (pe_bltn (v := .ty "str") rfl hS (by decide +kernel) rfl) pa_nil))))) (pw_or1 (pt_not (pt_chain op_le op_le pe_int (pe_callB call_len_str rfl T.len PySem.boot_len (pa_cons (pv 0) pa_nil)) (pe_globI rfl C.mostSigns)))))) (pss_one (ps_ret pe_bl)) pss_nil)
    (pss_one (ps_ret (pe_and (pe_chain op_le_str op_le_str pe_str (pe_ix ix_str (pv 0) pe_int (fun _ _ => rfl)) pe_str) (pe_one (pe_cal cS hr rfl (pa_cons (pe_slice sl_str (pv 0) (po_some pe_int) po_none) pa_nil)))))), ?_⟩
  have q0 : graphNameD d = false → Q (.bl false) H := fun e => by
    have r := q H (ExtN.refl _) tb
    rw [e] at r
    exact r
  refine ⟨_, rfl, x, _, _, _, _, rfl, .ty "str", ty_of hx, kit_str d, _, rfl, ?_⟩
  cases hs : strD d with
  | false => exact ifT rfl (ifT rfl (q0 (by cases d <;> first | rfl | cases hs)))
  | true =>
    obtain ⟨z, rfl⟩ : ∃ z, d = .str z := by cases d <;> first | exact ⟨_, rfl⟩ | cases hs
    have q : ∀ H', ExtN H H' → TabsG PT H' → Q (.bl (decide (1 ≤ z.length) && decide (z.length ≤ 6) && (bigB (z.cps.toList.headD 0) && areSmall (cutS z (some 1) none)))) H' := q
    have q0 : (decide (1 ≤ z.length) && decide (z.length ≤ 6) && (bigB (z.cps.toList.headD 0) && areSmall (cutS z (some 1) none))) = false → Q (.bl false) H := q0
    cases hx
    refine ifF rfl ⟨_, rfl, z, rfl, ht z rfl, _, _, rfl, rfl, _, rfl, ?_⟩
    by_cases c1 : 1 ≤ z.length
    · refine ifT (decide_eq_true (by omega)) ⟨_, _, rfl, rfl, _, rfl, ?_⟩
      by_cases c2 : z.length ≤ 6
      · rw [decide_eq_true c1, decide_eq_true c2] at q q0
        refine ifF (by rw [decide_eq_true (show (z.length : Int) ≤ 6 by omega)]; rfl) ?_
        have l0 : 0 < z.cps.toList.length := by
          have : z.cps.toList.length = z.length := by simp [Str.length]
          omega
        obtain ⟨c, r, e⟩ : ∃ c r, z.cps.toList = c :: r := by
          cases h : z.cps.toList with
          | nil => rw [h] at l0; cases l0
          | cons c r => exact ⟨c, r, rfl⟩
        rw [e] at q q0
        have e1 : (!decide (([c] : List Nat) < [65])) = decide (65 ≤ c) := by rw [lt_one]; by_cases z : 65 ≤ c <;> simp [z] <;> omega
        have e3 : (!decide (([90] : List Nat) < [c])) = decide (c ≤ 90) := by rw [lt_one]; by_cases z : c ≤ 90 <;> simp [z] <;> omega
        refine ⟨_, rfl, z, 0, c, rfl, rfl, ht z rfl, by rw [e]; exact atI_at (by decide) rfl, _, _, rfl, rfl, _, rfl, ?_⟩
        show if (!decide (([c] : List Nat) < [65])) = true then _ else _
        rw [e1]
        by_cases c3 : 65 ≤ c
        · refine ifT (decide_eq_true c3) ⟨_, _, rfl, rfl, decide (c ≤ 90), congrArg V.bl e3, ?_⟩
          by_cases c4 : c ≤ 90
          · have hb : bigB ((c :: r).headD 0) = true := by
              show (decide (65 ≤ c) && decide (c ≤ 90)) = true
              rw [decide_eq_true c3, decide_eq_true c4]; rfl
            rw [hb] at q
            exact ifT (decide_eq_true c4) ⟨_, rfl, _, rfl, z, rfl, ht z rfl, _, rfl, tb, fun H' e t => q H' e t⟩
          · refine ifF (decide_eq_false c4) (q0 ?_)
            show (true && true && ((decide (65 ≤ c) && decide (c ≤ 90)) && _)) = false
            rw [decide_eq_false c4, Bool.and_false, Bool.false_and, Bool.and_false]
        · refine ifF (decide_eq_false c3) ⟨false, rfl, ifF rfl (q0 ?_)⟩
          show (true && true && ((decide (65 ≤ c) && decide (c ≤ 90)) && _)) = false
          rw [decide_eq_false c3, Bool.false_and, Bool.false_and, Bool.and_false]
      · refine ifT (by rw [decide_eq_false (show ¬ (z.length : Int) ≤ 6 by omega)]; rfl) (q0 ?_)
        rw [decide_eq_false c2, Bool.and_false, Bool.false_and]
    · refine ifF (decide_eq_false (by omega)) ⟨_, rfl, ifT rfl (q0 ?_)⟩
      rw [decide_eq_false c1, Bool.false_and, Bool.false_and]
end
/-! word_of, is_number, is_place -/
def wordD : PyData → Str
  | .tuple (.str x :: _) => x
  | _ => ""
section
variable {P : Program} {w : World} {K : PySem.W.Frag} {mg : Str → Option Value} {base : Heap} {f : Addr} {fd : FuncData}
def spWordOf (K : PySem.W.Frag) : Sp := fun vs H Q _ => ∃ (x : V) (d : PyData), vs = [x] ∧ Dp K H x d ∧ Q (.str (wordD d)) H
theorem scWordOf : FnScope ["thing"] ["thing"] (defScope sWordOf) := ⟨rfl, rfl, rfl, by decide +kernel, rfl, by decide +kernel, by decide +kernel⟩
theorem ok_wordOf {k : Nat} (F : Fun K "word_of" "word_of" sWordOf f fd) (T : Free mg) (hS : mg "str" = none) : FnOk P w K mg base CX0 (k + 1) f fd ["thing"] (spWordOf K) := by
  refine F.ok scWordOf (fun vs H Q E h => ?_) (fun cdv A outer s H vs Q E hr h => ?_)
  · obtain ⟨x, d, rfl, _⟩ := h
    rfl
  obtain ⟨x, d, rfl, hx, q⟩ := h
  refine ⟨_, pss_cons (ps_if (PW.pt (pw_and (pt_val (pe_callB call_isi rfl T.isi (by decide +kernel) (pa_cons (pv 0) (pa_cons (pe_bltn (v := .ty "tuple") rfl T.tuple (by decide +kernel) rfl) pa_nil)))) (pw_and (pt_cmpR op_gt (pe_callB call_len_seq rfl T.len PySem.boot_len (pa_cons (pv 0) pa_nil)) pe_int (nomark _)) (pw_and1 (pt_val (pe_callB call_isi rfl T.isi (by decide +kernel) (pa_cons (pe_ix ix_tup (pv 0) pe_int (fun _ _ => rfl)) (pa_cons (pe_bltn (v := .ty "str") rfl hS (by decide +kernel) rfl) pa_nil))))))))
      (pss_one (ps_ret (pe_ix ix_tup (pv 0) pe_int (fun _ _ => rfl)))) pss_nil)
    (pss_one (ps_ret pe_str)), ?_⟩
  refine ⟨_, rfl, x, _, _, _, _, rfl, .ty "tuple", ty_of hx, kit_tuple d, _, rfl, ?_⟩
  cases ht : tupleD d with
  | false =>
    have e : wordD d = "" := by cases d <;> first | rfl | cases ht
    rw [e] at q
    exact ifF rfl (ifF rfl q)
  | true =>
    obtain ⟨es, rfl⟩ : ∃ es, d = .tuple es := by cases d <;> first | exact ⟨_, rfl⟩ | cases ht
    cases hx with
    | @tup a xs _ at_ each =>
      refine ifT rfl ⟨_, rfl, a, xs, rfl, .inr at_, _, _, rfl, rfl, _, rfl, ?_⟩
      cases each with
      | nil => exact ifF rfl (ifF rfl q)
      | @cons y ys e es h1 h2 =>
        refine ifT (decide_eq_true (by show (0 : Int) < ((y :: ys).length : Nat); rw [List.length_cons]; omega)) ⟨_, rfl, a, y :: ys, 0, y, rfl, rfl, at_, atI_at (by decide) rfl, y, _, _, _, _, rfl, .ty "str", ty_of h1, kit_str e, _, rfl, ?_⟩
        cases hs : strD e with
        | false =>
          have e' : wordD (.tuple (e :: es)) = "" := by cases e <;> first | rfl | cases hs
          rw [e'] at q
          exact ifF rfl q
        | true =>
          obtain ⟨z, rfl⟩ : ∃ z, e = .str z := by cases e <;> first | exact ⟨_, rfl⟩ | cases hs
          cases h1
          exact ifT rfl ⟨_, rfl, a, _, 0, _, rfl, rfl, at_, atI_at (by decide) rfl, q⟩
def spNumber (K : PySem.W.Frag) : Sp := fun vs H Q _ => ∃ (x : V) (d : PyData), vs = [x] ∧ Dp K H x d ∧ Q (.bl (withinD (-9999) 9999 d)) H
theorem scNumber : FnScope ["thing"] ["thing"] (defScope sNumber) := ⟨rfl, rfl, rfl, by decide +kernel, rfl, by decide +kernel, by decide +kernel⟩
theorem ok_number {k : Nat} (F : Fun K "is_number" "is_number" sNumber f fd) (C : Cst mg) (cW : Cal P w K mg base "is_within" k ["thing", "least", "most"] (spWithin K)) : FnOk P w K mg base CX0 (k + 1) f fd ["thing"] (spNumber K) := by
  refine F.ok scNumber (fun vs H Q E h => ?_) (fun cdv A outer s H vs Q E hr h => ?_)
  · obtain ⟨x, d, rfl, _⟩ := h
    rfl
  obtain ⟨x, d, rfl, hx, q⟩ := h
  refine ⟨_, pss_one (ps_ret (pe_cal cW hr rfl (pa_cons (pv 0) (pa_cons (pe_un un_neg (pe_globI rfl C.greatest)) (pa_cons (pe_globI rfl C.greatest) pa_nil))))), ?_⟩
  exact ⟨_, rfl, _, rfl, x, d, -9999, 9999, rfl, hx, q⟩
def spPlaceD (K : PySem.W.Frag) : Sp := fun vs H Q _ => ∃ (x : V) (d : PyData), vs = [x] ∧ Dp K H x d ∧ Q (.bl (withinD 0 2 d)) H
theorem scPlace : FnScope ["thing"] ["thing"] (defScope sPlace) := ⟨rfl, rfl, rfl, by decide +kernel, rfl, by decide +kernel, by decide +kernel⟩
theorem ok_placeD {k : Nat} (F : Fun K "is_place" "is_place" sPlace f fd) (C : Cst mg) (cW : Cal P w K mg base "is_within" k ["thing", "least", "most"] (spWithin K)) : FnOk P w K mg base CX0 (k + 1) f fd ["thing"] (spPlaceD K) := by
  refine F.ok scPlace (fun vs H Q E h => ?_) (fun cdv A outer s H vs Q E hr h => ?_)
  · obtain ⟨x, d, rfl, _⟩ := h
    rfl
  obtain ⟨x, d, rfl, hx, q⟩ := h
  refine ⟨_, pss_one (ps_ret (pe_cal cW hr rfl (pa_cons (pv 0) (pa_cons pe_int (pa_cons (pe_op op_sub (pe_globI rfl C.places) pe_int) pa_nil))))), ?_⟩
  exact ⟨_, rfl, _, _, rfl, rfl, x, d, 0, 2, rfl, hx, q⟩
end
/-! tuple(.. for ..), whatever is walked; the items go to the list at D -/
section
open PySem.Spec PyProof.Rows
def GtE (Z : Cx) (σ0 : L2.St) (Qe : Hp → Prop) : Nat → Shared → Shared → Prop := fun _ _ s1 => ∃ H, Inv Z [] σ0 H s1 ∧ Qe H
def GtY (Z : Cx) (D : Addr) : Protocol := fun _ _ v s kap => ∃ (y : V) (xs : List V) (H : Hp) (σ' : L2.St), RelV y v ∧ Inv Z [] σ' H s ∧ H D = some (.lst xs) ∧ xs.length < sizeLine ∧ ∀ s' : Shared, (∀ b o, b ≠ D → s.heap.get? b = some o → s'.heap.get? b = some o) → Inv Z [] σ' (upd H D (.lst (xs ++ [y]))) s' → kap (.send .none) s'
abbrev gtTurn (J : It) (g : TG) (tt : TT) (te : TE) (vs : List Nat) (σ0 : L2.St) (D : Addr) (Qe : Hp → Prop) (W : Nat → Nat → Hp → Prop) : Prop :=
  ∀ i m H, W i m H → (J.stop i H ∧ Qe H) ∨ (J.go i H ∧ ∃ Nx : Hp → Prop, (∀ H', Nx H' → ∃ m', m' < m ∧ W (i + 1) m' H') ∧ ∀ x H', J.yld i H x H' → g x σ0 H' fun σ2 H2 => wipe σ2 vs = σ0 ∧ tt σ2 H2 fun b H3 =>
    if b = true then te σ2 H3 fun y H4 => ∃ acc, H4 D = some (.lst acc) ∧ acc.length < sizeLine ∧ Nx (upd H4 D (.lst (acc ++ [y]))) else Nx H3)
section
variable {X : Cx} {A0 : Around} {s1 : Shared} {H1 : Hp} {ce : Env} {fp : List Addr} {pn : List (Addr × Obj)} {elt tg iter : Expr} {ifs : List Expr} {scope : Scope} {gpos : Pos} {it : Addr} {tn : Nat → Heap → Prop} {J : It} {g : TG} {tt : TT} {te : TE} {vs : List Nat} {σ0 : L2.St} {D : Addr} {Qe : Hp → Prop} {W : Nat → Nat → Hp → Prop}
theorem seg_gt {Z : Cx} (hZ : Z = gxZ X A0 s1 H1 ce fp pn elt tg iter ifs scope gpos it) (hpn : ∀ p ∈ pn, p.1 ∉ fp) (hco : ce.scope.isCoroutine = false) (T : Turn X.prog X.w X.K tg J fp it tn) (pg : PG Z tg g) (pt : PTs Z ifs tt) (pe : PE Z elt te) (turn : gtTurn J g tt te vs σ0 D Qe W) :
    ∀ (m i n : Nat) (s₀ s : Shared) (H : Hp), m < n → W i m H → Inv Z [] σ0 H s → tn i s.heap → (∀ b ∈ fp, H b = none) →
      Seg (model X.prog X.w) A0 (fun n s₀ r s1 => r = .ok .next ∧ GtE Z σ0 Qe n s₀ s1) (GtY Z D) n s₀ (gxCode elt tg iter ifs scope gpos it ce) ((model X.prog X.w).den (gxCode elt tg iter ifs scope gpos it ce)) [] s := by
  intro m
  induction m using Nat.strongRecOn with
  | ind m ih =>
    intro i n s₀ s H hmn w0 I st nf
    have fpo := gx_fp hZ hpn I nf
    show Seg _ A0 _ _ _ s₀ _ ((compTurn (.GeneratorExp elt [⟨tg, iter, ifs, 0⟩] scope gpos) 0 (.ref it) .none ce).onRaise (leaving ce)) [] s
    rw [compTurn_gen, Sem.onRaise_eq_wrap]
    refine seg_bind_wrap (wpAny_standAt ?_)
    rcases turn i m H w0 with ⟨stop, qe⟩ | ⟨go, Nx, hNx, step⟩
    · have td := T.done Z (by rw [hZ]; rfl) (by rw [hZ]; rfl) (by rw [hZ]; rfl) (by rw [hZ]; rfl) i [] s σ0 H (fun _ _ => False) I fpo st stop
      have hA : Z.A = A0.over (gxCode elt tg iter ifs scope gpos it ce) [] := by rw [hZ]; rfl
      rw [hA] at td
      refine seg_bind_wrap (wpAny_mono td (fun r s2 hr => ?_) fun _ _ z => z.elim)
      obtain ⟨rfl, I2⟩ := hr
      exact seg_end (.ok .next) ⟨rfl, H, I2, qe⟩
    · have hA : Z.A = A0.over (gxCode elt tg iter ifs scope gpos it ce) [] := by rw [hZ]; rfl
      have hE : Z.env = ce := by rw [hZ]; rfl
      have hPr : Z.prog = X.prog := by rw [hZ]; rfl
      have hWd : Z.w = X.w := by rw [hZ]; rfl
      have hXe : Z.xe = fun _ _ => False := by rw [hZ]; rfl
      have ti := T.item Z hPr hWd (by rw [hZ]; rfl) (by rw [hZ]; rfl) i [] s σ0 H (fun _ _ => False) I fpo st go
      rw [hA] at ti
      refine seg_bind_wrap (wpAny_mono ti (fun r s2 hr => ?_) fun _ _ z => z.elim)
      obtain ⟨u, rfl, ti⟩ := hr
      refine seg_bind_wrap (wpAny_mono ti (fun _ s7 h7 => ?_) fun _ _ z => z.elim)
      obtain ⟨x, H7, I7, r7, y7, st7, n7⟩ := h7
      have I7' := I7.pinned (gx_fp hZ hpn I7 n7) (T.obj _ _ st7)
      have ta := pg.run _ s7 _ H7 x u _ I7' r7 (step x H7 y7)
      rw [hPr, hWd, hA, hE, hXe] at ta
      refine seg_bind_wrap (wpAny_mono ta (fun _ s8 h8 => ?_) fun _ _ z => z.elim)
      obtain ⟨σ8, H8, I8, hw8, q8⟩ := h8
      have tt' := pt.run _ s8 σ8 H8 _ I8 q8
      rw [hPr, hWd, hA, hE, hXe] at tt'
      refine seg_bind_wrap (wpAny_mono tt' (fun b s9 h9 => ?_) fun _ _ z => z.elim)
      obtain ⟨H9, I9, q9⟩ := h9
      -- what stands at the next turn
      have next : ∀ {sn s' : Shared} {H' : Hp}, Inv Z ([] ++ pinsAt fp s7.heap) σ8 H' sn → s'.heap = sn.heap → s'.os = sn.os → AllBare s'.gens → Inv Z [] σ0 H' s' ∧ tn (i + 1) s'.heap ∧ ∀ b ∈ fp, H' b = none := fun {sn s' H'} I' e1 e2 e3 => by
        have pin' : ∀ b ∈ fp, ∀ o, s7.heap.get? b = some o → sn.heap.get? b = some o ∧ H' b = none := fun b hb o eo =>
          let z := I'.pin (b, o) (List.mem_append_right _ (List.mem_append_right _ (mem_pinsAt hb eo)))
          ⟨z.1, z.2.1⟩
        have hl : σ0.length = σ8.length := by rw [← hw8, wipe_length]
        have I'' : Inv Z [] σ0 H' sn := (I'.unpinned (pins := [])).weak hl fun j v ev => by
          rw [← hw8] at ev
          exact (wipe_some ev).1
        refine ⟨inv_sh I'' e1 e2 e3, ?_, fun b hb => ?_⟩
        · rw [e1]
          exact T.keep _ _ _ st7 fun b hb o eo => (pin' b hb o eo).1
        · obtain ⟨o, eo, _⟩ := T.obj _ _ st7 b hb
          exact (pin' b hb o eo).2
      cases b with
      | false =>
        simp only [Bool.false_eq_true, if_false] at q9 ⊢
        obtain ⟨m', hm, w'⟩ := hNx _ q9
        obtain ⟨J1, J2, J3⟩ := next I9 rfl rfl I9.bare
        exact seg_again rfl (ih m' hm (i + 1) n s₀ s9 H9 (by omega) w' J1 J2 J3)
      | true =>
        simp only [if_true] at q9 ⊢
        have out : ∀ v, yieldOut ce v = yieldValue v := fun v => by simp only [yieldOut, hco, Bool.false_eq_true, if_false]
        simp only [out]
        rw [Sem.bind_eq_wrap', Sem.bind_eq_wrap']; rw [Sem.wrap_wrap, Sem.wrap_wrap]
        have tel := pe.run _ s9 σ8 H9 _ I9 q9
        rw [hPr, hWd, hA, hE, hXe] at tel
        refine seg_wrap (wpAny_mono tel (fun y s10 h10 => ?_) fun _ _ z => z.elim)
        obtain ⟨yv, H10, I10, r10, acc, hD, hz, nx⟩ := h10
        obtain ⟨n', rfl⟩ : ∃ n', n = n' + 1 := ⟨n - 1, by omega⟩
        refine seg_at (seg_yield rfl rfl rfl ⟨yv, acc, H10, σ8, r10, I10.unpinned, hD, hz, fun s' e1 I' => ?_⟩)
        obtain ⟨m', hm, w'⟩ := hNx _ nx
        have pin' : ∀ b ∈ fp, ∀ o, s7.heap.get? b = some o → b ≠ D ∧ s'.heap.get? b = some o ∧ H10 b = none := fun b hb o eo => by
          have z := I10.pin (b, o) (List.mem_append_right _ (List.mem_append_right _ (mem_pinsAt hb eo)))
          have nb : b ≠ D := fun q => by
            have := z.2.1
            rw [show (b, o).1 = D from q, hD] at this
            cases this
          exact ⟨nb, e1 b o nb z.1, z.2.1⟩
        have hl : σ0.length = σ8.length := by rw [← hw8, wipe_length]
        have J1 : Inv Z [] σ0 (upd H10 D (.lst (acc ++ [yv]))) s' := I'.weak hl fun j v ev => by
          rw [← hw8] at ev
          exact (wipe_some ev).1
        refine seg_again rfl (ih m' hm (i + 1) n' s' s' _ (by omega) w' J1 (T.keep _ _ _ st7 fun b hb o eo => (pin' b hb o eo).2.1) fun b hb => ?_)
        obtain ⟨o, eo, _⟩ := T.obj _ _ st7 b hb
        rw [upd_ne (pin' b hb o eo).1]
        exact (pin' b hb o eo).2.2
theorem seg_gt0 {Z : Cx} (hZ : Z = gxZ X A0 s1 H1 ce fp pn elt tg iter ifs scope gpos it) (hpn : ∀ p ∈ pn, p.1 ∉ fp) (hco : ce.scope.isCoroutine = false) (T : Turn X.prog X.w X.K tg J fp it tn) (pg : PG Z tg g) (pt : PTs Z ifs tt) (pe : PE Z elt te) (turn : gtTurn J g tt te vs σ0 D Qe W)
    {m n : Nat} {s₀ s : Shared} {H : Hp} (hmn : m < n) (w0 : W 0 m H) (I : Inv Z [] σ0 H s) (st : tn 0 s.heap) (nf : ∀ b ∈ fp, H b = none) :
    Seg (model X.prog X.w) A0 (fun n s₀ r s1 => r = .ok .next ∧ GtE Z σ0 Qe n s₀ s1) (GtY Z D) n s₀ (.compStart (.GeneratorExp elt [⟨tg, iter, ifs, 0⟩] scope gpos) 0 (.ref it) .none ce) ((model X.prog X.w).den (.compStart (.GeneratorExp elt [⟨tg, iter, ifs, 0⟩] scope gpos) 0 (.ref it) .none ce)) [] s := by
  have loop := seg_gt hZ hpn hco T pg pt pe turn m 0 n s₀ s H hmn w0 I st nf
  show Seg _ A0 _ _ _ s₀ _ ((compStart (.GeneratorExp elt [⟨tg, iter, ifs, 0⟩] scope gpos) 0 (.ref it) .none ce).onRaise (leaving ce)) [] s
  unfold compStart
  rw [Sem.onRaise_eq_wrap]
  show Seg _ A0 _ _ _ s₀ _ ((ask >>= _).wrap _ _ _ _) [] s
  refine seg_bind_wrap (wpAny_askSetting ?_)
  split
  · exact seg_again rfl loop
  · refine seg_bind_wrap (wpAny_rule ?_)
    show Seg _ A0 _ _ _ s₀ _ ((standAt iter.pos >>= _).wrap _ _ _ _) [] s
    exact seg_bind_wrap (wpAny_standAt (seg_bind_wrap (T.self _ 0 s _ _ st (seg_again rfl loop))))
end
/-- list.extend.loop over it -/
theorem gt_loop {Z : Cx} {A : Around} {a D : Addr} {g : Nat} {σ0 : L2.St} {Qe : Hp → Prop} {res : Value} {R : Result → Shared → Prop} (hh : A.handled = none) (hd : A.depth < recursionLimit) (isG : ∀ {σ' : L2.St} {H' : Hp} {s' : Shared}, Inv Z [] σ' H' s' → s'.heap.IsGen a g)
    (hE : ∀ (s' : Shared) (H' : Hp), s'.os = Z.s_0.os → AllBare s'.gens → Un Z.fs Z.ex Z.H_0 H' Z.s_0.heap s'.heap → HOk Z.prog Z.w H' s'.heap → Qe H' → R (.ok (.ret res)) s') :
    ∀ (m : Nat) (s : Shared), s.heap.IsGen a g → s.heap.NoLimit → (∃ gs, s.gens[g]? = some gs ∧ gs.Goes (model Z.prog Z.w) A.in1.in1 (fun n s₀ r s1 => r = .ok .next ∧ GtE Z σ0 Qe n s₀ s1) (GtY Z D) m (.send .none) (s.setGen g .running)) →
      codeAny (model Z.prog Z.w) A (.builtin "list.extend.loop" ⟨[.ref D, .ref a, res], []⟩) R s := by
  intro m
  induction m with
  | zero =>
    intro s hg hl ⟨gs, hgs, goes⟩
    refine codeAny_builtin F.entry_extend_loop ?_
    rw [Around.under_plainId F.plain_extend_loop _]
    show wpAny _ A.in1 (pyNext (.ref a) >>= _) _ _ s
    refine wpAny_bind (wpAny_pyNext_genexpQ (A := A.in1) hh hl hd hg hgs goes (fun v s1 gs' hbare hv => ?_) (fun s1 hp h' hk => ?_))
    · obtain ⟨y, xs, H', σ', ry, I, hD, hz, more⟩ := hv
      obtain ⟨_, its, n, rv, _, e⟩ := I.lstM hD
      refine False.elim (more _ ?_ (I.lset (t' := s1.toks) (f := (·.push v)) (its' := its ++ [v]) hD e (by simp) (rv.append (.cons ry .nil)) (by rw [List.length_append, List.length_singleton]; omega)))
      exact fun b o hb q => (Heap.get?_update_other _ _ (Ne.symm hb)).trans q
    · obtain ⟨H', I, q⟩ := hp
      exact wpAny_pure (hE _ H' I.os (allBare_setGen I.bare rfl) (un_kept I.base hk) (I.hok.kept hk) q)
  | succ m ih =>
    intro s hg hl ⟨gs, hgs, goes⟩
    have hgl : g < s.gens.size := (Array.getElem?_eq_some_iff.mp hgs).1
    refine codeAny_builtin F.entry_extend_loop ?_
    rw [Around.under_plainId F.plain_extend_loop _]
    show wpAny _ A.in1 (pyNext (.ref a) >>= _) _ _ s
    refine wpAny_bind (GenW.wpAny_gsz (n := g + 1) hgl (wpAny_pyNext_genexpQ (A := A.in1) hh hl hd hg hgs goes (fun v s1 gs' hbare hv => ?_) (fun s1 hp h' hk => ?_)))
    · intro hsz
      obtain ⟨y, xs, H', σ', ry, I, hD, hz, more⟩ := hv
      obtain ⟨_, its, n, rv, hlen, e⟩ := I.lstM hD
      have b1 := allBare_setGen (g := g) I.bare hbare
      have I2 := I.lset (t' := s1.toks) (f := (·.push v)) (its' := its ++ [v]) hD e (by simp) (rv.append (.cons ry .nil)) (by rw [List.length_append, List.length_singleton]; omega)
      show wpAny _ A.in1 (updateSeq D (·.push v) >>= _) _ _ _
      refine wpAny_bind ?_
      refine wpAny_updateSeq e rfl (wpAny_pure ⟨plainId_quiet F.plain_extend_loop _, ?_⟩) (by rw [List.size_toArray]; omega) (by show (its.toArray.push v).size ≤ sizeLine + 1; rw [Array.size_push, List.size_toArray]; omega)
      have hsz1 : g < s1.gens.size := by
        have q : (s1.setGen g gs').gens.size = s1.gens.size := GenW.setGen_size _ _ _
        have hsz' : g + 1 ≤ (s1.setGen g gs').gens.size := hsz
        omega
      have g2 := isG I2
      have n2 := I2.nolimit
      refine ih { s1.setGen g gs' with heap := s1.heap.update D (Obj.mapSeq (·.push v)) } g2 n2 ⟨gs', setGen_at hsz1, ?_⟩
      exact more _ (fun b o hb q => (Heap.get?_update_other _ _ (Ne.symm hb)).trans q) (inv_sh I2 rfl rfl (allBare_setGen (s := { s1.setGen g gs' with heap := s1.heap.update D (Obj.mapSeq (·.push v)) }) b1 rfl))
    · intro hsz
      obtain ⟨H', I, q⟩ := hp
      exact wpAny_pure (hE _ H' I.os (allBare_setGen I.bare rfl) (un_kept I.base hk) (I.hok.kept hk) q)
abbrev gtEnd (D : Addr) (Q : VK) : Hp → Prop := fun H => ∃ acc, H D = some (.lst acc) ∧ ∀ p, H p = none → Q (.ref p) (upd H p (.tup acc))
/-- the generator stands ready to be walked -/
def GtReady (X : Cx) (B : Around) (pins : List (Addr × Obj)) (σ : L2.St) (Q : VK) (a : Addr) (s5 : Shared) : Prop :=
  ∃ (g : Nat) (Z : Cx) (σ0 : L2.St) (H4 : Hp) (gs : GenState), Z.prog = X.prog ∧ Z.w = X.w ∧ s5.heap.IsGen a g ∧ s5.gens[g]? = some gs ∧ Inv Z [] σ0 H4 s5 ∧ (∀ {σ' : L2.St} {H' : Hp} {s' : Shared}, Inv Z [] σ' H' s' → s'.heap.IsGen a g) ∧
    (∀ D, H4 D = none → ∃ m, ∀ s', Inv Z [] σ0 (upd H4 D (.lst [])) s' → (∀ b o, s5.heap.get? b = some o → s'.heap.get? b = some o) → D ≥ s5.heap.objs.size →
      gs.Goes (model Z.prog Z.w) B (fun n s₀ r s1 => r = .ok .next ∧ GtE Z σ0 (gtEnd D Q) n s₀ s1) (GtY Z D) m (.send .none) s') ∧
    ∀ (s' : Shared) (H' : Hp), s'.os = Z.s_0.os → AllBare s'.gens → Un Z.fs Z.ex Z.H_0 H' Z.s_0.heap s'.heap → HOk Z.prog Z.w H' s'.heap → Inv X pins σ H' s'
theorem gt_room {A : Around} {k : Nat} {elt tg iter : Expr} {ifs : List Expr} {scope : Scope} {gpos : Pos} {it : Addr} {ce : Env} (r : Room (k + 1) A) : Room k (A.in1.in1.in1.in1.over (gxCode elt tg iter ifs scope gpos it ce) []) :=
  ⟨r.hd, by have := r.dp; show A.depth + 1 + 3 * k + 5 < _; omega, by have := r.un; show A.units + 1 + 1 + 1 + 1 + 3 + 16 * k + 200 < _; omega⟩
theorem gt_frames {A : Around} {st : List Env} {elt tg iter : Expr} {ifs : List Expr} {scope : Scope} {gpos : Pos} {it : Addr} {ce : Env} (h : A.frames = some st) : (A.in1.in1.in1.in1.over (gxCode elt tg iter ifs scope gpos it ce) []).frames = some (ce :: st) := by
  obtain ⟨hd, d, fr, gs, u⟩ := A
  obtain rfl : fr = some st := h
  rfl
abbrev tTupG (P : Addr) (wi : TI) (g : TG) (tt : TT) (te : TE) (vs : List Nat) : TE := fun σ H Q => wi σ H fun J H1 => GxR.TabG H1 P ∧ ∀ H2, GxR.Tabbed P H1 H2 → ∀ D, H2 D = none → ∃ W : Nat → Nat → Hp → Prop, (∃ m, W 0 m (upd H2 D (.lst []))) ∧ gtTurn J g tt te vs (wipe σ vs) D (gtEnd D Q) W
theorem gt_eval {X : Cx} {pins : List (Addr × Obj)} {σ : L2.St} {H : Hp} {s : Shared} {c P : Addr} {elt tg iter : Expr} {ifs : List Expr} {scope : Scope} {own : List (Str × Nat)} {gpos : Pos} {wi : TI} {g : TG} {tt : TT} {te : TE} {k : Nat} {Q : VK} {Q' : Value → Shared → Prop}
    (hN : X.N.Nodup) (hr : Room (k + 1) X.A) (TB : LamX.TabB X.base X.mg c P) (hcode : X.env.code = .ref c) (ok : BlkOk X.N X.env.scope scope own) (nocell : ∀ y ∈ scope.names, y.2 ≠ .cell) (hco : scope.isCoroutine = false) (dot : scope.names.lookup (".0" : Str) = some NameKind.local)
    (hi : PI X tg iter wi)
    (hg : ∀ (A : Around) (s : Shared) (H : Hp) (cl : List (Str × Addr)) (C : Addr) (code : Value) (bi : Addr) (fp : List Addr) (pn : List (Addr × Obj)), Room k A → PG (gxCx X A s H (genEnv scope cl C code bi X.env) fp pn) tg g)
    (ht : ∀ (A : Around) (s : Shared) (H : Hp) (cl : List (Str × Addr)) (C : Addr) (code : Value) (bi : Addr) (fp : List Addr) (pn : List (Addr × Obj)), Room k A → PTs (gxCx X A s H (genEnv scope cl C code bi X.env) fp pn) ifs tt)
    (he : ∀ (A : Around) (s : Shared) (H : Hp) (cl : List (Str × Addr)) (C : Addr) (code : Value) (bi : Addr) (fp : List Addr) (pn : List (Addr × Obj)), Room k A → PE (gxCx X A s H (genEnv scope cl C code bi X.env) fp pn) elt te)
    (hs : ∀ v, genFold iter X.env v = pure v) (I : Inv X pins σ H s) (h : tTupG P wi g tt te (own.map (·.2)) σ H Q)
    (hQ : ∀ a s5, GtReady X X.A.in1.in1.in1.in1 pins σ Q a s5 → Q' (.ref a) s5) :
    wpAny (model X.prog X.w) X.A (eval (.GeneratorExp elt [⟨tg, iter, ifs, 0⟩] scope gpos) X.env) Q' X.xe s := by
  have hfree : ∀ y ∈ scope.names, y.2 = .free → ∃ c, X.env.cells.lookup y.1 = some c := fun y hy ey => by
    rcases ok.free y hy ey with z | z
    · exact I.ok.has _ (.inl z)
    · exact I.ok.has _ (.inr z)
  refine wpAny_GeneratorExp_make hco (closure_ok hfree) nocell dot ok.kind hr.depth ?_ hs
  refine thn (hi.run pins s σ H _ I h) fun xv s1 hx => thn hx fun itv s2 h2 => ?_
  obtain ⟨it, fp, tn, J, H2, rfl, I2, T, st2, f2, ⟨ps, hP, tro⟩, q⟩ := h2
  refine ⟨I2.nolimit, ?_⟩
  have hPs : s2.heap.get? P = some { cls := .none, data := .fields ps } := I2.hok P _ hP
  have cd : PySem.W.CodeHd s2.heap c P := TB.code.keeps fun b u z => I2.bk b u z
  have szf : ∀ b ∈ fp, b < s2.heap.objs.size := fun b hb => by
    obtain ⟨o, eo, _⟩ := T.obj _ _ st2 b hb
    exact Heap.lt_size eo
  -- behind the code object
  have cont : ∀ (code : Value) (h3 : Heap) (tk : Nat) (ps' : Array Value), Heap.ExtBut P s2.heap h3 → s2.heap.objs.size ≤ h3.objs.size → h3.get? P = some { cls := .none, data := .fields ps' } → (∃ more, ps' = ps ++ more) → TriplesOk ps'.toList →
      wpAny (model X.prog X.w) X.A (builtinsFor X.env.globals X.env.builtins) (fun bi s4 => ∀ h', h'.Ns s4.heap.objs.size (fun y => if y = ".0" then some (.ref it) else none) → Heap.SameBut s4.heap.objs.size (s4.heap.push { cls := .type "frame", data := .dict #[] }) h' →
        Q' (.ref h'.objs.size) { s4 with
          gens := s4.gens.push (.fresh (.compStart (.GeneratorExp elt [⟨tg, iter, ifs, 0⟩] scope gpos) 0 (.ref it) .none (genEnv scope (cloFrom X.env.cells scope.names []) s4.heap.objs.size code bi X.env)))
          toks := s4.toks + 1 + 1 + 1
          heap := h'.push { cls := .type "generator", data := .fields #[.int s4.gens.size 0, .str "<genexpr>" (s4.toks + 1), .str (X.env.qual ++ "<genexpr>") (s4.toks + 1 + 1)] } }) X.xe { s2 with heap := h3, toks := tk } := by
    intro code h3 tk ps' hx hsz hP3 ⟨more, em⟩ tro'
    obtain ⟨bm, ob, e1, e2, e3, e4, e5, e6, e7, e8⟩ := TB.bm
    have keep3 : ∀ b u, b ≠ P → s2.heap.get? b = some u → h3.get? b = some u := fun b u hb z => hx b u hb z
    refine wpAny_builtinsFor (m := X.mg) (by rw [I2.ok.glob]; exact (I2.mod.glob.keeps I2.bk).extBut hx TB.gP) e1 e2 (keep3 _ _ e4 (I2.bk _ _ e5)) e6 e7 e8 ?_
    intro h' hns hsame
    have J4 := GxR.inv_tab (more := more) (h' := h3) (g' := s2.gens) (d' := s2.drawn) (t' := tk) I2 hP keep3 (by rw [← em]; exact hP3) I2.bare
    have tabbed : GxR.Tabbed P H2 (upd H2 P (.tbl (ps ++ more))) := ⟨⟨ps ++ more, upd_same, by rw [← em]; exact tro'⟩, fun b hb => upd_ne hb⟩
    have q := q _ tabbed
    have hsz' : h'.objs.size = h3.objs.size + 1 := by rw [hsame.1, Heap.size_push]
    have kp5 : ∀ (go : Obj) b o, h3.get? b = some o → (h'.push go).get? b = some o := fun go b o eo => Heap.get?_push_of_some _ (hsame.extBut b o (Nat.ne_of_lt (Heap.lt_size eo)) (Heap.get?_push_of_some _ eo))
    have fpP : ∀ b ∈ fp, b ≠ P := fun b hb z => by
      have := (f2 b hb).1
      rw [z, hP] at this
      cases this
    have nf : ∀ b ∈ fp, upd H2 P (.tbl (ps ++ more)) b = none := fun b hb => by rw [upd_ne (fpP b hb)]; exact (f2 b hb).1
    have f3 : ∀ b ∈ fp, FpOk X pins (upd H2 P (.tbl (ps ++ more))) b ∧ b < h3.objs.size := fun b hb => ⟨⟨nf b hb, (f2 b hb).2⟩, Nat.lt_of_lt_of_le (szf b hb) hsz⟩
    refine hQ _ _ ?_
    show GtReady X X.A.in1.in1.in1.in1 pins σ Q h'.objs.size { s2 with
      gens := s2.gens.push (.fresh (.compStart (.GeneratorExp elt [⟨tg, iter, ifs, 0⟩] scope gpos) 0 (.ref it) .none (genEnv scope (cloFrom X.env.cells scope.names []) h3.objs.size code builtinsNs X.env)))
      toks := tk + 1 + 1 + 1
      heap := h'.push { cls := .type "generator", data := .fields #[.int s2.gens.size 0, .str "<genexpr>" (tk + 1), .str (X.env.qual ++ "<genexpr>") (tk + 1 + 1)] } }
    generalize hgo : ({ cls := .type "generator", data := .fields #[.int s2.gens.size 0, .str "<genexpr>" (tk + 1), .str (X.env.qual ++ "<genexpr>") (tk + 1 + 1)] } : Obj) = go
    have goC : go.cls = .type "generator" := by rw [← hgo]
    have goD : go.data = .fields #[.int s2.gens.size 0, .str "<genexpr>" (tk + 1), .str (X.env.qual ++ "<genexpr>") (tk + 1 + 1)] := by rw [← hgo]
    have goS : go.slots = #[] := by rw [← hgo]
    have at5 : (h'.push go).get? h'.objs.size = some go := by rw [← hgo]; exact Heap.get?_push_size _ rfl
    have isG : ∀ h : Heap, h.get? h'.objs.size = some go → h.IsGen h'.objs.size s2.gens.size := fun h eo => ⟨go, _, _, eo, goC, goD, goS⟩
    generalize hst : GenState.fresh (.compStart (.GeneratorExp elt [⟨tg, iter, ifs, 0⟩] scope gpos) 0 (.ref it) .none (genEnv scope (cloFrom X.env.cells scope.names []) h3.objs.size code builtinsNs X.env)) = fr
    have bare5 : AllBare (s2.gens.push fr) := I2.bare.push (by rw [← hst]; rfl)
    have rm := gt_room (elt := elt) (tg := tg) (iter := iter) (ifs := ifs) (scope := scope) (gpos := gpos) (it := it) (ce := genEnv scope (cloFrom X.env.cells scope.names []) h3.objs.size code builtinsNs X.env) hr
    obtain ⟨ce, hce⟩ : ∃ ce, ce = genEnv scope (cloFrom X.env.cells scope.names []) h3.objs.size code builtinsNs X.env := ⟨_, rfl⟩
    obtain ⟨s4, hs4⟩ : ∃ s4 : Shared, s4 = { s2 with heap := h3, gens := s2.gens, drawn := s2.drawn, toks := tk } := ⟨_, rfl⟩
    obtain ⟨H4, hH4⟩ : ∃ H4, H4 = upd H2 P (.tbl (ps ++ more)) := ⟨_, rfl⟩
    obtain ⟨Z, hZ⟩ : ∃ Z, Z = gxZ X X.A.in1.in1.in1.in1 s4 H4 ce fp [(h'.objs.size, go)] elt tg iter ifs scope gpos it := ⟨_, rfl⟩
    have J4' : Inv X pins σ H4 s4 := by rw [hs4, hH4]; exact J4
    have Z0 : Inv Z [] (wipe σ (own.map (·.2))) H4 { s2 with heap := h'.push go, gens := s2.gens.push fr, toks := tk + 1 + 1 + 1 } := by
      rw [hZ, hs4, hH4, hce]
      exact gx_start (A := X.A.in1.in1.in1.in1.over (gxCode elt tg iter ifs scope gpos it (genEnv scope (cloFrom X.env.cells scope.names []) h3.objs.size code builtinsNs X.env)) []) (a := h'.objs.size) (go := go) (h5 := h'.push go) (g5 := s2.gens.push fr) (t5 := tk + 1 + 1 + 1) (code := code) J4 hN ok nocell rm.hd (gt_frames J4.ok.frames) f3 (hns.push _) (kp5 go) at5 (by show h3.objs.size < _; omega) (fun v z => by rw [goD] at z; cases z) bare5
    rw [← hH4] at q
    have nf4 : ∀ b ∈ fp, H4 b = none := fun b hb => by rw [hH4]; exact nf b hb
    refine ⟨s2.gens.size, Z, wipe σ (own.map (·.2)), H4, fr, by rw [hZ]; rfl, by rw [hZ]; rfl, isG _ at5, Array.getElem?_push_size .., Z0, fun {σ' H' s'} IZ => ?_, fun D hD => ?_, fun s' H' os bare un hok => ?_⟩
    · refine isG _ (IZ.pin (h'.objs.size, go) (List.mem_append_left _ ?_)).1
      rw [hZ]
      exact List.mem_cons_self
    · obtain ⟨W, ⟨m0, w0⟩, turn⟩ := q D hD
      refine ⟨m0 + 1, fun s' IZ kp' hge => ?_⟩
      have hge : h'.objs.size + 1 ≤ D := by
        have z : (h'.push go).objs.size ≤ D := hge
        rw [Heap.size_push] at z
        exact z
      have nD : ∀ b ∈ fp, b ≠ D := fun b hb z => by
        have z1 := (f3 b hb).2
        have z2 : b < h3.objs.size := z1
        rw [z] at z2
        have z3 : D < h3.objs.size := z2
        have z4 : h'.objs.size + 1 ≤ D := hge
        rw [hsz'] at z4
        exact absurd (Nat.lt_of_lt_of_le z3 (Nat.le_trans (Nat.le_succ _) (Nat.le_trans (Nat.le_succ _) z4))) (Nat.lt_irrefl _)
      rw [← hst, show Z.prog = X.prog by rw [hZ]; rfl, show Z.w = X.w by rw [hZ]; rfl, ← hce]
      refine ⟨rfl, seg_gt0 (H := upd H4 D (.lst [])) hZ (fun p hp z => ?_) (by rw [hce]; exact hco) T (by rw [hZ, hce]; exact hg _ _ _ _ _ _ _ _ _ rm) (by rw [hZ, hce]; exact ht _ _ _ _ _ _ _ _ _ rm) (by rw [hZ, hce]; exact he _ _ _ _ _ _ _ _ _ rm) turn (Nat.lt_succ_self _) w0 IZ ?_ fun b hb => by rw [upd_ne (nD b hb)]; exact nf4 b hb⟩
      · rw [List.mem_singleton.mp hp] at z
        have z1 := (f3 _ z).2
        have z2 : h'.objs.size < h3.objs.size := z1
        omega
      · exact T.keep _ _ _ st2 fun b hb o eo => kp' b o (kp5 go b o (keep3 b o (fpP b hb) eo))
    · refine J4'.call' (ch := fp) ?_ ?_ ?_ bare fun b hb => ?_
      · rw [os, hZ]
        rfl
      · rw [hZ] at un
        exact un
      · rw [hZ] at hok
        exact hok
      · have z := (f3 b hb).1
        exact ⟨z.2.2.2.1, z.2.1, z.2.2.2.2.1, z.2.2.2.2.2⟩
  cases hf : codeAmong gpos ps.toList with
  | none =>
    refine wpAny_genexprCodeX hcode (cd.code hPs tro) (cd.tab hPs) hf fun c' h' tk hx hge hlt hco' _ htab' _ => ?_
    obtain ⟨o1, us, y1, y2, y3, y4, y5, y6, y7, y8, _, _, _, _, _, _, _, _, _, htr, _⟩ := hco'
    exact cont _ h' tk _ hx (Nat.le_trans hge (Nat.le_of_lt hlt)) htab'.2 ⟨_, rfl⟩ htr
  | some cv =>
    refine wpAny_genexprCode_hit hcode (cd.code hPs tro) hf ?_
    exact cont cv s2.heap s2.toks ps (Heap.ExtBut.refl _ _) (Nat.le_refl _) hPs ⟨#[], by simp⟩ tro
end
section
variable {X : Cx} {c P : Addr} {elt tg iter : Expr} {ifs : List Expr} {scope : Scope} {own : List (Str × Nat)} {p pos gpos : Pos} {wi : TI} {g : TG} {tt : TT} {te : TE} {k : Nat}
/-- the items of it, as a list -/
theorem gt_collect {X : Cx} {A : Around} {pins : List (Addr × Obj)} {σ : L2.St} {Q : VK} {a : Addr} {s5 : Shared} {Q' : List Value → Shared → Prop} {E : Value → Shared → Prop} (hh : A.handled = none) (hd : A.depth < recursionLimit) (hR : GtReady X A.in1.in1 pins σ Q a s5)
    (hQ : ∀ s' H' xs us, Inv X pins σ H' s' → Vals xs us → xs.length ≤ sizeLine → (∀ p, H' p = none → Q (.ref p) (upd H' p (.tup xs))) → Q' us s') : wpAny (model X.prog X.w) A (collect (.ref a)) Q' E s5 := by
  obtain ⟨gi, Z, σ0, H4, gs, e1, e2, isG, hgs, Z0, isG', goes, back⟩ := hR
  rw [← e1, ← e2]
  have hlt : a < s5.heap.objs.size := let ⟨o, _, _, ho, _⟩ := isG; Heap.lt_size ho
  have hSa : s5.heap.objs.size ≠ a := Nat.ne_of_gt hlt
  obtain ⟨m, goes⟩ := goes s5.heap.objs.size (Z0.hok.fresh (Nat.le_refl _))
  unfold collect
  refine wpAny_bind (wpAny_runValue (codeAny_builtin F.entry_proto_collect ?_))
  rw [Around.under_plainId F.plain_proto_collect _]
  show wpAny _ A.in1 (newList [] >>= fun l => again (.builtin "list.__iadd__" ⟨[l, .ref a], []⟩)) _ _ s5
  refine wpAny_bind (wpAny_newObj_type ?_)
  refine wpAny_pure ⟨plainId_quiet F.plain_list_iadd _, codeAny_builtin F.entry_list_iadd ?_⟩
  rw [Around.under_plainId F.plain_list_iadd _]
  show wpAny _ A.in1 (Builtin.List.listExtendWith (.ref s5.heap.objs.size) (.ref a) (.ref s5.heap.objs.size)) _ _ _
  unfold Builtin.List.listExtendWith
  have k1 : ∀ b o, s5.heap.get? b = some o → (s5.heap.push { cls := .type "list", data := .seq ([] : List Value).toArray }).get? b = some o := fun b o e => Heap.get?_push_of_some _ e
  have gty : ∀ {h : Heap}, (∀ b o, s5.heap.get? b = some o → h.get? b = some o) → h.IsGen a gi := fun {h} q => isG.keeps q
  refine wpAny_bind (wpAny_typeOf (Heap.IsGen.typeIs (s := { s5 with heap := _ }) (gty k1)) ?_)
  have h1 : Builtin.List.listSameRef (.ref s5.heap.objs.size) (.ref a) = false := by simp [Builtin.List.listSameRef, hSa]
  have h2 : (Value.type "generator" == Value.type "list") = false := by decide
  have h3 : (Value.type "generator" == Value.type "tuple") = false := by decide
  simp only [h1, h2, h3, Bool.or_false, Bool.false_eq_true, if_false]
  refine wpAny_bind (wpAny_pyIter_gen (s := { s5 with heap := _ }) (gty k1) ?_)
  refine wpAny_bind (wpAny_holding ?_)
  unfold Builtin.List.listLengthHint
  refine wpAny_bind (wpAny_specialOf (Heap.IsGen.typeIs (s := { s5 with heap := _ }) (gty k1)) F.gen_no_len ?_)
  show wpAny _ A.in1 (specialOf (Value.ref a) (Str.ofString "__length_hint__") >>= _) _ _ _
  refine wpAny_bind (wpAny_specialOf (Heap.IsGen.typeIs (s := { s5 with heap := _ }) (gty k1)) F.gen_no_hint ?_)
  refine wpAny_pure ?_
  show wpAny _ A.in1 (rule "list.extend.makes-room" >>= fun _ => Builtin.List.listTouch (.ref s5.heap.objs.size) >>= fun _ =>
    again (.builtin "list.extend.loop" ⟨[.ref s5.heap.objs.size, .ref a, .ref s5.heap.objs.size], []⟩)) _ _ _
  refine wpAny_bind (wpAny_rule ?_)
  have hS₁ : (s5.heap.push { cls := .type "list", data := .seq ([] : List Value).toArray }).get? s5.heap.objs.size = some { cls := .type "list", data := .seq ([] : List Value).toArray } := Heap.get?_push_size _ rfl
  refine wpAny_bind ?_
  show wpAny _ A.in1 (updateSeq s5.heap.objs.size (·.push .none) >>= fun _ => updateSeq s5.heap.objs.size (·.pop)) _ _ _
  refine wpAny_bind (wpAny_updateSeq hS₁ rfl ?_)
  have hS₂ := Heap.get?_update_self (Obj.mapSeq (·.push Value.none)) hS₁ rfl
  refine wpAny_updateSeq hS₂ rfl ?_
  have hS₃ := Heap.get?_update_self (Obj.mapSeq (·.pop)) hS₂ rfl
  have up : ∀ (h : Heap) (f : Obj → Obj), (∀ b o, s5.heap.get? b = some o → h.get? b = some o) → ∀ b o, s5.heap.get? b = some o → (h.update s5.heap.objs.size f).get? b = some o := fun h f q b o e =>
    (Heap.get?_update_other _ _ (Ne.symm (Nat.ne_of_lt (Heap.lt_size e)))).trans (q b o e)
  have k3 := up _ (Obj.mapSeq (·.pop)) (up _ (Obj.mapSeq (·.push Value.none)) k1)
  have I3 : Inv Z [] σ0 (upd H4 s5.heap.objs.size (.lst [])) { s5 with heap := _ } := Z0.laid (t' := s5.toks) k3 (Nat.le_refl _) ⟨Nat.zero_le _, [], _, .nil, hS₃⟩
  refine wpAny_pure ⟨plainId_quiet F.plain_extend_loop _, gt_loop (Z := Z) (D := s5.heap.objs.size) (σ0 := σ0) (Qe := gtEnd s5.heap.objs.size Q) (g := gi) hh hd isG' (fun s' H' o1 o2 o3 o4 q => ?_) m _ (gty k3) I3.nolimit ⟨gs, hgs, ?_⟩⟩
  · obtain ⟨acc, hD, q⟩ := q
    have I4 := back s' H' o1 o2 o3 o4
    obtain ⟨z, its, n, rv, hl, e⟩ := I4.lstM hD
    show wpAny _ A (load s5.heap.objs.size >>= _) _ _ s'
    refine wpAny_bind (wpAny_load e (wpAny_pure ?_))
    exact hQ s' H' acc _ I4 (by simpa using rv) z q
  · exact goes _ (inv_sh I3 rfl rfl (allBare_setGen (s := { s5 with heap := _ }) I3.bare rfl)) k3 (Nat.le_refl _)
theorem pe_tupG (hN : X.N.Nodup) (hr : Room (k + 1) X.A) (hg : Gl X "tuple") (hm : X.mg "tuple" = none) (hb : bootBuiltins "tuple" = some (.type "tuple")) (TB : LamX.TabB X.base X.mg c P) (hcode : X.env.code = .ref c) (ok : BlkOk X.N X.env.scope scope own) (nocell : ∀ y ∈ scope.names, y.2 ≠ .cell) (hco : scope.isCoroutine = false) (dot : scope.names.lookup (".0" : Str) = some NameKind.local)
    (hi : PI X tg iter wi)
    (pg : ∀ (A : Around) (s : Shared) (H : Hp) (cl : List (Str × Addr)) (C : Addr) (code : Value) (bi : Addr) (fp : List Addr) (pn : List (Addr × Obj)), Room k A → PG (gxCx X A s H (genEnv scope cl C code bi X.env) fp pn) tg g)
    (pt : ∀ (A : Around) (s : Shared) (H : Hp) (cl : List (Str × Addr)) (C : Addr) (code : Value) (bi : Addr) (fp : List Addr) (pn : List (Addr × Obj)), Room k A → PTs (gxCx X A s H (genEnv scope cl C code bi X.env) fp pn) ifs tt)
    (pe : ∀ (A : Around) (s : Shared) (H : Hp) (cl : List (Str × Addr)) (C : Addr) (code : Value) (bi : Addr) (fp : List Addr) (pn : List (Addr × Obj)), Room k A → PE (gxCx X A s H (genEnv scope cl C code bi X.env) fp pn) elt te)
    (hs : ∀ v, genFold iter X.env v = pure v)
    (he : starEach [.GeneratorExp elt [⟨tg, iter, ifs, 0⟩] scope gpos] X.env = (false, eval (.GeneratorExp elt [⟨tg, iter, ifs, 0⟩] scope gpos) X.env) :: starEach [] X.env := by rfl) :
    PE X (.Call (.Name "tuple" p) [.GeneratorExp elt [⟨tg, iter, ifs, 0⟩] scope gpos] [] pos) (tTupG P wi g tt te (own.map (·.2))) := by
  refine ⟨fun pins s σ H Q I h => ?_⟩
  refine wpAny_Call_Name_kw (ld_blt I hg hm hb ?_)
  refine PyProof.Rows.callWith_type1 ?_ he (by rfl)
  rw [he]
  show wpAny _ _ (spliced ((false, eval (.GeneratorExp elt [⟨tg, iter, ifs, 0⟩] scope gpos) X.env) :: backTo pos (starEach [] X.env))) _ _ s
  refine Calls.spliced_cons (gt_eval hN hr TB hcode ok nocell hco dot hi pg pt pe hs I h fun a s5 hR => ?_)
  refine Calls.spliced_nil ?_
  have hT : s5.TypeIs (.ref a) "generator" := by
    obtain ⟨gi, Z, σ0, H4, gs, e1, e2, isG, _⟩ := hR
    exact Heap.IsGen.typeIs isG
  refine callType_codes (Q₁ := fun obj s₁ => s₁.TypeIs obj "tuple" ∧ EP X pins σ Q obj s₁) F.called_tuple (F.typeCall_tuple_1 _) F.entry_object_init ?_ fun obj s₁ h₁ => ?_
  · refine codeAny_of_tree ?_
    show wpAny _ X.A.in1.in1 (do checkBuiltinCall "tuple.__new__" ⟨[.type "tuple", .ref a], []⟩; again (.builtin "tuple.__new__" ⟨[.type "tuple", .ref a], []⟩)) _ _ s5
    refine wpAny_bind (wpAny_of_eq (F.newCall_tuple_1 _) (wpAny_pure ⟨plainId_quiet F.plain_tuple_new _, codeAny_builtin F.entry_tuple_new ?_⟩))
    rw [Around.under_plainId F.plain_tuple_new _]
    have hsub := sub_tuple_self
    have hinit := init_tuple_lookup
    have hmh := madeHere_tuple
    wp_walk using wpAny_typeOf hT, gt_collect (A := X.A.in1.in1) hr.hd (by have := hr.dp; show X.A.depth < _; omega) hR
    intro s' H' xs us I' rv hz q
    show wpAny _ _ (Builtin.Tuple.tupleExact us.toArray >>= fun v => ret v) _ _ _
    unfold Builtin.Tuple.tupleExact
    have hl := rv.length
    refine wpAny_bind (wpAny_newObj_type ?_ (by show us.toArray.size ≤ sizeLine; rw [List.size_toArray]; omega))
    refine wpAny_pure ?_
    have new : ObjOk X.prog X.w (upd H' s'.heap.objs.size (.tup xs)) (s'.heap.push { cls := .type "tuple", data := .seq us.toArray }) s'.heap.objs.size (.tup xs) :=
      ⟨hz, us, rv, ⟨_, Heap.get?_push_size _ rfl, rfl, _, rfl⟩⟩
    exact ⟨⟨_, Heap.get?_push_size _ rfl, rfl⟩, .ref s'.heap.objs.size, _, I'.laid (t' := s'.toks) (fun b o e => Heap.get?_push_of_some _ e) (Nat.le_refl _) new, rfl, q _ (I'.hok.fresh (Nat.le_refl _))⟩
  · exact ⟨h₁.1, F.args_object_init_2 obj _, object_init_meets F.called_tuple.init.lookup F.called_tuple.made (by decide) X.prog X.w X.A.in1 _ s₁ ⟨h₁.1, rfl, h₁.2⟩⟩
end
/-! any data against any data: some truth comes -/
section
open PySem.SeqAt PySem.W
open AutoSeq1 (wpAny_loadPart')
theorem dd_none (l : Addr) (es : Array DictEntry) (n : Nat)  :
    Meets (Builtin.«dict.__eq__» ⟨[.ref l, .none], []⟩) (fun _ R s => s.heap.get? l = some { cls := .type "dict", data := .dict es n } ∧ R (.ok (.ret .notImplemented)) s) :=
  .of_wp fun prog w A R s h => by obtain ⟨hp, g, d, tk, os⟩ := s; obtain ⟨hl, h⟩ := h; have f1 := F.sub_NoneType_dict; wp_walk using wpAny_loadPart' hl; exact ⟨_, rfl, h⟩
theorem rc_dict_none' {A : Around} {s : Shared} {l : Addr} {es : Array DictEntry} {n : Nat}  (ho : s.heap.get? l = some { cls := .type "dict", data := .dict es n }) (hu : A.units < cLine) : RcAt A s (.ref l) .none false := fun prog w E Q h =>
  rc_eq_decline_or (k := false) ⟨_, ho, rfl⟩ rfl (by decide) F.sub_NoneType_dict F.slot_dict_eq F.slot_NoneType_eq_refl
    (fun _ hq => call_meets F.slot_dict_eq ⟨_, ho, rfl⟩ F.entry_dict_eq (F.args_dict_eq_2 _ _) (dd_none l es n ) ⟨ho, hq⟩)
    (fun _ hq => call_gives F.slot_NoneType_eq_refl rfl F.entry_NoneType_eq (F.args_NoneType_eq_2 _ _) (NoneType___eq___none_ref_0 l) hq)
    (fun _ hq => wpAny_of_eq (rfl : isSame (.ref l) .none = pure false) hq) (.inr hu) h
theorem rc_none_dict' {A : Around} {s : Shared} {l : Addr} {es : Array DictEntry} {n : Nat}  (ho : s.heap.get? l = some { cls := .type "dict", data := .dict es n }) (hu : A.units < cLine) : RcAt A s .none (.ref l) false := fun prog w E Q h =>
  rc_eq_decline_or (k := false) rfl ⟨_, ho, rfl⟩ (by decide) F.sub_dict_NoneType F.slot_NoneType_eq F.slot_dict_eq_refl
    (fun _ hq => call_gives F.slot_NoneType_eq rfl F.entry_NoneType_eq (F.args_NoneType_eq_2 _ _) (NoneType___eq___none_ref_0 l) hq)
    (fun _ hq => call_meets F.slot_dict_eq_refl ⟨_, ho, rfl⟩ F.entry_dict_eq (F.args_dict_eq_2 _ _) (dd_none l es n ) ⟨ho, hq⟩)
    (fun _ hq => wpAny_of_eq (rfl : isSame .none (.ref l) = pure false) hq) (.inr hu) h
theorem dd_bool (l : Addr) (es : Array DictEntry) (n : Nat) (b : Bool) :
    Meets (Builtin.«dict.__eq__» ⟨[.ref l, .bool b], []⟩) (fun _ R s => s.heap.get? l = some { cls := .type "dict", data := .dict es n } ∧ R (.ok (.ret .notImplemented)) s) :=
  .of_wp fun prog w A R s h => by obtain ⟨hp, g, d, tk, os⟩ := s; obtain ⟨hl, h⟩ := h; have f1 := F.sub_bool_dict; wp_walk using wpAny_loadPart' hl; exact ⟨_, rfl, h⟩
theorem bool_dd (l : Addr) (es : Array DictEntry) (n : Nat) (b : Bool) :
    Meets (Builtin.«int.__eq__» ⟨[.bool b, .ref l], []⟩) (fun _ R s => s.heap.get? l = some { cls := .type "dict", data := .dict es n } ∧ R (.ok (.ret .notImplemented)) s) :=
  .of_wp fun prog w A R s h => by obtain ⟨hp, g, d, tk, os⟩ := s; obtain ⟨hl, h⟩ := h; wp_walk using wpAny_loadPart' hl, wpAny_load hl; exact ⟨_, rfl, h⟩
theorem rc_dict_bool' {A : Around} {s : Shared} {l : Addr} {es : Array DictEntry} {n : Nat} (b : Bool) (ho : s.heap.get? l = some { cls := .type "dict", data := .dict es n }) (hu : A.units < cLine) : RcAt A s (.ref l) (.bool b) false := fun prog w E Q h =>
  rc_eq_decline_or (k := false) ⟨_, ho, rfl⟩ rfl (by decide) F.sub_bool_dict F.slot_dict_eq F.slot_bool_eq_refl
    (fun _ hq => call_meets F.slot_dict_eq ⟨_, ho, rfl⟩ F.entry_dict_eq (F.args_dict_eq_2 _ _) (dd_bool l es n b) ⟨ho, hq⟩)
    (fun _ hq => call_meets F.slot_bool_eq_refl rfl F.entry_int_eq (F.args_int_eq_2 _ _) (bool_dd l es n b) ⟨ho, hq⟩)
    (fun _ hq => wpAny_of_eq (rfl : isSame (.ref l) (.bool b) = pure false) hq) (.inr hu) h
theorem rc_bool_dict' {A : Around} {s : Shared} {l : Addr} {es : Array DictEntry} {n : Nat} (b : Bool) (ho : s.heap.get? l = some { cls := .type "dict", data := .dict es n }) (hu : A.units < cLine) : RcAt A s (.bool b) (.ref l) false := fun prog w E Q h =>
  rc_eq_decline_or (k := false) rfl ⟨_, ho, rfl⟩ (by decide) F.sub_dict_bool F.slot_bool_eq F.slot_dict_eq_refl
    (fun _ hq => call_meets F.slot_bool_eq rfl F.entry_int_eq (F.args_int_eq_2 _ _) (bool_dd l es n b) ⟨ho, hq⟩)
    (fun _ hq => call_meets F.slot_dict_eq_refl ⟨_, ho, rfl⟩ F.entry_dict_eq (F.args_dict_eq_2 _ _) (dd_bool l es n b) ⟨ho, hq⟩)
    (fun _ hq => wpAny_of_eq (rfl : isSame (.bool b) (.ref l) = pure false) hq) (.inr hu) h
theorem dd_int (l : Addr) (es : Array DictEntry) (n : Nat) (b : Int) (u : Tok) :
    Meets (Builtin.«dict.__eq__» ⟨[.ref l, .int b u], []⟩) (fun _ R s => s.heap.get? l = some { cls := .type "dict", data := .dict es n } ∧ R (.ok (.ret .notImplemented)) s) :=
  .of_wp fun prog w A R s h => by obtain ⟨hp, g, d, tk, os⟩ := s; obtain ⟨hl, h⟩ := h; have f1 := F.sub_int_dict; wp_walk using wpAny_loadPart' hl; exact ⟨_, rfl, h⟩
theorem int_dd (l : Addr) (es : Array DictEntry) (n : Nat) (b : Int) (u : Tok) :
    Meets (Builtin.«int.__eq__» ⟨[.int b u, .ref l], []⟩) (fun _ R s => s.heap.get? l = some { cls := .type "dict", data := .dict es n } ∧ R (.ok (.ret .notImplemented)) s) :=
  .of_wp fun prog w A R s h => by obtain ⟨hp, g, d, tk, os⟩ := s; obtain ⟨hl, h⟩ := h; wp_walk using wpAny_loadPart' hl, wpAny_load hl; exact ⟨_, rfl, h⟩
theorem rc_dict_int' {A : Around} {s : Shared} {l : Addr} {es : Array DictEntry} {n : Nat} (b : Int) (u : Tok) (ho : s.heap.get? l = some { cls := .type "dict", data := .dict es n }) (hu : A.units < cLine) : RcAt A s (.ref l) (.int b u) false := fun prog w E Q h =>
  rc_eq_decline_or (k := false) ⟨_, ho, rfl⟩ (typeIs_int s b u) (by decide) F.sub_int_dict F.slot_dict_eq F.slot_int_eq_refl
    (fun _ hq => call_meets F.slot_dict_eq ⟨_, ho, rfl⟩ F.entry_dict_eq (F.args_dict_eq_2 _ _) (dd_int l es n b u) ⟨ho, hq⟩)
    (fun _ hq => call_meets F.slot_int_eq_refl (typeIs_int s b u) F.entry_int_eq (F.args_int_eq_2 _ _) (int_dd l es n b u) ⟨ho, hq⟩)
    (fun _ hq => wpAny_of_eq (rfl : isSame (.ref l) (.int b u) = pure false) hq) (.inr hu) h
theorem rc_int_dict' {A : Around} {s : Shared} {l : Addr} {es : Array DictEntry} {n : Nat} (b : Int) (u : Tok) (ho : s.heap.get? l = some { cls := .type "dict", data := .dict es n }) (hu : A.units < cLine) : RcAt A s (.int b u) (.ref l) false := fun prog w E Q h =>
  rc_eq_decline_or (k := false) (typeIs_int s b u) ⟨_, ho, rfl⟩ (by decide) F.sub_dict_int F.slot_int_eq F.slot_dict_eq_refl
    (fun _ hq => call_meets F.slot_int_eq (typeIs_int s b u) F.entry_int_eq (F.args_int_eq_2 _ _) (int_dd l es n b u) ⟨ho, hq⟩)
    (fun _ hq => call_meets F.slot_dict_eq_refl ⟨_, ho, rfl⟩ F.entry_dict_eq (F.args_dict_eq_2 _ _) (dd_int l es n b u) ⟨ho, hq⟩)
    (fun _ hq => wpAny_of_eq (rfl : isSame (.int b u) (.ref l) = pure false) hq) (.inr hu) h
theorem dd_str (l : Addr) (es : Array DictEntry) (n : Nat) (b : Str) (u : Tok) :
    Meets (Builtin.«dict.__eq__» ⟨[.ref l, .str b u], []⟩) (fun _ R s => s.heap.get? l = some { cls := .type "dict", data := .dict es n } ∧ R (.ok (.ret .notImplemented)) s) :=
  .of_wp fun prog w A R s h => by obtain ⟨hp, g, d, tk, os⟩ := s; obtain ⟨hl, h⟩ := h; have f1 := F.sub_str_dict; wp_walk using wpAny_loadPart' hl; exact ⟨_, rfl, h⟩
theorem str_dd (l : Addr) (es : Array DictEntry) (n : Nat) (b : Str) (u : Tok) :
    Meets (Builtin.«str.__eq__» ⟨[.str b u, .ref l], []⟩) (fun _ R s => s.heap.get? l = some { cls := .type "dict", data := .dict es n } ∧ R (.ok (.ret .notImplemented)) s) :=
  .of_wp fun prog w A R s h => by obtain ⟨hp, g, d, tk, os⟩ := s; obtain ⟨hl, h⟩ := h; wp_walk using wpAny_loadPart' hl, wpAny_load hl; exact ⟨_, rfl, h⟩
theorem rc_dict_str' {A : Around} {s : Shared} {l : Addr} {es : Array DictEntry} {n : Nat} (b : Str) (u : Tok) (ho : s.heap.get? l = some { cls := .type "dict", data := .dict es n }) (hu : A.units < cLine) : RcAt A s (.ref l) (.str b u) false := fun prog w E Q h =>
  rc_eq_decline_or (k := false) ⟨_, ho, rfl⟩ (typeIs_str s b u) (by decide) F.sub_str_dict F.slot_dict_eq F.slot_str_eq_refl
    (fun _ hq => call_meets F.slot_dict_eq ⟨_, ho, rfl⟩ F.entry_dict_eq (F.args_dict_eq_2 _ _) (dd_str l es n b u) ⟨ho, hq⟩)
    (fun _ hq => call_meets F.slot_str_eq_refl (typeIs_str s b u) F.entry_str_eq (F.args_str_eq_2 _ _) (str_dd l es n b u) ⟨ho, hq⟩)
    (fun _ hq => wpAny_of_eq (rfl : isSame (.ref l) (.str b u) = pure false) hq) (.inr hu) h
theorem rc_str_dict' {A : Around} {s : Shared} {l : Addr} {es : Array DictEntry} {n : Nat} (b : Str) (u : Tok) (ho : s.heap.get? l = some { cls := .type "dict", data := .dict es n }) (hu : A.units < cLine) : RcAt A s (.str b u) (.ref l) false := fun prog w E Q h =>
  rc_eq_decline_or (k := false) (typeIs_str s b u) ⟨_, ho, rfl⟩ (by decide) F.sub_dict_str F.slot_str_eq F.slot_dict_eq_refl
    (fun _ hq => call_meets F.slot_str_eq (typeIs_str s b u) F.entry_str_eq (F.args_str_eq_2 _ _) (str_dd l es n b u) ⟨ho, hq⟩)
    (fun _ hq => call_meets F.slot_dict_eq_refl ⟨_, ho, rfl⟩ F.entry_dict_eq (F.args_dict_eq_2 _ _) (dd_str l es n b u) ⟨ho, hq⟩)
    (fun _ hq => wpAny_of_eq (rfl : isSame (.str b u) (.ref l) = pure false) hq) (.inr hu) h
theorem dd_list (l b : Addr) (es : Array DictEntry) (n : Nat) (items : Array Value) (m : Nat) (dd : Option Addr) (sl : Array (Option Value)) :
    Meets (Builtin.«dict.__eq__» ⟨[.ref l, .ref b], []⟩) (fun _ R s => s.heap.get? l = some { cls := .type "dict", data := .dict es n } ∧ s.heap.get? b = some { cls := .type "list", dict := dd, data := .seq items m, slots := sl } ∧ R (.ok (.ret .notImplemented)) s) :=
  .of_wp fun prog w A R s h => by obtain ⟨hp, g, d, tk, os⟩ := s; obtain ⟨hl, hb, h⟩ := h; have f1 := F.sub_list_dict; wp_walk using wpAny_loadPart' hl, wpAny_loadPart' hb; exact ⟨_, rfl, h⟩
theorem list_dd (l b : Addr) (es : Array DictEntry) (n : Nat) (items : Array Value) (m : Nat) (dd : Option Addr) (sl : Array (Option Value)) :
    Meets (Builtin.«list.__eq__» ⟨[.ref b, .ref l], []⟩) (fun _ R s => s.heap.get? l = some { cls := .type "dict", data := .dict es n } ∧ s.heap.get? b = some { cls := .type "list", dict := dd, data := .seq items m, slots := sl } ∧ R (.ok (.ret .notImplemented)) s) :=
  .of_wp fun prog w A R s h => by obtain ⟨hp, g, d, tk, os⟩ := s; obtain ⟨hl, hb, h⟩ := h; have f1 := F.sub_dict_list; wp_walk using wpAny_loadPart' hl, wpAny_loadPart' hb; exact ⟨_, rfl, h⟩
theorem ne_dict_list {s : Shared} {l b : Addr} {es : Array DictEntry} {n : Nat} {items : Array Value} (ho : s.heap.get? l = some { cls := .type "dict", data := .dict es n }) (hb : s.heap.IsList b items) : l ≠ b := fun e => by
  subst e
  obtain ⟨o, h1, h2, _⟩ := hb
  rw [ho] at h1
  cases h1
  exact absurd h2 (by simp)
theorem rc_dict_list' {A : Around} {s : Shared} {l b : Addr} {es : Array DictEntry} {n : Nat} {items : Array Value} (ho : s.heap.get? l = some { cls := .type "dict", data := .dict es n }) (hb : s.heap.IsList b items) (hu : A.units < cLine) : RcAt A s (.ref l) (.ref b) false := fun prog w E Q h => by
  have hne := ne_dict_list ho hb
  obtain ⟨⟨cls, dd, data, sl⟩, ho2, hc, m, hd⟩ := id hb
  simp only at hc hd
  subst hc hd
  exact rc_eq_decline_or (k := false) ⟨_, ho, rfl⟩ ⟨_, ho2, rfl⟩ (by decide) F.sub_list_dict F.slot_dict_eq F.slot_list_eq_refl
    (fun _ hq => call_meets F.slot_dict_eq ⟨_, ho, rfl⟩ F.entry_dict_eq (F.args_dict_eq_2 _ _) (dd_list l b es n items m dd sl) ⟨ho, ho2, hq⟩)
    (fun _ hq => call_meets F.slot_list_eq_refl ⟨_, ho2, rfl⟩ F.entry_list_eq (F.args_list_eq_2 _ _) (list_dd l b es n items m dd sl) ⟨ho, ho2, hq⟩)
    (fun _ hq => wpAny_isSame_ref_other hne ho ho2 (by simp) hq) (.inr hu) h
theorem rc_list_dict' {A : Around} {s : Shared} {l b : Addr} {es : Array DictEntry} {n : Nat} {items : Array Value} (ho : s.heap.get? l = some { cls := .type "dict", data := .dict es n }) (hb : s.heap.IsList b items) (hu : A.units < cLine) : RcAt A s (.ref b) (.ref l) false := fun prog w E Q h => by
  have hne := ne_dict_list ho hb
  obtain ⟨⟨cls, dd, data, sl⟩, ho2, hc, m, hd⟩ := id hb
  simp only at hc hd
  subst hc hd
  exact rc_eq_decline_or (k := false) ⟨_, ho2, rfl⟩ ⟨_, ho, rfl⟩ (by decide) F.sub_dict_list F.slot_list_eq F.slot_dict_eq_refl
    (fun _ hq => call_meets F.slot_list_eq ⟨_, ho2, rfl⟩ F.entry_list_eq (F.args_list_eq_2 _ _) (list_dd l b es n items m dd sl) ⟨ho, ho2, hq⟩)
    (fun _ hq => call_meets F.slot_dict_eq_refl ⟨_, ho, rfl⟩ F.entry_dict_eq (F.args_dict_eq_2 _ _) (dd_list l b es n items m dd sl) ⟨ho, ho2, hq⟩)
    (fun _ hq => wpAny_isSame_ref_other' hne.symm ho2 ho (by simp) hq) (.inr hu) h
theorem dd_tuple (l b : Addr) (es : Array DictEntry) (n : Nat) (items : Array Value) (m : Nat) (dd : Option Addr) (sl : Array (Option Value)) :
    Meets (Builtin.«dict.__eq__» ⟨[.ref l, .ref b], []⟩) (fun _ R s => s.heap.get? l = some { cls := .type "dict", data := .dict es n } ∧ s.heap.get? b = some { cls := .type "tuple", dict := dd, data := .seq items m, slots := sl } ∧ R (.ok (.ret .notImplemented)) s) :=
  .of_wp fun prog w A R s h => by obtain ⟨hp, g, d, tk, os⟩ := s; obtain ⟨hl, hb, h⟩ := h; have f1 := F.sub_tuple_dict; wp_walk using wpAny_loadPart' hl, wpAny_loadPart' hb; exact ⟨_, rfl, h⟩
theorem tuple_dd (l b : Addr) (es : Array DictEntry) (n : Nat) (items : Array Value) (m : Nat) (dd : Option Addr) (sl : Array (Option Value)) :
    Meets (Builtin.«tuple.__eq__» ⟨[.ref b, .ref l], []⟩) (fun _ R s => s.heap.get? l = some { cls := .type "dict", data := .dict es n } ∧ s.heap.get? b = some { cls := .type "tuple", dict := dd, data := .seq items m, slots := sl } ∧ R (.ok (.ret .notImplemented)) s) :=
  .of_wp fun prog w A R s h => by obtain ⟨hp, g, d, tk, os⟩ := s; obtain ⟨hl, hb, h⟩ := h; have f1 := F.sub_dict_tuple; wp_walk using wpAny_loadPart' hl, wpAny_loadPart' hb; exact ⟨_, rfl, h⟩
theorem ne_dict_tuple {s : Shared} {l b : Addr} {es : Array DictEntry} {n : Nat} {items : Array Value} (ho : s.heap.get? l = some { cls := .type "dict", data := .dict es n }) (hb : s.heap.IsTuple b items) : l ≠ b := fun e => by
  subst e
  obtain ⟨o, h1, h2, _⟩ := hb
  rw [ho] at h1
  cases h1
  exact absurd h2 (by simp)
theorem rc_dict_tuple' {A : Around} {s : Shared} {l b : Addr} {es : Array DictEntry} {n : Nat} {items : Array Value} (ho : s.heap.get? l = some { cls := .type "dict", data := .dict es n }) (hb : s.heap.IsTuple b items) (hu : A.units < cLine) : RcAt A s (.ref l) (.ref b) false := fun prog w E Q h => by
  have hne := ne_dict_tuple ho hb
  obtain ⟨⟨cls, dd, data, sl⟩, ho2, hc, m, hd⟩ := id hb
  simp only at hc hd
  subst hc hd
  exact rc_eq_decline_or (k := false) ⟨_, ho, rfl⟩ ⟨_, ho2, rfl⟩ (by decide) F.sub_tuple_dict F.slot_dict_eq F.slot_tuple_eq_refl
    (fun _ hq => call_meets F.slot_dict_eq ⟨_, ho, rfl⟩ F.entry_dict_eq (F.args_dict_eq_2 _ _) (dd_tuple l b es n items m dd sl) ⟨ho, ho2, hq⟩)
    (fun _ hq => call_meets F.slot_tuple_eq_refl ⟨_, ho2, rfl⟩ F.entry_tuple_eq (F.args_tuple_eq_2 _ _) (tuple_dd l b es n items m dd sl) ⟨ho, ho2, hq⟩)
    (fun _ hq => wpAny_isSame_ref_other hne ho ho2 (by simp) hq) (.inr hu) h
theorem rc_tuple_dict' {A : Around} {s : Shared} {l b : Addr} {es : Array DictEntry} {n : Nat} {items : Array Value} (ho : s.heap.get? l = some { cls := .type "dict", data := .dict es n }) (hb : s.heap.IsTuple b items) (hu : A.units < cLine) : RcAt A s (.ref b) (.ref l) false := fun prog w E Q h => by
  have hne := ne_dict_tuple ho hb
  obtain ⟨⟨cls, dd, data, sl⟩, ho2, hc, m, hd⟩ := id hb
  simp only at hc hd
  subst hc hd
  exact rc_eq_decline_or (k := false) ⟨_, ho2, rfl⟩ ⟨_, ho, rfl⟩ (by decide) F.sub_dict_tuple F.slot_tuple_eq F.slot_dict_eq_refl
    (fun _ hq => call_meets F.slot_tuple_eq ⟨_, ho2, rfl⟩ F.entry_tuple_eq (F.args_tuple_eq_2 _ _) (tuple_dd l b es n items m dd sl) ⟨ho, ho2, hq⟩)
    (fun _ hq => call_meets F.slot_dict_eq_refl ⟨_, ho, rfl⟩ F.entry_dict_eq (F.args_dict_eq_2 _ _) (dd_tuple l b es n items m dd sl) ⟨ho, ho2, hq⟩)
    (fun _ hq => wpAny_isSame_ref_other' hne.symm ho2 ho (by simp) hq) (.inr hu) h
theorem eqAt_rc {A : Around} {s : Shared} {v u : Value} {k : Bool} (hv : v = .none ∨ (∃ b, v = .bool b) ∨ (∃ i t, v = .int i t) ∨ (∃ i t, v = .str i t) ∨ ∃ a, v = .ref a) (hne : (v == u) = false) (h : RcAt A s v u k) : EqAt A s v u k := fun prog w E Q hq => by
  unfold eqBool
  refine wpAny_holding ?_
  refine wpAny_ite_split (fun hab => absurd hab (by rw [hne]; decide)) (fun _ => ?_)
  rcases hv with rfl | ⟨_, rfl⟩ | ⟨_, _, rfl⟩ | ⟨_, _, rfl⟩ | ⟨_, rfl⟩ <;> exact wpAny_bind (h prog w E _ (wpAny_truthy_bool hq))
/-- what a value is, whatever it is -/
inductive Shp (P : Program) (w : World) (s : Shared) : PyData → Value → Prop
  | non : Shp P w s .none .none
  | bl (t : Bool) : Shp P w s (.bool t) (.bool t)
  | int (n : Int) (t : Tok) : Shp P w s (.int n) (.int n t)
  | str (z : Str) (t : Tok) : Shp P w s (.str z) (.str z t)
  | lst {r : Addr} {its : Array Value} {es : List PyData} (at_ : s.heap.IsList r its) : Shp P w s (.list es) (.ref r)
  | tup {r : Addr} {its : Array Value} {es : List PyData} (at_ : s.heap.IsTuple r its) : Shp P w s (.tuple es) (.ref r)
  | dct {r : Addr} {es : Array DictEntry} {n : Nat} {ds : List (PyData × PyData)} (at_ : s.heap.get? r = some { cls := .type "dict", data := .dict es n }) : Shp P w s (.dict ds) (.ref r)
end
section
open PySem.SeqAt PySem.W
variable {X : Cx} {pins : List (Addr × Obj)} {σ : L2.St} {H : Hp} {s : Shared}
theorem dct_at (I : Inv X pins σ H s) {r : Addr} {ms : List (Int × Int)} (h : H r = some (.dK (dictK ms))) : ∃ es n, s.heap.get? r = some { cls := .type "dict", data := .dict es n } := by
  obtain ⟨⟨oc, od, oda, osl⟩, es, n, g, ⟨e1, e2, e3⟩, e4, _, _⟩ := dct_reads I h
  dsimp only at e1 e2 e3 e4
  subst e1 e2 e3 e4
  exact ⟨es, n, g⟩
theorem dp_shp (I : Inv X pins σ H s) {d : PyData} {x : V} {v : Value} (h : Dp X.K H x d) (r : RelV x v) : Shp X.prog X.w s d v := by
  cases h with
  | non => cases r; exact .non
  | bl b => cases r; exact .bl b
  | int i => obtain ⟨t, rfl⟩ := r; exact .int i t
  | str z => obtain ⟨t, rfl⟩ := r; exact .str z t
  | lst at_ each => cases r; obtain ⟨its, rv, pl, _⟩ := I.list at_; exact .lst pl.isList
  | tup at_ each => cases r; obtain ⟨its, rv, pl, _⟩ := I.tuple at_; exact .tup pl
  | dct at_ => cases r; obtain ⟨es, n, g⟩ := dct_at I at_; exact .dct g
def sameD : PyData → PyData → Bool
  | .list _, .list _ => true
  | .tuple _, .tuple _ => true
  | .dict _, .dict _ => true
  | _, _ => false
theorem shp_rc {P : Program} {w : World} {d e : PyData} {v u : Value} (hd : Shp P w s d v) (he : Shp P w s e u) (hn : sameD d e = false) : ∃ k, (∀ i j, d = .int i → e = .int j → k = decide (i = j)) ∧ ∀ A : Around, A.units < cLine → RcAt A s v u k := by
  cases hd with
  | non =>
    cases he with
    | non => exact ⟨_, (fun i j e1 e2 => by cases e1), fun A hu => SeqAt.RcAt.none_none⟩
    | bl a2 => exact ⟨_, (fun i j e1 e2 => by first | (cases e1; done) | (cases e2; done)), fun A hu => SeqAt.RcAt.none_bool  a2⟩
    | int a2 t2 => exact ⟨_, (fun i j e1 e2 => by first | (cases e1; done) | (cases e2; done)), fun A hu => SeqAt.RcAt.none_int  a2 t2⟩
    | str a2 t2 => exact ⟨_, (fun i j e1 e2 => by first | (cases e1; done) | (cases e2; done)), fun A hu => SeqAt.RcAt.none_str  a2 t2⟩
    | lst h2 => exact ⟨_, (fun i j e1 e2 => by first | (cases e1; done) | (cases e2; done)), fun A hu => SeqAt.RcAt.none_list  h2 hu⟩
    | tup h2 => exact ⟨_, (fun i j e1 e2 => by first | (cases e1; done) | (cases e2; done)), fun A hu => SeqAt.RcAt.none_tuple  h2 hu⟩
    | dct h2 => exact ⟨_, (fun i j e1 e2 => by first | (cases e1; done) | (cases e2; done)), fun A hu => rc_none_dict'  h2 hu⟩
  | bl a1 =>
    cases he with
    | non => exact ⟨_, (fun i j e1 e2 => by first | (cases e1; done) | (cases e2; done)), fun A hu => SeqAt.RcAt.bool_none a1 ⟩
    | bl a2 => exact ⟨_, (fun i j e1 e2 => by first | (cases e1; done) | (cases e2; done)), fun A hu => SeqAt.RcAt.bool_bool a1 a2⟩
    | int a2 t2 => exact ⟨_, (fun i j e1 e2 => by first | (cases e1; done) | (cases e2; done)), fun A hu => SeqAt.RcAt.bool_int a1 a2 t2⟩
    | str a2 t2 => exact ⟨_, (fun i j e1 e2 => by first | (cases e1; done) | (cases e2; done)), fun A hu => SeqAt.RcAt.bool_str a1 a2 t2⟩
    | lst h2 => exact ⟨_, (fun i j e1 e2 => by first | (cases e1; done) | (cases e2; done)), fun A hu => SeqAt.RcAt.bool_list a1 h2 hu⟩
    | tup h2 => exact ⟨_, (fun i j e1 e2 => by first | (cases e1; done) | (cases e2; done)), fun A hu => SeqAt.RcAt.bool_tuple a1 h2 hu⟩
    | dct h2 => exact ⟨_, (fun i j e1 e2 => by first | (cases e1; done) | (cases e2; done)), fun A hu => rc_bool_dict' a1 h2 hu⟩
  | int a1 t1 =>
    cases he with
    | non => exact ⟨_, (fun i j e1 e2 => by first | (cases e1; done) | (cases e2; done)), fun A hu => SeqAt.RcAt.int_none a1 t1 ⟩
    | bl a2 => exact ⟨_, (fun i j e1 e2 => by first | (cases e1; done) | (cases e2; done)), fun A hu => SeqAt.RcAt.int_bool a1 t1 a2⟩
    | int a2 t2 => exact ⟨_, (fun i j e1 e2 => by cases e1; cases e2; show _ = decide _; rw [Bool.eq_iff_iff]; simp), fun A hu => SeqAt.RcAt.int_int a1 t1 a2 t2⟩
    | str a2 t2 => exact ⟨_, (fun i j e1 e2 => by first | (cases e1; done) | (cases e2; done)), fun A hu => SeqAt.RcAt.int_str a1 t1 a2 t2⟩
    | lst h2 => exact ⟨_, (fun i j e1 e2 => by first | (cases e1; done) | (cases e2; done)), fun A hu => SeqAt.RcAt.int_list a1 t1 h2 hu⟩
    | tup h2 => exact ⟨_, (fun i j e1 e2 => by first | (cases e1; done) | (cases e2; done)), fun A hu => SeqAt.RcAt.int_tuple a1 t1 h2 hu⟩
    | dct h2 => exact ⟨_, (fun i j e1 e2 => by first | (cases e1; done) | (cases e2; done)), fun A hu => rc_int_dict' a1 t1 h2 hu⟩
  | str a1 t1 =>
    cases he with
    | non => exact ⟨_, (fun i j e1 e2 => by first | (cases e1; done) | (cases e2; done)), fun A hu => SeqAt.RcAt.str_none a1 t1 ⟩
    | bl a2 => exact ⟨_, (fun i j e1 e2 => by first | (cases e1; done) | (cases e2; done)), fun A hu => SeqAt.RcAt.str_bool a1 t1 a2⟩
    | int a2 t2 => exact ⟨_, (fun i j e1 e2 => by first | (cases e1; done) | (cases e2; done)), fun A hu => SeqAt.RcAt.str_int a1 t1 a2 t2⟩
    | str a2 t2 => exact ⟨_, (fun i j e1 e2 => by first | (cases e1; done) | (cases e2; done)), fun A hu => SeqAt.RcAt.str_str a1 t1 a2 t2⟩
    | lst h2 => exact ⟨_, (fun i j e1 e2 => by first | (cases e1; done) | (cases e2; done)), fun A hu => SeqAt.RcAt.str_list a1 t1 h2 hu⟩
    | tup h2 => exact ⟨_, (fun i j e1 e2 => by first | (cases e1; done) | (cases e2; done)), fun A hu => SeqAt.RcAt.str_tuple a1 t1 h2 hu⟩
    | dct h2 => exact ⟨_, (fun i j e1 e2 => by first | (cases e1; done) | (cases e2; done)), fun A hu => rc_str_dict' a1 t1 h2 hu⟩
  | lst h1 =>
    cases he with
    | non => exact ⟨_, (fun i j e1 e2 => by first | (cases e1; done) | (cases e2; done)), fun A hu => SeqAt.RcAt.list_none  h1 hu⟩
    | bl a2 => exact ⟨_, (fun i j e1 e2 => by first | (cases e1; done) | (cases e2; done)), fun A hu => SeqAt.RcAt.list_bool a2 h1 hu⟩
    | int a2 t2 => exact ⟨_, (fun i j e1 e2 => by first | (cases e1; done) | (cases e2; done)), fun A hu => SeqAt.RcAt.list_int a2 t2 h1 hu⟩
    | str a2 t2 => exact ⟨_, (fun i j e1 e2 => by first | (cases e1; done) | (cases e2; done)), fun A hu => SeqAt.RcAt.list_str a2 t2 h1 hu⟩
    | lst h2 => exact absurd hn (by simp [sameD])
    | tup h2 => exact ⟨_, (fun i j e1 e2 => by first | (cases e1; done) | (cases e2; done)), fun A hu => SeqAt.RcAt.list_tuple h1 h2 hu⟩
    | dct h2 => exact ⟨_, (fun i j e1 e2 => by first | (cases e1; done) | (cases e2; done)), fun A hu => rc_list_dict' h2 h1 hu⟩
  | tup h1 =>
    cases he with
    | non => exact ⟨_, (fun i j e1 e2 => by first | (cases e1; done) | (cases e2; done)), fun A hu => SeqAt.RcAt.tuple_none  h1 hu⟩
    | bl a2 => exact ⟨_, (fun i j e1 e2 => by first | (cases e1; done) | (cases e2; done)), fun A hu => SeqAt.RcAt.tuple_bool a2 h1 hu⟩
    | int a2 t2 => exact ⟨_, (fun i j e1 e2 => by first | (cases e1; done) | (cases e2; done)), fun A hu => SeqAt.RcAt.tuple_int a2 t2 h1 hu⟩
    | str a2 t2 => exact ⟨_, (fun i j e1 e2 => by first | (cases e1; done) | (cases e2; done)), fun A hu => SeqAt.RcAt.tuple_str a2 t2 h1 hu⟩
    | lst h2 => exact ⟨_, (fun i j e1 e2 => by first | (cases e1; done) | (cases e2; done)), fun A hu => SeqAt.RcAt.tuple_list h1 h2 hu⟩
    | tup h2 => exact absurd hn (by simp [sameD])
    | dct h2 => exact ⟨_, (fun i j e1 e2 => by first | (cases e1; done) | (cases e2; done)), fun A hu => rc_tuple_dict' h2 h1 hu⟩
  | dct h1 =>
    cases he with
    | non => exact ⟨_, (fun i j e1 e2 => by first | (cases e1; done) | (cases e2; done)), fun A hu => rc_dict_none'  h1 hu⟩
    | bl a2 => exact ⟨_, (fun i j e1 e2 => by first | (cases e1; done) | (cases e2; done)), fun A hu => rc_dict_bool' a2 h1 hu⟩
    | int a2 t2 => exact ⟨_, (fun i j e1 e2 => by first | (cases e1; done) | (cases e2; done)), fun A hu => rc_dict_int' a2 t2 h1 hu⟩
    | str a2 t2 => exact ⟨_, (fun i j e1 e2 => by first | (cases e1; done) | (cases e2; done)), fun A hu => rc_dict_str' a2 t2 h1 hu⟩
    | lst h2 => exact ⟨_, (fun i j e1 e2 => by first | (cases e1; done) | (cases e2; done)), fun A hu => rc_dict_list' h1 h2 hu⟩
    | tup h2 => exact ⟨_, (fun i j e1 e2 => by first | (cases e1; done) | (cases e2; done)), fun A hu => rc_dict_tuple' h1 h2 hu⟩
    | dct h2 => exact absurd hn (by simp [sameD])
theorem shp_eq {P : Program} {w : World} {d e : PyData} {v u : Value} (hd : Shp P w s d v) (he : Shp P w s e u) (hn : sameD d e = false) : ∃ k, ∀ A : Around, A.units < cLine → EqAt A s v u k := by
  by_cases hvu : (v == u) = true
  · obtain rfl : v = u := eq_of_beq hvu
    exact ⟨true, fun A _ => .same v⟩
  · obtain ⟨k, _, h⟩ := shp_rc hd he hn
    exact ⟨k, fun A hu => eqAt_rc (by cases hd <;> simp) (Bool.eq_false_iff.mpr hvu) (h A hu)⟩
theorem valK {ms : List (Int × Int)} {vs : List (Key × Value)} (r : KV (dictK ms) vs) : ∀ k v, (k, v) ∈ vs → ∃ i t, v = .int i t := by
  induction ms generalizing vs with
  | nil =>
    cases r
    intro k v h
    cases h
  | cons m ms ih =>
    cases r with
    | cons h1 h2 =>
      intro k v h
      rcases List.mem_cons.mp h with h | h
      · obtain ⟨_, t, e⟩ := h1
        rw [← h] at e
        exact ⟨_, t, e⟩
      · exact ih h2 k v h
theorem valK' {ms : List (Int × Int)} {vs : List (Key × Value)} (r : KV (dictK ms) vs) {k : Key} {y : Value} (h : valueAt vs k = some y) : ∃ i t, y = .int i t := by
  unfold valueAt at h
  cases hf : vs.find? (fun p => decide (p.1 = k)) with
  | none => simp [hf] at h
  | some p =>
    have e : p.2 = y := by simpa [hf] using h
    obtain ⟨i, t, q⟩ := valK r p.1 p.2 (List.mem_of_find?_eq_some hf)
    exact ⟨i, t, e ▸ q⟩
theorem nodupL {vs : List (Key × Value)} (hn : (vs.map (·.1)).Nodup) {k : Key} {v v' : Value} (h : (k, v) ∈ vs) (h' : (k, v') ∈ vs) : v = v' := by
  induction vs with
  | nil => cases h
  | cons p vs ih =>
    rw [List.map_cons, List.nodup_cons] at hn
    rcases List.mem_cons.mp h with e | e <;> rcases List.mem_cons.mp h' with e' | e'
    · rw [← e] at e'; cases e'; rfl
    · exact absurd (List.mem_map.mpr ⟨_, e', by rw [← e]⟩) hn.1
    · exact absurd (List.mem_map.mpr ⟨_, e, by rw [← e']⟩) hn.1
    · exact ih hn.2 e e'
theorem nodupK {P : Program} {w : World} {h : Heap} {a : Addr} {vs : List (Key × Value)} (p : h.DictOf (mixKind P w) a vs) {k : Key} {v v' : Value} (h1 : (k, v) ∈ vs) (h2 : (k, v') ∈ vs) : v = v' := by
  obtain ⟨_, _, _, _, _, _, _, _, hn⟩ := p
  exact nodupL hn h1 h2
theorem dpAll_at {H : Hp} {K : PySem.W.Frag} {es : List PyData} {ys : List V} {us : List Value} (h : DpAll K H ys es) (r : Vals ys us) {j : Nat} (hj : j < us.toArray.size) : ∃ y e, Dp K H y e ∧ RelV y us.toArray[j] ∧ e ∈ es := by
  have hj' : j < us.length := by simpa using hj
  have l1 := r.length
  have l2 := dpAll_len h
  obtain ⟨e, he⟩ : ∃ e, es[j]? = some e := ⟨es[j]'(by omega), by simp⟩
  obtain ⟨y, hy, hd⟩ := dpAll_get h he
  obtain ⟨u, hu, ru⟩ := r.get hy
  refine ⟨y, e, hd, ?_, List.mem_of_getElem? he⟩
  rw [List.getElem?_eq_getElem hj'] at hu
  cases hu
  simpa using ru
theorem dAll_mem : ∀ {l : List PyData} {z : PyData}, z ∈ l → z.depth ≤ PyData.depthAll l
  | [], z, h => by cases h
  | e :: l, z, h => by
    rcases List.mem_cons.mp h with rfl | h
    · simp only [PyData.depthAll]; omega
    · have := dAll_mem h
      simp only [PyData.depthAll]; omega
theorem int_tree {n : Nat} {v u : Value} (h1 : ∃ i t, v = .int i t) (h2 : ∃ i t, u = .int i t) : ∃ b, EqTree X.prog X.w s n v u b := by
  obtain ⟨i, t, rfl⟩ := h1
  obtain ⟨j, t', rfl⟩ := h2
  exact ⟨_, .leaf fun A hu => .int_int i t j t'⟩
/-- the choice of an answer at each place -/
theorem eq_tree (I : Inv X pins σ H s) : ∀ (n : Nat) (d e : PyData) (x y : V) (v u : Value), d.depth ≤ n → Dp X.K H x d → Dp X.K H y e → RelV x v → RelV y u → ∃ b, EqTree X.prog X.w s n v u b := by
  intro n
  induction n with
  | zero =>
    intro d e x y v u hn hd he rx ry
    have sx := dp_shp I hd rx
    have sy := dp_shp I he ry
    have nd : sameD d e = false := by cases d <;> cases e <;> first | rfl | (simp only [PyData.depth] at hn; omega)
    obtain ⟨k, h⟩ := shp_eq sx sy nd
    exact ⟨k, .leaf fun A hu => h A (by omega)⟩
  | succ n ih =>
    intro d e x y v u hn hd he rx ry
    have sx := dp_shp I hd rx
    have sy := dp_shp I he ry
    by_cases nd : sameD d e = false
    · obtain ⟨k, h⟩ := shp_eq sx sy nd
      exact ⟨k, .leaf fun A hu => h A (by omega)⟩
    by_cases hvu : v = u
    · subst hvu
      exact ⟨true, .same⟩
    cases hd with
    | lst a1 e1 =>
      cases he with
      | lst a2 e2 =>
        cases rx
        cases ry
        obtain ⟨its, rv, pl, _⟩ := I.list a1
        obtain ⟨its2, rv2, pl2, _⟩ := I.list a2
        have hne : _ ≠ _ := fun z => hvu (congrArg Value.ref z)
        by_cases hsz : its.toArray.size = its2.toArray.size
        · have ch : ∀ j, ∃ b, ∀ (h1 : j < its.toArray.size) (h2 : j < its2.toArray.size), EqTree X.prog X.w s n its.toArray[j] its2.toArray[j] b := fun j => by
            by_cases h1 : j < its.toArray.size
            · have h2 : j < its2.toArray.size := hsz ▸ h1
              obtain ⟨y1, d1, q1, r1, m1⟩ := dpAll_at e1 rv h1
              obtain ⟨y2, d2, q2, r2, m2⟩ := dpAll_at e2 rv2 h2
              obtain ⟨b, t⟩ := ih d1 d2 y1 y2 _ _ (by have := dAll_mem m1; simp only [PyData.depth] at hn; omega) q1 q2 r1 r2
              exact ⟨b, fun _ _ => t⟩
            · exact ⟨true, fun z => absurd z h1⟩
          exact ⟨_, .lists (e := fun j => (ch j).choose) hne pl.isList pl2.isList hsz fun j h1 h2 => (ch j).choose_spec h1 h2⟩
        · exact ⟨false, .listsLen hne pl.isList pl2.isList (by simpa using hsz)⟩
      | _ => exact absurd rfl nd
    | tup a1 e1 =>
      cases he with
      | tup a2 e2 =>
        cases rx
        cases ry
        obtain ⟨its, rv, pl, _⟩ := I.tuple a1
        obtain ⟨its2, rv2, pl2, _⟩ := I.tuple a2
        have hne : _ ≠ _ := fun z => hvu (congrArg Value.ref z)
        have ch : ∀ j, ∃ b, ∀ (h1 : j < its.toArray.size) (h2 : j < its2.toArray.size), EqTree X.prog X.w s n its.toArray[j] its2.toArray[j] b := fun j => by
          by_cases h : j < its.toArray.size ∧ j < its2.toArray.size
          · obtain ⟨h1, h2⟩ := h
            obtain ⟨y1, d1, q1, r1, m1⟩ := dpAll_at e1 rv h1
            obtain ⟨y2, d2, q2, r2, m2⟩ := dpAll_at e2 rv2 h2
            obtain ⟨b, t⟩ := ih d1 d2 y1 y2 _ _ (by have := dAll_mem m1; simp only [PyData.depth] at hn; omega) q1 q2 r1 r2
            exact ⟨b, fun _ _ => t⟩
          · exact ⟨true, fun z z' => absurd ⟨z, z'⟩ h⟩
        exact ⟨_, .tuples (e := fun j => (ch j).choose) hne pl pl2 fun j h1 h2 => (ch j).choose_spec h1 h2⟩
      | _ => exact absurd rfl nd
    | dct a1 =>
      cases he with
      | dct a2 =>
        cases rx
        cases ry
        obtain ⟨_, ns1, vs1, kv1, p1⟩ := (show ObjOk X.prog X.w H s.heap _ (.dK _) from I.hok _ _ a1)
        obtain ⟨_, ns2, vs2, kv2, p2⟩ := (show ObjOk X.prog X.w H s.heap _ (.dK _) from I.hok _ _ a2)
        have hne : _ ≠ _ := fun z => hvu (congrArg Value.ref z)
        have ch : ∀ k, ∃ b, ∀ v y, (k, v) ∈ vs1 → valueAt vs2 k = some y → EqTree X.prog X.w s n v y b := fun k => by
          by_cases h : ∃ v y, (k, v) ∈ vs1 ∧ valueAt vs2 k = some y
          · obtain ⟨v, y, h1, h2⟩ := h
            obtain ⟨i, t, rfl⟩ := valK kv1 k v h1
            obtain ⟨j, t2, rfl⟩ := valK' kv2 h2
            refine ⟨i == j, fun v' y' h1' h2' => ?_⟩
            rw [h2] at h2'
            cases h2'
            have ev : v' = .int i t := nodupK p1 h1' h1
            subst ev
            exact .leaf fun A hu => .int_int i t j t2
          · exact ⟨true, fun v y h1 h2 => absurd ⟨v, y, h1, h2⟩ h⟩
        exact ⟨_, .dicts (e := fun k => (ch k).choose) hne ns1 ns2 p1 p2 fun k v y h1 h2 => (ch k).choose_spec v y h1 h2⟩
      | _ => exact absurd rfl nd
    | _ => exact absurd rfl (by first | exact nd | (cases he <;> exact nd))
/-- any data against any data; of whole numbers the truth is known -/
def rEqA (K : PySem.W.Frag) : R2 := fun x y H Q => ∃ d e, Dp K H x d ∧ Dp K H y e ∧ d.depth ≤ 60 ∧ ∀ b, (∀ i j, d = .int i → e = .int j → b = decide (i = j)) → Q (.bl b) H
theorem op_eqA (hu : X.A.units + 64 < cLine) : OpR X (compareOp .Eq) (rEqA X.K) := by
  intro pins s σ H x y v u Q I rx ry h
  obtain ⟨d, e, hd, he, hn, q⟩ := h
  have sx := dp_shp I hd rx
  have sy := dp_shp I he ry
  have fin : ∀ b, sameD d e = true → Q (.bl b) H := fun b z => q b fun i j e1 e2 => by subst e1; cases z
  by_cases nd : sameD d e = false
  · obtain ⟨k, hk, rc⟩ := shp_rc sx sy nd
    exact rc X.A (by omega) X.prog X.w _ _ ⟨.bl k, H, I, rfl, q k hk⟩
  have nd : sameD d e = true := by simpa using nd
  cases hd with
  | lst a1 e1 =>
    cases he with
    | lst a2 e2 =>
      cases rx
      cases ry
      obtain ⟨its, rv, pl, _⟩ := I.list a1
      obtain ⟨its2, rv2, pl2, _⟩ := I.list a2
      by_cases hsz : its.toArray.size = its2.toArray.size
      · have ch : ∀ j, ∃ b, ∀ (h1 : j < its.toArray.size) (h2 : j < its2.toArray.size), EqTree X.prog X.w s 60 its.toArray[j] its2.toArray[j] b := fun j => by
          by_cases h1 : j < its.toArray.size
          · have h2 : j < its2.toArray.size := hsz ▸ h1
            obtain ⟨y1, d1, q1, r1, m1⟩ := dpAll_at e1 rv h1
            obtain ⟨y2, d2, q2, r2, m2⟩ := dpAll_at e2 rv2 h2
            obtain ⟨b, t⟩ := eq_tree I 60 d1 d2 y1 y2 _ _ (by have := dAll_mem m1; simp only [PyData.depth] at hn; omega) q1 q2 r1 r2
            exact ⟨b, fun _ _ => t⟩
          · exact ⟨true, fun z => absurd z h1⟩
        exact eq_listsT (n := 60) (e := fun j => (ch j).choose) pl.isList pl2.isList hsz (fun j h1 h2 => (ch j).choose_spec h1 h2) (by omega) ⟨.bl _, H, I, rfl, fin _ rfl⟩
      · exact RcAt.lists_lengths pl.isList pl2.isList (by simpa using hsz) (by omega) X.prog X.w _ _ ⟨.bl _, H, I, rfl, fin _ rfl⟩
    | _ => cases nd
  | tup a1 e1 =>
    cases he with
    | tup a2 e2 =>
      cases rx
      cases ry
      obtain ⟨its, rv, pl, _⟩ := I.tuple a1
      obtain ⟨its2, rv2, pl2, _⟩ := I.tuple a2
      have ch : ∀ j, ∃ b, ∀ (h1 : j < its.toArray.size) (h2 : j < its2.toArray.size), EqTree X.prog X.w s 60 its.toArray[j] its2.toArray[j] b := fun j => by
        by_cases h : j < its.toArray.size ∧ j < its2.toArray.size
        · obtain ⟨h1, h2⟩ := h
          obtain ⟨y1, d1, q1, r1, m1⟩ := dpAll_at e1 rv h1
          obtain ⟨y2, d2, q2, r2, m2⟩ := dpAll_at e2 rv2 h2
          obtain ⟨b, t⟩ := eq_tree I 60 d1 d2 y1 y2 _ _ (by have := dAll_mem m1; simp only [PyData.depth] at hn; omega) q1 q2 r1 r2
          exact ⟨b, fun _ _ => t⟩
        · exact ⟨true, fun z z' => absurd ⟨z, z'⟩ h⟩
      exact eq_tuplesT (n := 60) (e := fun j => (ch j).choose) pl pl2 (fun j h1 h2 => (ch j).choose_spec h1 h2) (by omega) ⟨.bl _, H, I, rfl, fin _ rfl⟩
    | _ => cases nd
  | dct a1 =>
    cases he with
    | dct a2 =>
      cases rx
      cases ry
      obtain ⟨_, ns1, vs1, kv1, p1⟩ := (show ObjOk X.prog X.w H s.heap _ (.dK _) from I.hok _ _ a1)
      obtain ⟨_, ns2, vs2, kv2, p2⟩ := (show ObjOk X.prog X.w H s.heap _ (.dK _) from I.hok _ _ a2)
      have ch : ∀ k, ∃ b, ∀ v y, (k, v) ∈ vs1 → valueAt vs2 k = some y → EqTree X.prog X.w s 60 v y b := fun k => by
        by_cases h : ∃ v y, (k, v) ∈ vs1 ∧ valueAt vs2 k = some y
        · obtain ⟨v, y, h1, h2⟩ := h
          obtain ⟨i, t, rfl⟩ := valK kv1 k v h1
          obtain ⟨j, t2, rfl⟩ := valK' kv2 h2
          refine ⟨i == j, fun v' y' h1' h2' => ?_⟩
          rw [h2] at h2'
          cases h2'
          have ev : v' = .int i t := nodupK p1 h1' h1
          subst ev
          exact .leaf fun A hu => .int_int i t j t2
        · exact ⟨true, fun v y h1 h2 => absurd ⟨v, y, h1, h2⟩ h⟩
      exact eq_dictsT (n := 60) (e := fun k => (ch k).choose) ns1 ns2 p1 p2 (fun k v y h1 h2 => (ch k).choose_spec v y h1 h2) (by omega) ⟨.bl _, H, I, rfl, fin _ rfl⟩
    | _ => cases nd
  | _ => cases nd
def isStrD (z : Str) : PyData → Bool
  | .str y => decide (y = z)
  | _ => false
def inTq (d : PyData) (u : Value) : Bool := match u with
  | .str z _ => isStrD z d
  | _ => false
theorem strs_mem : ∀ {zs : List Str} {us : List Value}, Vals (zs.map V.str) us → ∀ w ∈ us, ∃ z t, w = .str z t
  | [], _, .nil, w, h => by cases h
  | z :: zs, _ :: us, .cons r t, w, h => by
    rcases List.mem_cons.mp h with rfl | h
    · exact ⟨z, r⟩
    · exact strs_mem t w h
theorem strs_any (d : PyData) : ∀ {zs : List Str} {us : List Value}, Vals (zs.map V.str) us → us.any (inTq d) = zs.any fun z => isStrD z d
  | [], _, .nil => rfl
  | z :: zs, _ :: us, .cons r t => by
    obtain ⟨t', rfl⟩ := r
    rw [List.any_cons, List.any_cons, strs_any d t]
    rfl
theorem beq_sd (z z' : Str) : (z == z') = decide (z' = z) := by
  by_cases h : z' = z
  · subst h
    rw [decide_eq_true rfl]
    exact beq_self_eq_true _
  · rw [decide_eq_false h]
    exact beq_eq_false_iff_ne.mpr (Ne.symm h)
/-- any data in a tuple of texts -/
def rInT (K : PySem.W.Frag) : R2 := fun x y H Q => ∃ (d : PyData) (p : Addr) (zs : List Str), Dp K H x d ∧ y = .ref p ∧ SqT K H p (zs.map V.str) ∧ Q (.bl (zs.any fun z => isStrD z d)) H
theorem op_inT (hu : X.A.units + 64 < cLine) : OpR X (compareOp .In) (rInT X.K) := by
  intro pins s σ H x y v u Q I rx ry h
  obtain ⟨d, p, zs, hd, rfl, hp, q⟩ := h
  cases ry
  obtain ⟨its, rv, pl, _⟩ := I.tuple hp
  have sx := dp_shp I hd rx
  refine SeqAt.in_tupleAt (inTq d) pl (fun w hw => ?_) ⟨.bl _, H, I, rfl, ?_⟩
  · obtain ⟨z, t, rfl⟩ := strs_mem rv w (by simpa using hw)
    show EqAt _ _ _ _ (isStrD z d)
    have hu' : X.A.in1.units < cLine := by show X.A.units + 1 < cLine; omega
    cases sx with
    | non => exact SeqAt.EqAt.str_none z t
    | bl b => exact SeqAt.EqAt.str_bool z t b
    | int i t' => exact SeqAt.EqAt.str_int z t i t'
    | str z' t' =>
      show EqAt _ _ _ _ (decide (z' = z))
      rw [← beq_sd]
      exact SeqAt.EqAt.str_str z t z' t'
    | lst h => exact SeqAt.EqAt.str_list z t h hu'
    | tup h => exact SeqAt.EqAt.str_tuple z t h hu'
    | dct h => exact eqAt_rc (by simp) (by rfl) (rc_str_dict' z t h hu')
  · rw [show its.toArray.any (inTq d) = its.any (inTq d) by simp, strs_any d rv]
    exact q
end
/-! fits -/
inductive Kd | name | graph | number | place | sign | into | out
deriving DecidableEq
def kdS : Kd → Str
  | .name => "name"
  | .graph => "graph"
  | .number => "number"
  | .place => "place"
  | .sign => "sign"
  | .into => "into"
  | .out => "from"
def signs : List Str := ["+", "-", "*", "<", "="]
def intIn (ns : List Int) : PyData → Bool
  | .int i => decide (i ∈ ns)
  | _ => false
def fitD (ss ts : List Int) (k : Kd) (d : PyData) : Bool := match k with
  | .name => numNameD d
  | .graph => graphNameD d
  | .number => withinD (-9999) 9999 d
  | .place => withinD 0 2 d
  | .sign => signs.any fun z => isStrD z d
  | .into => intIn ss d
  | .out => intIn ts d
theorem inV_ints (i : Int) : ∀ ns : List Int, inV (.int i) (ns.map V.int) = decide (i ∈ ns)
  | [] => rfl
  | n :: ns => by
    have h := inV_ints i ns
    unfold inV at h ⊢
    rw [List.map_cons, List.any_cons, h]
    show ((n == i) || decide (i ∈ ns)) = decide (i ∈ n :: ns)
    by_cases e : n = i
    · subst e
      rw [beq_self_eq_true, decide_eq_true List.mem_cons_self]
      rfl
    · rw [beq_eq_false_iff_ne.mpr e, Bool.false_or]
      refine decide_eq_decide.mpr ⟨fun h => List.mem_cons_of_mem _ h, fun h => ?_⟩
      rcases List.mem_cons.mp h with h | h
      · exact absurd h.symm e
      · exact h
theorem flat_ints (ns : List Int) : (ns.map V.int).all flatV = true := by
  rw [List.all_eq_true]
  intro x hx
  obtain ⟨n, _, rfl⟩ := List.mem_map.mp hx
  rfl
theorem op_inTI {X : Cx} : OpR X (compareOp .In) (fun x y H Q => ∃ (i : Int) (p : Addr) (ns : List Int), x = .int i ∧ y = .ref p ∧ SqT X.K H p (ns.map V.int) ∧ Q (.bl (decide (i ∈ ns))) H) := by
  intro pins s σ H x y v u Q I rx ry h
  obtain ⟨i, p, ns, rfl, rfl, hp, q⟩ := h
  refine op_in_seq pins s σ H _ _ v u Q I rx ry ⟨p, ns.map V.int, rfl, .inr hp, rfl, flat_ints ns, ?_⟩
  show Q (.bl (inV (.int i) (ns.map V.int))) H
  rw [inV_ints]
  exact q
section
open PySem.Spec PyProof.Rows LamX
variable {P : Program} {w : World} {K : PySem.W.Frag} {mg : Str → Option Value} {base : Heap} {f : Addr} {fd : FuncData}
/-- a tuple of the top -/
def SqK (K : PySem.W.Frag) (a : Addr) (xs : List V) : Prop := ∃ (o : Obj) (its : Array Value) (n : Nat), K.lookup a = some o ∧ o.cls = .type "tuple" ∧ o.data = .seq its n ∧ its.size ≤ sizeLine ∧ Vals xs its.toList
theorem SqK.at {a : Addr} {xs : List V} (h : SqK K a xs) (H : Hp) : SqT K H a xs := .inr h
def spFits (K : PySem.W.Frag) (PT : List Addr) : Sp := fun vs H Q _ => ∃ (k : Kd) (x : V) (d : PyData) (a b : Addr) (ss ts : List Int), vs = [.str (kdS k), x, .ref a, .ref b] ∧ Dp K H x d ∧ TxtOk d ∧ SqT K H a (ss.map V.int) ∧ SqT K H b (ts.map V.int) ∧ TabsG PT H ∧ ∀ H', ExtN H H' → TabsG PT H' → Q (.bl (fitD ss ts k d)) H'
theorem scFits : FnScope ["kind", "part", "sends", "takes"] ["kind", "part", "sends", "takes"] (defScope sFits) := ⟨rfl, rfl, rfl, by decide +kernel, rfl, by decide +kernel, by decide +kernel⟩
theorem ok_fits {k : Nat} {PT : List Addr} {sg : Addr} (F : Fun K "fits" "fits" sFits f fd) (hG : mg "SIGNS" = some (.ref sg)) (hS : SqK K sg (signs.map V.str))
    (cN : Cal P w K mg base "is_number_name" k ["thing"] (spName K PT numNameD)) (cG : Cal P w K mg base "is_graph_name" k ["thing"] (spName K PT graphNameD)) (cI : Cal P w K mg base "is_number" k ["thing"] (spNumber K)) (cP : Cal P w K mg base "is_place" k ["thing"] (spPlaceD K)) (cW : Cal P w K mg base "is_whole" k ["thing"] (spWhole K)) :
    FnOk P w K mg base CX0 (k + 1) f fd ["kind", "part", "sends", "takes"] (spFits K PT) := by
  refine F.ok scFits (fun vs H Q E h => ?_) (fun cdv A outer s H vs Q E hr h => ?_)
  · obtain ⟨k, x, d, a, b, ss, ts, rfl, _⟩ := h
    rfl
  obtain ⟨kd, x, d, a, b, ss, ts, rfl, hx, ht, ha, hb, tb, q⟩ := h
  refine ⟨_, pss_cons (ps_if (pt_cmpR op_eq (pv 0) pe_str (nomark _)) (pss_one (ps_ret (pe_cal cN hr rfl (pa_cons (pv 1) pa_nil)))) pss_nil)
    (pss_cons (ps_if (pt_cmpR op_eq (pv 0) pe_str (nomark _)) (pss_one (ps_ret (pe_cal cG hr rfl (pa_cons (pv 1) pa_nil)))) pss_nil)
    (pss_cons (ps_if (pt_cmpR op_eq (pv 0) pe_str (nomark _)) (pss_one (ps_ret (pe_cal cI hr rfl (pa_cons (pv 1) pa_nil)))) pss_nil)
    (pss_cons (ps_if (pt_cmpR op_eq (pv 0) pe_str (nomark _)) (pss_one (ps_ret (pe_cal cP hr rfl (pa_cons (pv 1) pa_nil)))) pss_nil)
    (pss_cons (ps_if (pt_cmpR op_eq (pv 0) pe_str (nomark _)) (pss_one (ps_ret (pe_cmpR (op_inT hr.units) (pv 1) (pe_glob (v := .ref sg) rfl hG rfl) rfl))) pss_nil)
    (pss_one (ps_ret (pe_and (pe_cal cW hr rfl (pa_cons (pv 1) pa_nil)) (pe_one (pe_cmpR op_inTI (pv 1) (pe_ifExp (pt_cmpR op_eq (pv 0) pe_str (nomark _)) (pv 2) (pv 3)) rfl))))))))), ?_⟩
  cases kd with
  | name =>
    refine ⟨_, rfl, rfl, _, rfl, ?_⟩
    refine ifT (by decide +kernel) ?_
    exact ⟨_, rfl, x, d, rfl, hx, ht, tb, q⟩
  | graph =>
    refine ⟨_, rfl, rfl, _, rfl, ?_⟩
    refine ifF (by decide +kernel) ?_
    refine ⟨_, rfl, rfl, _, rfl, ?_⟩
    refine ifT (by decide +kernel) ?_
    exact ⟨_, rfl, x, d, rfl, hx, ht, tb, q⟩
  | number =>
    refine ⟨_, rfl, rfl, _, rfl, ?_⟩
    refine ifF (by decide +kernel) ?_
    refine ⟨_, rfl, rfl, _, rfl, ?_⟩
    refine ifF (by decide +kernel) ?_
    refine ⟨_, rfl, rfl, _, rfl, ?_⟩
    refine ifT (by decide +kernel) ?_
    exact ⟨_, rfl, x, d, rfl, hx, q H (ExtN.refl _) tb⟩
  | place =>
    refine ⟨_, rfl, rfl, _, rfl, ?_⟩
    refine ifF (by decide +kernel) ?_
    refine ⟨_, rfl, rfl, _, rfl, ?_⟩
    refine ifF (by decide +kernel) ?_
    refine ⟨_, rfl, rfl, _, rfl, ?_⟩
    refine ifF (by decide +kernel) ?_
    refine ⟨_, rfl, rfl, _, rfl, ?_⟩
    refine ifT (by decide +kernel) ?_
    exact ⟨_, rfl, x, d, rfl, hx, q H (ExtN.refl _) tb⟩
  | sign =>
    refine ⟨_, rfl, rfl, _, rfl, ?_⟩
    refine ifF (by decide +kernel) ?_
    refine ⟨_, rfl, rfl, _, rfl, ?_⟩
    refine ifF (by decide +kernel) ?_
    refine ⟨_, rfl, rfl, _, rfl, ?_⟩
    refine ifF (by decide +kernel) ?_
    refine ⟨_, rfl, rfl, _, rfl, ?_⟩
    refine ifF (by decide +kernel) ?_
    refine ⟨_, rfl, rfl, _, rfl, ?_⟩
    refine ifT (by decide +kernel) ?_
    exact ⟨_, rfl, d, sg, signs, hx, rfl, hS.at H, q H (ExtN.refl _) tb⟩
  | into =>
    refine ⟨_, rfl, rfl, _, rfl, ?_⟩
    refine ifF (by decide +kernel) ?_
    refine ⟨_, rfl, rfl, _, rfl, ?_⟩
    refine ifF (by decide +kernel) ?_
    refine ⟨_, rfl, rfl, _, rfl, ?_⟩
    refine ifF (by decide +kernel) ?_
    refine ⟨_, rfl, rfl, _, rfl, ?_⟩
    refine ifF (by decide +kernel) ?_
    refine ⟨_, rfl, rfl, _, rfl, ?_⟩
    refine ifF (by decide +kernel) ?_
    refine ⟨_, rfl, x, d, rfl, hx, _, rfl, ?_⟩
    cases hw : wholeD d with
    | false =>
      have e : fitD ss ts .into d = false := by cases d <;> first | rfl | cases hw
      have r := q H (ExtN.refl _) tb
      rw [e] at r
      exact ifF rfl r
    | true =>
      obtain ⟨i, rfl⟩ : ∃ i, d = .int i := by cases d <;> first | exact ⟨_, rfl⟩ | cases hw
      cases hx
      exact ifT rfl ⟨_, rfl, _, rfl, rfl, _, rfl, ifT (by decide +kernel) ⟨_, rfl, i, _, _, rfl, rfl, ha, q H (ExtN.refl _) tb⟩⟩
  | out =>
    refine ⟨_, rfl, rfl, _, rfl, ?_⟩
    refine ifF (by decide +kernel) ?_
    refine ⟨_, rfl, rfl, _, rfl, ?_⟩
    refine ifF (by decide +kernel) ?_
    refine ⟨_, rfl, rfl, _, rfl, ?_⟩
    refine ifF (by decide +kernel) ?_
    refine ⟨_, rfl, rfl, _, rfl, ?_⟩
    refine ifF (by decide +kernel) ?_
    refine ⟨_, rfl, rfl, _, rfl, ?_⟩
    refine ifF (by decide +kernel) ?_
    refine ⟨_, rfl, x, d, rfl, hx, _, rfl, ?_⟩
    cases hw : wholeD d with
    | false =>
      have e : fitD ss ts .out d = false := by cases d <;> first | rfl | cases hw
      have r := q H (ExtN.refl _) tb
      rw [e] at r
      exact ifF rfl r
    | true =>
      obtain ⟨i, rfl⟩ : ∃ i, d = .int i := by cases d <;> first | exact ⟨_, rfl⟩ | cases hw
      cases hx
      exact ifT rfl ⟨_, rfl, _, rfl, rfl, _, rfl, ifF (by decide +kernel) ⟨_, rfl, i, _, _, rfl, rfl, hb, q H (ExtN.refl _) tb⟩⟩
end
/-! is_deed -/
def deedL : List (Str × List Kd) := [("num", [.name, .number]), ("sum", [.name, .name, .sign, .name]), ("new", [.graph]), ("let", [.graph, .graph]), ("add", [.graph, .name]), ("put", [.graph, .name, .place, .name]), ("tie", [.graph, .name, .place, .name]), ("hang", [.graph, .name, .place, .graph]),
  ("get", [.name, .graph, .name, .place]), ("sort", [.name, .graph, .name, .place]), ("pick", [.graph, .graph, .name, .place]), ("send", [.into, .graph]), ("take", [.graph, .out]), ("tell", [.name]), ("show", [.graph])]
def deedK (z : Str) : Option (List Kd) := deedL.lookup z
def unlikeL : List Str := ["let", "hang"]
def txtNe : PyData → PyData → Bool
  | .str a, .str b => !decide (a = b)
  | _, _ => true
def fitsAll (ss ts : List Int) : List Kd → List PyData → Bool
  | k :: ks, d :: ds => fitD ss ts k d && fitsAll ss ts ks ds
  | _, _ => true
def unlikeB (z : Str) (ds : List PyData) : Bool := !decide (z ∈ unlikeL) || txtNe (ds.headD .none) (ds.getLastD .none)
def deedB (ss ts : List Int) (z : Str) (ds : List PyData) : Bool := match deedK z with
  | none => false
  | some ks => decide (ds.length = ks.length) && (fitsAll ss ts ks ds && unlikeB z ds)
def deedD (ss ts : List Int) : PyData → Bool
  | .tuple (.str z :: ds) => deedB ss ts z ds
  | _ => false
/-- the table of deeds -/
structure DeedT (K : PySem.W.Frag) (w : World) (d : Addr) : Prop where
  kd : ∃ es n, KDict K w d es n
  no : ∀ z, deedK z = none → PySem.W.nsIn K d z = some none
  yes : ∀ z ks, deedK z = some ks → ∃ a, PySem.W.nsIn K d z = some (some (.ref a)) ∧ SqK K a (ks.map fun k => V.str (kdS k))
theorem inV_strs (z : Str) : ∀ zs : List Str, inV (.str z) (zs.map V.str) = decide (z ∈ zs)
  | [] => rfl
  | n :: ns => by
    have h := inV_strs z ns
    unfold inV at h ⊢
    rw [List.map_cons, List.any_cons, h]
    show ((n == z) || decide (z ∈ ns)) = decide (z ∈ n :: ns)
    by_cases e : n = z
    · subst e
      rw [beq_self_eq_true, decide_eq_true List.mem_cons_self]
      rfl
    · rw [beq_eq_false_iff_ne.mpr e, Bool.false_or]
      refine decide_eq_decide.mpr ⟨fun h => List.mem_cons_of_mem _ h, fun h => ?_⟩
      rcases List.mem_cons.mp h with h | h
      · exact absurd h.symm e
      · exact h
theorem flat_strs (zs : List Str) : (zs.map V.str).all flatV = true := by
  rw [List.all_eq_true]
  intro x hx
  obtain ⟨n, _, rfl⟩ := List.mem_map.mp hx
  rfl
theorem op_ninTS {X : Cx} : OpR X (compareOp .NotIn) (fun x y H Q => ∃ (z : Str) (p : Addr) (zs : List Str), x = .str z ∧ y = .ref p ∧ (SqL X.K H p (zs.map V.str) ∨ SqT X.K H p (zs.map V.str)) ∧ Q (.bl (!decide (z ∈ zs))) H) := by
  intro pins s σ H x y v u Q I rx ry h
  obtain ⟨i, p, ns, rfl, rfl, hp, q⟩ := h
  refine op_notIn_seq pins s σ H _ _ v u Q I rx ry ⟨p, ns.map V.str, rfl, hp, rfl, flat_strs ns, ?_⟩
  show Q (.bl (!inV (.str i) (ns.map V.str))) H
  rw [inV_strs]
  exact q
theorem op_inTS {X : Cx} : OpR X (compareOp .In) (fun x y H Q => ∃ (z : Str) (p : Addr) (zs : List Str), x = .str z ∧ y = .ref p ∧ (SqL X.K H p (zs.map V.str) ∨ SqT X.K H p (zs.map V.str)) ∧ Q (.bl (decide (z ∈ zs))) H) := by
  intro pins s σ H x y v u Q I rx ry h
  obtain ⟨i, p, ns, rfl, rfl, hp, q⟩ := h
  refine op_in_seq pins s σ H _ _ v u Q I rx ry ⟨p, ns.map V.str, rfl, hp, rfl, flat_strs ns, ?_⟩
  show Q (.bl (inV (.str i) (ns.map V.str))) H
  rw [inV_strs]
  exact q
theorem cut1 (y : V) (ys : List V) : cutV (y :: ys) (some 1) none = ys := by
  unfold cutV HT.sIx
  simp
theorem sl1 (y : V) (ys : List V) : ¬ (HT.sIx (y :: ys).length 0 (some 1) = 0 ∧ HT.sIx (y :: ys).length (y :: ys).length none = (y :: ys).length) := by
  unfold HT.sIx
  simp
def BkOk (d : PyData) : Prop := d.bulk ≤ 1000000
theorem bk_txt {d : PyData} (h : BkOk d) : TxtOk d := fun x e => by
  subst e
  unfold BkOk at h
  simp only [PyData.bulk] at h
  refine Nat.le_trans ?_ (show 1000000 ≤ sizeLine by decide)
  show x.cps.size ≤ 1000000
  omega
theorem bk_mem {ds : List PyData} {e : PyData} (h : BkOk (.tuple ds)) (hm : e ∈ ds) : BkOk e := by
  have z := bulk_mem hm
  unfold BkOk at h ⊢
  simp only [PyData.bulk] at h
  omega
theorem gx_zipT {K : PySem.W.Frag} {a b : Addr} {xs ys : List V} (hlen : xs.length = ys.length) {g : TG} {tt : TT} {te : TE} {vs : List Nat} {σ0 : L2.St} {e : Bool} {Qe Qn : Hp → Prop} {H : Hp} (Pv : Nat → Hp → Prop) (h0 : Pv 0 H) (hl : ∀ i H, i ≤ xs.length → Pv i H → SqT K H a xs ∧ SqT K H b ys)
    (hs : ∀ i x y T H, xs[i]? = some x → ys[i]? = some y → Pv i H → H T = none → g (.ref T) σ0 (upd H T (.tup [x, y])) fun σ2 H2 => wipe σ2 vs = σ0 ∧ tt σ2 H2 fun b H3 => if b = true then te σ2 H3 fun y H4 => ∃ c, y = .bl c ∧ (c = e → Pv (i + 1) H4) ∧ (c ≠ e → Qn H4) else Pv (i + 1) H3) (hd : ∀ H, Pv xs.length H → Qe H) :
    ∃ W : Nat → Nat → Hp → Prop, (∃ m, W 0 m H) ∧ gxTurn (RZ.ItzT K a b) g tt te vs σ0 e Qe Qn W := by
  refine ⟨fun i m H => m = xs.length - i ∧ i ≤ xs.length ∧ Pv i H, ⟨xs.length, by simp, Nat.zero_le _, h0⟩, ?_⟩
  rintro i m H ⟨rfl, hi, p⟩
  have q := hl i H hi p
  by_cases hlt : i < xs.length
  · refine .inr ⟨⟨xs, ys, xs[i], ys[i]'(by omega), q.1, q.2, by simp [hlt], by simp [show i < ys.length by omega]⟩, Pv (i + 1), fun H' p' => ⟨xs.length - (i + 1), by omega, rfl, hlt, p'⟩, fun x H' y => ?_⟩
    obtain ⟨T, x0, y0, rfl, hT, rfl, hx, hy⟩ := y
    exact hs i x0 y0 T H (hx xs q.1) (hy ys q.2) p hT
  · have e : i = xs.length := by omega
    subst e
    exact .inl ⟨⟨xs, ys, q.1, q.2, .inl (Nat.le_refl _)⟩, hd H p⟩
theorem fitsAll_take {ss ts : List Int} : ∀ {ks : List Kd} {ds : List PyData} {i : Nat} {k : Kd} {d : PyData}, ks[i]? = some k → ds[i]? = some d → fitsAll ss ts (ks.take (i + 1)) (ds.take (i + 1)) = (fitsAll ss ts (ks.take i) (ds.take i) && fitD ss ts k d)
  | k :: ks, d :: ds, 0, _, _, h1, h2 => by
    cases h1
    cases h2
    show (fitD ss ts k d && fitsAll ss ts [] []) = (fitsAll ss ts [] [] && fitD ss ts k d)
    show (fitD ss ts k d && true) = (true && fitD ss ts k d)
    rw [Bool.and_true, Bool.true_and]
  | k :: ks, d :: ds, i + 1, _, _, h1, h2 => by
    show (fitD ss ts k d && fitsAll ss ts (ks.take (i + 1)) (ds.take (i + 1))) = ((fitD ss ts k d && fitsAll ss ts (ks.take i) (ds.take i)) && _)
    rw [fitsAll_take (show ks[i]? = _ from h1) (show ds[i]? = _ from h2), Bool.and_assoc]
theorem fitsAll_no {ss ts : List Int} : ∀ {ks : List Kd} {ds : List PyData} {i : Nat} {k : Kd} {d : PyData}, ks[i]? = some k → ds[i]? = some d → fitD ss ts k d = false → fitsAll ss ts ks ds = false
  | k :: ks, d :: ds, 0, _, _, h1, h2, h => by
    cases h1
    cases h2
    show (fitD ss ts k d && _) = false
    rw [h, Bool.false_and]
  | k :: ks, d :: ds, i + 1, _, _, h1, h2, h => by
    show (_ && fitsAll ss ts ks ds) = false
    rw [fitsAll_no (show ks[i]? = _ from h1) (show ds[i]? = _ from h2) h, Bool.and_false]
theorem graph_str {d : PyData} (h : graphNameD d = true) : ∃ z, d = .str z := by
  cases d <;> first | exact ⟨_, rfl⟩ | cases h
theorem and3 {a b : Bool} (h : (a && b) = true) : a = true ∧ b = true := by
  cases a <;> cases b <;> first | exact ⟨rfl, rfl⟩ | cases h
theorem decV (u v : Str) : decide (V.str u = V.str v) = decide (u = v) := decide_eq_decide.mpr ⟨fun h => by injection h, fun h => by rw [h]⟩
/-- first and last of an unlike pair are texts -/
theorem unlike_txt {ss ts : List Int} {z : Str} {ks : List Kd} {ds : List PyData} (hz : z ∈ unlikeL) (hk : deedK z = some ks) (hl : ds.length = ks.length) (hf : fitsAll ss ts ks ds = true) : ∃ (u v : Str) (r : List PyData), (ds = [.str u, .str v] ∨ ∃ d2 d3, ds = [.str u, d2, d3, .str v]) := by
  have e : z = "let" ∨ z = "hang" := by simpa [unlikeL] using hz
  rcases e with rfl | rfl
  · have ek : ks = [.graph, .graph] := by
      have : deedK "let" = some [.graph, .graph] := by decide +kernel
      rw [this] at hk
      exact (Option.some.inj hk).symm
    subst ek
    match ds, hl with
    | [d1, d2], _ =>
      obtain ⟨h1, h2⟩ := and3 (show (graphNameD d1 && (graphNameD d2 && true)) = true from hf)
      obtain ⟨u, rfl⟩ := graph_str h1
      obtain ⟨v, rfl⟩ := graph_str (and3 h2).1
      exact ⟨u, v, [], .inl rfl⟩
  · have ek : ks = [.graph, .name, .place, .graph] := by
      have : deedK "hang" = some [.graph, .name, .place, .graph] := by decide +kernel
      rw [this] at hk
      exact (Option.some.inj hk).symm
    subst ek
    match ds, hl with
    | [d1, d2, d3, d4], _ =>
      obtain ⟨h1, h2⟩ := and3 (show (graphNameD d1 && (numNameD d2 && (withinD 0 2 d3 && (graphNameD d4 && true)))) = true from hf)
      obtain ⟨u, rfl⟩ := graph_str h1
      obtain ⟨v, rfl⟩ := graph_str (and3 (and3 (and3 h2).2).2).1
      exact ⟨u, v, [], .inr ⟨d2, d3, rfl⟩⟩
section
open PySem.Spec PyProof.Rows LamX
variable {P : Program} {w : World} {K : PySem.W.Frag} {mg : Str → Option Value} {base : Heap} {f : Addr} {fd : FuncData}
def spIsDeed (K : PySem.W.Frag) (PT : List Addr) : Sp := fun vs H Q _ => ∃ (x : V) (d : PyData) (a b : Addr) (ss ts : List Int), vs = [x, .ref a, .ref b] ∧ Dp K H x d ∧ BkOk d ∧ SqT K H a (ss.map V.int) ∧ SqT K H b (ts.map V.int) ∧ TabsG PT H ∧ ∀ H', ExtN H H' → TabsG PT H' → Q (.bl (deedD ss ts d)) H'
abbrev NDeed : List Str := ["thing", "sends", "takes", "word", "wanted", "kind", "part"]
theorem scIsDeed : FnScope NDeed ["thing", "sends", "takes"] (defScope sIsDeed) := ⟨rfl, rfl, rfl, by decide +kernel, rfl, by decide +kernel, by decide +kernel⟩
theorem ok_isDeed {k : Nat} {c Pc : Addr} {PT : List Addr} {dt ul : Addr} (F : Fun K "is_deed" "is_deed" sIsDeed f fd) (hc : fd.code = .ref c) (TB : LamX.TabB base mg c Pc) (hPT : Pc ∈ PT) (T : Free mg) (hA : mg "all" = none) (hZ : mg "zip" = none)
    (hD : mg "DEEDS" = some (.ref dt)) (DT : DeedT K w dt) (hU : mg "UNLIKE" = some (.ref ul)) (hUL : SqK K ul (unlikeL.map V.str))
    (cWo : Cal P w K mg base "word_of" k ["thing"] (spWordOf K)) (cF : Cal P w K mg base "fits" k ["kind", "part", "sends", "takes"] (spFits K PT)) : FnOk P w K mg base CX0 (k + 2) f fd ["thing", "sends", "takes"] (spIsDeed K PT) := by
  refine okC F hc scIsDeed (fun vs H Q E h => ?_) (fun A outer s H vs Q E hr h => ?_)
  · obtain ⟨x, d, a, b, ss, ts, rfl, _⟩ := h
    rfl
  obtain ⟨x, d, a, b, ss, ts, rfl, hx, hk, ha, hb, tb, q⟩ := h
  obtain ⟨es, n, KD⟩ := DT.kd
  have cWo' := cWo.mono (Nat.le_succ k)
  refine ⟨_, pss_cons (ps_set (i := 3) scIsDeed.nd rfl (.inl rfl) (pe_cal cWo' hr rfl (pa_cons (pv 0) pa_nil)))
    (pss_cons (ps_if (pt_cmpR (op_notIn_kd KD) (pv 3) (pe_glob (v := .ref dt) rfl hD rfl) rfl) (pss_one (ps_ret pe_bl)) pss_nil)
    (pss_cons (ps_set (i := 4) scIsDeed.nd rfl (.inl rfl) (pe_ix ix_kdict (pe_glob (v := .ref dt) rfl hD rfl) (pv 3) (fun _ _ => rfl)))
    (pss_cons (ps_if (pt_cmpR op_ne (pe_callB call_len_seq rfl T.len PySem.boot_len (pa_cons (pv 0) pa_nil)) (pe_op op_add (pe_callB call_len_seq rfl T.len PySem.boot_len (pa_cons (pv 4) pa_nil)) pe_int) (nomark _)) (pss_one (ps_ret pe_bl)) pss_nil)
    (pss_cons (ps_if (pt_not (pt_val (pe_allG (own := [("kind", 5), ("part", 6)]) (wi := RZ.iZipA K (tCons (tVar 4) (tCons (L2.tSl (rSlT K) (tVar 0) (tPart (tC (.int 1))) tNoPart) tNil))) (g := gTup K 2 (gCons (gName 5) (gCons (gName 6) gNil))) (tt := tYes) (te := tCall (spFits K PT) [] E0 (tCons (tVar 5) (tCons (tVar 6) (tCons (tVar 1) (tCons (tVar 2) tNil))))) scIsDeed.nd hr rfl hA (by decide +kernel) TB rfl
        (blkOk_by (own := [("kind", 5), ("part", 6)]) (N := NDeed) (sc := defScope sIsDeed) (by decide +kernel)) (by decide +kernel) rfl rfl (RZ.pi_zipA rfl hZ (pa_cons (pv 4) (pa_cons (pe_slice sl_tup (pv 0) (po_some pe_int) po_none) pa_nil)))
        (fun _ _ _ _ _ _ _ _ _ _ => pg_tup rfl (pgs_cons (pg_name (i := 5) scIsDeed.nd rfl (Or.inl rfl)) (pgs_cons (pg_name (i := 6) scIsDeed.nd rfl (Or.inl rfl)) pgs_nil))) (fun _ _ _ _ _ _ _ _ _ _ => pts_nil)
        (fun _ _ _ _ _ _ _ _ _ hr' => pe_cal cF hr' rfl (pa_cons (pv 5) (pa_cons (pv 6) (pa_cons (pv 1) (pa_cons (pv 2) pa_nil))))) (fun _ => rfl)))) (pss_one (ps_ret pe_bl)) pss_nil)
    (pss_one (ps_ret (pe_or (pe_cmpR op_ninTS (pv 3) (pe_glob (v := .ref ul) rfl hU rfl) rfl) (pe_one (pe_cmpR op_ne (pe_ix ix_tup (pv 0) pe_int (fun _ _ => rfl)) (pe_ix ix_tup (pv 0) (pe_un un_neg pe_int) (fun _ _ => rfl)) (nomark _))))))))))
    , ?_⟩
  refine ⟨_, rfl, _, d, rfl, hx, ?_⟩
  refine ⟨_, rfl, ?_⟩
  have no : deedD ss ts d = false → ∀ H', ExtN H H' → TabsG PT H' → Q (.bl false) H' := fun e H' e1 t1 => by
    have r := q H' e1 t1
    rw [e] at r
    exact r
  have bare : deedK (wordD d) = none → deedD ss ts d = false := fun e => by
    unfold deedD
    split
    · rename_i z ds
      show deedB ss ts z ds = false
      unfold deedB
      rw [show deedK z = none from e]
    · rfl
  cases hw : deedK (wordD d) with
  | none =>
    exact ⟨_, none, rfl, rfl, DT.no _ hw, _, rfl, ifT rfl (no (bare hw) H (ExtN.refl _) tb)⟩
  | some ks =>
    obtain ⟨wa, hwn, hwt⟩ := DT.yes _ ks hw
    refine ⟨_, some (.ref wa), rfl, rfl, hwn, _, rfl, ifF rfl ?_⟩
    obtain ⟨z, ds, rfl⟩ : ∃ z ds, d = .tuple (.str z :: ds) := by
      unfold wordD at hw
      split at hw
      · exact ⟨_, _, rfl⟩
      · rw [show deedK "" = none by decide +kernel] at hw
        cases hw
    have hw : deedK z = some ks := hw
    have dd : deedD ss ts (.tuple (.str z :: ds)) = (decide (ds.length = ks.length) && (fitsAll ss ts ks ds && unlikeB z ds)) := by
      show deedB ss ts z ds = _
      unfold deedB
      rw [hw]
    refine ⟨_, rfl, dt, z, .ref wa, rfl, rfl, ⟨es, n, _, KD.at_, KD.lit, hwn, rfl⟩, ?_⟩
    cases hx with
    | @tup ta xs _ at_ each =>
      cases each with
      | @cons y ys _ _ h1 h2 =>
        cases h1
        have ly := dpAll_len h2
        refine ⟨_, rfl, ta, _, rfl, .inr at_, _, rfl, wa, _, rfl, .inr (hwt.at H), _, _, rfl, rfl, rfl, _, rfl, ?_⟩
        by_cases hl : ds.length = ks.length
        · refine ifF (by rw [Bool.not_eq_false', decide_eq_true_eq]; congr 1; rw [List.length_map, List.length_cons]; omega) ?_
          rw [decide_eq_true hl, Bool.true_and] at dd
          refine ⟨_, rfl, _, rfl, _, rfl, ta, _, rfl, at_, sl1 _ _, fun p hp => ?_⟩
          have e0 : ExtN H (upd H p (.tup (cutV (V.str z :: ys) (some 1) none))) := ext_same (same_new hp _)
          have tb0 := tb.same (same_new hp (.tup (cutV (V.str z :: ys) (some 1) none)))
          rw [cut1] at e0 tb0 ⊢
          refine ⟨wa, p, _, ys, rfl, .inr ⟨hwt.at _, .of upd_same, tb0 Pc hPT, fun H2 b2 => ?_⟩⟩
          have e2 := e0.trans (tabbed_ext (tb0 Pc hPT) b2)
          have p2 : SqT K H2 p ys := sqT_ext (tabbed_ext (tb0 Pc hPT) b2) (.of upd_same)
          refine gx_zipT (xs := ks.map fun k => V.str (kdS k)) (ys := ys) (by rw [List.length_map]; omega) (fun i H' => ExtN H H' ∧ SqT K H' p ys ∧ TabsG PT H' ∧ fitsAll ss ts (ks.take i) (ds.take i) = true) ⟨e2, p2, tb0.tabbed b2, rfl⟩ (fun i H' _ h => ⟨hwt.at _, h.2.1⟩) (fun i x y T H' hxi hyi h hT => ?_) (fun H' h => ?_)
          · obtain ⟨e3, p3, t3, a3⟩ := h
            rw [List.getElem?_map] at hxi
            obtain ⟨kd, hkd, rfl⟩ := Option.map_eq_some_iff.mp hxi
            obtain ⟨d, hd, hdy⟩ := dpAll_get' h2 hyi
            have e4 := e3.trans (ext_same (same_new hT (.tup [V.str (kdS kd), y])))
            have p4 := sqT_ext (ext_same (same_new hT (.tup [V.str (kdS kd), y]))) p3
            have t4 := t3.same (same_new hT (.tup [V.str (kdS kd), y]))
            have bm : BkOk d := bk_mem hk (List.mem_cons_of_mem _ (List.mem_of_getElem? hd))
            refine ⟨T, _, rfl, .of upd_same, rfl, _, _, rfl, _, _, rfl, ?_⟩
            refine ⟨rfl, rfl, yesG ⟨_, rfl, _, rfl, _, rfl, _, rfl, kd, y, d, a, b, ss, ts, rfl, dp_ext e4 _ _ hdy, bk_txt bm, sqT_ext e4 ha, sqT_ext e4 hb, t4, fun H5 e5 t5 => ?_⟩⟩
            refine ⟨_, rfl, fun c => ⟨e4.trans e5, sqT_ext e5 p4, t5, ?_⟩, fun c => ?_⟩
            · rw [fitsAll_take hkd hd, a3, c]
              rfl
            · have ef := fitsAll_no (ss := ss) (ts := ts) hkd hd (Bool.eq_false_iff.mpr c)
              rw [ef, Bool.false_and] at dd
              exact ⟨_, rfl, ifT rfl (no dd H5 (e4.trans e5) t5)⟩
          · obtain ⟨e3, p3, t3, a3⟩ := h
            have a3 : fitsAll ss ts ks ds = true := by
              rw [List.length_map, List.take_length, ← hl, List.take_length] at a3
              exact a3
            rw [a3, Bool.true_and] at dd
            refine ⟨_, rfl, ifF rfl ?_⟩
            refine ⟨_, rfl, z, ul, unlikeL, rfl, rfl, .inr (hUL.at H'), _, rfl, ?_⟩
            by_cases hz : z ∈ unlikeL
            · refine ifF (by rw [decide_eq_true hz]; rfl) ?_
              obtain ⟨u, v, _, hds⟩ := unlike_txt hz hw hl a3
              have r := q H' e3 t3
              rw [dd] at r
              unfold unlikeB at r
              rw [decide_eq_true hz, Bool.not_true, Bool.false_or] at r
              rcases hds with rfl | ⟨d2, d3, rfl⟩
              · cases h2 with
                | cons i1 i2 =>
                  cases i2 with
                  | cons i3 i4 =>
                    cases i4
                    cases i1
                    cases i3
                    exact ⟨_, rfl, ta, _, 1, _, rfl, rfl, sqT_ext e3 at_, atI_at (by decide) rfl, _, rfl, _, rfl, ta, _, -1, _, rfl, rfl, sqT_ext e3 at_, rfl, rfl, by rw [decV]; exact r⟩
              · cases h2 with
                | cons i1 i2 =>
                  cases i2 with
                  | cons i3 i4 =>
                    cases i4 with
                    | cons i5 i6 =>
                      cases i6 with
                      | cons i7 i8 =>
                        cases i8
                        cases i1
                        cases i7
                        exact ⟨_, rfl, ta, _, 1, _, rfl, rfl, sqT_ext e3 at_, atI_at (by decide) rfl, _, rfl, _, rfl, ta, _, -1, _, rfl, rfl, sqT_ext e3 at_, rfl, rfl, by rw [decV]; exact r⟩
            · refine ifT (by rw [decide_eq_false hz]; rfl) ?_
              have r := q H' e3 t3
              rw [dd] at r
              unfold unlikeB at r
              rw [decide_eq_false hz, Bool.not_false, Bool.true_or] at r
              exact r
        · refine ifT (by rw [Bool.not_eq_true', decide_eq_false_iff_not]; intro z; injection z with z; rw [List.length_map, List.length_cons] at z; omega) ?_
          rw [decide_eq_false hl, Bool.false_and] at dd
          exact no dd H (ExtN.refl _) tb
end
/-! is_branch -/
def brK (z : Str) : Option Nat := if z = "if" then some 2 else if z = "while" then some 1 else none
def branchB (z : Str) (ds : List PyData) : Bool := match brK z with
  | none => false
  | some n => decide (ds.length = n + 1) && numNameD (ds.headD .none)
def branchD : PyData → Bool
  | .tuple (.str z :: ds) => branchB z ds
  | _ => false
theorem branch_shape {d : PyData} (h : branchD d = true) : ∃ z d1 ds m, d = .tuple (.str z :: d1 :: ds) ∧ brK z = some m ∧ ds.length = m ∧ numNameD d1 = true := by
  unfold branchD at h
  split at h
  · rename_i z ds
    unfold branchB at h
    split at h
    · cases h
    · rename_i m hm
      cases ds with
      | nil => cases h
      | cons d1 ds =>
        have h2 : (decide (ds.length + 1 = m + 1) && numNameD d1) = true := h
        rw [Bool.and_eq_true, decide_eq_true_eq] at h2
        exact ⟨z, d1, ds, m, rfl, hm, by omega, h2.2⟩
  · cases h
structure BranchT (K : PySem.W.Frag) (w : World) (d : Addr) : Prop where
  kd : ∃ es n, KDict K w d es n
  no : ∀ z, brK z = none → PySem.W.nsIn K d z = some none
  yes : ∀ z n, brK z = some n → ∃ t, PySem.W.nsIn K d z = some (some (.int (n : Nat) t))
def argsD : PyData → List PyData
  | .tuple (_ :: _ :: ds) => ds
  | _ => []
def stOf (ss ts : List Int) (bl : PyData → Option Nat) (d : PyData) : Option Nat := if deedD ss ts d = true then some 1 else if branchD d = true then (sumO bl (argsD d)).map (1 + ·) else none
def fit40 : Option Nat → Option Nat
  | none => none
  | some t => if t ≤ 40 then some t else none
def blkT (ss ts : List Int) (bl : PyData → Option Nat) (ds : List PyData) : Option Nat := if ds.length ≤ 12 then fit40 (sumO (stOf ss ts bl) ds) else none
def blkD (ss ts : List Int) : Nat → PyData → Option Nat
  | n + 1, .tuple ds => blkT ss ts (blkD ss ts n) ds
  | _, _ => none
section
open PySem.Spec PyProof.Rows LamX
variable {P : Program} {w : World} {K : PySem.W.Frag} {mg : Str → Option Value} {base : Heap} {f : Addr} {fd : FuncData}
def spIsBranch (K : PySem.W.Frag) (PT : List Addr) : Sp := fun vs H Q _ => ∃ (x : V) (d : PyData), vs = [x] ∧ Dp K H x d ∧ BkOk d ∧ TabsG PT H ∧ ∀ H', ExtN H H' → TabsG PT H' → Q (.bl (branchD d)) H'
theorem scIsBranch : FnScope ["thing", "word"] ["thing"] (defScope sIsBranch) := ⟨rfl, rfl, rfl, by decide +kernel, rfl, by decide +kernel, by decide +kernel⟩
theorem ok_isBranch {k : Nat} {PT : List Addr} {bt : Addr} (F : Fun K "is_branch" "is_branch" sIsBranch f fd) (T : Free mg) (hB : mg "BRANCHES" = some (.ref bt)) (BT : BranchT K w bt)
    (cWo : Cal P w K mg base "word_of" k ["thing"] (spWordOf K)) (cN : Cal P w K mg base "is_number_name" k ["thing"] (spName K PT numNameD)) : FnOk P w K mg base CX0 (k + 1) f fd ["thing"] (spIsBranch K PT) := by
  refine F.ok scIsBranch (fun vs H Q E h => ?_) (fun cdv A outer s H vs Q E hr h => ?_)
  · obtain ⟨x, d, rfl, _⟩ := h
    rfl
  obtain ⟨x, d, rfl, hx, hk, tb, q⟩ := h
  obtain ⟨es, n, KD⟩ := BT.kd
  refine ⟨_, pss_cons (ps_set (i := 1) scIsBranch.nd rfl (.inl rfl) (pe_cal cWo hr rfl (pa_cons (pv 0) pa_nil)))
    (pss_one (ps_ret (pe_and (pe_cmpR (op_in_kd KD) (pv 1) (pe_glob (v := .ref bt) rfl hB rfl) rfl) (pe_and (pe_cmpR op_eq (pe_callB call_len_seq rfl T.len PySem.boot_len (pa_cons (pv 0) pa_nil)) (pe_op op_add pe_int (pe_ix ix_kdict (pe_glob (v := .ref bt) rfl hB rfl) (pv 1) (fun _ _ => rfl))) (nomark _))
      (pe_one (pe_cal cN hr rfl (pa_cons (pe_ix ix_tup (pv 0) pe_int (fun _ _ => rfl)) pa_nil))))))), ?_⟩
  refine ⟨_, rfl, _, d, rfl, hx, _, rfl, ?_⟩
  cases hw : brK (wordD d) with
  | none =>
    have e : branchD d = false := by
      unfold branchD
      split
      · rename_i z ds
        unfold branchB
        rw [show brK z = none from hw]
      · rfl
    have r := q H (ExtN.refl _) tb
    rw [e] at r
    exact ⟨_, none, rfl, rfl, BT.no _ hw, _, rfl, ifF rfl r⟩
  | some m =>
    obtain ⟨t, hwn⟩ := BT.yes _ m hw
    refine ⟨_, some (.int (m : Nat) t), rfl, rfl, hwn, _, rfl, ifT rfl ?_⟩
    obtain ⟨z, ds, rfl⟩ : ∃ z ds, d = .tuple (.str z :: ds) := by
      unfold wordD at hw
      split at hw
      · exact ⟨_, _, rfl⟩
      · rw [show brK "" = none by decide +kernel] at hw
        cases hw
    have hw : brK z = some m := hw
    have dd : branchD (.tuple (.str z :: ds)) = (decide (ds.length = m + 1) && numNameD (ds.headD .none)) := by
      show branchB z ds = _
      unfold branchB
      rw [hw]
    cases hx with
    | @tup ta xs _ at_ each =>
      cases each with
      | @cons y ys _ _ h1 h2 =>
        have ly := dpAll_len h2
        refine ⟨_, rfl, ta, _, rfl, .inr at_, _, rfl, bt, z, .int (m : Nat), rfl, rfl, ⟨es, n, _, KD.at_, KD.lit, hwn, t, rfl⟩, _, _, rfl, rfl, rfl, _, rfl, ?_⟩
        by_cases hl : ds.length = m + 1
        · refine ifT (by rw [decide_eq_true_eq]; congr 1; rw [List.length_cons]; omega) ?_
          rw [decide_eq_true hl, Bool.true_and] at dd
          cases h2 with
          | nil => cases hl
          | @cons y2 ys2 d2 ds2 h3 h4 =>
            exact ⟨_, rfl, ta, _, 1, y2, rfl, rfl, at_, atI_at (by decide) rfl, y2, d2, rfl, h3, bk_txt (bk_mem hk (List.mem_cons_of_mem _ List.mem_cons_self)), tb, fun H' e1 t1 => by have r := q H' e1 t1; rw [dd] at r; exact r⟩
        · refine ifF (by rw [decide_eq_false_iff_not]; intro z; injection z with z; rw [List.length_cons] at z; omega) ?_
          rw [decide_eq_false hl, Bool.false_and] at dd
          have r := q H (ExtN.refl _) tb
          rw [dd] at r
          exact r
/-! statement_size, block_size -/
def spBlk (K : PySem.W.Frag) (PT : List Addr) (n : Nat) : Sp := fun vs H Q _ => ∃ (x : V) (d : PyData) (lv : Int) (a b : Addr) (ss ts : List Int), vs = [x, .int lv, .ref a, .ref b] ∧ lv = 5 - (n : Int) ∧ Dp K H x d ∧ BkOk d ∧ SqT K H a (ss.map V.int) ∧ SqT K H b (ts.map V.int) ∧ TabsG PT H ∧ ∀ H', ExtN H H' → TabsG PT H' → Q (optV (blkD ss ts n d)) H'
def spStm (K : PySem.W.Frag) (PT : List Addr) (n : Nat) : Sp := fun vs H Q _ => ∃ (x : V) (d : PyData) (lv : Int) (a b : Addr) (ss ts : List Int), vs = [x, .int lv, .ref a, .ref b] ∧ lv = 4 - (n : Int) ∧ Dp K H x d ∧ BkOk d ∧ SqT K H a (ss.map V.int) ∧ SqT K H b (ts.map V.int) ∧ TabsG PT H ∧ ∀ H', ExtN H H' → TabsG PT H' → Q (optV (stOf ss ts (blkD ss ts n) d)) H'
theorem scStm : FnScope ["thing", "level", "sends", "takes", "total", "block", "many"] ["thing", "level", "sends", "takes"] (defScope sStSize) := ⟨rfl, rfl, rfl, by decide +kernel, rfl, by decide +kernel, by decide +kernel⟩
theorem scBlk : FnScope ["thing", "level", "sends", "takes", "total", "statement", "many"] ["thing", "level", "sends", "takes"] (defScope sBlSize) := ⟨rfl, rfl, rfl, by decide +kernel, rfl, by decide +kernel, by decide +kernel⟩
theorem cut2 (x y : V) (ys : List V) : cutV (x :: y :: ys) (some 2) none = ys := by
  unfold cutV HT.sIx
  simp
theorem sl2 (x y : V) (ys : List V) : ¬ (HT.sIx (x :: y :: ys).length 0 (some 2) = 0 ∧ HT.sIx (x :: y :: ys).length (x :: y :: ys).length none = (x :: y :: ys).length) := by
  unfold HT.sIx
  simp
theorem ok_stm {k n : Nat} {PT : List Addr} (F : Fun K "statement_size" "statement_size" sStSize f fd) (cD : Cal P w K mg base "is_deed" k ["thing", "sends", "takes"] (spIsDeed K PT)) (cB : Cal P w K mg base "is_branch" k ["thing"] (spIsBranch K PT)) (cS : Cal P w K mg base "block_size" k ["thing", "level", "sends", "takes"] (spBlk K PT n)) :
    FnOk P w K mg base CX0 (k + 1) f fd ["thing", "level", "sends", "takes"] (spStm K PT n) := by
  refine F.ok scStm (fun vs H Q E h => ?_) (fun cdv A outer s H vs Q E hr h => ?_)
  · obtain ⟨x, d, lv, a, b, ss, ts, rfl, _⟩ := h
    rfl
  obtain ⟨x, d, lv, a, b, ss, ts, rfl, hlv, hx, hk, ha, hb, tb, q⟩ := h
  refine ⟨_, pss_cons (ps_if (pt_val (pe_cal cD hr rfl (pa_cons (pv 0) (pa_cons (pv 2) (pa_cons (pv 3) pa_nil))))) (pss_one (ps_ret pe_int)) pss_nil)
    (pss_cons (ps_if (pt_not (pt_val (pe_cal cB hr rfl (pa_cons (pv 0) pa_nil)))) (pss_one (ps_ret pe_non)) pss_nil)
    (pss_cons (ps_set (i := 4) scStm.nd rfl (.inl rfl) pe_int)
    (pss_cons (ps_for PassesOwn.never rfl (pi_tup (pe_slice sl_tup (pv 0) (po_some pe_int) po_none)) (pg_name (i := 5) scStm.nd rfl (.inl rfl))
      (pss_cons (ps_set (i := 6) scStm.nd rfl (.inl rfl) (pe_cal cS hr rfl (pa_cons (pv 5) (pa_cons (pe_op op_add (pv 1) pe_int) (pa_cons (pv 2) (pa_cons (pv 3) pa_nil))))))
      (pss_cons (ps_if (pt_cmpR op_isN (pv 6) pe_non (nomark _)) (pss_one (ps_ret pe_non)) pss_nil)
      (pss_one (ps_aug (i := 4) scStm.nd rfl (.inl rfl) (pv 6) ip_add)))))
    (pss_one (ps_ret (pv 4)))))), ?_⟩
  refine ⟨_, rfl, _, rfl, _, rfl, x, d, a, b, ss, ts, rfl, hx, hk, ha, hb, tb, fun H1 e1 t1 => ⟨_, rfl, ?_⟩⟩
  cases hdd : deedD ss ts d with
  | true =>
    refine ifT rfl ?_
    have r := q H1 e1 t1
    unfold stOf at r
    rw [if_pos hdd] at r
    exact r
  | false =>
    refine ifF rfl ?_
    refine ⟨_, rfl, x, d, rfl, dp_ext e1 _ _ hx, hk, t1, fun H2 e2 t2 => ⟨_, rfl, ?_⟩⟩
    have e02 := e1.trans e2
    cases hbd : branchD d with
    | false =>
      refine ifT rfl ?_
      have r := q H2 e02 t2
      unfold stOf at r
      rw [if_neg (by rw [hdd]; decide), if_neg (by rw [hbd]; decide)] at r
      exact r
    | true =>
      refine ifF rfl ?_
      have q : ∀ H', ExtN H H' → TabsG PT H' → Q (optV ((sumO (blkD ss ts n) (argsD d)).map (1 + ·))) H' := fun H' e t => by
        have r := q H' e t
        unfold stOf at r
        rw [if_neg (by rw [hdd]; decide), if_pos hbd] at r
        exact r
      obtain ⟨z, d1, ds, m, rfl, _⟩ := branch_shape hbd
      have q : ∀ H', ExtN H H' → TabsG PT H' → Q (optV ((sumO (blkD ss ts n) ds).map (1 + ·))) H' := q
      cases dp_ext e02 _ _ hx with
      | @tup ta xs _ at_ each =>
        cases each with
        | @cons y ys _ _ h1 h2 =>
          cases h2 with
          | @cons y2 ys2 _ _ h3 h4 =>
            refine ⟨_, rfl, _, rfl, ta, _, rfl, at_, sl2 _ _ _, fun p hp => ?_⟩
            have s3 := same_new hp (.tup (cutV (y :: y2 :: ys2) (some 2) none))
            have p3 : SqT K (upd H2 p (.tup (cutV (y :: y2 :: ys2) (some 2) none))) p (cutV (y :: y2 :: ys2) (some 2) none) := .of upd_same
            rw [cut2] at s3 p3 ⊢
            have ly := dpAll_len h4
            refine ⟨p, rfl, ⟨ys2, p3⟩, ?_⟩
            refine for_tup (xs := ys2) (fun i σ G => ∃ (sm : Nat) (o5 o6 : Option V), sumO (blkD ss ts n) (ds.take i) = some sm ∧ σ = [some (.ref ta), some (.int lv), some (.ref a), some (.ref b), some (.int (1 + (sm : Int))), o5, o6] ∧ ExtN H2 G ∧ SqT K G p ys2 ∧ TabsG PT G)
              ⟨0, none, none, rfl, rfl, ext_same s3, p3, t2.same s3⟩ (fun i σ G _ h => by obtain ⟨_, _, _, _, _, _, h, _⟩ := h; exact h) (fun i y3 σ G hyi h => ?_) (fun σ G h => ?_)
            · obtain ⟨sm, o5, o6, hsm, rfl, eG, pG, tG⟩ := h
              obtain ⟨d3, hd3, hdp⟩ := dpAll_get' h4 hyi
              have m3 : d3 ∈ ds := List.mem_of_getElem? hd3
              have b3 : BkOk d3 := bk_mem hk (List.mem_cons_of_mem _ (List.mem_cons_of_mem _ m3))
              refine ⟨_, rfl, _, rfl, _, _, rfl, rfl, _, rfl, _, rfl, y3, d3, lv + 1, a, b, ss, ts, rfl, by omega, dp_ext eG _ _ hdp, b3, sqT_ext (e02.trans eG) ha, sqT_ext (e02.trans eG) hb, tG, fun G' e' t' => ?_⟩
              cases hv : blkD ss ts n d3 with
              | none =>
                refine ⟨_, rfl, rfl, _, rfl, ifT (decide_eq_true rfl) ?_⟩
                have r := q G' (e02.trans (eG.trans e')) t'
                rw [sumO_none m3 hv] at r
                exact r
              | some v =>
                refine ⟨_, rfl, rfl, _, rfl, ifF (decide_eq_false (fun z => by cases z)) ?_⟩
                refine ⟨_, rfl, _, rfl, _, _, rfl, rfl, sm + v, some y3, some (.int v), ?_, ?_, eG.trans e', sqT_ext e' pG, t'⟩
                · rw [take_more hd3]
                  exact sumO_snoc hsm hv
                · rw [show (1 : Int) + ((sm + v : Nat) : Int) = 1 + (sm : Int) + (v : Int) by omega]
                  rfl
            · obtain ⟨sm, o5, o6, hsm, rfl, eG, pG, tG⟩ := h
              rw [ly, List.take_length] at hsm
              have r := q G (e02.trans eG) tG
              rw [hsm] at r
              refine ⟨_, rfl, ?_⟩
              have r : Q (.int ((1 + sm : Nat) : Int)) G := r
              rw [show ((1 + sm : Nat) : Int) = 1 + (sm : Int) by omega] at r
              exact r
theorem blk_not {ss ts : List Int} {n : Nat} {d : PyData} (h : tupD 0 12 d = false) : blkD ss ts n d = none := by
  cases n with
  | zero => cases d <;> rfl
  | succ n =>
    cases d with
    | tuple ds =>
      have h : (decide ((0 : Int) ≤ (ds.length : Int)) && decide ((ds.length : Int) ≤ 12)) = false := h
      rw [decide_eq_true (by omega), Bool.true_and] at h
      show blkT ss ts _ ds = none
      unfold blkT
      rw [if_neg (fun z => by have := of_decide_eq_false h; omega)]
    | _ => rfl
theorem ok_blk0 {k : Nat} {PT : List Addr} (F : Fun K "block_size" "block_size" sBlSize f fd) (C : Cst mg) (cT : Cal P w K mg base "is_tuple" k ["thing", "least", "most"] (spTuple K)) :
    FnOk P w K mg base CX0 (k + 1) f fd ["thing", "level", "sends", "takes"] (spBlk K PT 0) := by
  refine F.ok scBlk (fun vs H Q E h => ?_) (fun cdv A outer s H vs Q E hr h => ?_)
  · obtain ⟨x, d, lv, a, b, ss, ts, rfl, _⟩ := h
    rfl
  obtain ⟨x, d, lv, a, b, ss, ts, rfl, hlv, hx, hk, ha, hb, tb, q⟩ := h
  refine ⟨_, pss_cons (ps_if (PW.pt (pw_or (pt_cmpR op_gt (pv 1) (pe_globI rfl C.mostWithin) (nomark _)) (pw_or1 (pt_not (pt_val (pe_cal cT hr rfl (pa_cons (pv 0) (pa_cons pe_int (pa_cons (pe_globI rfl C.mostInBlock) pa_nil))))))))) (pss_one (ps_ret pe_non)) pss_nil) pss_never, ?_⟩
  have r := q H (ExtN.refl _) tb
  have e : blkD ss ts 0 d = none := by cases d <;> rfl
  rw [e] at r
  exact ⟨_, rfl, _, _, rfl, rfl, _, rfl, ifT (decide_eq_true (by omega)) (ifT rfl r)⟩
theorem ok_blk {k n : Nat} {PT : List Addr} (hn : n ≤ 3) (F : Fun K "block_size" "block_size" sBlSize f fd) (C : Cst mg) (cT : Cal P w K mg base "is_tuple" k ["thing", "least", "most"] (spTuple K)) (cS : Cal P w K mg base "statement_size" k ["thing", "level", "sends", "takes"] (spStm K PT n)) :
    FnOk P w K mg base CX0 (k + 1) f fd ["thing", "level", "sends", "takes"] (spBlk K PT (n + 1)) := by
  refine F.ok scBlk (fun vs H Q E h => ?_) (fun cdv A outer s H vs Q E hr h => ?_)
  · obtain ⟨x, d, lv, a, b, ss, ts, rfl, _⟩ := h
    rfl
  obtain ⟨x, d, lv, a, b, ss, ts, rfl, hlv, hx, hk, ha, hb, tb, q⟩ := h
  refine ⟨_, pss_cons (ps_if (PW.pt (pw_or (pt_cmpR op_gt (pv 1) (pe_globI rfl C.mostWithin) (nomark _)) (pw_or1 (pt_not (pt_val (pe_cal cT hr rfl (pa_cons (pv 0) (pa_cons pe_int (pa_cons (pe_globI rfl C.mostInBlock) pa_nil))))))))) (pss_one (ps_ret pe_non)) pss_nil)
    (pss_cons (ps_set (i := 4) scBlk.nd rfl (.inl rfl) pe_int)
    (pss_cons (ps_for PassesOwn.never rfl (pi_tup (pv 0)) (pg_name (i := 5) scBlk.nd rfl (.inl rfl))
      (pss_cons (ps_set (i := 6) scBlk.nd rfl (.inl rfl) (pe_cal cS hr rfl (pa_cons (pv 5) (pa_cons (pv 1) (pa_cons (pv 2) (pa_cons (pv 3) pa_nil))))))
      (pss_cons (ps_if (pt_cmpR op_isN (pv 6) pe_non (nomark _)) (pss_one (ps_ret pe_non)) pss_nil)
      (pss_one (ps_aug (i := 4) scBlk.nd rfl (.inl rfl) (pv 6) ip_add)))))
    (pss_one (ps_ret (pe_ifExp (pt_cmpR op_le (pv 4) (pe_globI rfl C.mostStatements) (nomark _)) (pv 4) pe_non))))), ?_⟩
  refine ⟨_, rfl, _, _, rfl, rfl, _, rfl, ifF (decide_eq_false (by omega)) ⟨_, rfl, x, d, 0, 12, rfl, hx, _, rfl, ?_⟩⟩
  cases ht : tupD 0 12 d with
  | false =>
    have r := q H (ExtN.refl _) tb
    rw [blk_not ht] at r
    exact ifT rfl r
  | true =>
    refine ifF rfl ?_
    obtain ⟨ds, rfl⟩ : ∃ ds, d = .tuple ds := by cases d <;> first | exact ⟨_, rfl⟩ | cases ht
    have hl : ds.length ≤ 12 := by
      have h := and3 (show (decide ((0 : Int) ≤ (ds.length : Int)) && decide ((ds.length : Int) ≤ 12)) = true from ht)
      have := of_decide_eq_true h.2
      omega
    have q : ∀ H', ExtN H H' → TabsG PT H' → Q (optV (fit40 (sumO (stOf ss ts (blkD ss ts n)) ds))) H' := fun H' e t => by
      have r : Q (optV (blkT ss ts (blkD ss ts n) ds)) H' := q H' e t
      unfold blkT at r
      rw [if_pos hl] at r
      exact r
    cases hx with
    | @tup ta xs _ at_ each =>
      have lx := dpAll_len each
      refine ⟨_, rfl, ta, rfl, ⟨xs, at_⟩, ?_⟩
      refine for_tup (xs := xs) (fun i σ G => ∃ (sm : Nat) (o5 o6 : Option V), sumO (stOf ss ts (blkD ss ts n)) (ds.take i) = some sm ∧ σ = [some (.ref ta), some (.int lv), some (.ref a), some (.ref b), some (.int (sm : Int)), o5, o6] ∧ ExtN H G ∧ TabsG PT G)
        ⟨0, none, none, rfl, rfl, ExtN.refl _, tb⟩ (fun i σ G _ h => by obtain ⟨_, _, _, _, _, h, _⟩ := h; exact sqT_ext h at_) (fun i y3 σ G hyi h => ?_) (fun σ G h => ?_)
      · obtain ⟨sm, o5, o6, hsm, rfl, eG, tG⟩ := h
        obtain ⟨d3, hd3, hdp⟩ := dpAll_get' each hyi
        have m3 : d3 ∈ ds := List.mem_of_getElem? hd3
        refine ⟨_, rfl, _, rfl, _, rfl, _, rfl, y3, d3, lv, a, b, ss, ts, rfl, by omega, dp_ext eG _ _ hdp, bk_mem hk m3, sqT_ext eG ha, sqT_ext eG hb, tG, fun G' e' t' => ?_⟩
        cases hv : stOf ss ts (blkD ss ts n) d3 with
        | none =>
          refine ⟨_, rfl, rfl, _, rfl, ifT (decide_eq_true rfl) ?_⟩
          have r := q G' (eG.trans e') t'
          rw [sumO_none m3 hv] at r
          exact r
        | some v =>
          refine ⟨_, rfl, rfl, _, rfl, ifF (decide_eq_false (fun z => by cases z)) ?_⟩
          refine ⟨_, rfl, _, rfl, _, _, rfl, rfl, sm + v, some y3, some (.int v), ?_, ?_, eG.trans e', t'⟩
          · rw [take_more hd3]
            exact sumO_snoc hsm hv
          · rw [show ((sm + v : Nat) : Int) = (sm : Int) + (v : Int) by omega]
            rfl
      · obtain ⟨sm, o5, o6, hsm, rfl, eG, tG⟩ := h
        rw [lx, List.take_length] at hsm
        have r := q G eG tG
        rw [hsm] at r
        refine ⟨_, rfl, _, _, rfl, rfl, _, rfl, ?_⟩
        have r : Q (optV (if sm ≤ 40 then some sm else none)) G := r
        by_cases h40 : sm ≤ 40
        · rw [if_pos h40] at r
          exact ifT (decide_eq_true (by omega)) ⟨_, rfl, r⟩
        · rw [if_neg h40] at r
          exact ifF (decide_eq_false (by omega)) r
/-- the two, one by the other -/
theorem all_blk {k : Nat} {PT : List Addr} {fs : Addr} {fds : FuncData} (F : Fun K "block_size" "block_size" sBlSize f fd) (Fs : Fun K "statement_size" "statement_size" sStSize fs fds) (hm : mg "block_size" = some (.ref f)) (hms : mg "statement_size" = some (.ref fs)) (hb : Binds K fd ["thing", "level", "sends", "takes"] []) (hbs : Binds K fds ["thing", "level", "sends", "takes"] [])
    (C : Cst mg) (cT : Cal P w K mg base "is_tuple" k ["thing", "least", "most"] (spTuple K)) (cD : Cal P w K mg base "is_deed" k ["thing", "sends", "takes"] (spIsDeed K PT)) (cB : Cal P w K mg base "is_branch" k ["thing"] (spIsBranch K PT)) :
    ∀ n, n ≤ 4 → FnOk P w K mg base CX0 (k + 2 * n + 1) f fd ["thing", "level", "sends", "takes"] (spBlk K PT n)
  | 0, _ => ok_blk0 F C cT
  | n + 1, hn => by
    have ih := all_blk F Fs hm hms hb hbs C cT cD cB n (by omega)
    have st := ok_stm (k := k + 2 * n + 1) (n := n) (PT := PT) Fs (cD.mono (by omega)) (cB.mono (by omega)) ⟨f, fd, ih, hm, F.kp, hb⟩
    exact ok_blk (k := k + 2 * n + 1 + 1) (by omega) F C (cT.mono (by omega)) ⟨fs, fds, st, hms, Fs.kp, hbs⟩
end
/-! is_channel, sends_of, takes_of, is_net -/
def mkCh (c : Int × Int) : PyData := .tuple [.int c.1, .int c.2]
def intNe : PyData → PyData → Bool
  | .int i, .int j => !decide (i = j)
  | _, _ => true
def chanD (m : Int) : PyData → Bool
  | .tuple [p, r] => (withinD 0 (m - 1) p && withinD 0 (m - 1) r) && intNe p r
  | _ => false
def sideN (sd : Int × Int → Int) (chs : List (Int × Int)) (me : Int) (n : Nat) : List Int := ((List.range n).filter fun m => decide (sd (chs.getD m (0, 0)) = me)).map fun (m : Nat) => (m : Int)
def sideL (sd : Int × Int → Int) (chs : List (Int × Int)) (me : Int) : List Int := sideN sd chs me chs.length
theorem sideN_yes {sd : Int × Int → Int} {chs : List (Int × Int)} {me : Int} {n : Nat} {c : Int × Int} (h : chs[n]? = some c) (e : sd c = me) : sideN sd chs me (n + 1) = sideN sd chs me n ++ [(n : Int)] := by
  unfold sideN
  rw [List.range_succ, List.filter_append, List.map_append]
  congr 1
  have z : decide (sd (chs.getD n (0, 0)) = me) = true := by
    rw [List.getD_eq_getElem?_getD, h]
    exact decide_eq_true e
  rw [List.filter_cons, if_pos z]
  rfl
theorem sideN_no {sd : Int × Int → Int} {chs : List (Int × Int)} {me : Int} {n : Nat} {c : Int × Int} (h : chs[n]? = some c) (e : sd c ≠ me) : sideN sd chs me (n + 1) = sideN sd chs me n := by
  unfold sideN
  rw [List.range_succ, List.filter_append, List.map_append]
  have z : decide (sd (chs.getD n (0, 0)) = me) = false := by
    rw [List.getD_eq_getElem?_getD, h]
    exact decide_eq_false e
  rw [List.filter_cons, if_neg (by rw [z]; decide)]
  simp
theorem sideN_len (sd : Int × Int → Int) (chs : List (Int × Int)) (me : Int) (n : Nat) : (sideN sd chs me n).length ≤ n := by
  unfold sideN
  rw [List.length_map]
  have h := List.length_filter_le (fun m => decide (sd (chs.getD m (0, 0)) = me)) (List.range n)
  rw [List.length_range] at h
  exact h
theorem tabsG_upd {PT : List Addr} {H : Hp} {D : Addr} {l l' : List V} (t : TabsG PT H) (h : H D = some (.lst l)) : TabsG PT (upd H D (.lst l')) := fun P hP => by
  obtain ⟨ps, h1, h2⟩ := t P hP
  refine ⟨ps, ?_, h2⟩
  rw [upd_ne (fun e => by rw [e, h] at h1; cases h1)]
  exact h1
theorem chs_at {K : PySem.W.Frag} {H : Hp} : ∀ {chs : List (Int × Int)} {xs : List V} {m : Nat} {x : V}, DpAll K H xs (chs.map mkCh) → xs[m]? = some x → ∃ c r, chs[m]? = some c ∧ x = .ref r ∧ SqT K H r [.int c.1, .int c.2]
  | [], _, m, x, .nil, h => by cases h
  | c :: chs, _ :: xs, 0, x, .cons one more, h => by
    cases h
    cases one with
    | @tup r us _ at_ each =>
      cases each with
      | cons i1 i2 =>
        cases i2 with
        | cons i3 i4 =>
          cases i4
          cases i1
          cases i3
          exact ⟨c, r, rfl, rfl, at_⟩
  | c :: chs, _ :: xs, m + 1, x, .cons one more, h => by
    obtain ⟨c', r, h1, h2⟩ := chs_at (m := m) more h
    exact ⟨c', r, h1, h2⟩
section
open PySem.Spec PyProof.Rows LamX
variable {P : Program} {w : World} {K : PySem.W.Frag} {mg : Str → Option Value} {base : Heap} {f : Addr} {fd : FuncData}
def spSide (K : PySem.W.Frag) (PT : List Addr) (sd : Int × Int → Int) : Sp := fun vs H Q _ => ∃ (x : V) (chs : List (Int × Int)) (me : Int), vs = [x, .int me] ∧ Dp K H x (.tuple (chs.map mkCh)) ∧ chs.length ≤ 100 ∧ TabsG PT H ∧ ∀ p H', ExtN H H' → TabsG PT H' → SqT K H' p ((sideL sd chs me).map V.int) → Q (.ref p) H'
theorem scSends : FnScope ["channels", "actor", "m"] ["channels", "actor"] (defScope sSends) := ⟨rfl, rfl, rfl, by decide +kernel, rfl, by decide +kernel, by decide +kernel⟩
theorem ok_sSends {k : Nat} {c Pc : Addr} {PT : List Addr} (F : Fun K "sends_of" "sends_of" sSends f fd) (hc : fd.code = .ref c) (TB : LamX.TabB base mg c Pc) (hPT : Pc ∈ PT) (T : Free mg) : FnOk P w K mg base CX0 (k + 2) f fd ["channels", "actor"] (spSide K PT Prod.fst) := by
  refine okC F hc scSends (fun vs H Q E h => ?_) (fun A outer s H vs Q E hr h => ?_)
  · obtain ⟨x, chs, me, rfl, _⟩ := h
    rfl
  obtain ⟨x, chs, me, rfl, hx, hl, tb, q⟩ := h
  refine ⟨_, pss_one (ps_ret (pe_tupG (k := k) (own := [("m", 2)]) (wi := iRng1 (tCons (tCB (fun xs H Q => ∃ p ys, xs = [V.ref p] ∧ (SqL K H p ys ∨ SqT K H p ys) ∧ Q (.int ys.length) H) (tCons (tVar 0) tNil)) tNil)) (g := gName 2) (tt := tTest (tOp rEq (tOp (rIxT K) (tOp (rIxT K) (tVar 0) (tVar 2)) (tC (.int 0))) (tVar 1))) (te := tVar 2) scSends.nd hr rfl T.tuple (by decide +kernel) TB rfl
      (blkOk_by (own := [("m", 2)]) (N := ["channels", "actor", "m"]) (sc := defScope sSends) (by decide +kernel)) (by decide +kernel) rfl rfl (pi_range1 rfl T.range (pa_cons (pe_callB call_len_seq rfl T.len PySem.boot_len (pa_cons (pv 0) pa_nil)) pa_nil))
      (fun _ _ _ _ _ _ _ _ _ _ => pg_name (i := 2) scSends.nd rfl (Or.inl rfl)) (fun _ _ _ _ _ _ _ _ _ _ => pts_one (pt_cmpR op_eq (pe_ix ix_tup (pe_ix ix_tup (pv 0) (pv 2) (fun _ _ => rfl)) pe_int (fun _ _ => rfl)) (pv 1) (nomark _)))
      (fun _ _ _ _ _ _ _ _ _ hr' => pv 2) (fun _ => rfl))), ?_⟩
  cases hx with
  | @tup ta xs _ at_ each =>
    have lx := dpAll_len each
    rw [List.length_map] at lx
    refine ⟨_, rfl, ta, xs, rfl, .inr at_, _, rfl, by omega, by omega, tb Pc hPT, fun H2 b2 D hD => ?_⟩
    have e2 := tabbed_ext (tb Pc hPT) b2
    have t2 := tb.tabbed b2
    have e3 : ∀ l, ExtN H (upd H2 D (.lst l)) := fun l => e2.trans (ext_same (same_new hD _))
    have hHD : ∀ u, H D = some u → ∃ ps, u = .tbl ps := fun u hu => by
      by_cases h : ∃ ps, u = .tbl ps
      · exact h
      · have z := e2 D u hu (fun ps e => h ⟨ps, e⟩)
        rw [hD] at z
        cases z
    rw [show ((xs.length : Int)).toNat = chs.length by omega]
    refine lc_range (fun i G => ExtN H G ∧ TabsG PT G ∧ G D = some (.lst ((sideN Prod.fst chs me i).map V.int))) ⟨e3 _, t2.same (same_new hD _), by rw [upd_same]; rfl⟩ (fun i G hi h => ?_) (fun G h => ?_)
    · obtain ⟨eG, tG, gD⟩ := h
      obtain ⟨y, hy⟩ : ∃ y, xs[i]? = some y := ⟨xs[i]'(by omega), by simp⟩
      have eG' := dp_exts eG _ _ each
      obtain ⟨c, r, hcm, rfl, hr2⟩ := chs_at eG' hy
      have ei : (0 : Int) + (i : Nat) = (i : Int) := by omega
      rw [ei]
      refine ⟨rfl, _, rfl, _, rfl, ta, xs, i, _, rfl, rfl, sqT_ext eG at_, atI_nat hy, r, _, 0, .int c.1, rfl, rfl, hr2, atI_at (by decide) rfl, _, rfl, rfl, _, rfl, ?_⟩
      by_cases hcd : c.1 = me
      · refine ifT (by rw [hcd]; exact decide_eq_true rfl) ?_
        refine ⟨_, rfl, _, gD, ?_, ext_upd eG hHD, tabsG_upd tG gD, ?_⟩
        · rw [List.length_map]
          have := sideN_len Prod.fst chs me i
          exact Nat.lt_of_lt_of_le (show _ < 1000 by omega) (show 1000 ≤ sizeLine by decide)
        · rw [upd_same, sideN_yes hcm hcd, List.map_append]
          rfl
      · refine ifF (decide_eq_false (fun z => hcd (by injection z))) ?_
        refine ⟨eG, tG, ?_⟩
        rw [sideN_no hcm hcd]
        exact gD
    · obtain ⟨eG, tG, gD⟩ := h
      refine ⟨_, gD, fun p hp => q p _ (eG.trans (ext_same (same_new hp _))) (tG.same (same_new hp _)) (.of upd_same)⟩
theorem scTakes : FnScope ["channels", "actor", "m"] ["channels", "actor"] (defScope sTakes) := ⟨rfl, rfl, rfl, by decide +kernel, rfl, by decide +kernel, by decide +kernel⟩
theorem ok_sTakes {k : Nat} {c Pc : Addr} {PT : List Addr} (F : Fun K "takes_of" "takes_of" sTakes f fd) (hc : fd.code = .ref c) (TB : LamX.TabB base mg c Pc) (hPT : Pc ∈ PT) (T : Free mg) : FnOk P w K mg base CX0 (k + 2) f fd ["channels", "actor"] (spSide K PT Prod.snd) := by
  refine okC F hc scTakes (fun vs H Q E h => ?_) (fun A outer s H vs Q E hr h => ?_)
  · obtain ⟨x, chs, me, rfl, _⟩ := h
    rfl
  obtain ⟨x, chs, me, rfl, hx, hl, tb, q⟩ := h
  refine ⟨_, pss_one (ps_ret (pe_tupG (k := k) (own := [("m", 2)]) (wi := iRng1 (tCons (tCB (fun xs H Q => ∃ p ys, xs = [V.ref p] ∧ (SqL K H p ys ∨ SqT K H p ys) ∧ Q (.int ys.length) H) (tCons (tVar 0) tNil)) tNil)) (g := gName 2) (tt := tTest (tOp rEq (tOp (rIxT K) (tOp (rIxT K) (tVar 0) (tVar 2)) (tC (.int 1))) (tVar 1))) (te := tVar 2) scTakes.nd hr rfl T.tuple (by decide +kernel) TB rfl
      (blkOk_by (own := [("m", 2)]) (N := ["channels", "actor", "m"]) (sc := defScope sTakes) (by decide +kernel)) (by decide +kernel) rfl rfl (pi_range1 rfl T.range (pa_cons (pe_callB call_len_seq rfl T.len PySem.boot_len (pa_cons (pv 0) pa_nil)) pa_nil))
      (fun _ _ _ _ _ _ _ _ _ _ => pg_name (i := 2) scTakes.nd rfl (Or.inl rfl)) (fun _ _ _ _ _ _ _ _ _ _ => pts_one (pt_cmpR op_eq (pe_ix ix_tup (pe_ix ix_tup (pv 0) (pv 2) (fun _ _ => rfl)) pe_int (fun _ _ => rfl)) (pv 1) (nomark _)))
      (fun _ _ _ _ _ _ _ _ _ hr' => pv 2) (fun _ => rfl))), ?_⟩
  cases hx with
  | @tup ta xs _ at_ each =>
    have lx := dpAll_len each
    rw [List.length_map] at lx
    refine ⟨_, rfl, ta, xs, rfl, .inr at_, _, rfl, by omega, by omega, tb Pc hPT, fun H2 b2 D hD => ?_⟩
    have e2 := tabbed_ext (tb Pc hPT) b2
    have t2 := tb.tabbed b2
    have e3 : ∀ l, ExtN H (upd H2 D (.lst l)) := fun l => e2.trans (ext_same (same_new hD _))
    have hHD : ∀ u, H D = some u → ∃ ps, u = .tbl ps := fun u hu => by
      by_cases h : ∃ ps, u = .tbl ps
      · exact h
      · have z := e2 D u hu (fun ps e => h ⟨ps, e⟩)
        rw [hD] at z
        cases z
    rw [show ((xs.length : Int)).toNat = chs.length by omega]
    refine lc_range (fun i G => ExtN H G ∧ TabsG PT G ∧ G D = some (.lst ((sideN Prod.snd chs me i).map V.int))) ⟨e3 _, t2.same (same_new hD _), by rw [upd_same]; rfl⟩ (fun i G hi h => ?_) (fun G h => ?_)
    · obtain ⟨eG, tG, gD⟩ := h
      obtain ⟨y, hy⟩ : ∃ y, xs[i]? = some y := ⟨xs[i]'(by omega), by simp⟩
      have eG' := dp_exts eG _ _ each
      obtain ⟨c, r, hcm, rfl, hr2⟩ := chs_at eG' hy
      have ei : (0 : Int) + (i : Nat) = (i : Int) := by omega
      rw [ei]
      refine ⟨rfl, _, rfl, _, rfl, ta, xs, i, _, rfl, rfl, sqT_ext eG at_, atI_nat hy, r, _, 1, .int c.2, rfl, rfl, hr2, atI_at (by decide) rfl, _, rfl, rfl, _, rfl, ?_⟩
      by_cases hcd : c.2 = me
      · refine ifT (by rw [hcd]; exact decide_eq_true rfl) ?_
        refine ⟨_, rfl, _, gD, ?_, ext_upd eG hHD, tabsG_upd tG gD, ?_⟩
        · rw [List.length_map]
          have := sideN_len Prod.snd chs me i
          exact Nat.lt_of_lt_of_le (show _ < 1000 by omega) (show 1000 ≤ sizeLine by decide)
        · rw [upd_same, sideN_yes hcm hcd, List.map_append]
          rfl
      · refine ifF (decide_eq_false (fun z => hcd (by injection z))) ?_
        refine ⟨eG, tG, ?_⟩
        rw [sideN_no hcm hcd]
        exact gD
    · obtain ⟨eG, tG, gD⟩ := h
      refine ⟨_, gD, fun p hp => q p _ (eG.trans (ext_same (same_new hp _))) (tG.same (same_new hp _)) (.of upd_same)⟩
def spIsChan (K : PySem.W.Frag) (PT : List Addr) : Sp := fun vs H Q _ => ∃ (x : V) (d : PyData) (m : Int), vs = [x, .int m] ∧ Dp K H x d ∧ TabsG PT H ∧ ∀ H', ExtN H H' → TabsG PT H' → Q (.bl (chanD m d)) H'
theorem scIsChan : FnScope ["thing", "actors", "actor"] ["thing", "actors"] (defScope sIsChan) := ⟨rfl, rfl, rfl, by decide +kernel, rfl, by decide +kernel, by decide +kernel⟩
theorem tup22 {d : PyData} (h : tupD 2 2 d = true) : ∃ p r, d = .tuple [p, r] := by
  cases d with
  | tuple ds =>
    have h := and3 (show (decide ((2 : Int) ≤ (ds.length : Int)) && decide ((ds.length : Int) ≤ 2)) = true from h)
    have h1 := of_decide_eq_true h.1
    have h2 := of_decide_eq_true h.2
    match ds, (show ds.length = 2 by omega) with
    | [p, r], _ => exact ⟨p, r, rfl⟩
  | _ => cases h
theorem chan_not {m : Int} {d : PyData} (h : tupD 2 2 d = false) : chanD m d = false := by
  unfold chanD
  split
  · exact absurd h (fun z => by cases z)
  · rfl
theorem within_int {lo hi : Int} {d : PyData} (h : withinD lo hi d = true) : ∃ i, d = .int i ∧ lo ≤ i ∧ i ≤ hi := by
  cases d with
  | int i =>
    have h := and3 (show (decide (lo ≤ i) && decide (i ≤ hi)) = true from h)
    exact ⟨i, rfl, of_decide_eq_true h.1, of_decide_eq_true h.2⟩
  | _ => cases h
theorem decI (i j : Int) : decide (V.int i = V.int j) = decide (i = j) := decide_eq_decide.mpr ⟨fun h => by injection h, fun h => by rw [h]⟩
theorem ok_isChan {k : Nat} {c Pc : Addr} {PT : List Addr} (F : Fun K "is_channel" "is_channel" sIsChan f fd) (hc : fd.code = .ref c) (TB : LamX.TabB base mg c Pc) (hPT : Pc ∈ PT) (hA : mg "all" = none) (cT : Cal P w K mg base "is_tuple" k ["thing", "least", "most"] (spTuple K)) (cW : Cal P w K mg base "is_within" k ["thing", "least", "most"] (spWithin K)) :
    FnOk P w K mg base CX0 (k + 2) f fd ["thing", "actors"] (spIsChan K PT) := by
  refine okC F hc scIsChan (fun vs H Q E h => ?_) (fun A outer s H vs Q E hr h => ?_)
  · obtain ⟨x, d, m, rfl, _⟩ := h
    rfl
  obtain ⟨x, d, m, rfl, hx, tb, q⟩ := h
  have cT' := cT.mono (Nat.le_succ k)
  refine ⟨_, pss_cons (ps_if (PW.pt (pw_or (pt_not (pt_val (pe_cal cT' hr rfl (pa_cons (pv 0) (pa_cons pe_int (pa_cons pe_int pa_nil)))))) (pw_or1 (pt_not (pt_val (pe_allG (own := [("actor", 2)]) (wi := iTup K (tVar 0)) (g := gName 2) (tt := tYes) (te := tCall (spWithin K) [] E0 (tCons (tVar 2) (tCons (tC (.int 0)) (tCons (tOp (rI0 fun i j => .int (i - j)) (tVar 1) (tC (.int 1))) tNil)))) scIsChan.nd hr rfl hA (by decide +kernel) TB rfl
      (blkOk_by (own := [("actor", 2)]) (N := ["thing", "actors", "actor"]) (sc := defScope sIsChan) (by decide +kernel)) (by decide +kernel) rfl rfl (pi_tup (pv 0))
      (fun _ _ _ _ _ _ _ _ _ _ => pg_name (i := 2) scIsChan.nd rfl (Or.inl rfl)) (fun _ _ _ _ _ _ _ _ _ _ => pts_nil)
      (fun _ _ _ _ _ _ _ _ _ hr' => pe_cal cW hr' rfl (pa_cons (pv 2) (pa_cons pe_int (pa_cons (pe_op op_sub (pv 1) pe_int) pa_nil)))) (fun _ => rfl))))))) (pss_one (ps_ret pe_bl)) pss_nil)
    (pss_one (ps_ret (pe_cmpR op_ne (pe_ix ix_tup (pv 0) pe_int (fun _ _ => rfl)) (pe_ix ix_tup (pv 0) pe_int (fun _ _ => rfl)) (nomark _)))), ?_⟩
  have no : chanD m d = false → ∀ H', ExtN H H' → TabsG PT H' → Q (.bl false) H' := fun e H' e1 t1 => by
    have r := q H' e1 t1
    rw [e] at r
    exact r
  refine ⟨_, rfl, x, d, 2, 2, rfl, hx, _, rfl, ?_⟩
  cases ht : tupD 2 2 d with
  | false => exact ifT rfl (ifT rfl (no (chan_not ht) H (ExtN.refl _) tb))
  | true =>
    refine ifF rfl ?_
    obtain ⟨p, r, rfl⟩ := tup22 ht
    have dd : chanD m (.tuple [p, r]) = ((withinD 0 (m - 1) p && withinD 0 (m - 1) r) && intNe p r) := rfl
    cases hx with
    | @tup ta xs _ at_ each =>
      have lx := dpAll_len each
      refine ⟨_, rfl, ta, rfl, ⟨xs, at_⟩, tb Pc hPT, fun H2 b2 => ?_⟩
      have e2 := tabbed_ext (tb Pc hPT) b2
      refine gx_tup (xs := xs) (fun i H' => H' = H2 ∧ ([p, r].take i).all (withinD 0 (m - 1)) = true) ⟨rfl, rfl⟩ (fun i H' _ h => ?_) (fun i y H' hy h => ?_) (fun H' h => ?_)
      · rw [h.1]
        exact sqT_ext e2 at_
      · obtain ⟨rfl, all3⟩ := h
        obtain ⟨d, hd, hdy⟩ := dpAll_get' each hy
        refine ⟨rfl, yesG ⟨_, rfl, _, rfl, _, _, rfl, rfl, y, d, 0, m - 1, rfl, dp_ext e2 _ _ hdy, _, rfl, fun c => ⟨rfl, ?_⟩, fun c => ?_⟩⟩
        · rw [all_take hd, all3, c]
          rfl
        · have e : (withinD 0 (m - 1) p && withinD 0 (m - 1) r) = false := by
            cases z : (withinD 0 (m - 1) p && withinD 0 (m - 1) r) with
            | false => rfl
            | true =>
              have z := and3 z
              have hm : d ∈ [p, r] := List.mem_of_getElem? hd
              rcases List.mem_cons.mp hm with rfl | hm
              · exact absurd z.1 c
              · rw [List.mem_singleton.mp hm] at c
                exact absurd z.2 c
          rw [e, Bool.false_and] at dd
          exact ⟨_, rfl, ifT rfl (no dd _ e2 (tb.tabbed b2))⟩
      · obtain ⟨rfl, all3⟩ := h
        rw [lx, List.take_length] at all3
        have all3 : (withinD 0 (m - 1) p && (withinD 0 (m - 1) r && true)) = true := all3
        rw [Bool.and_true] at all3
        rw [all3, Bool.true_and] at dd
        obtain ⟨i, rfl, _⟩ := within_int (and3 all3).1
        obtain ⟨j, rfl, _⟩ := within_int (and3 all3).2
        refine ⟨_, rfl, ifF rfl ?_⟩
        cases each with
        | cons i1 i2 =>
          cases i2 with
          | cons i3 i4 =>
            cases i4
            cases i1
            cases i3
            have r := q _ e2 (tb.tabbed b2)
            rw [dd] at r
            have r : Q (.bl (!decide (i = j))) _ := r
            rw [← decI] at r
            exact ⟨_, rfl, ta, _, 0, _, rfl, rfl, sqT_ext e2 at_, atI_at (by decide) rfl, _, rfl, ta, _, 1, _, rfl, rfl, sqT_ext e2 at_, atI_at (by decide) rfl, rfl, r⟩
end
/-! for i, x in enumerate(t), t a tuple -/
section
open PySem.Spec PyProof.Rows
abbrev tupIt (t : Addr) : Obj := { cls := .type "tuple_iterator", data := .fields #[.ref t, .int 0 0] }
abbrev enumO (it : Addr) : Obj := { cls := .type "enumerate", data := .fields #[.none, .bool false, .ref it, rawInt 0, .none, .none] }
set_option maxHeartbeats 1000000 in
theorem meets_enumT (t : Addr) (its : Array Value) :
    Meets (Builtin.«enumerate.__new__» ⟨[.type "enumerate", .ref t], []⟩) (fun _ R s => s.heap.IsTuple t its ∧ R (.ok (.ret (.ref (s.heap.push (tupIt t)).objs.size))) { s with heap := (s.heap.push (tupIt t)).push (enumO s.heap.objs.size) }) :=
  .of_wp fun prog w A R s h => by
    obtain ⟨hp, g, d, tk, os⟩ := s
    obtain ⟨h1, h⟩ := h
    have f1 := sub_enumerate
    have q1 : ∀ {A' : Around} {E : Value → Shared → Prop} {Q : Value → Shared → Prop}, Q (.ref hp.objs.size) ⟨hp.push (tupIt t), g, d, tk, os⟩ → wpAny (model prog w) A' (pyIter (.ref t)) Q E ⟨hp, g, d, tk, os⟩ := fun q => wpAny_pyIter_tuple h1 q
    wp_walk using q1
    refine wpAny_stack_any fun st => wpAny_pure ?_
    split
    · rename_i c _ _ _ _ _
      cases (c == Value.type "enumerate") <;> (wp_walk using q1; exact ⟨_, rfl, h⟩)
    · wp_walk using q1
      exact ⟨_, rfl, h⟩
theorem call_enumT {prog : Program} {w : World} {A : Around} {E : Value → Shared → Prop} {s : Shared} {t : Addr} {its : Array Value} {Q : Value → Shared → Prop} (hT : s.heap.IsTuple t its)
    (h : ∀ h', IsEnum h' (s.heap.objs.size + 1) s.heap.objs.size 0 .none → h'.IsTupleIter s.heap.objs.size t 0 → h'.objs.size = s.heap.objs.size + 2 → (∀ b o, s.heap.get? b = some o → h'.get? b = some o) → Q (.ref (s.heap.objs.size + 1)) { s with heap := h' }) :
    wpAny (model prog w) A (call (.type "enumerate") [.ref t]) Q E s := by
  refine callType_new F.called_enumerate (by decide) (F.typeCall_enumerate_1 _) (F.newCall_enumerate_1 _) (fun obj => F.args_object_init_2 obj _) F.entry_enumerate_new (meets_enumT t its) ⟨hT, ?_⟩
  have sz : (s.heap.push (tupIt t)).objs.size = s.heap.objs.size + 1 := Heap.size_push ..
  have atE : ((s.heap.push (tupIt t)).push (enumO s.heap.objs.size)).get? (s.heap.objs.size + 1) = some (enumO s.heap.objs.size) := by
    rw [← sz]
    exact Heap.get?_push_size _ rfl
  show _ ∧ _
  rw [sz]
  exact ⟨⟨_, atE, rfl⟩, h _ atE ⟨_, Heap.get?_push_of_some _ (Heap.get?_push_size _ rfl), rfl, rfl⟩ (by rw [Heap.size_push, sz]) fun b o x => Heap.get?_push_of_some _ (Heap.get?_push_of_some _ x)⟩
/-- each item in a new pair -/
def Ienum (K : PySem.W.Frag) (a : Addr) : It :=
  ⟨fun i H => ∃ (xs : List V) (x : V), SqT K H a xs ∧ xs[i]? = some x, fun i H v H' => ∃ T x, v = .ref T ∧ H T = none ∧ H' = upd H T (.tup [.int (i : Nat), x]) ∧ ∀ xs, SqT K H a xs → xs[i]? = some x, fun i H => ∃ xs : List V, SqT K H a xs ∧ xs.length = i⟩
theorem turn_enumT {P : Program} {w : World} {K : PySem.W.Frag} {elts : List Expr} {kk : Nat} {tpos : Pos} (a e it : Addr) (hae : a ≠ e) (hai : a ≠ it) :
    Turn P w K (.Tuple elts kk tpos) (Ienum K a) [e, it] e (fun i h => (∃ old, IsEnum h e it ((i : Nat) : Int) old) ∧ h.IsTupleIter it a i ∧ e ≠ it) where
  mem := by simp
  obj := fun i h st b hb => by
    obtain ⟨⟨old, he⟩, ⟨o, ho, hc, hd⟩, _⟩ := st
    rcases List.mem_cons.mp hb with z | z
    · rw [z]; exact ⟨_, he, fun v q => nomatch q⟩
    · rw [List.mem_singleton.mp z]; exact ⟨o, ho, fun v q => by rw [hd] at q; cases q⟩
  keep := fun i h h' ⟨⟨old, he⟩, hi, hne⟩ k => ⟨⟨old, k e (by simp) _ he⟩, hi.at fun o q => k it (by simp) o q, hne⟩
  item := by
    intro X hP hw hK hc i pins s σ H E I hf st hg
    subst hP hw hK
    obtain ⟨⟨old, he⟩, hit, hne⟩ := st
    obtain ⟨xs, x, hq, hx⟩ := hg
    obtain ⟨its, rv, p, hz⟩ := I.tuple hq
    obtain ⟨u, hu, ru⟩ := rv.get hx
    have isT : s.heap.IsTuple a its.toArray := let ⟨o1, g1, c1, n1, d1⟩ := p; ⟨o1, g1, c1, n1, d1⟩
    have le : e < s.heap.objs.size := Heap.lt_size he
    have li : it < s.heap.objs.size := by obtain ⟨_, q, _⟩ := hit; exact Heap.lt_size q
    have hlt : i < its.toArray.size := by
      rw [List.size_toArray]
      exact (List.getElem?_eq_some_iff.mp hu).1
    have D : Draws X.prog X.w X.A.in1 it [it, a] its.toArray.size (fun i v => its.toArray[i]? = some v) (fun i h => h.IsTupleIter it a i ∧ h.IsTuple a its.toArray) := Draws.tuple (by show X.A.handled = none; exact I.ok.hd hc) it a hai its.toArray
    refine wpAny_pyNext_enum_itemD D he ⟨hit, isT⟩ hlt hne (by simp only [List.mem_cons, List.mem_singleton, List.not_mem_nil, or_false, not_or]; exact ⟨hne, fun z => hae z.symm⟩) fun x' h' tk hx' out st' hT sz hk => ?_
    have ex : x' = u := by
      have z : its.toArray[i]? = some u := by simpa using hu
      rw [z] at hx'
      exact (Option.some.inj hx').symm
    subst ex
    refine ⟨_, rfl, wpAny_letOwnedTupleGo_enum (s := { s with heap := h', toks := tk + 1 }) out fun h'' he' sb => ?_⟩
    have at2 : h''.get? s.heap.objs.size = some { cls := .type "tuple", data := .seq #[.int i tk, x'] } := (sb.2 _ (Nat.ne_of_gt le)).trans hT
    have new : ObjOk X.prog X.w (upd H s.heap.objs.size (.tup [.int (i : Nat), x])) h'' s.heap.objs.size (.tup [.int (i : Nat), x]) := ⟨by show 2 ≤ sizeLine; decide, [.int i tk, x'], .cons ⟨_, rfl⟩ (.cons ru .nil), ⟨_, at2, rfl, _, rfl⟩⟩
    have I1 : Inv X pins σ (upd H s.heap.objs.size (.tup [.int (i : Nat), x])) { s with heap := h'', toks := tk + 1 } :=
      I.turnedNew (ch := [e, it]) (fun b ob hb q => (sb.2 b (fun z => hb (by simp [z]))).trans (hk b ob (fun z => hb (by simp [z])) (fun z => hb (by simp [z])) q)) hf (Nat.le_refl _) new
    refine ⟨.ref s.heap.objs.size, _, I1, rfl, ⟨_, x, rfl, I.hok.fresh (Nat.le_refl _), rfl, fun ys hy => ?_⟩, ⟨⟨x', ?_⟩, st'.1.at fun o q => (sb.2 it (Ne.symm hne)).trans q, hne⟩, fun b hb => ?_⟩
    · rw [I.tuple_inj hy hq]
      exact hx
    · rw [show ((i + 1 : Nat) : Int) = (i : Int) + 1 by omega]
      exact he'
    · have hb' : b < s.heap.objs.size := by
        rcases List.mem_cons.mp hb with z | z
        · rw [z]; exact le
        · rw [List.mem_singleton.mp z]; exact li
      rw [upd_ne (Nat.ne_of_lt hb')]
      exact (hf b hb).1
  done := by
    intro X hP hw hK hc i pins s σ H E I hf st hg
    subst hP hw hK
    obtain ⟨⟨old, he⟩, hit, hne⟩ := st
    obtain ⟨xs, hq, hx⟩ := hg
    obtain ⟨its, rv, p, hz⟩ := I.tuple hq
    have isT : s.heap.IsTuple a its.toArray := let ⟨o1, g1, c1, n1, d1⟩ := p; ⟨o1, g1, c1, n1, d1⟩
    obtain ⟨f0, f1, f2, f3, f4, f5⟩ := hf it (by simp)
    have D : Draws X.prog X.w X.A.in1 it [it, a] its.toArray.size (fun i v => its.toArray[i]? = some v) (fun i h => h.IsTupleIter it a i ∧ h.IsTuple a its.toArray) := Draws.tuple (by show X.A.handled = none; exact I.ok.hd hc) it a hai its.toArray
    have en : its.toArray.size = i := by rw [List.size_toArray, ← rv.length]; exact hx
    refine wpAny_pyNext_enum_endD D he ⟨by rw [en]; exact hit, isT⟩ fun h' eb => ⟨rfl, I.turned (t' := s.toks) (fun b o hb q => eb b o hb q) f0 f1 f3 f4 f5⟩
  self := fun A i s Q E ⟨⟨_, he⟩, _⟩ h => wpAny_pyIter_enum he h
def iEnumT (K : PySem.W.Frag) (ta : TA) : TI := fun σ H R => ta σ H fun vs H1 => ∃ a xs, vs = [.ref a] ∧ SqT K H1 a xs ∧ R (Ienum K a) H1
theorem pi_enumT {X : Cx} {e : Expr} {ta : TA} {p pos tpos : Pos} {elts : List Expr} {kk : Nat} (hg : Gl X "enumerate") (hm : X.mg "enumerate" = none) (ha : PA X [e] ta) (hs : starEach [e] X.env = [(false, eval e X.env)] := by rfl) :
    PI X (.Tuple elts kk tpos) (.Call (.Name "enumerate" p) [e] [] pos) (iEnumT X.K ta) := by
  refine ⟨fun pins s σ H R I h => ?_⟩
  refine Call_ (ld_blt I hg hm boot_enumerate (callWith_type1 (thn (ha.run pos pins s σ H _ I h) fun us s1 ⟨vs, H1, I1, r1, q1⟩ => ?_) hs rfl))
  obtain ⟨a, xs, rfl, hq, q⟩ := q1
  obtain ⟨u, rfl, ru⟩ := vals1 r1
  cases ru
  obtain ⟨its, rv, tp, hz⟩ := I1.tuple hq
  have lt : a < s1.heap.objs.size := tp.lt
  refine call_enumT (its := its.toArray) (let ⟨o1, g1, c1, n1, d1⟩ := tp; ⟨o1, g1, c1, n1, d1⟩) fun h' he hit sz hk => wpAny_pyIter_enum he ?_
  have I2 : Inv X pins σ H1 { s1 with heap := h' } := I1.kept (t' := s1.toks) hk
  refine ⟨s1.heap.objs.size + 1, [s1.heap.objs.size + 1, s1.heap.objs.size], _, _, H1, rfl, I2, turn_enumT a (s1.heap.objs.size + 1) s1.heap.objs.size (Nat.ne_of_lt (Nat.lt_succ_of_lt lt)) (Nat.ne_of_lt lt), ⟨⟨.none, he⟩, hit, Nat.succ_ne_self _⟩, fun b hb => ?_, q⟩
  have hle : s1.heap.objs.size ≤ b := by
    rcases List.mem_cons.mp hb with z | z
    · rw [z]; exact Nat.le_add_right _ _
    · rw [List.mem_singleton.mp z]; exact Nat.le_refl _
  exact I1.fpOk hle (I1.hok.fresh hle)
/-- a loop over it -/
theorem for_enumT {K : PySem.W.Frag} {a : Addr} {xs : List V} {g : TG} {tb : TS} {D : Ends} {σ : L2.St} {H : Hp} (Pv : Nat → L2.St → Hp → Prop) (h0 : Pv 0 σ H) (hl : ∀ i σ H, i ≤ xs.length → Pv i σ H → SqT K H a xs)
    (hs : ∀ i x T σ H, xs[i]? = some x → Pv i σ H → H T = none → g (.ref T) σ (upd H T (.tup [.int (i : Nat), x])) fun σ2 H2 => tb { D with nx := Pv (i + 1), ct := Pv (i + 1), bk := D.nx } σ2 H2) (hd : ∀ σ H, Pv xs.length σ H → D.nx σ H) :
    ∃ W : Nat → Nat → L2.St → Hp → Prop, (∃ m, W 0 m σ H) ∧ ∀ i m σ H, W i m σ H →
      ((Ienum K a).stop i H ∧ D.nx σ H) ∨ ((Ienum K a).go i H ∧ ∃ N : L2.St → Hp → Prop, (∀ σ' H', N σ' H' → ∃ m', m' < m ∧ W (i + 1) m' σ' H') ∧ ∀ x H', (Ienum K a).yld i H x H' → g x σ H' fun σ2 H2 => tb { D with nx := N, ct := N, bk := D.nx } σ2 H2) := by
  refine ⟨fun i m σ H => m = xs.length - i ∧ i ≤ xs.length ∧ Pv i σ H, ⟨xs.length, by simp, Nat.zero_le _, h0⟩, ?_⟩
  rintro i m σ H ⟨rfl, hi, p⟩
  have q := hl i σ H hi p
  by_cases hlt : i < xs.length
  · have hx := List.getElem?_eq_getElem hlt
    refine .inr ⟨⟨xs, _, q, hx⟩, Pv (i + 1), fun σ' H' p' => ⟨xs.length - (i + 1), by omega, rfl, hlt, p'⟩, fun v H' y => ?_⟩
    obtain ⟨T, x, rfl, hT, rfl, y⟩ := y
    exact hs i x T σ H (y xs q) p hT
  · have e : i = xs.length := by omega
    exact .inl ⟨⟨xs, q, e.symm⟩, hd σ H (by rw [← e]; exact p)⟩
end
/-! is_net -/
def pairD : PyData → Int × Int
  | .tuple [.int i, .int j] => (i, j)
  | _ => (0, 0)
def actsB (chs : List (Int × Int)) : Int → List PyData → Bool
  | _, [] => true
  | me, d :: ds => (blkD (sideL Prod.fst chs me) (sideL Prod.snd chs me) 4 d).isSome && actsB chs (me + 1) ds
def netB (cs as : List PyData) : Bool := (decide (cs.length ≤ 6) && (decide (1 ≤ as.length) && decide (as.length ≤ 4))) && (cs.all (chanD as.length) && actsB (cs.map pairD) 0 as)
def netD : PyData → Bool
  | .tuple [.tuple cs, .tuple as] => netB cs as
  | _ => false
theorem chans_of {m : Int} : ∀ {cs : List PyData}, cs.all (chanD m) = true → cs = (cs.map pairD).map mkCh
  | [], _ => rfl
  | c :: cs, h => by
    rw [List.all_cons] at h
    have h := and3 h
    rw [List.map_cons, List.map_cons, ← chans_of h.2]
    congr 1
    have h1 := h.1
    unfold chanD at h1
    split at h1
    · obtain ⟨i, rfl, _⟩ := within_int (and3 (and3 h1).1).1
      obtain ⟨j, rfl, _⟩ := within_int (and3 (and3 h1).1).2
      rfl
    · cases h1
theorem acts_no {chs : List (Int × Int)} : ∀ {as : List PyData} {me : Int} {i : Nat} {d : PyData}, as[i]? = some d → blkD (sideL Prod.fst chs (me + i)) (sideL Prod.snd chs (me + i)) 4 d = none → actsB chs me as = false
  | d :: as, me, 0, _, h, e => by
    cases h
    rw [show me + ((0 : Nat) : Int) = me by omega] at e
    show ((blkD _ _ 4 d).isSome && _) = false
    rw [e]
    rfl
  | d :: as, me, i + 1, _, h, e => by
    rw [show me + ((i + 1 : Nat) : Int) = (me + 1) + (i : Nat) by omega] at e
    show (_ && actsB chs (me + 1) as) = false
    rw [acts_no (show as[i]? = _ from h) e, Bool.and_false]
theorem acts_yes {chs : List (Int × Int)} : ∀ {as : List PyData} {me : Int}, (∀ (i : Nat) d, as[i]? = some d → (blkD (sideL Prod.fst chs (me + i)) (sideL Prod.snd chs (me + i)) 4 d).isSome = true) → actsB chs me as = true
  | [], me, _ => rfl
  | d :: as, me, h => by
    have h0 := h 0 d rfl
    rw [show me + ((0 : Nat) : Int) = me by omega] at h0
    show ((blkD _ _ 4 d).isSome && actsB chs (me + 1) as) = true
    rw [h0, acts_yes (fun i d' hd => by
      have z := h (i + 1) d' hd
      rw [show me + ((i + 1 : Nat) : Int) = (me + 1) + (i : Nat) by omega] at z
      exact z)]
    rfl
theorem tupD_is {lo hi : Int} {d : PyData} (h : tupD lo hi d = true) : ∃ ds, d = .tuple ds ∧ lo ≤ (ds.length : Int) ∧ (ds.length : Int) ≤ hi := by
  cases d with
  | tuple ds =>
    have h := and3 (show (decide (lo ≤ (ds.length : Int)) && decide ((ds.length : Int) ≤ hi)) = true from h)
    exact ⟨ds, rfl, of_decide_eq_true h.1, of_decide_eq_true h.2⟩
  | _ => cases h
theorem net_not {d : PyData} (h : tupD 2 2 d = false) : netD d = false := by
  unfold netD
  split
  · exact absurd h (fun z => by cases z)
  · rfl
theorem net_notc {p r : PyData} (h : tupD 0 6 p = false) : netD (.tuple [p, r]) = false := by
  unfold netD
  split
  · rename_i cs as e
    cases e
    have h : (decide ((0 : Int) ≤ (cs.length : Int)) && decide ((cs.length : Int) ≤ 6)) = false := h
    rw [decide_eq_true (by omega), Bool.true_and] at h
    have := of_decide_eq_false h
    unfold netB
    rw [decide_eq_false (show ¬ cs.length ≤ 6 by omega)]
    rfl
  · rfl
theorem net_nota {p r : PyData} (h : tupD 1 4 r = false) : netD (.tuple [p, r]) = false := by
  unfold netD
  split
  · rename_i cs as e
    cases e
    have h : (decide ((1 : Int) ≤ (as.length : Int)) && decide ((as.length : Int) ≤ 4)) = false := h
    have e : (decide (1 ≤ as.length) && decide (as.length ≤ 4)) = false := by
      rw [← h, show decide (1 ≤ as.length) = decide ((1 : Int) ≤ (as.length : Int)) from decide_eq_decide.mpr (by omega), show decide (as.length ≤ 4) = decide ((as.length : Int) ≤ 4) from decide_eq_decide.mpr (by omega)]
    unfold netB
    rw [e, Bool.and_false, Bool.false_and]
  · rfl
section
open PySem.Spec PyProof.Rows LamX
variable {P : Program} {w : World} {K : PySem.W.Frag} {mg : Str → Option Value} {base : Heap} {f : Addr} {fd : FuncData}
def spIsNet (K : PySem.W.Frag) (PT : List Addr) : Sp := fun vs H Q _ => ∃ (x : V) (d : PyData), vs = [x] ∧ Dp K H x d ∧ BkOk d ∧ TabsG PT H ∧ ∀ H', ExtN H H' → TabsG PT H' → Q (.bl (netD d)) H'
abbrev NIsNet : List Str := ["thing", "channels", "actors", "channel", "actor", "block"]
theorem scIsNet : FnScope NIsNet ["thing"] (defScope sIsNet) := ⟨rfl, rfl, rfl, by decide +kernel, rfl, by decide +kernel, by decide +kernel⟩
theorem ok_isNet {k : Nat} {c Pc : Addr} {PT : List Addr} (F : Fun K "is_net" "is_net" sIsNet f fd) (hc : fd.code = .ref c) (TB : LamX.TabB base mg c Pc) (hPT : Pc ∈ PT) (T : Free mg) (C : Cst mg) (hA : mg "all" = none) (hE : mg "enumerate" = none) (cT : Cal P w K mg base "is_tuple" k ["thing", "least", "most"] (spTuple K)) (cC : Cal P w K mg base "is_channel" k ["thing", "actors"] (spIsChan K PT))
    (cS : Cal P w K mg base "sends_of" k ["channels", "actor"] (spSide K PT Prod.fst)) (cTk : Cal P w K mg base "takes_of" k ["channels", "actor"] (spSide K PT Prod.snd)) (cB : Cal P w K mg base "block_size" k ["thing", "level", "sends", "takes"] (spBlk K PT 4)) :
    FnOk P w K mg base CX0 (k + 2) f fd ["thing"] (spIsNet K PT) := by
  refine okC F hc scIsNet (fun vs H Q E h => ?_) (fun A outer s H vs Q E hr h => ?_)
  · obtain ⟨x, d, rfl, _⟩ := h
    rfl
  obtain ⟨x, d, rfl, hx, hk, tb, q⟩ := h
  have cT' := cT.mono (Nat.le_succ k)
  have cS' := cS.mono (Nat.le_succ k)
  have cTk' := cTk.mono (Nat.le_succ k)
  have cB' := cB.mono (Nat.le_succ k)
  refine ⟨_, pss_cons (ps_if (pt_not (pt_val (pe_cal cT' hr rfl (pa_cons (pv 0) (pa_cons pe_int (pa_cons pe_int pa_nil)))))) (pss_one (ps_ret pe_bl)) pss_nil)
    (pss_cons (ps_asg (pv 0) (pg_tup rfl (pgs_cons (pg_name (i := 1) scIsNet.nd rfl (.inl rfl)) (pgs_cons (pg_name (i := 2) scIsNet.nd rfl (.inr rfl)) pgs_nil))))
    (pss_cons (ps_if (PW.pt (pw_or (pt_not (pt_val (pe_cal cT' hr rfl (pa_cons (pv 1) (pa_cons pe_int (pa_cons (pe_globI rfl C.mostChannels) pa_nil)))))) (pw_or1 (pt_not (pt_val (pe_cal cT' hr rfl (pa_cons (pv 2) (pa_cons pe_int (pa_cons (pe_globI rfl C.mostActors) pa_nil))))))))) (pss_one (ps_ret pe_bl)) pss_nil)
    (pss_cons (ps_if (pt_not (pt_val (pe_allG (own := [("channel", 3)]) (wi := iTup K (tVar 1)) (g := gName 3) (tt := tYes) (te := tCall (spIsChan K PT) [] E0 (tCons (tVar 3) (tCons (tCB (rLen K) (tCons (tVar 2) tNil)) tNil))) scIsNet.nd hr rfl hA (by decide +kernel) TB rfl
        (blkOk_by (own := [("channel", 3)]) (N := NIsNet) (sc := defScope sIsNet) (by decide +kernel)) (by decide +kernel) rfl rfl (pi_tup (pv 1))
        (fun _ _ _ _ _ _ _ _ _ _ => pg_name (i := 3) scIsNet.nd rfl (Or.inl rfl)) (fun _ _ _ _ _ _ _ _ _ _ => pts_nil)
        (fun _ _ _ _ _ _ _ _ _ hr' => pe_cal cC hr' rfl (pa_cons (pv 3) (pa_cons (pe_callB call_len_seq rfl T.len PySem.boot_len (pa_cons (pv 2) pa_nil)) pa_nil))) (fun _ => rfl)))) (pss_one (ps_ret pe_bl)) pss_nil)
    (pss_cons (ps_for PassesOwn.never rfl (pi_enumT rfl hE (pa_cons (pv 2) pa_nil)) (pg_tup rfl (pgs_cons (pg_name (i := 4) scIsNet.nd rfl (.inl rfl)) (pgs_cons (pg_name (i := 5) scIsNet.nd rfl (.inl rfl)) pgs_nil)))
      (pss_one (ps_if (pt_cmpR op_isN (pe_cal cB' hr rfl (pa_cons (pv 5) (pa_cons pe_int (pa_cons (pe_cal cS' hr rfl (pa_cons (pv 1) (pa_cons (pv 4) pa_nil))) (pa_cons (pe_cal cTk' hr rfl (pa_cons (pv 1) (pa_cons (pv 4) pa_nil))) pa_nil))))) pe_non (nomark _)) (pss_one (ps_ret pe_bl)) pss_nil)))
    (pss_one (ps_ret pe_bl)))))), ?_⟩
  have no : netD d = false → ∀ H', ExtN H H' → TabsG PT H' → Q (.bl false) H' := fun e H' e1 t1 => by
    have r := q H' e1 t1
    rw [e] at r
    exact r
  refine ⟨_, rfl, x, d, 2, 2, rfl, hx, _, rfl, ?_⟩
  cases ht : tupD 2 2 d with
  | false => exact ifT rfl (no (net_not ht) H (ExtN.refl _) tb)
  | true =>
    refine ifF rfl ?_
    obtain ⟨p, r, rfl⟩ := tup22 ht
    cases hx with
    | @tup ta xs _ at_ each =>
      cases each with
      | @cons y1 _ _ _ hp i2 =>
        cases i2 with
        | @cons y2 _ _ _ hr2 i4 =>
          cases i4
          refine ⟨_, rfl, ta, _, rfl, at_, rfl, _, _, rfl, _, _, rfl, rfl, ?_⟩
          refine ⟨_, rfl, y1, p, 0, 6, rfl, hp, _, rfl, ?_⟩
          cases h6 : tupD 0 6 p with
          | false => exact ifT rfl (ifT rfl (no (net_notc h6) H (ExtN.refl _) tb))
          | true =>
            refine ifF rfl ⟨_, rfl, y2, r, 1, 4, rfl, hr2, _, rfl, ?_⟩
            cases h4 : tupD 1 4 r with
            | false => exact ifT rfl (no (net_nota h4) H (ExtN.refl _) tb)
            | true =>
              refine ifF rfl ?_
              obtain ⟨cs, rfl, _, c6⟩ := tupD_is h6
              obtain ⟨as, rfl, a1, a4⟩ := tupD_is h4
              have dd : netD (.tuple [.tuple cs, .tuple as]) = (cs.all (chanD as.length) && actsB (cs.map pairD) 0 as) := by
                show netB cs as = _
                unfold netB
                rw [decide_eq_true (show cs.length ≤ 6 by omega), decide_eq_true (show 1 ≤ as.length by omega), decide_eq_true (show as.length ≤ 4 by omega)]
                rfl
              have bkp := bk_mem hk List.mem_cons_self
              have bkr := bk_mem hk (List.mem_cons_of_mem _ List.mem_cons_self)
              cases hp with
              | @tup ca cvs _ cat ceach =>
                cases hr2 with
                | @tup aa avs _ aat aeach =>
                  have lc := dpAll_len ceach
                  have la := dpAll_len aeach
                  refine ⟨_, rfl, ca, rfl, ⟨cvs, cat⟩, tb Pc hPT, fun H2 b2 => ?_⟩
                  have e2 := tabbed_ext (tb Pc hPT) b2
                  refine gx_tup (xs := cvs) (fun i H' => ExtN H H' ∧ TabsG PT H' ∧ (cs.take i).all (chanD as.length) = true) ⟨e2, tb.tabbed b2, rfl⟩ (fun i H' _ h => ?_) (fun i y H' hy h => ?_) (fun H' h => ?_)
                  · exact sqT_ext h.1 cat
                  · obtain ⟨e3, t3, all3⟩ := h
                    obtain ⟨d, hd, hdy⟩ := dpAll_get' ceach hy
                    refine ⟨rfl, yesG ⟨_, rfl, _, rfl, aa, avs, rfl, .inr (sqT_ext e3 aat), y, d, _, rfl, dp_ext e3 _ _ hdy, t3, fun H4 e4 t4 => ⟨_, rfl, fun c => ⟨e3.trans e4, t4, ?_⟩, fun c => ?_⟩⟩⟩
                    · rw [la] at c
                      rw [all_take hd, all3, c]
                      rfl
                    · rw [la] at c
                      have e : cs.all (chanD as.length) = false := by
                        cases z : cs.all (chanD as.length) with
                        | false => rfl
                        | true => exact absurd (List.all_eq_true.mp z d (List.mem_of_getElem? hd)) c
                      rw [e, Bool.false_and] at dd
                      exact ⟨_, rfl, ifT rfl (no dd H4 (e3.trans e4) t4)⟩
                  · obtain ⟨e3, t3, all3⟩ := h
                    rw [lc, List.take_length] at all3
                    rw [all3, Bool.true_and] at dd
                    have hcs := chans_of all3
                    refine ⟨_, rfl, ifF rfl ?_⟩
                    refine ⟨_, rfl, aa, avs, rfl, sqT_ext e3 aat, ?_⟩
                    refine for_enumT (xs := avs) (fun i σ G => ∃ o3 o4 o5, σ = [some (.ref ta), some (.ref ca), some (.ref aa), o3, o4, o5] ∧ ExtN H G ∧ TabsG PT G ∧ ∀ (j : Nat) d, j < i → as[j]? = some d → (blkD (sideL Prod.fst (cs.map pairD) (0 + j)) (sideL Prod.snd (cs.map pairD) (0 + j)) 4 d).isSome = true)
                      ⟨_, _, _, rfl, e3, t3, fun j d h => absurd h (Nat.not_lt_zero _)⟩ (fun i σ G _ h => by obtain ⟨_, _, _, _, h, _⟩ := h; exact sqT_ext h aat) (fun i v T0 σ G hv h hT => ?_) (fun σ G h => ?_)
                    · obtain ⟨o3, o4, o5, rfl, eG, tG, all⟩ := h
                      obtain ⟨d, hd, hdv⟩ := dpAll_get' aeach hv
                      have nT := same_new hT (.tup [.int (i : Nat), v])
                      have e5 := eG.trans (ext_same nT)
                      have t5 := tG.same nT
                      have cdp : ∀ G', ExtN H G' → Dp K G' (.ref ca) (.tuple ((cs.map pairD).map mkCh)) := fun G' e => by
                        rw [← hcs]
                        exact .tup (sqT_ext e cat) (dp_exts e _ _ ceach)
                      have l100 : (cs.map pairD).length ≤ 100 := by rw [List.length_map]; omega
                      refine ⟨T0, _, rfl, SqT.of upd_same, rfl, _, _, rfl, _, _, rfl, rfl, ?_⟩
                      refine ⟨_, rfl, _, rfl, _, rfl, .ref ca, cs.map pairD, i, rfl, cdp _ e5, l100, t5, fun p6 H6 e6 t6 s6 => ?_⟩
                      have e06 := e5.trans e6
                      refine ⟨_, rfl, _, rfl, .ref ca, cs.map pairD, i, rfl, cdp _ e06, l100, t6, fun p7 H7 e7 t7 s7 => ?_⟩
                      have e07 := e06.trans e7
                      refine ⟨v, d, 1, p6, p7, _, _, rfl, by decide, dp_ext e07 _ _ hdv, bk_mem bkr (List.mem_of_getElem? hd), sqT_ext e7 s6, s7, t7, fun H8 e8 t8 => ?_⟩
                      have e08 := e07.trans e8
                      cases hb : blkD (sideL Prod.fst (cs.map pairD) i) (sideL Prod.snd (cs.map pairD) i) 4 d with
                      | none =>
                        refine ⟨rfl, _, rfl, ifT (decide_eq_true rfl) ?_⟩
                        rw [acts_no (me := 0) hd (by rw [show (0 : Int) + (i : Nat) = (i : Int) by omega]; exact hb)] at dd
                        exact no dd H8 e08 t8
                      | some v' =>
                        refine ⟨rfl, _, rfl, ifF (decide_eq_false (fun z => by cases z)) ?_⟩
                        refine ⟨_, _, _, rfl, e08, t8, fun j d' hj hd' => ?_⟩
                        rcases Nat.lt_or_ge j i with hji | hji
                        · exact all j d' hji hd'
                        · have ej : j = i := by omega
                          subst ej
                          rw [hd] at hd'
                          cases hd'
                          rw [show (0 : Int) + (j : Nat) = (j : Int) by omega, hb]
                          rfl
                    · obtain ⟨o3, o4, o5, rfl, eG, tG, all⟩ := h
                      rw [acts_yes (me := 0) (fun j d hd => all j d (by rw [la]; exact (List.getElem?_eq_some_iff.mp hd).1) hd)] at dd
                      have r := q G eG tG
                      rw [dd] at r
                      exact r
end
/-! what is written down, laid anew -/
def dif (H H' : Hp) : Hp := fun b => match H b with
  | none => H' b
  | some _ => none
theorem dif_at {H H' : Hp} {p : Addr} {o : HO} (h : H p = none) (h' : H' p = some o) : dif H H' p = some o := by
  unfold dif
  rw [h]
  exact h'
theorem dif_some {H H' : Hp} {p : Addr} {o : HO} (h : dif H H' p = some o) : H p = none ∧ H' p = some o := by
  unfold dif at h
  cases e : H p with
  | none =>
    rw [e] at h
    exact ⟨rfl, h⟩
  | some u =>
    rw [e] at h
    cases h
theorem dif_l {H H1 H2 : Hp} (s : Same H1 H2) : Same (dif H H1) (dif H H2) := fun b o h => by
  obtain ⟨h1, h2⟩ := dif_some h
  exact dif_at h1 (s _ _ h2)
theorem dif_r {H H1 H2 : Hp} (s : Same H H1) : Same (dif H1 H2) (dif H H2) := fun b o h => by
  obtain ⟨h1, h2⟩ := dif_some h
  exact dif_at (s.free h1) h2
theorem dif_in {H H' : Hp} : Same (dif H H') H' := fun b o h => (dif_some h).2
theorem dp_same {K : PySem.W.Frag} {H H' : Hp} (s : Same H H') {d : PyData} {v : V} (h : Dp K H v d) : Dp K H' v d := dp_ext (ext_same s) d v h
theorem dps_same {K : PySem.W.Frag} {H H' : Hp} (s : Same H H') {ds : List PyData} {vs : List V} (h : DpAll K H vs ds) : DpAll K H' vs ds := dp_exts (ext_same s) ds vs h
def tLit (K : PySem.W.Frag) (d : PyData) : TE := fun _ H Q => ∀ v H', Same H H' → Dp K (dif H H') v d → Q v H'
def tLits (K : PySem.W.Frag) (ds : List PyData) : TA := fun _ H Q => ∀ vs H', Same H H' → DpAll K (dif H H') vs ds → Q vs H'
theorem pe_imp {X : Cx} {e : Expr} {t t' : TE} (h : PE X e t) (w : ∀ σ H Q, t' σ H Q → t σ H Q) : PE X e t' := ⟨fun pins s σ H Q I q => h.run pins s σ H Q I (w _ _ _ q)⟩
theorem pa_imp {X : Cx} {es : List Expr} {t t' : TA} (h : PA X es t) (w : ∀ σ H Q, t' σ H Q → t σ H Q) : PA X es t' := ⟨fun pos pins s σ H Q I q => h.run pos pins s σ H Q I (w _ _ _ q)⟩
section
variable {X : Cx}
theorem lits_nil : PA X [] (tLits X.K []) := pa_imp pa_nil fun σ H Q q => q [] H (Same.refl _) .nil
theorem lits_cons {e : Expr} {es : List Expr} {d : PyData} {ds : List PyData} (h : PE X e (tLit X.K d)) (hs : PA X es (tLits X.K ds)) (hst : starEach (e :: es) X.env = (false, eval e X.env) :: starEach es X.env := by rfl) : PA X (e :: es) (tLits X.K (d :: ds)) :=
  pa_imp (pa_cons h hs hst) fun σ H Q q v H1 s1 d1 vs H2 s2 d2 => q (v :: vs) H2 (s1.trans s2) (.cons (dp_same (dif_l s2) d1) (dps_same (dif_r s1) d2))
theorem lit_int {i : Int} {j : Nat} {pos : Pos} : PE X (.Constant (.int i) j pos) (tLit X.K (.int i)) := pe_imp pe_int fun σ H Q q => q _ H (Same.refl _) (.int _)
theorem lit_str {x : Str} {j : Nat} {pos : Pos} : PE X (.Constant (.str x) j pos) (tLit X.K (.str x)) := pe_imp pe_str fun σ H Q q => q _ H (Same.refl _) (.str _)
theorem lit_bl {b : Bool} {j : Nat} {pos : Pos} : PE X (.Constant (.bool b) j pos) (tLit X.K (.bool b)) := pe_imp pe_bl fun σ H Q q => q _ H (Same.refl _) (.bl _)
theorem lit_non {j : Nat} {pos : Pos} : PE X (.Constant .none j pos) (tLit X.K .none) := pe_imp pe_non fun σ H Q q => q _ H (Same.refl _) .non
theorem lit_neg {e : Expr} {i : Int} {pos : Pos} (h : PE X e (tC (.int i))) : PE X (.UnaryOp .USub e pos) (tLit X.K (.int (-i))) := pe_imp (pe_un un_neg h) fun σ H Q q => ⟨i, rfl, q _ H (Same.refl _) (.int _)⟩
theorem lit_tup {es : List Expr} {ds : List PyData} {x1 : Nat} {pos : Pos} (h : PA X es (tLits X.K ds)) (hl : ds.length ≤ 1000) : PE X (.Tuple es x1 pos) (tLit X.K (.tuple ds)) :=
  pe_imp (pe_tup h) fun σ H Q q vs H1 s1 d1 => ⟨small (by rw [dpAll_len d1]; exact hl), fun p hp => q _ _ (s1.trans (same_new hp _)) (.tup (SqT.of (dif_at (s1.free hp) upd_same)) (dps_same (dif_l (same_new hp _)) d1))⟩
theorem lit_lst {es : List Expr} {ds : List PyData} {pos : Pos} (h : PA X es (tLits X.K ds)) (hl : ds.length ≤ 1000) : PE X (.List es pos) (tLit X.K (.list ds)) :=
  pe_imp (pe_lst h) fun σ H Q q vs H1 s1 d1 => ⟨small (by rw [dpAll_len d1]; exact hl), fun p hp => q _ _ (s1.trans (same_new hp _)) (.lst (SqL.of (dif_at (s1.free hp) upd_same)) (dps_same (dif_l (same_new hp _)) d1))⟩
theorem lit_dict0 {pos : Pos} : PE X (.Dict [] [] pos) (tLit X.K (.dict (dictD []))) := pe_imp pe_dnewK fun σ H Q q p hp => q _ _ (same_new hp _) (.dct (ms := []) (dif_at hp upd_same))
theorem lit_dict1 {i k : Int} {j1 j2 : Nat} {p1 p2 pos : Pos} : PE X (.Dict [some (.Constant (.int i) j1 p1)] [.Constant (.int k) j2 p2] pos) (tLit X.K (.dict (dictD [(i, k)]))) :=
  pe_imp (pe_disp (pps_cons pe_int pe_int pps_nil) rfl rfl (by simp) (by show 1 ≤ 15; decide)) fun σ H Q q p hp => ⟨upd_same, [(Sum.inl i, V.int k)], rfl, by show 1 ≤ 15; decide, by
    rw [upd_upd]
    exact q _ _ (same_new hp _) (.dct (ms := [(i, k)]) (dif_at hp upd_same))⟩
end
section
variable {X : Cx}
theorem lit_big {j1 j2 : Nat} {p1 p2 pos : Pos} : PE X (.BinOp (.Constant (.int 10) j1 p1) .Pow (.Constant (.int 29) j2 p2) pos) (tLit X.K (.int (10 ^ 29))) := pe_imp (pe_op op_pow pe_int pe_int) fun σ H Q q => ⟨_, _, rfl, rfl, ⟨by decide, by decide, by decide⟩, q _ H (Same.refl _) (.int _)⟩
theorem lit_low {j0 j1 j2 : Nat} {p0 p1 p2 p3 pos : Pos} : PE X (.BinOp (.Constant (.int 0) j0 p0) .Sub (.BinOp (.Constant (.int 10) j1 p1) .Pow (.Constant (.int 29) j2 p2) p3) pos) (tLit X.K (.int (0 - 10 ^ 29))) := pe_imp (pe_op op_sub pe_int (pe_op op_pow pe_int pe_int)) fun σ H Q q => ⟨_, _, rfl, rfl, ⟨by decide, by decide, by decide⟩, _, _, rfl, rfl, q _ H (Same.refl _) (.int _)⟩
end
/-- all but the state's list -/
def mn (st : Addr) (H : Hp) : Hp := fun b => if b = st then none else H b
theorem mn_at {st p : Addr} {H : Hp} {o : HO} (n : p ≠ st) (h : H p = some o) : mn st H p = some o := by
  unfold mn
  rw [if_neg n]
  exact h
theorem mn_some {st p : Addr} {H : Hp} {o : HO} (h : mn st H p = some o) : p ≠ st ∧ H p = some o := by
  unfold mn at h
  by_cases e : p = st
  · rw [if_pos e] at h
    cases h
  · rw [if_neg e] at h
    exact ⟨e, h⟩
theorem mn_kp {st : Addr} {H H' : Hp} (k : Kp st H H') : Same (mn st H) (mn st H') := fun b o h => by
  obtain ⟨n, h⟩ := mn_some h
  exact mn_at n (k b o n h)
theorem mn_in {st : Addr} {H : Hp} : Same (mn st H) H := fun b o h => (mn_some h).2
theorem mn_dif {st : Addr} {H H' : Hp} (s : ∃ l, H st = some l) : Same (dif H H') (mn st H') := fun b o h => by
  obtain ⟨h1, h2⟩ := dif_some h
  obtain ⟨l, hl⟩ := s
  exact mn_at (ne_of_none hl h1).symm h2
/-! tuples cut and put together, the tokens of the empty and the whole ones told alike -/
section
variable {K : PySem.W.Frag}
theorem catA_run {H : Hp} {a b : Addr} {xs ys : List V} {Q : VK} (ha : SqT K H a xs) (hb : SqT K H b ys) (hz : xs.length + ys.length ≤ 1000) (q : ∀ r H', Same H H' → SqT K H' r (xs ++ ys) → Q (.ref r) H') : rCatA K (.ref a) (.ref b) H Q := by
  refine ⟨a, b, xs, ys, rfl, rfl, ha, hb, small hz, fun e => ?_, fun _ e => ?_, fun _ _ p hp => q p _ (same_new hp _) (SqT.of upd_same)⟩
  · subst e
    exact q b H (Same.refl _) hb
  · subst e
    exact q a H (Same.refl _) (by rw [List.append_nil]; exact ha)
theorem slA_run {H : Hp} {a : Addr} {xs : List V} {lo hi : Option Int} {Q : VK} (ha : SqT K H a xs) (q : ∀ r H', Same H H' → SqT K H' r (cutV xs lo hi) → Q (.ref r) H') : rSlA K (.ref a) lo hi H Q := by
  refine ⟨a, xs, rfl, ha, fun wh => ?_, fun _ p hp => q p _ (same_new hp _) (SqT.of upd_same)⟩
  refine q a H (Same.refl _) ?_
  unfold cutV
  rw [wh.1, wh.2, Nat.sub_zero, List.drop_zero, List.take_length]
  exact ha
theorem cut_to {xs : List V} {b : Int} (h0 : 0 ≤ b) (h1 : b ≤ xs.length) : cutV xs none (some b) = xs.take b.toNat := by
  obtain ⟨n, rfl⟩ : ∃ n : Nat, b = n := ⟨b.toNat, by omega⟩
  unfold cutV
  rw [HT.sIx_none, HT.sIx_nat, List.drop_zero, Nat.sub_zero, Nat.min_eq_left (by omega)]
  rfl
theorem cut_from {xs : List V} {b : Int} (h0 : 0 ≤ b) (h1 : b ≤ xs.length) : cutV xs (some b) none = xs.drop b.toNat := by
  obtain ⟨n, rfl⟩ : ∃ n : Nat, b = n := ⟨b.toNat, by omega⟩
  unfold cutV
  rw [HT.sIx_none, HT.sIx_nat, Nat.min_eq_left (by omega)]
  have e : xs.length - n = (xs.drop n).length := by rw [List.length_drop]
  rw [e, List.take_length]
  rfl
theorem set_split {α : Type} : ∀ (xs : List α) (b : Nat) (v : α), b < xs.length → xs.take b ++ [v] ++ xs.drop (b + 1) = xs.set b v
  | x :: r, 0, v, _ => rfl
  | x :: r, b + 1, v, h => by
    have ih := set_split r b v (by simpa using h)
    simp only [List.take_succ_cons, List.cons_append, List.drop_succ_cons, List.set_cons_succ]
    rw [ih]
theorem dpAll_set {H : Hp} {v : V} {d : PyData} (h : Dp K H v d) : ∀ {xs : List V} {ds : List PyData} (i : Nat), DpAll K H xs ds → DpAll K H (xs.set i v) (ds.set i d)
  | _, _, _, .nil => .nil
  | _, _, 0, .cons _ t => .cons h t
  | _, _, i + 1, .cons a t => .cons a (dpAll_set h i t)
end
section
theorem depth_all {k : Nat} : ∀ {l : List PyData}, (∀ z ∈ l, z.depth ≤ k) → PyData.depthAll l ≤ k
  | [], _ => by simp only [PyData.depthAll]; exact Nat.zero_le _
  | u :: v, h => by
    have h1 := h u List.mem_cons_self
    have h2 := depth_all (l := v) fun z hz => h z (List.mem_cons_of_mem _ hz)
    simp only [PyData.depthAll]
    omega
theorem short_all {B : Nat} : ∀ {l : List PyData}, (∀ z ∈ l, z.leavesShort B = true) → PyData.leavesShortAll B l = true
  | [], _ => by simp only [PyData.leavesShortAll]
  | u :: v, h => by
    simp only [PyData.leavesShortAll, Bool.and_eq_true]
    exact ⟨h u List.mem_cons_self, short_all fun z hz => h z (List.mem_cons_of_mem _ hz)⟩
theorem show_all : ∀ {l : List PyData}, (∀ z ∈ l, z.showable = true) → PyData.showableAll l = true
  | [], _ => by simp only [PyData.showableAll]
  | u :: v, h => by
    simp only [PyData.showableAll, Bool.and_eq_true]
    exact ⟨h u List.mem_cons_self, show_all fun z hz => h z (List.mem_cons_of_mem _ hz)⟩
theorem bulk_all {k : Nat} : ∀ {l : List PyData}, (∀ z ∈ l, z.bulk ≤ k) → PyData.bulkAll l ≤ (k + 1) * l.length
  | [], _ => by simp only [PyData.bulkAll]; exact Nat.zero_le _
  | u :: v, h => by
    have h1 := h u List.mem_cons_self
    have h2 := bulk_all (l := v) fun z hz => h z (List.mem_cons_of_mem _ hz)
    simp only [PyData.bulkAll, List.length_cons]
    rw [Nat.mul_add]
    omega
theorem bulk_app : ∀ (a b : List PyData), PyData.bulkAll (a ++ b) = PyData.bulkAll a + PyData.bulkAll b
  | [], b => by simp [PyData.bulkAll]
  | x :: a, b => by
    simp only [List.cons_append, PyData.bulkAll]
    rw [bulk_app a b]
    omega
theorem bulk_set : ∀ {l : List PyData} {i : Nat} {e e' : PyData}, l[i]? = some e → PyData.bulkAll (l.set i e') + e.bulk = PyData.bulkAll l + e'.bulk
  | x :: l, 0, e, e', h => by
    cases h
    simp only [List.set_cons_zero, PyData.bulkAll]
    omega
  | x :: l, i + 1, e, e', h => by
    have := bulk_set (l := l) (i := i) (e := e) (e' := e') h
    simp only [List.set_cons_succ, PyData.bulkAll]
    omega
theorem bulk_cut (l : List PyData) (i : Nat) : PyData.bulkAll (l.take i) + PyData.bulkAll (l.drop i) = PyData.bulkAll l := by
  rw [← bulk_app, List.take_append_drop]
theorem bulk_drop (l : List PyData) (i : Nat) : PyData.bulkAll (l.drop i) ≤ PyData.bulkAll l := by
  have := bulk_cut l i
  omega
theorem sqT_mn {K : PySem.W.Frag} {H : Hp} {st r : Addr} {xs : List V} (sa : StAt H st) (h : SqT K H r xs) : SqT K (mn st H) r xs := by
  obtain ⟨l, hl⟩ := sa.some
  rcases h with (h | ⟨o, h⟩) | h
  · exact .inl (.inl (mn_at (fun e => by rw [e, hl] at h; cases h) h))
  · exact .inl (.inr ⟨o, mn_at (fun e => by rw [e, hl] at h; cases h) h⟩)
  · exact .inr h
theorem sqT_same {K : PySem.W.Frag} {H H' : Hp} {r : Addr} {xs : List V} (s : Same H H') (h : SqT K H r xs) : SqT K H' r xs := sqT_kt (KT.of_same s) h
theorem dpAll_take {K : PySem.W.Frag} {H : Hp} : ∀ {vs : List V} {ds : List PyData} (i : Nat), DpAll K H vs ds → DpAll K H (vs.take i) (ds.take i)
  | _, _, 0, _ => by simp only [List.take_zero]; exact .nil
  | _, _, i + 1, .nil => .nil
  | _, _, i + 1, .cons a t => by simp only [List.take_succ_cons]; exact .cons a (dpAll_take i t)
theorem dpAll_drop {K : PySem.W.Frag} {H : Hp} : ∀ {vs : List V} {ds : List PyData} (i : Nat), DpAll K H vs ds → DpAll K H (vs.drop i) (ds.drop i)
  | _, _, 0, h => by simp only [List.drop_zero]; exact h
  | _, _, i + 1, .nil => .nil
  | _, _, i + 1, .cons a t => by simp only [List.drop_succ_cons]; exact dpAll_drop i t
theorem cut_from0 {xs : List V} {b : Int} (h0 : 0 ≤ b) : cutV xs (some b) none = xs.drop b.toNat := by
  by_cases h1 : b ≤ xs.length
  · exact cut_from h0 h1
  · obtain ⟨n, rfl⟩ : ∃ n : Nat, b = n := ⟨b.toNat, by omega⟩
    unfold cutV
    rw [HT.sIx_none, HT.sIx_nat, Nat.min_eq_right (by omega), Nat.sub_self, List.take_zero]
    exact (List.drop_eq_nil_of_le (by omega)).symm
theorem noP {σ : L2.St} {H : Hp} {Q : Option Int → Hp → Prop} (h : Q none H) : tNoPart σ H Q := h
theorem pick_dp {K : PySem.W.Frag} {H : Hp} {vs : List V} {ds : List PyData} {r : Int} (h : DpAll K H vs ds) (r0 : 0 ≤ r) (r1 : r < ds.length) : ∃ v d, atI vs r = some v ∧ Dp K H v d ∧ d ∈ ds := by
  have hl := dpAll_len h
  have hr : r.toNat < vs.length := by omega
  obtain ⟨d, hd, hdp⟩ := dpAll_get' h (List.getElem?_eq_getElem hr)
  exact ⟨_, d, atI_at r0 (List.getElem?_eq_getElem hr), hdp, List.mem_of_getElem? hd⟩
theorem pss_imp {X : Cx} {sts : List Stmt} {t t' : TS} (h : PSs X sts t) (w : ∀ D σ H, t' D σ H → t D σ H) : PSs X sts t' := ⟨fun pins s σ H D I q => h.run pins s σ H D I (w _ _ _ q)⟩
end
/-! a tuple against the empty one, a list against the empty one -/
section
variable {X : Cx}
def rNeE (K : PySem.W.Frag) : R2 := fun x y H Q => ∃ a b xs, x = .ref a ∧ y = .ref b ∧ SqT K H a xs ∧ SqT K H b [] ∧ Q (.bl (!xs.isEmpty)) H
theorem op_neE (hu : X.A.units + 64 < cLine) : OpR X (compareOp .NotEq) (rNeE X.K) := by
  intro pins s σ H x y v u Q I rx ry h
  obtain ⟨a, b, xs, rfl, rfl, ha, hb, q⟩ := h
  cases rx
  cases ry
  obtain ⟨its, r1, ⟨o1, g1, c1, n1, d1⟩, _⟩ := I.tuple ha
  obtain ⟨its2, r2, ⟨o2, g2, c2, n2, d2⟩, _⟩ := I.tuple hb
  cases r2
  refine SeqAt.RcNeAt.tuples (e := fun _ => true) ⟨o1, g1, c1, n1, d1⟩ ⟨o2, g2, c2, n2, d2⟩ (by omega) (fun j _ h2 => absurd h2 (by simp)) X.prog X.w _ _ ⟨.bl (!xs.isEmpty), H, I, ?_, q⟩
  have l := r1.length
  cases xs with
  | nil =>
    cases r1
    rfl
  | cons z zs =>
    cases r1 with
    | cons _ _ => rfl
def rNeLE (K : PySem.W.Frag) : R2 := fun x y H Q => ∃ a b xs, x = .ref a ∧ y = .ref b ∧ SqL K H a xs ∧ SqL K H b [] ∧ Q (.bl (!xs.isEmpty)) H
theorem op_neLE (hu : X.A.units + 64 < cLine) : OpR X (compareOp .NotEq) (rNeLE X.K) := by
  intro pins s σ H x y v u Q I rx ry h
  obtain ⟨a, b, xs, rfl, rfl, ha, hb, q⟩ := h
  cases rx
  cases ry
  obtain ⟨its, r1, ⟨o1, n1, g1, c1, _, d1⟩, _⟩ := I.list ha
  obtain ⟨its2, r2, ⟨o2, n2, g2, c2, _, d2⟩, _⟩ := I.list hb
  cases r2
  cases xs with
  | nil =>
    cases r1
    exact SeqAt.RcNeAt.lists (e := fun _ => true) ⟨o1, g1, c1, n1, d1⟩ ⟨o2, g2, c2, n2, d2⟩ rfl (by omega) (fun j _ h2 => absurd h2 (by simp)) X.prog X.w _ _ ⟨.bl false, H, I, rfl, q⟩
  | cons z zs =>
    cases r1 with
    | cons _ _ => exact SeqAt.RcNeAt.lists_lengths ⟨o1, g1, c1, n1, d1⟩ ⟨o2, g2, c2, n2, d2⟩ (by simp) (by omega) X.prog X.w _ _ ⟨.bl true, H, I, rfl, q⟩
end
/-! t[::-1] -/
section
open PySem.Spec PyProof.Rows
theorem fm_congr {α β : Type} {f g : α → Option β} : ∀ {l : List α}, (∀ k ∈ l, f k = g k) → l.filterMap f = l.filterMap g
  | [], _ => rfl
  | x :: r, h => by rw [List.filterMap_cons, List.filterMap_cons, h x List.mem_cons_self, fm_congr fun k hk => h k (List.mem_cons_of_mem _ hk)]
theorem rev_pick (xs : Array Value) : ((List.range xs.size).filterMap fun (k : Nat) => xs[(((xs.size : Int) - 1) + (k : Int) * (-1)).toNat]?) = xs.toList.reverse := by
  have e : ∀ k ∈ List.range xs.size, xs[(((xs.size : Int) - 1) + (k : Int) * (-1)).toNat]? = some (xs.toList.reverse.getD k .none) := fun k hk => by
    have hk : k < xs.size := List.mem_range.mp hk
    have e1 : (((xs.size : Int) - 1) + (k : Int) * (-1)).toNat = xs.size - 1 - k := by omega
    have h2 : k < xs.toList.reverse.length := by simpa using hk
    rw [e1, List.getD_eq_getElem?_getD, List.getElem?_eq_getElem h2, List.getElem_reverse, Array.getElem?_eq_getElem (by omega)]
    simp
  rw [fm_congr e]
  refine List.ext_getElem? fun i => ?_
  rw [show (fun k => some (xs.toList.reverse.getD k Value.none)) = (some ∘ fun k => xs.toList.reverse.getD k Value.none) from rfl, List.filterMap_eq_map, List.getElem?_map]
  by_cases hi : i < xs.size
  · have h2 : i < xs.toList.reverse.length := by simpa using hi
    rw [List.getElem?_range hi, List.getElem?_eq_getElem h2]
    simp [List.getD_eq_getElem?_getD, List.getElem?_eq_getElem h2]
  · rw [List.getElem?_eq_none (by simpa using hi), List.getElem?_eq_none (by simpa using hi)]
    rfl
variable {prog : Program} {w : World} {A : Around} {E : Value → Shared → Prop} {s : Shared}
theorem getItem_tuple_rev {t sl : Addr} {items : Array Value} {u : Tok} {Q : Value → Shared → Prop} (ht : IsTup s.heap t items) (hs : s.heap.IsSliceOf sl .none .none (.int (-1) u))
    (h : Q (.ref s.heap.objs.size) { s with heap := s.heap.push { cls := .type "tuple", data := .seq items.toList.reverse.toArray } })
    (hsz : items.size ≤ sizeLine) : wpAny (model prog w) A (getItem (.ref t) (.ref sl)) Q E s := by
  have htake : sizeOk (.seq items.toList.reverse.toArray) := by
    show items.toList.reverse.toArray.size ≤ sizeLine
    rw [List.size_toArray, List.length_reverse, Array.length_toList]
    exact hsz
  obtain ⟨so, so1, so2, so3⟩ := id hs
  have slot := PyProof.Rows.slot_tuple_getitem
  have tt := ht.typeIs
  unfold getItem; (try with_reducible refine wpAny_holding ?_); (first | refine wpAny_bind (wpAny_pure ?_) | skip); refine wpAny_bind (wpAny_sequenceKey tt (by decide) ?_)
  refine wpAny_bind (wpAny_callSpecial?_slot (name := Str.ofString "__getitem__") tt slot (wpAny_call_entry slot tt entry_tuple_getitem ?_ (args_tuple_getitem _ _)))
  show wpAny _ _ (Builtin.Tuple.tupleItemsOf (.ref t) >>= _) _ _ s; refine wpAny_bind (tupleItemsOf_ ht (wpAny_bind (wpAny_typeOf ⟨so, so1, so2⟩ ?_))); rw [if_pos (by decide)]
  have places : Builtin.Slice.slicePlaces ((items.size : Int) - 1) (-1) (-1) = items.size := by
    unfold Builtin.Slice.slicePlaces
    rw [if_neg (by decide)]
    by_cases c : (items.size : Int) - 1 > -1
    · rw [if_pos c]
      show (((items.size : Int) - 1 - -1 - 1) / 1 + 1).toNat = _
      rw [Int.ediv_one]
      omega
    · rw [if_neg c]
      omega
  have applied : ∀ {Q : Int × Int × Nat → Shared → Prop}, Q ((items.size : Int) - 1, -1, items.size) s → wpAny (model prog w) A.in1 (Builtin.Slice.sliceApplied (.ref sl) (pure (items.size : Int))) Q E s := fun {Q} h => by
    unfold Builtin.Slice.sliceApplied Builtin.Slice.sliceFields
    refine wpAny_bind (wpAny_bind (wpAny_field so1 so3 (x := .none) rfl (wpAny_bind (wpAny_field so1 so3 (x := .none) rfl (wpAny_bind (wpAny_field so1 so3 (x := .int (-1) u) rfl (wpAny_pure ?_)))))))
    refine wpAny_bind (slicePart_int ?_)
    show wpAny _ _ (if ((-1 : Int) == 0) = true then _ else _) _ _ s
    rw [if_neg (by decide)]
    refine wpAny_bind (slicePart_none (wpAny_bind (slicePart_none (wpAny_bind (wpAny_pure ?_)))))
    show wpAny _ _ (pure ((items.size : Int) - 1, (-1 : Int), Builtin.Slice.slicePlaces ((items.size : Int) - 1) (-1) (-1))) _ _ s
    rw [places]
    exact wpAny_pure h
  refine wpAny_bind (applied ?_)
  show wpAny _ _ (if ((items.size : Int) - 1 == 0 && (-1 : Int) == 1 && items.size == items.size) = true then _ else _) _ _ s
  rw [if_neg (by simp), rev_pick]
  refine wpAny_bind (m := Builtin.Tuple.tupleExact _) (wpAny_newObj_type (wpAny_pure ⟨_, rfl, wpAny_pure h⟩) htake)
end
section
open PySem.Spec PyProof.Rows
def tRev (K : PySem.W.Frag) (te : TE) : TE := fun σ H Q => te σ H fun x H1 => ∃ a xs, x = .ref a ∧ SqT K H1 a xs ∧ ∀ p, H1 p = none → Q (.ref p) (upd H1 p (.tup xs.reverse))
theorem pe_rev {X : Cx} {e : Expr} {te : TE} {j : Nat} {p1 p2 p3 pos : Pos} (he : PE X e te) : PE X (.Subscript e (.Slice none none (some (.UnaryOp .USub (.Constant (.int 1) j p1) p2)) p3) pos) (tRev X.K te) := by
  refine ⟨fun pins s σ H Q I h => ?_⟩
  refine Subscript_ (thn (he.run pins s σ H _ I h) fun v s1 ⟨x, H1, I1, r1, q1⟩ => ?_)
  obtain ⟨a, xs, rfl, hx, q⟩ := q1
  cases r1
  refine wpAny_Slice ?_
  rw [evalPart_none, evalPart_some]
  refine wpAny_pure (wpAny_pure ?_)
  refine thn ((pe_un (X := X) un_neg (pe_int (X := X) (i := 1) (j := j) (pos := p1))).run pins s1 σ H1 (fun v H' => v = .int (-1) ∧ H' = H1) I1 ⟨1, rfl, rfl, rfl⟩) fun u s2 ⟨z, H2, I2, r2, e1, e2⟩ => ?_
  subst e1 e2
  obtain ⟨t, rfl⟩ := r2
  have I4 : Inv X pins σ H2 { s2 with heap := s2.heap.push { cls := .type "slice", data := .fields #[.none, .none, .int (-1) t] } } := I2.kept (t' := s2.toks) fun b ob q => Heap.get?_push_of_some _ q
  obtain ⟨its, r, ht, hz⟩ := I4.tuple hx
  have hlen : its.toArray.size = xs.length := by rw [List.size_toArray]; exact r.length.symm
  refine tail_any (ops := [.ref a, .ref s2.heap.objs.size]) ht.typeIs PyProof.Rows.slot_tuple_getitem.lookup ?_ (by with_unfolding_all rfl)
  refine getItem_tuple_rev ht (Heap.IsSliceOf.new ..) ?_ (by rw [hlen]; exact hz)
  refine ⟨.ref _, _, I4.laid (t' := s2.toks) (o := .tup xs.reverse) (fun b ob q => Heap.get?_push_of_some _ q) (Nat.le_refl _) ?_, rfl, q _ (I4.hok.fresh (Nat.le_refl _))⟩
  exact ⟨by rw [List.length_reverse]; exact hz, _, r.reverse, IsTup.new _ _⟩
end
/-! flat code: tests, deeds with a last part, rows -/
def handL : List Str := ["let", "hang", "pick", "send"]
def wayL : List Str := ["copy", "give"]
def testD : PyData → Bool
  | .tuple [.str z, e] => decide (z = "test") && numNameD e
  | _ => false
def flatD (ss ts : List Int) : PyData → Bool
  | .tuple (.str z :: ds) => if z ∈ handL then (wayL.any fun y => isStrD y ((PyData.str z :: ds).getLastD .none)) && deedD ss ts (.tuple (PyData.str z :: ds).dropLast) else deedB ss ts z ds
  | _ => false
theorem word_tup {d : PyData} (h : wordD d ≠ "") : ∃ z ds, d = .tuple (.str z :: ds) ∧ wordD d = z := by
  unfold wordD at h ⊢
  split at h
  · exact ⟨_, _, rfl, rfl⟩
  · exact absurd rfl h
theorem hand_ne {z : Str} (h : z ∈ handL) : z ≠ "" := fun e => by
  rw [e] at h
  exact absurd h (by decide +kernel)
theorem last_snoc {α : Type} (x : α) (xs : List α) (d : α) : ∃ (ys : List α) (y : α), x :: xs = ys ++ [y] ∧ (x :: xs).getLastD d = y ∧ (x :: xs).dropLast = ys := by
  refine ⟨(x :: xs).dropLast, (x :: xs).getLast (by simp), (List.dropLast_concat_getLast (by simp)).symm, ?_, rfl⟩
  rw [List.getLastD_eq_getLast?, List.getLast?_eq_some_getLast (by simp)]
  rfl
theorem dpAll_split {K : PySem.W.Frag} {H : Hp} : ∀ {es : List PyData} {e : PyData} {vs : List V}, DpAll K H vs (es ++ [e]) → ∃ us u, vs = us ++ [u] ∧ DpAll K H us es ∧ Dp K H u e
  | [], e, _, .cons h1 h2 => by
    cases h2
    exact ⟨[], _, rfl, .nil, h1⟩
  | d :: es, e, _, .cons h1 h2 => by
    obtain ⟨us, u, rfl, a, b⟩ := dpAll_split h2
    exact ⟨_ :: us, u, rfl, .cons h1 a, b⟩
theorem cut_last (us : List V) (u : V) : cutV (us ++ [u]) none (some (-1)) = us := by
  unfold cutV HT.sIx
  simp only [List.length_append, List.length_singleton]
  have e : ((-1 : Int) + ((us.length + 1 : Nat) : Int)).toNat = us.length := by omega
  simp [show (-1 + ((us.length : Int) + 1)).toNat = us.length by omega]
theorem sl_last (us : List V) (u : V) : ¬ (HT.sIx (us ++ [u]).length 0 none = 0 ∧ HT.sIx (us ++ [u]).length (us ++ [u]).length (some (-1)) = (us ++ [u]).length) := by
  unfold HT.sIx
  simp
  omega
theorem at_last (us : List V) (u : V) : atI (us ++ [u]) (-1) = some u := by
  have e : ixN (us ++ [u]).length (-1) = some us.length := by
    unfold ixN
    rw [if_neg (by decide), if_pos (by rw [List.length_append, List.length_singleton]; omega)]
    congr 1
    rw [List.length_append, List.length_singleton]
    omega
  unfold atI
  rw [e]
  simp
theorem bk_sub {es : List PyData} {e : PyData} (h : BkOk (.tuple (es ++ [e]))) : BkOk (.tuple es) := by
  unfold BkOk at h ⊢
  simp only [PyData.bulk] at h ⊢
  rw [bulk_app] at h
  omega
theorem andT2 {a b : Bool} (h1 : a = true) (h2 : b = true) : (a && b) = true := by rw [h1, h2]; rfl
section
open PySem.Spec PyProof.Rows LamX
variable {P : Program} {w : World} {K : PySem.W.Frag} {mg : Str → Option Value} {base : Heap} {f : Addr} {fd : FuncData}
/-! hands_on -/
def spHands (K : PySem.W.Frag) : Sp := fun vs H Q _ => ∃ (x : V) (z : Str) (ds : List PyData), vs = [x] ∧ Dp K H x (.tuple (.str z :: ds)) ∧ Q (.bl (decide (z ∈ handL))) H
theorem scHands : FnScope ["deed"] ["deed"] (defScope sHands) := ⟨rfl, rfl, rfl, by decide +kernel, rfl, by decide +kernel, by decide +kernel⟩
theorem ok_hands {k : Nat} {ha : Addr} (F : Fun K "hands_on" "hands_on" sHands f fd) (hH : mg "HANDING" = some (.ref ha)) (hHL : SqK K ha (handL.map V.str)) : FnOk P w K mg base CX0 (k + 1) f fd ["deed"] (spHands K) := by
  refine F.ok scHands (fun vs H Q E h => ?_) (fun cdv A outer s H vs Q E hr h => ?_)
  · obtain ⟨x, z, ds, rfl, _⟩ := h
    rfl
  obtain ⟨x, z, ds, rfl, hx, q⟩ := h
  refine ⟨_, pss_one (ps_ret (pe_cmpR op_inTS (pe_ix ix_tup (pv 0) pe_int (fun _ _ => rfl)) (pe_glob (v := .ref ha) rfl hH rfl) rfl)), ?_⟩
  cases hx with
  | @tup a xs _ at_ each =>
    cases each with
    | @cons y ys _ _ h1 h2 =>
      cases h1
      exact ⟨_, rfl, a, _, 0, _, rfl, rfl, at_, atI_at (by decide) rfl, z, ha, handL, rfl, rfl, .inr (hHL.at H), q⟩
/-! is_test -/
def spTest (K : PySem.W.Frag) (PT : List Addr) : Sp := fun vs H Q _ => ∃ (x : V) (d : PyData), vs = [x] ∧ Dp K H x d ∧ BkOk d ∧ TabsG PT H ∧ ∀ H', ExtN H H' → TabsG PT H' → Q (.bl (testD d)) H'
theorem scTest : FnScope ["thing"] ["thing"] (defScope sIsTest) := ⟨rfl, rfl, rfl, by decide +kernel, rfl, by decide +kernel, by decide +kernel⟩
theorem ok_test {k : Nat} {PT : List Addr} (F : Fun K "is_test" "is_test" sIsTest f fd) (T : Free mg) (cWo : Cal P w K mg base "word_of" k ["thing"] (spWordOf K)) (cN : Cal P w K mg base "is_number_name" k ["thing"] (spName K PT numNameD)) : FnOk P w K mg base CX0 (k + 1) f fd ["thing"] (spTest K PT) := by
  refine F.ok scTest (fun vs H Q E h => ?_) (fun cdv A outer s H vs Q E hr h => ?_)
  · obtain ⟨x, d, rfl, _⟩ := h
    rfl
  obtain ⟨x, d, rfl, hx, hk, tb, q⟩ := h
  refine ⟨_, pss_one (ps_ret (pe_and (pe_cmpR op_eq (pe_cal cWo hr rfl (pa_cons (pv 0) pa_nil)) pe_str (nomark _)) (pe_and (pe_cmpR op_eq (pe_callB call_len_seq rfl T.len PySem.boot_len (pa_cons (pv 0) pa_nil)) pe_int (nomark _)) (pe_one (pe_cal cN hr rfl (pa_cons (pe_ix ix_tup (pv 0) pe_int (fun _ _ => rfl)) pa_nil)))))), ?_⟩
  have no : testD d = false → Q (.bl false) H := fun e => by
    have r := q H (ExtN.refl _) tb
    rw [e] at r
    exact r
  refine ⟨_, rfl, x, d, rfl, hx, rfl, _, rfl, ?_⟩
  by_cases c1 : wordD d = "test"
  · refine ifT (by rw [c1]; exact decide_eq_true rfl) ?_
    obtain ⟨z, ds, rfl, e⟩ := word_tup (d := d) (by rw [c1]; decide +kernel)
    have ez : z = "test" := e.symm.trans c1
    cases hx with
    | @tup a xs _ at_ each =>
      have lx := dpAll_len each
      refine ⟨_, rfl, a, xs, rfl, .inr at_, rfl, _, rfl, ?_⟩
      by_cases c2 : xs.length = 2
      · refine ifT (by rw [c2]; exact decide_eq_true rfl) ?_
        match ds, (show ds.length = 1 by rw [List.length_cons] at lx; omega) with
        | [e1], _ =>
          cases each with
          | @cons y ys _ _ h1 h2 =>
            cases h2 with
            | @cons y2 ys2 _ _ h3 h4 =>
              cases h4
              refine ⟨_, rfl, a, _, 1, y2, rfl, rfl, at_, atI_at (by decide) rfl, y2, e1, rfl, h3, bk_txt (bk_mem hk (by simp)), tb, fun H' e' t' => ?_⟩
              have r := q H' e' t'
              rw [show testD (.tuple [.str z, e1]) = (decide (z = "test") && numNameD e1) from rfl, decide_eq_true ez, Bool.true_and] at r
              exact r
      · refine ifF (decide_eq_false fun e => c2 (by injection e with e; omega)) (no ?_)
        unfold testD
        split
        · rename_i h
          rw [List.length_cons] at lx
          injection h with h
          injection h with _ h
          rw [h] at lx
          exact absurd lx c2
        · rfl
  · refine ifF (decide_eq_false fun e => c1 (by injection e)) (no ?_)
    unfold testD
    split
    · rename_i z e
      rw [decide_eq_false (fun h => c1 (by rw [h]; rfl)), Bool.false_and]
    · rfl
/-! is_flat_deed -/
def spFlatDeed (K : PySem.W.Frag) (PT : List Addr) : Sp := fun vs H Q _ => ∃ (x : V) (d : PyData) (a b : Addr) (ss ts : List Int), vs = [x, .ref a, .ref b] ∧ Dp K H x d ∧ BkOk d ∧ SqT K H a (ss.map V.int) ∧ SqT K H b (ts.map V.int) ∧ TabsG PT H ∧ ∀ H', ExtN H H' → TabsG PT H' → Q (.bl (flatD ss ts d)) H'
theorem scFlatDeed : FnScope ["thing", "sends", "takes"] ["thing", "sends", "takes"] (defScope sFlatDeed) := ⟨rfl, rfl, rfl, by decide +kernel, rfl, by decide +kernel, by decide +kernel⟩
theorem ok_flatDeed {k : Nat} {PT : List Addr} {ha wa : Addr} (F : Fun K "is_flat_deed" "is_flat_deed" sFlatDeed f fd) (hH : mg "HANDING" = some (.ref ha)) (hHL : SqK K ha (handL.map V.str)) (hW : mg "WAYS" = some (.ref wa)) (hWL : SqK K wa (wayL.map V.str))
    (cWo : Cal P w K mg base "word_of" k ["thing"] (spWordOf K)) (cD : Cal P w K mg base "is_deed" k ["thing", "sends", "takes"] (spIsDeed K PT)) : FnOk P w K mg base CX0 (k + 1) f fd ["thing", "sends", "takes"] (spFlatDeed K PT) := by
  refine F.ok scFlatDeed (fun vs H Q E h => ?_) (fun cdv A outer s H vs Q E hr h => ?_)
  · obtain ⟨x, d, a, b, ss, ts, rfl, _⟩ := h
    rfl
  obtain ⟨x, d, a, b, ss, ts, rfl, hx, hk, hsa, htb, tb, q⟩ := h
  refine ⟨_, pss_cons (ps_if (pt_cmpR op_ninTS (pe_cal cWo hr rfl (pa_cons (pv 0) pa_nil)) (pe_glob (v := .ref ha) rfl hH rfl) rfl) (pss_one (ps_ret (pe_cal cD hr rfl (pa_cons (pv 0) (pa_cons (pv 1) (pa_cons (pv 2) pa_nil)))))) pss_nil)
    (pss_one (ps_ret (pe_and (pe_cmpR (op_inT hr.units) (pe_ix ix_tup (pv 0) (pe_un un_neg pe_int) (fun _ _ => rfl)) (pe_glob (v := .ref wa) rfl hW rfl) rfl) (pe_one (pe_cal cD hr rfl (pa_cons (pe_slice sl_tup (pv 0) po_none (po_some (pe_un un_neg pe_int))) (pa_cons (pv 1) (pa_cons (pv 2) pa_nil)))))))), ?_⟩
  refine ⟨_, rfl, x, d, rfl, hx, wordD d, ha, handL, rfl, rfl, .inr (hHL.at H), _, rfl, ?_⟩
  by_cases c : wordD d ∈ handL
  · refine ifF (by rw [decide_eq_true c]; rfl) ?_
    obtain ⟨z, ds, rfl, e⟩ := word_tup (hand_ne c)
    have hz : z ∈ handL := e ▸ c
    obtain ⟨ys, y, ey, el, ed⟩ := last_snoc (PyData.str z) ds .none
    have dd : flatD ss ts (.tuple (.str z :: ds)) = ((wayL.any fun u => isStrD u y) && deedD ss ts (.tuple ys)) := by
      show (if z ∈ handL then _ else _) = _
      rw [if_pos hz, el, ed]
    cases hx with
    | @tup ta xs _ at_ each =>
      rw [ey] at each hk
      obtain ⟨us, u, rfl, hus, hu⟩ := dpAll_split each
      refine ⟨_, rfl, _, rfl, ta, _, -1, u, rfl, rfl, at_, at_last us u, y, wa, wayL, hu, rfl, hWL.at H, _, rfl, ?_⟩
      cases hw : (wayL.any fun u => isStrD u y) with
      | false =>
        have r := q H (ExtN.refl _) tb
        rw [dd, hw, Bool.false_and] at r
        exact ifF rfl r
      | true =>
        refine ifT rfl ⟨_, rfl, _, rfl, _, rfl, ta, _, rfl, at_, sl_last us u, fun p hp => ?_⟩
        have s0 := same_new hp (.tup (cutV (us ++ [u]) none (some (-1))))
        rw [cut_last] at s0 ⊢
        refine ⟨_, rfl, _, rfl, .ref p, .tuple ys, a, b, ss, ts, rfl, .tup (.of upd_same) (dps_same s0 hus), bk_sub hk, sqT_ext (ext_same s0) hsa, sqT_ext (ext_same s0) htb, tb.same s0, fun H' e' t' => ?_⟩
        have r := q H' ((ext_same s0).trans e') t'
        rw [dd, hw, Bool.true_and] at r
        exact r
  · refine ifT (by rw [decide_eq_false c]; rfl) ⟨_, rfl, _, rfl, _, rfl, x, d, a, b, ss, ts, rfl, hx, hk, hsa, htb, tb, fun H' e' t' => ?_⟩
    have r := q H' e' t'
    have ee : flatD ss ts d = deedD ss ts d := by
      unfold flatD deedD
      split
      · rename_i z ds
        have : wordD (.tuple (.str z :: ds)) = z := rfl
        rw [this] at c
        show (if z ∈ handL then _ else _) = deedB ss ts z ds
        rw [if_neg c]
      · rename_i hn
        first
          | rfl
          | (split
             · exact (hn _ _ rfl).elim
             · rfl)
    rw [ee] at r
    exact r
/-! is_row, are_rows: of such as are -/
def rowD (r : PyData × List Int) : PyData := .tuple [r.1, .tuple (r.2.map .int)]
def rowsD (rs : List (PyData × List Int)) : PyData := .tuple (rs.map rowD)
structure RowF (ss ts : List Int) (many : Int) (r : PyData × List Int) : Prop where
  bk : BkOk r.1
  form : (testD r.1 = true ∧ r.2.length = 2) ∨ (testD r.1 = false ∧ flatD ss ts r.1 = true ∧ r.2.length = 1)
  rng : ∀ n ∈ r.2, -1 ≤ n ∧ n ≤ many - 1
def spIsRow (K : PySem.W.Frag) (PT : List Addr) : Sp := fun vs H Q _ => ∃ (x : V) (r : PyData × List Int) (many : Int) (a b : Addr) (ss ts : List Int), vs = [x, .int many, .ref a, .ref b] ∧ Dp K H x (rowD r) ∧ RowF ss ts many r ∧ SqT K H a (ss.map V.int) ∧ SqT K H b (ts.map V.int) ∧ TabsG PT H ∧ ∀ H', ExtN H H' → TabsG PT H' → Q (.bl true) H'
abbrev NIsRow : List Str := ["thing", "many", "sends", "takes", "deed", "nexts", "wanted", "after"]
theorem scIsRow : FnScope NIsRow ["thing", "many", "sends", "takes"] (defScope sIsRow) := ⟨rfl, rfl, rfl, by decide +kernel, rfl, by decide +kernel, by decide +kernel⟩
/-- from `wanted` on -/
def tRowT (K : PySem.W.Frag) (PT : List Addr) : TS := fun D σ H => ∃ (x y1 y2 : V) (v2 v3 v6 v7 : Option V) (many : Int) (d : PyData) (ns : List Int), σ = [some x, some (.int many), v2, v3, some y1, some y2, v6, v7] ∧ Dp K H y1 d ∧ Dp K H y2 (.tuple (ns.map .int)) ∧ BkOk d ∧ ((testD d = true ∧ ns.length = 2) ∨ (testD d = false ∧ ns.length = 1)) ∧ (∀ n ∈ ns, -1 ≤ n ∧ n ≤ many - 1) ∧ TabsG PT H ∧ ∀ H', ExtN H H' → TabsG PT H' → D.rt (.bl true) H'
theorem ok_isRow {k : Nat} {c Pc : Addr} {PT : List Addr} (F : Fun K "is_row" "is_row" sIsRow f fd) (hc : fd.code = .ref c) (TB : LamX.TabB base mg c Pc) (hPT : Pc ∈ PT) (C : Cst mg) (hA : mg "all" = none) (cT : Cal P w K mg base "is_tuple" k ["thing", "least", "most"] (spTuple K)) (cW : Cal P w K mg base "is_within" k ["thing", "least", "most"] (spWithin K))
    (cE : Cal P w K mg base "is_test" k ["thing"] (spTest K PT)) (cF : Cal P w K mg base "is_flat_deed" k ["thing", "sends", "takes"] (spFlatDeed K PT)) : FnOk P w K mg base CX0 (k + 2) f fd ["thing", "many", "sends", "takes"] (spIsRow K PT) := by
  refine okC F hc scIsRow (fun vs H Q E h => ?_) (fun A outer s H vs Q E hr h => ?_)
  · obtain ⟨x, r, many, a, b, ss, ts, rfl, _⟩ := h
    rfl
  obtain ⟨x, r, many, a, b, ss, ts, rfl, hx, rf, ha, hb, tb, q⟩ := h
  obtain ⟨dd, ns⟩ := r
  have cT' := cT.mono (Nat.le_succ k)
  have cE' := cE.mono (Nat.le_succ k)
  have cF' := cF.mono (Nat.le_succ k)
  refine ⟨_, pss_cons (ps_if (pt_not (pt_val (pe_cal cT' hr rfl (pa_cons (pv 0) (pa_cons pe_int (pa_cons pe_int pa_nil)))))) (pss_one (ps_ret pe_bl)) pss_nil)
    (pss_cons (ps_asg (pv 0) (pg_tup rfl (pgs_cons (pg_name (i := 4) scIsRow.nd rfl (.inl rfl)) (pgs_cons (pg_name (i := 5) scIsRow.nd rfl (.inl rfl)) pgs_nil))))
    (pss_cons (ps_if (PW.pt (pw_and (pt_not (pt_val (pe_cal cE' hr rfl (pa_cons (pv 4) pa_nil)))) (pw_and1 (pt_not (pt_val (pe_cal cF' hr rfl (pa_cons (pv 4) (pa_cons (pv 2) (pa_cons (pv 3) pa_nil))))))))) (pss_one (ps_ret pe_bl)) pss_nil)
    (pss_imp (t' := tRowT K PT) (pss_cons (ps_set (i := 6) scIsRow.nd rfl (.inl rfl) (pe_ifExp (pt_val (pe_cal cE' hr rfl (pa_cons (pv 4) pa_nil))) pe_int pe_int))
    (pss_one (ps_ret (pe_and (pe_cal cT' hr rfl (pa_cons (pv 5) (pa_cons (pv 6) (pa_cons (pv 6) pa_nil)))) (pe_one (pe_allG (own := [("after", 7)]) (wi := iTup K (tVar 5)) (g := gName 7) (tt := tYes) (te := tCall (spWithin K) [] E0 (tCons (tVar 7) (tCons (tC (.int (-1))) (tCons (tOp (rI0 fun i j => .int (i - j)) (tVar 1) (tC (.int 1))) tNil)))) scIsRow.nd hr rfl hA (by decide +kernel) TB rfl
      (blkOk_by (own := [("after", 7)]) (N := NIsRow) (sc := defScope sIsRow) (by decide +kernel)) (by decide +kernel) rfl rfl (pi_tup (pv 5))
      (fun _ _ _ _ _ _ _ _ _ _ => pg_name (i := 7) scIsRow.nd rfl (Or.inl rfl)) (fun _ _ _ _ _ _ _ _ _ _ => pts_nil)
      (fun _ _ _ _ _ _ _ _ _ hr' => pe_cal cW hr' rfl (pa_cons (pv 7) (pa_cons (pe_globI rfl C.fin) (pa_cons (pe_op op_sub (pv 1) pe_int) pa_nil)))) (fun _ => rfl))))))) ?tail))), ?_⟩
  case tail =>
    intro D σ G h
    obtain ⟨x, y1, y2, v2, v3, v6, v7, many, d, ns, rfl, h1, h2, hk, fm, rg, tb, q⟩ := h
    refine ⟨_, rfl, y1, d, rfl, h1, hk, tb, fun H1 e1 t1 => ⟨_, rfl, ?_⟩⟩
    have h2' := dp_ext e1 _ _ h2
    have wi : ∀ m ∈ ns, withinD (-1) (many - 1) (.int m) = true := fun m hm => by
      show (decide ((-1 : Int) ≤ m) && decide (m ≤ many - 1)) = true
      rw [decide_eq_true (rg m hm).1, decide_eq_true (rg m hm).2]
      rfl
    cases h2' with
    | @tup ta xs _ at_ each =>
      have walk : ∀ H2, GxR.Tabbed Pc H1 H2 → ∃ W : Nat → Nat → Hp → Prop, (∃ m, W 0 m H2) ∧ gxTurn (Itt K ta) (gName 7) tYes (tCall (spWithin K) [] E0 (tCons (tVar 7) (tCons (tC (.int (-1))) (tCons (tOp (rI0 fun i j => .int (i - j)) (tVar 1) (tC (.int 1))) tNil)))) [7] [some x, some (.int many), v2, v3, some y1, some (.ref ta), some (.int ns.length), none] true (fun H => D.rt (.bl true) H) (fun H => D.rt (.bl (!true)) H) W := fun H2 b2 => by
        have e2 := tabbed_ext (t1 Pc hPT) b2
        refine gx_tup (xs := xs) (fun i H' => H' = H2) rfl (fun i H' _ h => ?_) (fun i y H' hy h => ?_) (fun H' h => ?_)
        · rw [h]
          exact sqT_ext e2 at_
        · subst h
          obtain ⟨e, he, hey⟩ := dpAll_get' each hy
          rw [List.getElem?_map] at he
          obtain ⟨m, hm, rfl⟩ := Option.map_eq_some_iff.mp he
          exact ⟨rfl, yesG ⟨_, rfl, _, rfl, _, _, rfl, rfl, y, _, -1, many - 1, rfl, dp_ext e2 _ _ hey, _, rfl, fun c => rfl, fun c => absurd (wi m (List.mem_of_getElem? hm)) c⟩⟩
        · subst h
          exact q _ (e1.trans e2) (t1.tabbed b2)
      rcases fm with ⟨f1, f2⟩ | ⟨f1, f2⟩
      · rw [f1]
        rw [f2] at walk
        refine ifT rfl ⟨_, rfl, _, rfl, _, rfl, .ref ta, _, 2, 2, rfl, .tup at_ each, _, rfl, ?_⟩
        exact ifT (andT2 (by rw [List.length_map]; exact decide_eq_true (by omega)) (by rw [List.length_map]; exact decide_eq_true (by omega))) ⟨_, rfl, ta, rfl, ⟨xs, at_⟩, t1 Pc hPT, walk⟩
      · rw [f1]
        rw [f2] at walk
        refine ifF rfl ⟨_, rfl, _, rfl, _, rfl, .ref ta, _, 1, 1, rfl, .tup at_ each, _, rfl, ?_⟩
        exact ifT (andT2 (by rw [List.length_map]; exact decide_eq_true (by omega)) (by rw [List.length_map]; exact decide_eq_true (by omega))) ⟨_, rfl, ta, rfl, ⟨xs, at_⟩, t1 Pc hPT, walk⟩
  refine ⟨_, rfl, x, _, 2, 2, rfl, hx, _, rfl, ifF rfl ?_⟩
  cases hx with
  | @tup ta xs _ at_ each =>
    cases each with
    | @cons y1 _ _ _ h1 h2 =>
      cases h2 with
      | @cons y2 _ _ _ h3 h4 =>
        cases h4
        refine ⟨_, rfl, ta, _, rfl, at_, rfl, _, _, rfl, _, _, rfl, rfl, ?_⟩
        have fm := rf.form
        refine ⟨_, rfl, y1, dd, rfl, h1, rf.bk, tb, fun H1 e1 t1 => ⟨_, rfl, ?_⟩⟩
        rcases fm with ⟨f1, f2⟩ | ⟨f1, f3, f2⟩
        · rw [show testD dd = true from f1]
          exact ifF rfl (ifF rfl ⟨_, y1, y2, _, _, _, _, many, dd, ns, rfl, dp_ext e1 _ _ h1, dp_ext e1 _ _ h3, rf.bk, .inl ⟨f1, f2⟩, rf.rng, t1, fun H' e' t' => q H' (e1.trans e') t'⟩)
        · rw [show testD dd = false from f1]
          refine ifT rfl ⟨_, rfl, _, rfl, _, rfl, y1, dd, a, b, ss, ts, rfl, dp_ext e1 _ _ h1, rf.bk, sqT_ext e1 ha, sqT_ext e1 hb, t1, fun H2 e2 t2 => ⟨_, rfl, ?_⟩⟩
          rw [show flatD ss ts dd = true from f3]
          exact ifF rfl ⟨_, y1, y2, _, _, _, _, many, dd, ns, rfl, dp_ext (e1.trans e2) _ _ h1, dp_ext (e1.trans e2) _ _ h3, rf.bk, .inr ⟨f1, f2⟩, rf.rng, t2, fun H' e' t' => q H' (e1.trans (e2.trans e')) t'⟩
/-! are_rows -/
def spAreRows (K : PySem.W.Frag) (PT : List Addr) : Sp := fun vs H Q _ => ∃ (x : V) (rs : List (PyData × List Int)) (a b : Addr) (ss ts : List Int), vs = [x, .ref a, .ref b] ∧ Dp K H x (rowsD rs) ∧ rs.length ≤ 40 ∧ (∀ r ∈ rs, RowF ss ts rs.length r) ∧ SqT K H a (ss.map V.int) ∧ SqT K H b (ts.map V.int) ∧ TabsG PT H ∧ ∀ H', ExtN H H' → TabsG PT H' → Q (.bl true) H'
theorem scAreRows : FnScope ["thing", "sends", "takes", "row"] ["thing", "sends", "takes"] (defScope sAreRows) := ⟨rfl, rfl, rfl, by decide +kernel, rfl, by decide +kernel, by decide +kernel⟩
theorem ok_areRows {k : Nat} {c Pc : Addr} {PT : List Addr} (F : Fun K "are_rows" "are_rows" sAreRows f fd) (hc : fd.code = .ref c) (TB : LamX.TabB base mg c Pc) (hPT : Pc ∈ PT) (T : Free mg) (C : Cst mg) (hA : mg "all" = none) (cT : Cal P w K mg base "is_tuple" k ["thing", "least", "most"] (spTuple K)) (cR : Cal P w K mg base "is_row" k ["thing", "many", "sends", "takes"] (spIsRow K PT)) :
    FnOk P w K mg base CX0 (k + 2) f fd ["thing", "sends", "takes"] (spAreRows K PT) := by
  refine okC F hc scAreRows (fun vs H Q E h => ?_) (fun A outer s H vs Q E hr h => ?_)
  · obtain ⟨x, rs, a, b, ss, ts, rfl, _⟩ := h
    rfl
  obtain ⟨x, rs, a, b, ss, ts, rfl, hx, hl, rf, ha, hb, tb, q⟩ := h
  have cT' := cT.mono (Nat.le_succ k)
  refine ⟨_, pss_cons (ps_if (pt_not (pt_val (pe_cal cT' hr rfl (pa_cons (pv 0) (pa_cons pe_int (pa_cons (pe_globI rfl C.mostRows) pa_nil)))))) (pss_one (ps_ret pe_bl)) pss_nil)
    (pss_one (ps_ret (pe_allG (own := [("row", 3)]) (wi := iTup K (tVar 0)) (g := gName 3) (tt := tYes) (te := tCall (spIsRow K PT) [] E0 (tCons (tVar 3) (tCons (tCB (rLen K) (tCons (tVar 0) tNil)) (tCons (tVar 1) (tCons (tVar 2) tNil))))) scAreRows.nd hr rfl hA (by decide +kernel) TB rfl
      (blkOk_by (own := [("row", 3)]) (N := ["thing", "sends", "takes", "row"]) (sc := defScope sAreRows) (by decide +kernel)) (by decide +kernel) rfl rfl (pi_tup (pv 0))
      (fun _ _ _ _ _ _ _ _ _ _ => pg_name (i := 3) scAreRows.nd rfl (Or.inl rfl)) (fun _ _ _ _ _ _ _ _ _ _ => pts_nil)
      (fun _ _ _ _ _ _ _ _ _ hr' => pe_cal cR hr' rfl (pa_cons (pv 3) (pa_cons (pe_callB call_len_seq rfl T.len PySem.boot_len (pa_cons (pv 0) pa_nil)) (pa_cons (pv 1) (pa_cons (pv 2) pa_nil))))) (fun _ => rfl)))), ?_⟩
  refine ⟨_, rfl, x, _, 0, 40, rfl, hx, _, rfl, ?_⟩
  have tt : tupD 0 40 (rowsD rs) = true := by
    show (decide ((0 : Int) ≤ ((rs.map rowD).length : Int)) && decide (((rs.map rowD).length : Int) ≤ 40)) = true
    rw [List.length_map, decide_eq_true (show (0 : Int) ≤ (rs.length : Int) by omega), decide_eq_true (show (rs.length : Int) ≤ 40 by omega)]
    rfl
  refine ifF (by rw [tt]; rfl) ?_
  cases hx with
  | @tup ta xs _ at_ each =>
    have lx := dpAll_len each
    rw [List.length_map] at lx
    refine ⟨_, rfl, ta, rfl, ⟨xs, at_⟩, tb Pc hPT, fun H2 b2 => ?_⟩
    have e2 := tabbed_ext (tb Pc hPT) b2
    refine gx_tup (xs := xs) (fun i H' => ExtN H H' ∧ TabsG PT H') ⟨e2, tb.tabbed b2⟩ (fun i H' _ h => sqT_ext h.1 at_) (fun i y H' hy h => ?_) (fun H' h => q H' h.1 h.2)
    obtain ⟨e3, t3⟩ := h
    obtain ⟨e, he, hey⟩ := dpAll_get' each hy
    rw [List.getElem?_map] at he
    obtain ⟨r, hm, rfl⟩ := Option.map_eq_some_iff.mp he
    exact ⟨rfl, yesG ⟨_, rfl, _, rfl, ta, xs, rfl, .inr (sqT_ext e3 at_), _, rfl, _, rfl, y, r, xs.length, a, b, ss, ts, rfl, dp_ext e3 _ _ hey, by rw [lx]; exact rf r (List.mem_of_getElem? hm), sqT_ext e3 ha, sqT_ext e3 hb, t3, fun H4 e4 t4 => ⟨true, rfl, fun _ => ⟨e3.trans e4, t4⟩, fun c => absurd rfl c⟩⟩⟩
end
theorem Mv.trans {st : Addr} {H H1 H2 : Hp} (a : Mv st H H1) (b : Mv st H1 H2) : Mv st H H2 := ⟨a.kp.trans b.kp, b.sa⟩
theorem big {n : Nat} (h : n ≤ 1000000) : n ≤ sizeLine := Nat.le_trans h (by decide)
theorem none_of_same {H G : Hp} {p : Addr} (s : Same H G) (h : G p = none) : H p = none := by
  cases e : H p with
  | none => rfl
  | some u => rw [s p u e] at h; cases h
theorem same_upd2 {H G : Hp} {D : Addr} {o : HO} (s : Same H G) (h : H D = none) : Same H (upd G D o) := fun b u hb => by
  rw [upd_ne (fun e => by rw [e, h] at hb; cases hb)]
  exact s b u hb
inductive Bd (c wd : Nat) : PyData → Prop
  | non : Bd c wd .none
  | bl {t : Bool} : Bd c wd (.bool t)
  | int {i : Int} (h : i.natAbs < c) : Bd c wd (.int i)
  | str {x : Str} (h : ∀ z ∈ x.cps.toList, z < 128) : Bd c wd (.str x)
  | lst {es : List PyData} (len : es.length ≤ wd) (each : ∀ z ∈ es, Bd c wd z) : Bd c wd (.list es)
  | tup {es : List PyData} (len : es.length ≤ wd) (each : ∀ z ∈ es, Bd c wd z) : Bd c wd (.tuple es)
  | dct {kvs : List (PyData × PyData)} (h1 : (PyData.dict kvs).showable = true) (h2 : (PyData.dict kvs).leavesShort 40 = true) : Bd c wd (.dict kvs)
theorem Bd.mono {c c' wd wd' : Nat} (h : c ≤ c') (h' : wd ≤ wd') {d : PyData} (b : Bd c wd d) : Bd c' wd' d := by
  induction b with
  | non => exact .non
  | bl => exact .bl
  | int q => exact .int (Nat.lt_of_lt_of_le q h)
  | str q => exact .str q
  | lst l _ ih => exact .lst (Nat.le_trans l h') ih
  | tup l _ ih => exact .tup (Nat.le_trans l h') ih
  | dct a b => exact .dct a b
theorem Bd.shw {c wd : Nat} (hc : c ≤ 10 ^ 35) {d : PyData} (b : Bd c wd d) : d.showable = true := by
  induction b with
  | non => simp only [PyData.showable]
  | bl => simp only [PyData.showable]
  | @int i q =>
    simp only [PyData.showable, decide_eq_true_eq]
    by_cases z : i.natAbs = 0
    · rw [z]
      decide
    · exact Nat.lt_of_lt_of_le ((Nat.log2_lt z).mpr (Nat.lt_of_lt_of_le (Nat.lt_of_lt_of_le q hc) (show 10 ^ 35 ≤ 2 ^ 120 by decide))) (by decide)
  | str q => simp only [PyData.showable]
  | lst _ _ ih => simp only [PyData.showable]; exact show_all ih
  | tup _ _ ih => simp only [PyData.showable]; exact show_all ih
  | dct a b => exact a
theorem Bd.sho {c wd : Nat} (hc : c ≤ 10 ^ 35) {d : PyData} (b : Bd c wd d) : d.leavesShort 40 = true := by
  induction b with
  | non => simp only [PyData.leavesShort]
  | bl => simp only [PyData.leavesShort]
  | @int i q =>
    simp only [PyData.leavesShort, decide_eq_true_eq]
    have e := PySem.int_text_length_le10 (k := 35) (by decide) (Nat.lt_of_lt_of_le q hc)
    show (Str.ofString (toString i)).length ≤ 40
    rw [ofString_length]
    exact Nat.le_trans e (by decide)
  | str q =>
    simp only [PyData.leavesShort, List.all_eq_true, decide_eq_true_eq]
    intro z hz
    exact Nat.lt_of_lt_of_le (q z hz) (by decide)
  | lst _ _ ih => simp only [PyData.leavesShort]; exact short_all ih
  | tup _ _ ih => simp only [PyData.leavesShort]; exact short_all ih
  | dct a b => exact b
theorem bulk_tup (l : List PyData) : (PyData.tuple l).bulk = PyData.bulkAll l := by simp only [PyData.bulk]
theorem bulk_lst (l : List PyData) : (PyData.list l).bulk = PyData.bulkAll l := by simp only [PyData.bulk]
theorem depth_tup (l : List PyData) : (PyData.tuple l).depth = 1 + PyData.depthAll l := by simp only [PyData.depth]; omega
theorem depth_lst (l : List PyData) : (PyData.list l).depth = 1 + PyData.depthAll l := by simp only [PyData.depth]; omega
theorem depth_mem : ∀ {l : List PyData} {z : PyData}, z ∈ l → z.depth ≤ PyData.depthAll l
  | u :: v, z, h => by
    simp only [PyData.depthAll]
    rcases List.mem_cons.mp h with rfl | h
    · omega
    · have := depth_mem h
      omega
theorem len_bulk : ∀ (l : List PyData), l.length ≤ PyData.bulkAll l
  | [] => by simp [PyData.bulkAll]
  | u :: v => by
    have := len_bulk v
    simp only [PyData.bulkAll, List.length_cons]
    omega
/-! blocks as the law sees them -/
def lstB (ss ts : List Int) (bl : PyData → Bool) (d : PyData) : Bool := deedD ss ts d || (branchD d && (argsD d).all bl)
def lblkT (ss ts : List Int) (bl : PyData → Bool) (ds : List PyData) : Bool := decide (ds.length ≤ 12) && ds.all (lstB ss ts bl)
def lblk (ss ts : List Int) : Nat → PyData → Bool
  | n + 1, .tuple ds => lblkT ss ts (lblk ss ts n) ds
  | _, _ => false
def sumM (m : PyData → Nat) : List PyData → Nat
  | [] => 0
  | d :: ds => m d + sumM m ds
def manyS (mb : PyData → Nat) (d : PyData) : Nat := if branchD d = true then 1 + sumM mb (argsD d) else 1
def manyN : Nat → PyData → Nat
  | n + 1, .tuple ds => sumM (manyS (manyN n)) ds
  | _, _ => 0
theorem deed_no_branch {ss ts : List Int} {d : PyData} (h : deedD ss ts d = true) : branchD d = false := by
  unfold deedD at h
  split at h
  · rename_i z ds
    unfold deedB at h
    split at h
    · cases h
    · rename_i ks hk
      show branchB z ds = false
      unfold branchB
      have e : brK z = none := by
        unfold brK
        rw [if_neg (fun e => by rw [e, show deedK "if" = none by decide +kernel] at hk; cases hk), if_neg (fun e => by rw [e, show deedK "while" = none by decide +kernel] at hk; cases hk)]
      rw [e]
  · cases h
/-- one count against the other -/
structure Rl (f : PyData → Option Nat) (g : PyData → Bool) (m : PyData → Nat) : Prop where
  yes : ∀ d, g d = true → m d ≤ 40 → f d = some (m d)
  is : ∀ d t, f d = some t → g d = true ∧ t = m d
section
variable {f : PyData → Option Nat} {g : PyData → Bool} {m : PyData → Nat}
theorem Rl.sum (r : Rl f g m) : ∀ {ds : List PyData}, ds.all g = true → sumM m ds ≤ 40 → sumO f ds = some (sumM m ds)
  | [], _, _ => rfl
  | d :: ds, h, hs => by
    rw [List.all_cons] at h
    have hs : m d + sumM m ds ≤ 40 := hs
    have h1 := r.yes d (and3 h).1 (by omega)
    have h2 := r.sum (and3 h).2 (by omega)
    simp only [sumO, h1, h2]
    rfl
theorem Rl.sums (r : Rl f g m) : ∀ {ds : List PyData} {t : Nat}, sumO f ds = some t → ds.all g = true ∧ t = sumM m ds
  | [], t, h => by cases h; exact ⟨rfl, rfl⟩
  | d :: ds, t, h => by
    cases hd : f d with
    | none => simp only [sumO, hd] at h; cases h
    | some a =>
      cases hs : sumO f ds with
      | none => simp only [sumO, hd, hs] at h; cases h
      | some b =>
        simp only [sumO, hd, hs] at h
        cases h
        obtain ⟨q1, q2⟩ := r.is d a hd
        obtain ⟨q3, q4⟩ := r.sums hs
        exact ⟨by rw [List.all_cons, q1, q3]; rfl, by rw [q2, q4]; rfl⟩
theorem Rl.st (r : Rl f g m) (ss ts : List Int) : Rl (stOf ss ts f) (lstB ss ts g) (manyS m) := by
  refine ⟨fun d hl h40 => ?_, fun d t ht => ?_⟩
  · unfold lstB at hl
    unfold stOf
    unfold manyS at h40 ⊢
    cases hd : deedD ss ts d with
    | true => rw [if_pos rfl, if_neg (by rw [deed_no_branch hd]; decide)]
    | false =>
      rw [hd, Bool.false_or] at hl
      have hl := and3 hl
      rw [if_pos hl.1] at h40 ⊢
      rw [if_neg (by decide), if_pos hl.1, r.sum hl.2 (by omega)]
      rfl
  · unfold stOf at ht
    unfold lstB manyS
    cases hd : deedD ss ts d with
    | true =>
      rw [hd, if_pos rfl] at ht
      cases ht
      exact ⟨rfl, by rw [if_neg (by rw [deed_no_branch hd]; decide)]⟩
    | false =>
      rw [hd, if_neg (by decide)] at ht
      by_cases hb : branchD d = true
      · rw [if_pos hb] at ht
        cases hs : sumO f (argsD d) with
        | none => rw [hs] at ht; cases ht
        | some t' =>
          obtain ⟨e2, e1⟩ := r.sums hs
          rw [hs] at ht
          cases ht
          refine ⟨by rw [hb, e2]; rfl, ?_⟩
          rw [if_pos hb, e1]
      · rw [if_neg hb] at ht
        cases ht
end
/-- the program's count is the law's -/
theorem blk_rl (ss ts : List Int) : ∀ n : Nat, Rl (blkD ss ts n) (lblk ss ts n) (manyN n)
  | 0 => ⟨(fun d h => by cases d <;> cases h), (fun d t h => by cases d <;> cases h)⟩
  | n + 1 => by
    have r := (blk_rl ss ts n).st ss ts
    refine ⟨fun d h h40 => ?_, fun d t h => ?_⟩
    · cases d with
      | tuple ds =>
        have h := and3 (show (decide (ds.length ≤ 12) && ds.all (lstB ss ts (lblk ss ts n))) = true from h)
        have h40 : sumM (manyS (manyN n)) ds ≤ 40 := h40
        show blkT ss ts (blkD ss ts n) ds = _
        unfold blkT
        rw [if_pos (of_decide_eq_true h.1), r.sum h.2 h40]
        show (if _ ≤ 40 then _ else none) = _
        rw [if_pos h40]
        rfl
      | _ => cases h
    · cases d with
      | tuple ds =>
        have h : blkT ss ts (blkD ss ts n) ds = some t := h
        unfold blkT at h
        by_cases hl : ds.length ≤ 12
        · rw [if_pos hl] at h
          cases hs : sumO (stOf ss ts (blkD ss ts n)) ds with
          | none => rw [hs] at h; cases h
          | some t' =>
            obtain ⟨q1, q2⟩ := r.sums hs
            rw [hs] at h
            have h : (if t' ≤ 40 then some t' else none) = some t := h
            by_cases h40 : t' ≤ 40
            · rw [if_pos h40] at h
              cases h
              refine ⟨?_, q2⟩
              show (decide (ds.length ≤ 12) && ds.all (lstB ss ts (lblk ss ts n))) = true
              rw [decide_eq_true hl, q1]
              rfl
            · rw [if_neg h40] at h
              cases h
        · rw [if_neg hl] at h
          cases h
      | _ => cases h
theorem blk_40 {ss ts : List Int} {n t : Nat} {d : PyData} (h : blkD ss ts n d = some t) : t ≤ 40 := by
  cases n with
  | zero => cases d <;> cases h
  | succ n =>
    cases d with
    | tuple ds =>
      have h : blkT ss ts (blkD ss ts n) ds = some t := h
      unfold blkT at h
      by_cases hl : ds.length ≤ 12
      · rw [if_pos hl] at h
        cases hs : sumO (stOf ss ts (blkD ss ts n)) ds with
        | none => rw [hs] at h; cases h
        | some t' =>
          rw [hs] at h
          have h : (if t' ≤ 40 then some t' else none) = some t := h
          by_cases h40 : t' ≤ 40
          · rw [if_pos h40] at h
            cases h
            exact h40
          · rw [if_neg h40] at h
            cases h
      · rw [if_neg hl] at h
        cases h
    | _ => cases h
theorem blk_some (ss ts : List Int) (n : Nat) (d : PyData) : (blkD ss ts n d).isSome = (lblk ss ts n d && decide (manyN n d ≤ 40)) := by
  have r := blk_rl ss ts n
  cases h : blkD ss ts n d with
  | some t =>
    obtain ⟨q1, q2⟩ := r.is d t h
    have := blk_40 h
    rw [q1, decide_eq_true (by omega)]
    rfl
  | none =>
    cases hl : lblk ss ts n d with
    | false => rfl
    | true =>
      by_cases h40 : manyN n d ≤ 40
      · rw [r.yes d hl h40] at h
        cases h
      · rw [decide_eq_false h40]
        rfl
/-! what is lawful may be shown -/
theorem small_lt {z : Nat} (h : smallB z = true) : z < 128 := by
  unfold smallB at h
  have := of_decide_eq_true (and3 h).2
  omega
theorem num_str {d : PyData} (h : numNameD d = true) : ∃ x, d = .str x ∧ (∀ z ∈ x.cps.toList, z < 128) ∧ x.cps.size ≤ 6 := by
  cases d with
  | str x =>
    have h := and3 (show ((decide (1 ≤ x.length) && decide (x.length ≤ 6)) && areSmall x) = true from h)
    exact ⟨x, rfl, fun z hz => small_lt (List.all_eq_true.mp h.2 z hz), of_decide_eq_true (and3 h.1).2⟩
  | _ => cases h
theorem cut_one (x : Str) : (cutS x (some 1) none).cps.toList = x.cps.toList.drop 1 := by
  have e : HT.sIx x.length 0 (some 1) = min 1 x.length := HT.sIx_nat x.length 0 1
  have l : x.length = x.cps.toList.length := by simp [Str.length]
  show ((x.cps.toList.drop (HT.sIx x.length 0 (some 1))).take (x.length - HT.sIx x.length 0 (some 1))).toArray.toList = x.cps.toList.drop 1
  rw [e, l]
  cases x.cps.toList with
  | nil => rfl
  | cons c r =>
    have m : min 1 (c :: r).length = 1 := by rw [List.length_cons]; omega
    rw [m, List.toList_toArray]
    exact List.take_of_length_le (by simp)
theorem graph_asc {d : PyData} (h : graphNameD d = true) : ∃ x, d = .str x ∧ (∀ z ∈ x.cps.toList, z < 128) ∧ x.cps.size ≤ 6 := by
  cases d with
  | str x =>
    have h := and3 (show ((decide (1 ≤ x.length) && decide (x.length ≤ 6)) && (bigB (x.cps.toList.headD 0) && areSmall (cutS x (some 1) none))) = true from h)
    have h2 := and3 h.2
    refine ⟨x, rfl, fun z hz => ?_, of_decide_eq_true (and3 h.1).2⟩
    have e : (cutS x (some 1) none).cps.toList = x.cps.toList.drop 1 := cut_one x
    cases hc : x.cps.toList with
    | nil => rw [hc] at hz; cases hz
    | cons c r =>
      rw [hc] at hz h2 e
      rcases List.mem_cons.mp hz with rfl | hz
      · have := of_decide_eq_true (and3 (show (decide (65 ≤ z) && decide (z ≤ 90)) = true from h2.1)).2
        omega
      · refine small_lt (List.all_eq_true.mp (show (cutS x (some 1) none).cps.toList.all smallB = true from h2.2) z ?_)
        rw [e]
        exact hz
  | _ => cases h
theorem fit_bd {c : Nat} {ss ts : List Int} (hc : 10000 ≤ c) (hs : ∀ i ∈ ss, i.natAbs < c) (ht : ∀ i ∈ ts, i.natAbs < c) {k : Kd} {d : PyData} (h : fitD ss ts k d = true) : Bd c 12 d ∧ d.bulk ≤ 6 ∧ d.depth = 0 := by
  have txt : ∀ x : Str, d = .str x → (∀ z ∈ x.cps.toList, z < 128) → x.cps.size ≤ 6 → Bd c 12 d ∧ d.bulk ≤ 6 ∧ d.depth = 0 := fun x e h1 h2 => by
    subst e
    exact ⟨.str h1, by simp only [PyData.bulk]; exact h2, by simp only [PyData.depth]⟩
  have num : ∀ i : Int, d = .int i → i.natAbs < c → Bd c 12 d ∧ d.bulk ≤ 6 ∧ d.depth = 0 := fun i e h1 => by
    subst e
    exact ⟨.int h1, by simp only [PyData.bulk]; omega, by simp only [PyData.depth]⟩
  cases k with
  | name => obtain ⟨x, e, h1, h2⟩ := num_str h; exact txt x e h1 h2
  | graph => obtain ⟨x, e, h1, h2⟩ := graph_asc h; exact txt x e h1 h2
  | number => obtain ⟨i, e, h1, h2⟩ := within_int h; exact num i e (by omega)
  | place => obtain ⟨i, e, h1, h2⟩ := within_int h; exact num i e (by omega)
  | sign =>
    obtain ⟨z, hz, hd⟩ := List.any_eq_true.mp (show signs.any (fun z => isStrD z d) = true from h)
    cases d with
    | str x =>
      have e : x = z := of_decide_eq_true hd
      subst e
      have q : signs.all (fun z => z.cps.toList.all (fun c => decide (c < 128)) && decide (z.cps.size ≤ 6)) = true := by decide +kernel
      have q := and3 (List.all_eq_true.mp q x hz)
      exact txt x rfl (fun z hz => of_decide_eq_true (List.all_eq_true.mp q.1 z hz)) (of_decide_eq_true q.2)
    | _ => cases hd
  | into =>
    cases d with
    | int i => exact num i rfl (hs i (of_decide_eq_true h))
    | _ => cases h
  | out =>
    cases d with
    | int i => exact num i rfl (ht i (of_decide_eq_true h))
    | _ => cases h
theorem fits_bd {c : Nat} {ss ts : List Int} (hc : 10000 ≤ c) (hs : ∀ i ∈ ss, i.natAbs < c) (ht : ∀ i ∈ ts, i.natAbs < c) : ∀ {ks : List Kd} {ds : List PyData}, ds.length = ks.length → fitsAll ss ts ks ds = true → (∀ z ∈ ds, Bd c 12 z) ∧ PyData.bulkAll ds ≤ 7 * ds.length ∧ PyData.depthAll ds = 0
  | [], [], _, _ => ⟨(fun z hz => by cases hz), (by simp only [PyData.bulkAll]; omega), (by simp only [PyData.depthAll])⟩
  | k :: ks, d :: ds, hl, h => by
    have h := and3 (show (fitD ss ts k d && fitsAll ss ts ks ds) = true from h)
    obtain ⟨q1, q2, q3⟩ := fit_bd hc hs ht h.1
    obtain ⟨r1, r2, r3⟩ := fits_bd hc hs ht (by simpa using hl) h.2
    refine ⟨fun z hz => ?_, ?_, ?_⟩
    · rcases List.mem_cons.mp hz with rfl | hz
      · exact q1
      · exact r1 z hz
    · simp only [PyData.bulkAll, List.length_cons]
      omega
    · simp only [PyData.depthAll, q3, r3]
      rfl
theorem deedL_ok : deedL.all (fun p => p.1.cps.toList.all (fun c => decide (c < 128)) && decide (p.1.cps.size ≤ 4) && decide (p.2.length ≤ 4)) = true := by decide +kernel
theorem lookup_mem {z : Str} {ks : List Kd} : ∀ {l : List (Str × List Kd)}, l.lookup z = some ks → (z, ks) ∈ l
  | [], h => by cases h
  | (y, v) :: l, h => by
    rw [List.lookup_cons] at h
    cases e : z == y with
    | true =>
      rw [e] at h
      cases h
      rw [eq_of_beq e]
      exact List.mem_cons_self
    | false =>
      rw [e] at h
      exact List.mem_cons_of_mem _ (lookup_mem h)
theorem deed_bd {c : Nat} {ss ts : List Int} (hc : 10000 ≤ c) (hs : ∀ i ∈ ss, i.natAbs < c) (ht : ∀ i ∈ ts, i.natAbs < c) {d : PyData} (h : deedD ss ts d = true) : Bd c 12 d ∧ d.bulk ≤ 33 ∧ d.depth ≤ 1 := by
  unfold deedD at h
  split at h
  · rename_i z ds
    unfold deedB at h
    split at h
    · cases h
    · rename_i ks hk
      have h := and3 h
      have hl := of_decide_eq_true h.1
      obtain ⟨r1, r2, r3⟩ := fits_bd hc hs ht hl (and3 h.2).1
      have q := List.all_eq_true.mp deedL_ok (z, ks) (lookup_mem hk)
      simp only [Bool.and_eq_true, decide_eq_true_eq] at q
      refine ⟨.tup (by rw [List.length_cons]; omega) fun y hy => ?_, ?_, ?_⟩
      · rcases List.mem_cons.mp hy with rfl | hy
        · exact .str fun y hy => of_decide_eq_true (List.all_eq_true.mp q.1.1 y hy)
        · exact r1 y hy
      · simp only [PyData.bulk, PyData.bulkAll]
        omega
      · simp only [PyData.depth, PyData.depthAll, r3]
        omega
  · cases h
theorem sumM_bd {m : PyData → Nat} : ∀ {ds : List PyData}, (∀ d ∈ ds, d.bulk + 1 ≤ 34 * m d) → PyData.bulkAll ds ≤ 34 * sumM m ds
  | [], _ => by simp only [PyData.bulkAll]; omega
  | d :: ds, h => by
    have h1 := h d List.mem_cons_self
    have h2 := sumM_bd (ds := ds) fun z hz => h z (List.mem_cons_of_mem _ hz)
    have e : sumM m (d :: ds) = m d + sumM m ds := rfl
    rw [e, Nat.mul_add]
    simp only [PyData.bulkAll]
    omega
theorem dAll_le {k : Nat} : ∀ {ds : List PyData}, (∀ d ∈ ds, d.depth ≤ k) → PyData.depthAll ds ≤ k
  | [], _ => by simp only [PyData.depthAll]; omega
  | d :: ds, h => by
    have h1 := h d List.mem_cons_self
    have h2 := dAll_le (ds := ds) fun z hz => h z (List.mem_cons_of_mem _ hz)
    simp only [PyData.depthAll]
    omega
theorem br_ok {z : Str} {n : Nat} (h : brK z = some n) : (∀ y ∈ z.cps.toList, y < 128) ∧ z.cps.size ≤ 5 ∧ n ≤ 2 := by
  unfold brK at h
  have q : ∀ x : Str, (x.cps.toList.all (fun c => decide (c < 128)) && decide (x.cps.size ≤ 5)) = true → (∀ y ∈ x.cps.toList, y < 128) ∧ x.cps.size ≤ 5 := fun x h => by
    have h := and3 h
    exact ⟨fun y hy => of_decide_eq_true (List.all_eq_true.mp h.1 y hy), of_decide_eq_true h.2⟩
  by_cases e : z = "if"
  · rw [if_pos e] at h
    cases h
    subst e
    have := q "if" (by decide +kernel)
    exact ⟨this.1, this.2, by omega⟩
  · rw [if_neg e] at h
    by_cases e : z = "while"
    · rw [if_pos e] at h
      cases h
      subst e
      have := q "while" (by decide +kernel)
      exact ⟨this.1, this.2, by omega⟩
    · rw [if_neg e] at h
      cases h
theorem bulkB {m : PyData → Nat} : ∀ {ds : List PyData}, (∀ d ∈ ds, d.bulk ≤ 34 * m d) → PyData.bulkAll ds ≤ 34 * sumM m ds + ds.length
  | [], _ => by simp only [PyData.bulkAll]; omega
  | d :: ds, h => by
    have h1 := h d List.mem_cons_self
    have h2 := bulkB (ds := ds) fun z hz => h z (List.mem_cons_of_mem _ hz)
    have e : sumM m (d :: ds) = m d + sumM m ds := rfl
    rw [e, Nat.mul_add]
    simp only [PyData.bulkAll, List.length_cons]
    omega
theorem lblk_bd {c : Nat} {ss ts : List Int} (hc : 10000 ≤ c) (hs : ∀ i ∈ ss, i.natAbs < c) (ht : ∀ i ∈ ts, i.natAbs < c) : ∀ (n : Nat) {d : PyData}, lblk ss ts n d = true → Bd c 12 d ∧ d.bulk ≤ 34 * manyN n d ∧ d.depth ≤ 2 * n
  | 0, d, h => by cases d <;> cases h
  | n + 1, d, h => by
    cases d with
    | tuple ds =>
      have h := and3 (show (decide (ds.length ≤ 12) && ds.all (lstB ss ts (lblk ss ts n))) = true from h)
      have hl := of_decide_eq_true h.1
      have one : ∀ d ∈ ds, Bd c 12 d ∧ d.bulk + 1 ≤ 34 * manyS (manyN n) d ∧ d.depth ≤ 2 * n + 1 := fun d hd => by
        have hd := List.all_eq_true.mp h.2 d hd
        unfold lstB at hd
        cases hdd : deedD ss ts d with
        | true =>
          obtain ⟨q1, q2, q3⟩ := deed_bd hc hs ht hdd
          unfold manyS
          rw [if_neg (by rw [deed_no_branch hdd]; decide)]
          exact ⟨q1, by omega, by omega⟩
        | false =>
          rw [hdd, Bool.false_or] at hd
          have hd := and3 hd
          obtain ⟨z, d1, args, m, rfl, hz, hlen, hn⟩ := branch_shape hd.1
          obtain ⟨z1, z2, z3⟩ := br_ok hz
          obtain ⟨x, rfl, x1, x2⟩ := num_str hn
          have ha : ∀ e ∈ args, Bd c 12 e ∧ e.bulk ≤ 34 * manyN n e ∧ e.depth ≤ 2 * n := fun e he => lblk_bd hc hs ht n (List.all_eq_true.mp hd.2 e he)
          unfold manyS
          rw [if_pos hd.1]
          have hb := bulkB (m := manyN n) (ds := args) fun e he => (ha e he).2.1
          have hde := dAll_le (k := 2 * n) (ds := args) fun e he => (ha e he).2.2
          refine ⟨.tup (by simp only [List.length_cons]; omega) fun y hy => ?_, ?_, ?_⟩
          · rcases List.mem_cons.mp hy with rfl | hy
            · exact .str z1
            · rcases List.mem_cons.mp hy with rfl | hy
              · exact .str x1
              · exact (ha y hy).1
          · show _ ≤ 34 * (1 + sumM (manyN n) args)
            rw [Nat.mul_add]
            simp only [PyData.bulk, PyData.bulkAll]
            omega
          · simp only [PyData.depth, PyData.depthAll]
            omega
      refine ⟨.tup hl fun z hz => (one z hz).1, ?_, ?_⟩
      · show _ ≤ 34 * sumM (manyS (manyN n)) ds
        simp only [PyData.bulk]
        exact sumM_bd fun z hz => (one z hz).2.1
      · have := dAll_le (k := 2 * n + 1) (ds := ds) fun z hz => (one z hz).2.2
        simp only [PyData.depth]
        omega
    | _ => cases h
theorem side_nn {sd : Int × Int → Int} {chs : List (Int × Int)} {me : Int} (hl : chs.length ≤ 100) : ∀ i ∈ sideL sd chs me, i.natAbs < 10000 := fun i hi => by
  unfold sideL sideN at hi
  obtain ⟨m, hm, rfl⟩ := List.mem_map.mp hi
  have := List.mem_range.mp (List.mem_filter.mp hm).1
  omega
theorem acts_bd {chs : List (Int × Int)} (hl : chs.length ≤ 100) : ∀ {as : List PyData} {me : Int}, actsB chs me as = true → (∀ z ∈ as, Bd 10000 12 z ∧ z.bulk ≤ 1360 ∧ z.depth ≤ 8)
  | [], _, _ => fun z hz => by cases hz
  | d :: as, me, h => fun z hz => by
    have h := and3 (show ((blkD _ _ 4 d).isSome && actsB chs (me + 1) as) = true from h)
    rcases List.mem_cons.mp hz with rfl | hz
    · have q := h.1
      rw [blk_some] at q
      have q := and3 q
      obtain ⟨q1, q2, q3⟩ := lblk_bd (c := 10000) (Nat.le_refl _) (side_nn hl) (side_nn hl) 4 q.1
      have := of_decide_eq_true q.2
      exact ⟨q1, by omega, by omega⟩
    · exact acts_bd hl h.2 z hz
/-- a net may be shown -/
theorem net_bd {d : PyData} (h : netD d = true) : ∃ cs as, d = .tuple [.tuple cs, .tuple as] ∧ netB cs as = true ∧ Bd 10000 12 d ∧ d.bulk ≤ 5600 ∧ d.depth ≤ 10 := by
  unfold netD at h
  split at h
  · rename_i cs as
    refine ⟨cs, as, rfl, h, ?_⟩
    have h := and3 (show ((decide (cs.length ≤ 6) && (decide (1 ≤ as.length) && decide (as.length ≤ 4))) && (cs.all (chanD as.length) && actsB (cs.map pairD) 0 as)) = true from h)
    have h1 := and3 h.1
    have c6 := of_decide_eq_true h1.1
    have a4 := of_decide_eq_true (and3 h1.2).2
    have h2 := and3 h.2
    have ha := acts_bd (by rw [List.length_map]; omega) h2.2
    have hcs : ∀ z ∈ cs, Bd 10000 12 z ∧ z.bulk ≤ 2 ∧ z.depth ≤ 1 := fun z hz => by
      have q := List.all_eq_true.mp h2.1 z hz
      unfold chanD at q
      split at q
      · have q := and3 (and3 q).1
        obtain ⟨i, rfl, i1, i2⟩ := within_int q.1
        obtain ⟨j, rfl, j1, j2⟩ := within_int q.2
        refine ⟨.tup (by simp) fun y hy => ?_, by simp only [PyData.bulk, PyData.bulkAll]; omega, by simp only [PyData.depth, PyData.depthAll]; omega⟩
        rcases List.mem_cons.mp hy with rfl | hy
        · exact .int (by omega)
        · rw [List.mem_singleton.mp hy]
          exact .int (by omega)
      · cases q
    have b1 := bulk_all (k := 2) (l := cs) fun z hz => (hcs z hz).2.1
    have b2 := bulk_all (k := 1360) (l := as) fun z hz => (ha z hz).2.1
    have d1 := dAll_le (k := 1) (ds := cs) fun z hz => (hcs z hz).2.2
    have d2 := dAll_le (k := 8) (ds := as) fun z hz => (ha z hz).2.2
    have m1 : (2 + 1) * cs.length ≤ 3 * 6 := Nat.mul_le_mul_left 3 c6
    have m2 : (1360 + 1) * as.length ≤ 1361 * 4 := Nat.mul_le_mul_left 1361 a4
    refine ⟨.tup (by simp) fun y hy => ?_, ?_, ?_⟩
    · rcases List.mem_cons.mp hy with rfl | hy
      · exact .tup (by omega) fun z hz => (hcs z hz).1
      · rw [List.mem_singleton.mp hy]
        exact .tup (by omega) fun z hz => (ha z hz).1
    · simp only [PyData.bulk, PyData.bulkAll]
      omega
    · simp only [PyData.depth, PyData.depthAll]
      omega
  · cases h
def stD (ss ts : List Int) (d : PyData) : Bool := deedD ss ts d || branchD d
/-! _law_many, _law_is_block -/
def brL : List Str := ["if", "while"]
theorem lst_st (ss ts : List Int) (bl : PyData → Bool) (d : PyData) : lstB ss ts bl d = (stD ss ts d && (!branchD d || (argsD d).all bl)) := by
  unfold lstB stD
  cases h1 : deedD ss ts d with
  | true => rw [deed_no_branch h1]; rfl
  | false =>
    cases h2 : branchD d with
    | true => rfl
    | false => rfl
theorem br_mem {z : Str} {m : Nat} (h : brK z = some m) : z ∈ brL := by
  unfold brK at h
  by_cases e : z = "if"
  · rw [e]; decide +kernel
  · rw [if_neg e] at h
    by_cases e2 : z = "while"
    · rw [e2]; decide +kernel
    · rw [if_neg e2] at h; cases h
theorem st_word {ss ts : List Int} {d : PyData} (h : stD ss ts d = true) : ∃ z ds, d = .tuple (.str z :: ds) ∧ decide (z ∈ brL) = branchD d := by
  unfold stD at h
  cases h2 : branchD d with
  | true =>
    obtain ⟨z, d1, ds, m, rfl, hz, _⟩ := branch_shape h2
    exact ⟨z, d1 :: ds, rfl, decide_eq_true (br_mem hz)⟩
  | false =>
    rw [h2, Bool.or_false] at h
    unfold deedD at h
    split at h
    · rename_i z ds
      refine ⟨z, ds, rfl, decide_eq_false fun hm => ?_⟩
      unfold deedB at h
      split at h
      · cases h
      · rename_i ks hk
        have e : z = "if" ∨ z = "while" := by simpa [brL] using hm
        rcases e with rfl | rfl
        · rw [show deedK "if" = none by decide +kernel] at hk; cases hk
        · rw [show deedK "while" = none by decide +kernel] at hk; cases hk
    · cases h
theorem sumM_snoc {m : PyData → Nat} {d : PyData} : ∀ {l : List PyData}, sumM m (l ++ [d]) = sumM m l + m d
  | [] => by show m d + 0 = 0 + m d; omega
  | x :: l => by
    show m x + sumM m (l ++ [d]) = (m x + sumM m l) + m d
    rw [sumM_snoc]
    omega
theorem sum_map (m : PyData → Nat) : ∀ l : List PyData, (l.map fun d => ((m d : Nat) : Int)).sum = ((sumM m l : Nat) : Int)
  | [] => rfl
  | d :: l => by
    rw [List.map_cons, List.sum_cons, sum_map m l]
    show (m d : Int) + (sumM m l : Int) = ((m d + sumM m l : Nat) : Int)
    omega
abbrev rInTS (K : PySem.W.Frag) : R2 := fun x y H Q => ∃ (z : Str) (p : Addr) (zs : List Str), x = .str z ∧ y = .ref p ∧ (SqL K H p (zs.map V.str) ∨ SqT K H p (zs.map V.str)) ∧ Q (.bl (decide (z ∈ zs))) H
section
open PySem.Spec PyProof.Rows LamX
variable {P : Program} {w : World} {K : PySem.W.Frag} {mg : Str → Option Value} {base : Heap} {f : Addr} {fd : FuncData}
def spMany (K : PySem.W.Frag) (n : Nat) : Sp := fun vs H Q _ => ∃ (x : V) (d : PyData) (ss ts : List Int), vs = [x] ∧ Dp K H x d ∧ lblk ss ts n d = true ∧ ∀ H', Same H H' → Q (.int (manyN n d : Nat)) H'
abbrev NMany : List Str := ["_law_block_here", "_law_many_here", "_law_one", "_law_inner"]
theorem scMany : FnScope NMany ["_law_block_here"] (defScope sMany) := ⟨rfl, rfl, rfl, by decide +kernel, rfl, by decide +kernel, by decide +kernel⟩
theorem no_many {k : Nat} : FnOk P w K mg base CX0 k f fd ["_law_block_here"] (spMany K 0) :=
  ⟨(fun vs H Q E h => by obtain ⟨x, d, ss, ts, _, _, h, _⟩ := h; cases d <;> cases h), (fun A outer s H args us vs Q E hr he hb hv h => by obtain ⟨x, d, ss, ts, _, _, h, _⟩ := h; cases d <;> cases h)⟩
theorem ok_many {k n : Nat} (F : Fun K "_law_many" "_law_many" sMany f fd) (T : Free mg) (cM : Cal P w K mg base "_law_many" k ["_law_block_here"] (spMany K n)) : FnOk P w K mg base CX0 (k + 1) f fd ["_law_block_here"] (spMany K (n + 1)) := by
  refine F.ok scMany (fun vs H Q E h => ?_) (fun cdv A outer s H vs Q E hr h => ?_)
  · obtain ⟨x, d, ss, ts, rfl, _⟩ := h
    rfl
  obtain ⟨x, d, ss, ts, rfl, hx, hl, q⟩ := h
  refine ⟨_, pss_cons (ps_set (i := 1) scMany.nd rfl (.inl rfl) pe_int)
    (pss_cons (ps_for PassesOwn.never rfl (pi_tup (pv 0)) (pg_name (i := 2) scMany.nd rfl (.inr rfl))
      (pss_one (ps_set (i := 1) scMany.nd rfl (.inl rfl) (pe_op op_add (pe_op op_add (pv 1) pe_int) (pe_callB (cr_sum rfl) rfl T.sum (by decide +kernel) (pa_cons (pe_lc (own := [("_law_inner", 3)]) (g := gName 3) (tt := tTest (tOp (rInTS K) (tOp (rIxT K) (tVar 2) (tC (.int 0))) (tTup (tCons (tC (.str "if")) (tCons (tC (.str "while")) tNil))))) (te := tCall (spMany K n) [] E0 (tCons (tVar 3) tNil)) rfl scMany.nd (pi_tup (pe_slice sl_tupA (pv 2) (po_some pe_int) po_none))
        (blkOk_by (own := [("_law_inner", 3)]) (N := NMany) (sc := defScope sMany) (by decide +kernel))
        (fun _ _ _ _ _ => pg_name (i := 3) scMany.nd rfl (Or.inl rfl)) (fun _ _ _ _ _ => pts_one (pt_cmpR op_inTS (pe_ix ix_tup (pv 2) pe_int (fun _ _ => rfl)) (pe_tup (pa_cons pe_str (pa_cons pe_str pa_nil))) rfl)) (fun _ _ _ _ _ => pe_cal cM hr rfl (pa_cons (pv 3) pa_nil))) pa_nil))))))
    (pss_one (ps_ret (pv 1)))), ?_⟩
  cases d with
  | tuple ds =>
    have hl := and3 (show (decide (ds.length ≤ 12) && ds.all (lstB ss ts (lblk ss ts n))) = true from hl)
    have q : ∀ H', Same H H' → Q (.int (sumM (manyS (manyN n)) ds : Nat)) H' := q
    cases hx with
    | @tup ta xs _ at_ each =>
      have lx := dpAll_len each
      refine ⟨_, rfl, ta, rfl, ⟨xs, at_⟩, ?_⟩
      refine for_tup (xs := xs) (fun i σ G => ∃ (o2 o3 : Option V), σ = [some (.ref ta), some (.int (sumM (manyS (manyN n)) (ds.take i) : Nat)), o2, o3] ∧ Same H G) ⟨_, _, rfl, Same.refl _⟩ (fun i σ G _ h => by obtain ⟨_, _, _, h⟩ := h; exact sqT_same h at_) (fun i y σ G hy h => ?_) (fun σ G h => ?_)
      · obtain ⟨o2, o3, rfl, sG⟩ := h
        obtain ⟨d, hd, hdy⟩ := dpAll_get' each hy
        have hst := List.all_eq_true.mp hl.2 d (List.mem_of_getElem? hd)
        rw [lst_st] at hst
        have hst := and3 hst
        obtain ⟨z, es, rfl, hz⟩ := st_word hst.1
        cases dp_same sG hdy with
        | @tup da dvs _ dat deach =>
          cases deach with
          | @cons v0 vs0 _ _ h0 hs0 =>
            cases h0
            refine ⟨_, rfl, _, _, rfl, rfl, _, rfl, _, rfl, noP (slA_run dat fun r G1 s1 hr1 => ?_)⟩
            rw [cut_from0 (by decide)] at hr1
            refine ⟨r, rfl, ⟨_, hr1⟩, fun D hD => ?_⟩
            have each2 : DpAll K G1 ((V.str z :: vs0).drop 2) ((PyData.str z :: es).drop 2) := by
              cases vs0 with
              | nil => cases hs0; exact .nil
              | cons v1 vs1 =>
                cases hs0 with
                | cons a1 a2 => exact dps_same s1 a2
            have len2 := dpAll_len each2
            have elen : es.length ≤ 12 := by
              have z1 := hst.1
              have z2 : ∀ {c : Nat}, True := fun {c} => trivial
              cases hb : branchD (.tuple (.str z :: es)) with
              | true =>
                obtain ⟨z', d1, args, m, e, hzm, hlen, _⟩ := branch_shape hb
                cases e
                have := (br_ok hzm).2.2
                rw [List.length_cons]
                omega
              | false =>
                unfold stD at z1
                rw [hb, Bool.or_false] at z1
                have z1 : deedB ss ts z es = true := z1
                unfold deedB at z1
                split at z1
                · cases z1
                · rename_i ks hk
                  have e1 := of_decide_eq_true (and3 z1).1
                  have qd := List.all_eq_true.mp deedL_ok (z, ks) (lookup_mem hk)
                  simp only [Bool.and_eq_true, decide_eq_true_eq] at qd
                  omega
            refine lc_tup (xs := (V.str z :: vs0).drop 2) (fun j G2 => Same G1 G2 ∧ G2 D = some (.lst (((if branchD (.tuple (.str z :: es)) = true then ((PyData.str z :: es).drop 2).take j else []).map fun d => ((manyN n d : Nat) : Int)).map V.int)))
              ⟨same_new hD _, by rw [upd_same]; cases branchD (.tuple (.str z :: es)) <;> rfl⟩ (fun j G2 _ h => sqT_same h.1 hr1) (fun j v G2 hv h => ?_) (fun G2 h => ?_)
            · obtain ⟨s2, gD⟩ := h
              obtain ⟨e, he, hde⟩ := dpAll_get' each2 hv
              refine ⟨rfl, _, rfl, da, _, 0, _, rfl, rfl, sqT_same (s1.trans s2) dat, atI_at (by decide) rfl, small (by show 2 ≤ 1000; decide), fun p hp => ⟨z, p, brL, rfl, rfl, .inr (.of upd_same), _, rfl, ?_⟩⟩
              rw [hz]
              have s3 := s2.trans (same_new hp (.tup [V.str "if", V.str "while"]))
              have nD : D ≠ p := ne_of_none gD hp
              cases hb : branchD (.tuple (.str z :: es)) with
              | false =>
                rw [hb, if_neg (by decide)] at gD
                refine ifF rfl ⟨s3, ?_⟩
                rw [upd_ne nD, if_neg (by decide)]
                exact gD
              | true =>
                rw [hb, if_pos rfl] at gD
                have hargs : (argsD (.tuple (.str z :: es))).all (lblk ss ts n) = true := by
                  have z1 := hst.2
                  rw [hb] at z1
                  exact z1
                obtain ⟨z', d1, args, m, eq, hzm, hlen, _⟩ := branch_shape hb
                cases eq
                have he2 : args[j]? = some e := he
                have m2 := (br_ok hzm).2.2
                have hj : j < args.length := (List.getElem?_eq_some_iff.mp he2).1
                refine ifT rfl ⟨_, rfl, v, e, ss, ts, rfl, dp_same s3 hde, List.all_eq_true.mp hargs e (List.mem_of_getElem? he2), fun G4 s4 => ⟨_, s4 D _ (by rw [upd_ne nD]; exact gD), ?_, same_upd2 (s3.trans s4) hD, ?_⟩⟩
                · rw [List.length_map, List.length_map, List.length_take]
                  exact Nat.lt_of_lt_of_le (show _ < 1000 by omega) (show 1000 ≤ sizeLine by decide)
                · rw [upd_same, if_pos rfl, take_more he, List.map_append, List.map_append]
                  rfl
            · obtain ⟨s2, gD⟩ := h
              rw [len2] at gD
              refine ⟨D, _, rfl, SqL.of gD, _, _, rfl, rfl, some (.ref da), o3, ?_, sG.trans (s1.trans s2)⟩
              show [_, some (V.int (((sumM (manyS (manyN n)) (ds.take i) : Nat) : Int) + 1 + _)), _, _] = _
              rw [sum_map, take_more hd, sumM_snoc]
              have em : manyS (manyN n) (.tuple (.str z :: es)) = 1 + sumM (manyN n) (if branchD (.tuple (.str z :: es)) = true then ((PyData.str z :: es).drop 2).take ((PyData.str z :: es).drop 2).length else []) := by
                unfold manyS
                cases hb : branchD (.tuple (.str z :: es)) with
                | false => rfl
                | true =>
                  rw [if_pos rfl, if_pos rfl, List.take_length]
                  cases es <;> rfl
              rw [em]
              congr 3
              congr 1
              omega
      · obtain ⟨o2, o3, rfl, sG⟩ := h
        rw [lx, List.take_length]
        exact ⟨_, rfl, q G sG⟩
  | _ => cases hl
theorem all_many {k : Nat} (F : Fun K "_law_many" "_law_many" sMany f fd) (hm : mg "_law_many" = some (.ref f)) (hb : Binds K fd ["_law_block_here"] []) (T : Free mg) : ∀ n, FnOk P w K mg base CX0 (k + n) f fd ["_law_block_here"] (spMany K n)
  | 0 => no_many
  | n + 1 => ok_many (k := k + n) F T ⟨f, fd, all_many F hm hb T n, hm, F.kp, hb⟩
/-! _law_is_block -/
end
section
theorem kt_mn {H : Hp} {st : Addr} (sa : StAt H st) : KT H (mn st H) := fun b u h n => mn_at (fun e => by
  obtain ⟨l, hl⟩ := sa.some
  rw [e, hl] at h
  cases h
  exact n _ rfl) h
end
def EnvD (K : PySem.W.Frag) (L : List (Nat × PyData)) (σ : L2.St) (H : Hp) : Prop := ∀ p ∈ L, ∃ v, σ[p.1]? = some (some v) ∧ Dp K H v p.2
theorem EnvD.same {K : PySem.W.Frag} {L : List (Nat × PyData)} {σ : L2.St} {H H' : Hp} (e : EnvD K L σ H) (s : Same H H') : EnvD K L σ H' := fun p hp => by
  obtain ⟨v, h1, h2⟩ := e p hp
  exact ⟨v, h1, dp_same s h2⟩
def Mk (K : PySem.W.Frag) (L : List (Nat × PyData)) (t : TE) (d : PyData) : Prop := ∀ (σ : L2.St) (H : Hp) (Q : VK), EnvD K L σ H → (∀ v H', Same H H' → Dp K H' v d → Q v H') → t σ H Q
def MkA (K : PySem.W.Frag) (L : List (Nat × PyData)) (t : TA) (ds : List PyData) : Prop := ∀ (σ : L2.St) (H : Hp) (Q : List V → Hp → Prop), EnvD K L σ H → (∀ vs H', Same H H' → DpAll K H' vs ds → Q vs H') → t σ H Q
section
variable {K : PySem.W.Frag} {L : List (Nat × PyData)}
theorem mk_int {i : Int} : Mk K L (tC (.int i)) (.int i) := fun σ H Q e q => q _ H (Same.refl _) (.int i)
theorem mk_str {x : Str} : Mk K L (tC (.str x)) (.str x) := fun σ H Q e q => q _ H (Same.refl _) (.str x)
theorem mk_bl {b : Bool} : Mk K L (tC (.bl b)) (.bool b) := fun σ H Q e q => q _ H (Same.refl _) (.bl b)
theorem mk_neg {i : Int} : Mk K L (tUn (rU fun i => .int (-i)) (tC (.int i))) (.int (-i)) := fun σ H Q e q => ⟨i, rfl, q _ H (Same.refl _) (.int _)⟩
theorem mk_var {i : Nat} {d : PyData} (h : (i, d) ∈ L) : Mk K L (tVar i) d := fun σ H Q e q => by
  obtain ⟨v, h1, h2⟩ := e _ h
  exact ⟨v, h1, q v H (Same.refl _) h2⟩
theorem mka_nil : MkA K L tNil [] := fun σ H Q e q => q [] H (Same.refl _) .nil
theorem mka_cons {t : TE} {ta : TA} {d : PyData} {ds : List PyData} (h : Mk K L t d) (hs : MkA K L ta ds) : MkA K L (tCons t ta) (d :: ds) := fun σ H Q e q =>
  h σ H _ e fun v H1 s1 d1 => hs σ H1 _ (e.same s1) fun vs H2 s2 d2 => q _ H2 (s1.trans s2) (.cons (dp_same s2 d1) d2)
theorem mk_tup {ta : TA} {ds : List PyData} (h : MkA K L ta ds) (hl : ds.length ≤ 1000) : Mk K L (tTup ta) (.tuple ds) := fun σ H Q e q =>
  h σ H _ e fun vs H1 s1 d1 => ⟨small (by rw [dpAll_len d1]; exact hl), fun p hp => q _ _ (s1.trans (same_new hp _)) (.tup (SqT.of upd_same) (dps_same (same_new hp _) d1))⟩
theorem mk_cat {t1 t2 : TE} {ds es : List PyData} (h1 : Mk K L t1 (.tuple ds)) (h2 : Mk K L t2 (.tuple es)) (hl : ds.length + es.length ≤ 1000) : Mk K L (tOp (rCatA K) t1 t2) (.tuple (ds ++ es)) := fun σ H Q e q =>
  h1 σ H _ e fun v1 H1 s1 d1 => h2 σ H1 _ (e.same s1) fun v2 H2 s2 d2 => by
    cases dp_same s2 d1 with
    | tup at1 each1 =>
      cases d2 with
      | tup at2 each2 =>
        exact catA_run at1 at2 (by rw [dpAll_len each1, dpAll_len each2]; exact hl) fun r H3 s3 h3 => q _ H3 (s1.trans (s2.trans s3)) (.tup h3 (dpAll_append (dps_same s3 each2) (dps_same s3 each1)))
end
section
variable {K : PySem.W.Frag} {L : List (Nat × PyData)}
theorem mk_lst {ta : TA} {ds : List PyData} (h : MkA K L ta ds) (hl : ds.length ≤ 1000) : Mk K L (tLst ta) (.list ds) := fun σ H Q e q =>
  h σ H _ e fun vs H1 s1 d1 => ⟨small (by rw [dpAll_len d1]; exact hl), fun p hp => q _ _ (s1.trans (same_new hp _)) (.lst (SqL.of upd_same) (dps_same (same_new hp _) d1))⟩
end
/-! _law_simple -/
theorem andT {a b : Bool} (h1 : a = true) (h2 : b = true) : (a && b) = true := by rw [h1, h2]; rfl
theorem unl_not {z : Str} {ds : List PyData} (h : decide (z ∈ unlikeL) = false) : unlikeB z ds = true := by
  unfold unlikeB
  rw [h]
  rfl
theorem unl_ne {z : Str} {ds : List PyData} {g h : Str} (hne : g ≠ h) (h1 : ds.headD .none = .str g) (h2 : ds.getLastD .none = .str h) : unlikeB z ds = true := by
  unfold unlikeB
  rw [h1, h2]
  show (_ || !decide (g = h)) = true
  rw [decide_eq_false hne]
  exact Bool.or_true _
theorem deed_mk {ss ts : List Int} {z : Str} {ks : List Kd} {ds : List PyData} (hk : deedK z = some ks) (hl : ds.length = ks.length) (hf : fitsAll ss ts ks ds = true) (hu : unlikeB z ds = true) : deedD ss ts (.tuple (.str z :: ds)) = true := by
  show deedB ss ts z ds = true
  unfold deedB
  rw [hk]
  show (decide (ds.length = ks.length) && (fitsAll ss ts ks ds && unlikeB z ds)) = true
  rw [decide_eq_true hl, hf, hu]
  rfl
def nameL : List Str := ["a", "b", "c", "count"]
def graphL : List Str := ["G", "H", "Kit"]
theorem nameL_ok : nameL.all (fun z => numNameD (.str z)) = true := by decide +kernel
theorem graphL_ok : graphL.all (fun z => graphNameD (.str z)) = true := by decide +kernel
def rowsA (a b g h : Str) (k : Int) : List PyData := [.tuple [.str "new", .str g], .tuple [.str "let", .str g, .str h], .tuple [.str "add", .str g, .str a], .tuple [.str "add", .str g, .str b], .tuple [.str "put", .str g, .str a, .int k, .str b], .tuple [.str "tie", .str g, .str a, .int k, .str b]]
def rowsB (a b g h : Str) (k : Int) : List PyData := [.tuple [.str "hang", .str g, .str a, .int k, .str h], .tuple [.str "hang", .str g, .str b, .int k, .str h], .tuple [.str "get", .str a, .str g, .str b, .int k], .tuple [.str "sort", .str a, .str g, .str b, .int k]]
def rowsC (a b g h : Str) (k : Int) : List PyData := [.tuple [.str "pick", .str g, .str h, .str a, .int k], .tuple [.str "pick", .str g, .str g, .str a, .int k], .tuple [.str "tell", .str a], .tuple [.str "show", .str g], .tuple [.str "show", .str h]]
theorem rows_ok {ss ts : List Int} {a b g h : Str} {k : Int} (na : numNameD (.str a) = true) (nb : numNameD (.str b) = true) (ng : graphNameD (.str g) = true) (nh : graphNameD (.str h) = true) (wk : withinD 0 2 (.int k) = true) (hgh : g ≠ h) : ∀ d ∈ rowsA a b g h k ++ rowsB a b g h k ++ rowsC a b g h k, deedD ss ts d = true := fun d hd => by
  have hd : d ∈ [.tuple [.str "new", .str g], .tuple [.str "let", .str g, .str h], .tuple [.str "add", .str g, .str a], .tuple [.str "add", .str g, .str b], .tuple [.str "put", .str g, .str a, .int k, .str b], .tuple [.str "tie", .str g, .str a, .int k, .str b], .tuple [.str "hang", .str g, .str a, .int k, .str h], .tuple [.str "hang", .str g, .str b, .int k, .str h], .tuple [.str "get", .str a, .str g, .str b, .int k], .tuple [.str "sort", .str a, .str g, .str b, .int k], .tuple [.str "pick", .str g, .str h, .str a, .int k], .tuple [.str "pick", .str g, .str g, .str a, .int k], .tuple [.str "tell", .str a], .tuple [.str "show", .str g], .tuple [.str "show", .str h]] := hd
  simp only [List.mem_cons, List.not_mem_nil, or_false] at hd
  rcases hd with rfl | rfl | rfl | rfl | rfl | rfl | rfl | rfl | rfl | rfl | rfl | rfl | rfl | rfl | rfl
  · exact deed_mk (ks := [.graph]) (by decide +kernel) rfl (andT ng rfl) (unl_not (by decide +kernel))
  · exact deed_mk (ks := [.graph, .graph]) (by decide +kernel) rfl (andT ng (andT nh rfl)) (unl_ne hgh rfl rfl)
  · exact deed_mk (ks := [.graph, .name]) (by decide +kernel) rfl (andT ng (andT na rfl)) (unl_not (by decide +kernel))
  · exact deed_mk (ks := [.graph, .name]) (by decide +kernel) rfl (andT ng (andT nb rfl)) (unl_not (by decide +kernel))
  · exact deed_mk (ks := [.graph, .name, .place, .name]) (by decide +kernel) rfl (andT ng (andT na (andT wk (andT nb rfl)))) (unl_not (by decide +kernel))
  · exact deed_mk (ks := [.graph, .name, .place, .name]) (by decide +kernel) rfl (andT ng (andT na (andT wk (andT nb rfl)))) (unl_not (by decide +kernel))
  · exact deed_mk (ks := [.graph, .name, .place, .graph]) (by decide +kernel) rfl (andT ng (andT na (andT wk (andT nh rfl)))) (unl_ne hgh rfl rfl)
  · exact deed_mk (ks := [.graph, .name, .place, .graph]) (by decide +kernel) rfl (andT ng (andT nb (andT wk (andT nh rfl)))) (unl_ne hgh rfl rfl)
  · exact deed_mk (ks := [.name, .graph, .name, .place]) (by decide +kernel) rfl (andT na (andT ng (andT nb (andT wk rfl)))) (unl_not (by decide +kernel))
  · exact deed_mk (ks := [.name, .graph, .name, .place]) (by decide +kernel) rfl (andT na (andT ng (andT nb (andT wk rfl)))) (unl_not (by decide +kernel))
  · exact deed_mk (ks := [.graph, .graph, .name, .place]) (by decide +kernel) rfl (andT ng (andT nh (andT na (andT wk rfl)))) (unl_not (by decide +kernel))
  · exact deed_mk (ks := [.graph, .graph, .name, .place]) (by decide +kernel) rfl (andT ng (andT ng (andT na (andT wk rfl)))) (unl_not (by decide +kernel))
  · exact deed_mk (ks := [.name]) (by decide +kernel) rfl (andT na rfl) (unl_not (by decide +kernel))
  · exact deed_mk (ks := [.graph]) (by decide +kernel) rfl (andT ng rfl) (unl_not (by decide +kernel))
  · exact deed_mk (ks := [.graph]) (by decide +kernel) rfl (andT nh rfl) (unl_not (by decide +kernel))
theorem deed_tup {ss ts : List Int} {d : PyData} (h : deedD ss ts d = true) : tupOnly d = true := by
  unfold deedD at h
  split at h
  · rename_i z ds
    unfold deedB at h
    split at h
    · cases h
    · rename_i ks hk
      have hl := of_decide_eq_true (and3 h).1
      have hf := (and3 (and3 h).2).1
      show tupOnlyAll (.str z :: ds) = true
      show (true && tupOnlyAll ds) = true
      rw [Bool.true_and]
      clear h hk
      induction ks generalizing ds with
      | nil =>
        cases ds with
        | nil => rfl
        | cons d ds => cases hl
      | cons k ks ih =>
        cases ds with
        | nil => rfl
        | cons d ds =>
          have hf := and3 (show (fitD ss ts k d && fitsAll ss ts ks ds) = true from hf)
          have hd : tupOnly d = true := by
            cases k with
            | name => obtain ⟨x, rfl, _⟩ := num_str hf.1; rfl
            | graph => obtain ⟨x, rfl⟩ := graph_str hf.1; rfl
            | number => obtain ⟨x, rfl, _⟩ := within_int hf.1; rfl
            | place => obtain ⟨x, rfl, _⟩ := within_int hf.1; rfl
            | sign =>
              obtain ⟨y, _, hy⟩ := List.any_eq_true.mp (show signs.any (fun z => isStrD z d) = true from hf.1)
              cases d <;> first | rfl | cases hy
            | into => have := hf.1; cases d <;> first | rfl | cases this
            | out => have := hf.1; cases d <;> first | rfl | cases this
          show (tupOnly d && tupOnlyAll ds) = true
          rw [hd, ih ds (by simpa using hl) hf.2]
          rfl
  · cases h
section
variable {K : PySem.W.Frag}
theorem mkl_go {L : List (Nat × PyData)} {ta : TA} {ds : List PyData} {σ : L2.St} {H : Hp} {Q : VK} (h : MkA K L ta ds) (hl : ds.length ≤ 1000) (env : EnvD K L σ H) (q : ∀ vs H' p, Same H H' → DpAll K H' vs ds → H' p = none → Q (.ref p) (upd H' p (.lst vs))) : tLst ta σ H Q :=
  h σ H _ env fun vs H1 s1 d1 => ⟨small (by rw [dpAll_len d1]; exact hl), fun p hp => q vs H1 p s1 d1 hp⟩
theorem setl_go {L : List (Nat × PyData)} {ta : TA} {ds : List PyData} {i : Nat} {u : TS} {D : Ends} {σ : L2.St} {H : Hp} (h : MkA K L ta ds) (hl : ds.length ≤ 1000) (env : EnvD K L σ H) (q : ∀ vs H' p, Same H H' → DpAll K H' vs ds → H' p = none → u D (σ.set i (some (.ref p))) (upd H' p (.lst vs))) : tSeq (tAsg (tLst ta) (gName i)) u D σ H :=
  h σ H _ env fun vs H1 s1 d1 => ⟨small (by rw [dpAll_len d1]; exact hl), fun p hp => q vs H1 p s1 d1 hp⟩
theorem setc_go {L : List (Nat × PyData)} {ta : TA} {ds es : List PyData} {i : Nat} {u : TS} {D : Ends} {σ : L2.St} {H : Hp} {p : Addr} {vs : List V} (h : MkA K L ta ds) (hl : es.length + ds.length ≤ 1000) (env : EnvD K L σ H) (hi : σ[i]? = some (some (.ref p))) (hp : H p = some (.lst vs)) (hd : DpAll K H vs es)
    (q : ∀ ws H' p, Same H H' → H p = none → H' p = some (.lst ws) → DpAll K H' ws (es ++ ds) → u D (σ.set i (some (.ref p))) H') : tSeq (tAsg (tOp rCat (tVar i) (tLst ta)) (gName i)) u D σ H :=
  ⟨_, hi, h σ H _ env fun ws H1 s1 d1 => ⟨small (by rw [dpAll_len d1]; omega), fun p2 hp2 => ⟨p, p2, vs, ws, rfl, rfl, (s1.trans (same_new hp2 _)) _ _ hp, upd_same, small (by rw [dpAll_len hd, dpAll_len d1]; exact hl), fun p3 hp3 => by
    have g := same_new hp2 (.lst ws)
    have g3 := same_new hp3 (.lst (vs ++ ws))
    exact q _ _ p3 (s1.trans (g.trans g3)) (none_of_same (s1.trans g) hp3) upd_same (dps_same (g.trans g3) (dpAll_append d1 (dps_same s1 hd)))⟩⟩⟩
end
section
open PySem.Spec PyProof.Rows LamX
variable {P : Program} {w : World} {K : PySem.W.Frag} {mg : Str → Option Value} {base : Heap} {f : Addr} {fd : FuncData}
def spSimple (K : PySem.W.Frag) : Sp := fun vs H Q _ => ∃ (st sa ta : Addr) (ss ts : List Int), vs = [.ref st, .ref sa, .ref ta] ∧ StAt H st ∧ sa ≠ st ∧ ta ≠ st ∧ H sa = some (.lst (ss.map V.int)) ∧ H ta = some (.lst (ts.map V.int)) ∧ ss.length ≤ 100 ∧ ts.length ≤ 100 ∧ ∀ v d H', Mv st H H' → Dp K H' v d → deedD ss ts d = true → Q v H'
abbrev NSim : List Str := ["_law_state_here", "_law_sends", "_law_takes", "_law_names", "_law_graphs", "_law_a", "_law_b", "_law_c", "_law_turn", "_law_at", "_law_k", "_law_g", "_law_h", "_law_kind", "_law_rows"]
theorem scSim : FnScope NSim ["_law_state_here", "_law_sends", "_law_takes"] (defScope sSimple) := ⟨rfl, rfl, rfl, by decide +kernel, rfl, by decide +kernel, by decide +kernel⟩
abbrev envL (a b g h : Str) (k : Int) : List (Nat × PyData) := [(5, .str a), (6, .str b), (10, .int k), (11, .str g), (12, .str h)]
def tRows (K : PySem.W.Frag) (ss ts : List Int) : TS := fun D σ H => ∃ (st : Addr) (v1 v2 v3 v4 v7 v8 v9 v14 : Option V) (a b g h : Str) (k kd : Int), σ = [some (.ref st), v1, v2, v3, v4, some (.str a), some (.str b), v7, v8, v9, some (.int k), some (.str g), some (.str h), some (.int kd), v14] ∧ StAt H st ∧
  numNameD (.str a) = true ∧ numNameD (.str b) = true ∧ graphNameD (.str g) = true ∧ graphNameD (.str h) = true ∧ withinD 0 2 (.int k) = true ∧ g ≠ h ∧ ∀ v d H', Mv st H H' → Dp K H' v d → deedD ss ts d = true → D.rt v H'
set_option maxHeartbeats 2000000 in
theorem ok_simple {k : Nat} (F : Fun K "_law_simple" "_law_simple" sSimple f fd) (T : Free mg) (cC : Cal P w K mg base "_law_choice" k ["_law_state_here", "_law_many_here"] spChoice) : FnOk P w K mg base CX0 (k + 1) f fd ["_law_state_here", "_law_sends", "_law_takes"] (spSimple K) := by
  refine F.ok scSim (fun vs H Q E h => ?_) (fun cdv A outer s H vs Q E hr h => ?_)
  · obtain ⟨st, sa, ta, ss, ts, rfl, _⟩ := h
    rfl
  obtain ⟨st, sa, ta, ss, ts, rfl, hst, nsa, nta, hsa, hta, ls, lt, q⟩ := h
  refine ⟨_, pss_cons (ps_asg (pe_tup (pa_cons (pe_lst (pa_cons pe_str (pa_cons pe_str (pa_cons pe_str (pa_cons pe_str pa_nil))))) (pa_cons (pe_lst (pa_cons pe_str (pa_cons pe_str (pa_cons pe_str pa_nil)))) pa_nil))) (pg_tup rfl (pgs_cons (pg_name (i := 3) scSim.nd rfl (.inr rfl)) (pgs_cons (pg_name (i := 4) scSim.nd rfl (.inl rfl)) pgs_nil))))
    (pss_cons (ps_asg (pe_lc (own := [("_law_turn", 8)]) (g := gName 8) (tt := tYes) (te := tOp (rIxL K) (tVar 3) (tCall spChoice [] E0 (tCons (tVar 0) (tCons (tC (.int 4)) tNil)))) rfl scSim.nd (pi_range1 rfl T.range (pa_cons pe_int pa_nil))
        (blkOk_by (own := [("_law_turn", 8)]) (N := NSim) (sc := defScope sSimple) (by decide +kernel))
        (fun _ _ _ _ _ => pg_name (i := 8) scSim.nd rfl (Or.inl rfl)) (fun _ _ _ _ _ => pts_nil) (fun _ _ _ _ _ => pe_ix ix_list (pv 3) (pe_cal cC hr rfl (pa_cons (pv 0) (pa_cons pe_int pa_nil))) (fun _ _ => rfl))) (pg_unl rfl (pgs_cons (pg_name (i := 5) scSim.nd rfl (.inl rfl)) (pgs_cons (pg_name (i := 6) scSim.nd rfl (.inl rfl)) (pgs_cons (pg_name (i := 7) scSim.nd rfl (.inl rfl)) pgs_nil)))))
    (pss_cons (ps_par (i := 9) (j := 10) rfl scSim.nd rfl rfl (by decide) rfl rfl (pa_cons (pe_cal cC hr rfl (pa_cons (pv 0) (pa_cons pe_int pa_nil))) (pa_cons (pe_cal cC hr rfl (pa_cons (pv 0) (pa_cons pe_int pa_nil))) pa_nil)) rfl)
    (pss_cons (ps_par (i := 11) (j := 12) rfl scSim.nd rfl rfl (by decide) rfl rfl (pa_cons (pe_ix ix_list (pv 4) (pv 9) (fun _ _ => rfl)) (pa_cons (pe_ix ix_list (pv 4) (pe_op op_mod (pe_op op_add (pe_op op_add (pv 9) pe_int) (pe_cal cC hr rfl (pa_cons (pv 0) (pa_cons pe_int pa_nil)))) pe_int) (fun _ _ => rfl)) pa_nil)) rfl)
    (pss_cons (ps_set (i := 13) scSim.nd rfl (.inl rfl) (pe_cal cC hr rfl (pa_cons (pv 0) (pa_cons pe_int pa_nil))))
    (pss_cons (ps_if (pt_cmpR op_lt (pv 13) pe_int (nomark _)) (pss_one (ps_ret (pe_tup (pa_cons pe_str (pa_cons (pv 5) (pa_cons (pe_ix ix_list (pe_lst (pa_cons pe_int (pa_cons pe_int (pa_cons pe_int (pa_cons (pe_un un_neg pe_int) (pa_cons pe_int (pa_cons pe_int (pa_cons (pe_op op_sub (pe_cal cC hr rfl (pa_cons (pv 0) (pa_cons pe_int pa_nil))) pe_int) pa_nil)))))))) (pe_cal cC hr rfl (pa_cons (pv 0) (pa_cons pe_int pa_nil))) (fun _ _ => rfl)) pa_nil)))))) pss_nil)
    (pss_cons (ps_if (pt_cmpR op_eq (pv 13) pe_int (nomark _)) (pss_one (ps_ret (pe_tup (pa_cons pe_str (pa_cons (pv 5) (pa_cons (pv 6) (pa_cons (pe_ix ix_str pe_str (pe_cal cC hr rfl (pa_cons (pv 0) (pa_cons pe_int pa_nil))) (fun _ _ => rfl)) (pa_cons (pv 7) pa_nil)))))))) pss_nil)
    (pss_cons (ps_if (PW.pt (pw_and (pt_cmpR op_eq (pv 13) pe_int (nomark _)) (pw_and1 (pt_cmpR (op_neLE hr.units) (pv 1) (pe_lst pa_nil) (nomark _))))) (pss_one (ps_ret (pe_tup (pa_cons pe_str (pa_cons (pe_ix ix_list (pv 1) (pe_cal cC hr rfl (pa_cons (pv 0) (pa_cons (pe_callB call_len_seq rfl T.len PySem.boot_len (pa_cons (pv 1) pa_nil)) pa_nil))) (fun _ _ => rfl)) (pa_cons (pv 11) pa_nil)))))) pss_nil)
    (pss_cons (ps_if (PW.pt (pw_and (pt_cmpR op_eq (pv 13) pe_int (nomark _)) (pw_and1 (pt_cmpR (op_neLE hr.units) (pv 2) (pe_lst pa_nil) (nomark _))))) (pss_one (ps_ret (pe_tup (pa_cons pe_str (pa_cons (pv 11) (pa_cons (pe_ix ix_list (pv 2) (pe_cal cC hr rfl (pa_cons (pv 0) (pa_cons (pe_callB call_len_seq rfl T.len PySem.boot_len (pa_cons (pv 2) pa_nil)) pa_nil))) (fun _ _ => rfl)) pa_nil)))))) pss_nil)
    (pss_imp (t' := tRows K ss ts) (pss_cons (ps_set (i := 14) scSim.nd rfl (.inl rfl) (pe_lst (pa_cons (pe_tup (pa_cons pe_str (pa_cons (pv 11) pa_nil))) (pa_cons (pe_tup (pa_cons pe_str (pa_cons (pv 11) (pa_cons (pv 12) pa_nil)))) (pa_cons (pe_tup (pa_cons pe_str (pa_cons (pv 11) (pa_cons (pv 5) pa_nil)))) (pa_cons (pe_tup (pa_cons pe_str (pa_cons (pv 11) (pa_cons (pv 6) pa_nil)))) (pa_cons (pe_tup (pa_cons pe_str (pa_cons (pv 11) (pa_cons (pv 5) (pa_cons (pv 10) (pa_cons (pv 6) pa_nil)))))) (pa_cons (pe_tup (pa_cons pe_str (pa_cons (pv 11) (pa_cons (pv 5) (pa_cons (pv 10) (pa_cons (pv 6) pa_nil)))))) pa_nil))))))))
    (pss_cons (ps_set (i := 14) scSim.nd rfl (.inl rfl) (pe_op op_cat (pv 14) (pe_lst (pa_cons (pe_tup (pa_cons pe_str (pa_cons (pv 11) (pa_cons (pv 5) (pa_cons (pv 10) (pa_cons (pv 12) pa_nil)))))) (pa_cons (pe_tup (pa_cons pe_str (pa_cons (pv 11) (pa_cons (pv 6) (pa_cons (pv 10) (pa_cons (pv 12) pa_nil)))))) (pa_cons (pe_tup (pa_cons pe_str (pa_cons (pv 5) (pa_cons (pv 11) (pa_cons (pv 6) (pa_cons (pv 10) pa_nil)))))) (pa_cons (pe_tup (pa_cons pe_str (pa_cons (pv 5) (pa_cons (pv 11) (pa_cons (pv 6) (pa_cons (pv 10) pa_nil)))))) pa_nil)))))))
    (pss_cons (ps_set (i := 14) scSim.nd rfl (.inl rfl) (pe_op op_cat (pv 14) (pe_lst (pa_cons (pe_tup (pa_cons pe_str (pa_cons (pv 11) (pa_cons (pv 12) (pa_cons (pv 5) (pa_cons (pv 10) pa_nil)))))) (pa_cons (pe_tup (pa_cons pe_str (pa_cons (pv 11) (pa_cons (pv 11) (pa_cons (pv 5) (pa_cons (pv 10) pa_nil)))))) (pa_cons (pe_tup (pa_cons pe_str (pa_cons (pv 5) pa_nil))) (pa_cons (pe_tup (pa_cons pe_str (pa_cons (pv 11) pa_nil))) (pa_cons (pe_tup (pa_cons pe_str (pa_cons (pv 12) pa_nil))) pa_nil))))))))
    (pss_one (ps_ret (pe_ix ix_list (pv 14) (pe_op op_mod (pe_op op_sub (pv 13) pe_int) pe_int) (fun _ _ => rfl))))))) ?rows))))))))), ?_⟩
  case rows => 
    intro D σ G h
    obtain ⟨st, v1, v2, v3, v4, v7, v8, v9, v14, a, b, g, h, k, kd, rfl, sG, na, nb, ng, nh, wk, hgh, q⟩ := h
    have env : ∀ G' v, EnvD K (envL a b g h k) [some (.ref st), v1, v2, v3, v4, some (.str a), some (.str b), v7, v8, v9, some (.int k), some (.str g), some (.str h), some (.int kd), v] G' := fun G' v p hp => by
      simp only [envL, List.mem_cons, List.not_mem_nil, or_false] at hp
      rcases hp with rfl | rfl | rfl | rfl | rfl
      · exact ⟨_, rfl, .str _⟩
      · exact ⟨_, rfl, .str _⟩
      · exact ⟨_, rfl, .int _⟩
      · exact ⟨_, rfl, .str _⟩
      · exact ⟨_, rfl, .str _⟩
    refine setl_go (K := K) (L := [(5, .str a), (6, .str b), (10, .int k), (11, .str g), (12, .str h)]) (ds := rowsA a b g h k) (mka_cons (mk_tup (mka_cons mk_str (mka_cons (mk_var (by simp)) mka_nil)) (by simp)) (mka_cons (mk_tup (mka_cons mk_str (mka_cons (mk_var (by simp)) (mka_cons (mk_var (by simp)) mka_nil))) (by simp)) (mka_cons (mk_tup (mka_cons mk_str (mka_cons (mk_var (by simp)) (mka_cons (mk_var (by simp)) mka_nil))) (by simp)) (mka_cons (mk_tup (mka_cons mk_str (mka_cons (mk_var (by simp)) (mka_cons (mk_var (by simp)) mka_nil))) (by simp)) (mka_cons (mk_tup (mka_cons mk_str (mka_cons (mk_var (by simp)) (mka_cons (mk_var (by simp)) (mka_cons (mk_var (by simp)) (mka_cons (mk_var (by simp)) mka_nil))))) (by simp)) (mka_cons (mk_tup (mka_cons mk_str (mka_cons (mk_var (by simp)) (mka_cons (mk_var (by simp)) (mka_cons (mk_var (by simp)) (mka_cons (mk_var (by simp)) mka_nil))))) (by simp)) mka_nil)))))) (by show 6 ≤ 1000; decide) (env G v14) fun vs1 G1 p1 s1 d1 hp1 => ?_
    have s1' := s1.trans (same_new hp1 (.lst vs1))
    refine setc_go (K := K) (L := [(5, .str a), (6, .str b), (10, .int k), (11, .str g), (12, .str h)]) (ds := rowsB a b g h k) (es := rowsA a b g h k) (mka_cons (mk_tup (mka_cons mk_str (mka_cons (mk_var (by simp)) (mka_cons (mk_var (by simp)) (mka_cons (mk_var (by simp)) (mka_cons (mk_var (by simp)) mka_nil))))) (by simp)) (mka_cons (mk_tup (mka_cons mk_str (mka_cons (mk_var (by simp)) (mka_cons (mk_var (by simp)) (mka_cons (mk_var (by simp)) (mka_cons (mk_var (by simp)) mka_nil))))) (by simp)) (mka_cons (mk_tup (mka_cons mk_str (mka_cons (mk_var (by simp)) (mka_cons (mk_var (by simp)) (mka_cons (mk_var (by simp)) (mka_cons (mk_var (by simp)) mka_nil))))) (by simp)) (mka_cons (mk_tup (mka_cons mk_str (mka_cons (mk_var (by simp)) (mka_cons (mk_var (by simp)) (mka_cons (mk_var (by simp)) (mka_cons (mk_var (by simp)) mka_nil))))) (by simp)) mka_nil)))) (by show 6 + 4 ≤ 1000; decide) (env _ (some (.ref p1))) rfl upd_same (dps_same (same_new hp1 _) d1) fun vs2 G2 p2 s2 n2 hp2 d2 => ?_
    refine setc_go (K := K) (L := [(5, .str a), (6, .str b), (10, .int k), (11, .str g), (12, .str h)]) (ds := rowsC a b g h k) (es := rowsA a b g h k ++ rowsB a b g h k) (mka_cons (mk_tup (mka_cons mk_str (mka_cons (mk_var (by simp)) (mka_cons (mk_var (by simp)) (mka_cons (mk_var (by simp)) (mka_cons (mk_var (by simp)) mka_nil))))) (by simp)) (mka_cons (mk_tup (mka_cons mk_str (mka_cons (mk_var (by simp)) (mka_cons (mk_var (by simp)) (mka_cons (mk_var (by simp)) (mka_cons (mk_var (by simp)) mka_nil))))) (by simp)) (mka_cons (mk_tup (mka_cons mk_str (mka_cons (mk_var (by simp)) mka_nil)) (by simp)) (mka_cons (mk_tup (mka_cons mk_str (mka_cons (mk_var (by simp)) mka_nil)) (by simp)) (mka_cons (mk_tup (mka_cons mk_str (mka_cons (mk_var (by simp)) mka_nil)) (by simp)) mka_nil))))) (by show 10 + 5 ≤ 1000; decide) (env _ (some (.ref p2))) rfl hp2 d2 fun vs3 G3 p5 s3 n3 hp5 d5 => ?_
    have s5' := s1'.trans (s2.trans s3)
    have ok := rows_ok (ss := ss) (ts := ts) na nb ng nh wk hgh
    obtain ⟨v, d, hv, hd, hm⟩ := pick_dp (r := (kd - 4) % 15) d5 (by omega) (by show _ < ((15 : Nat) : Int); omega)
    exact ⟨_, rfl, _, rfl, _, _, rfl, rfl, _, _, rfl, rfl, (by show (0 : Int) < 15; decide), p5, _, _, v, rfl, rfl, .of hp5, hv, q v d _ ⟨Kp.of_same s5', sG.same s5'⟩ hd (ok d hm)⟩
  have fin : ∀ {G : Hp} {vs : List V} {ds : List PyData}, Mv st H G → DpAll K G vs ds → deedD ss ts (.tuple ds) = true → ∀ p, G p = none → Q (.ref p) (upd G p (.tup vs)) := fun mv dp dd p hp =>
    q _ (.tuple _) _ ⟨mv.kp.trans (Kp.of_same (same_new hp _)), mv.sa.same (same_new hp _)⟩ (.tup (.of upd_same) (dps_same (same_new hp _) dp)) dd
  have len4 : ∀ n : Nat, n ≤ 1000 → n ≤ sizeLine := fun n h => small h
  refine ⟨small (by show 4 ≤ 1000; decide), fun pn hpn => ⟨small (by show 3 ≤ 1000; decide), fun pg hpg => ⟨small (by show 2 ≤ 1000; decide), fun pt hpt => ?_⟩⟩⟩
  have s1 := same_new hpn (.lst (nameL.map V.str))
  have s2 := same_new hpg (.lst (graphL.map V.str))
  have s3 := same_new hpt (.tup [.ref pn, .ref pg])
  generalize hH3 : upd (upd (upd H pn (.lst (nameL.map V.str))) pg (.lst (graphL.map V.str))) pt (.tup [.ref pn, .ref pg]) = H3
  have s03 : Same H H3 := by rw [← hH3]; exact s1.trans (s2.trans s3)
  have hn3 : H3 pn = some (.lst (nameL.map V.str)) := by rw [← hH3]; exact s3 _ _ (s2 _ _ upd_same)
  have hg3 : H3 pg = some (.lst (graphL.map V.str)) := by rw [← hH3]; exact s3 _ _ upd_same
  have hp3 : H3 pt = some (.tup [.ref pn, .ref pg]) := by rw [← hH3]; exact upd_same
  have npn : pn ≠ st := hst.ne hpn
  have npg : pg ≠ st := (hst.same s1).ne hpg
  have st3 := hst.same s03
  have m03 : Mv st H H3 := ⟨Kp.of_same s03, st3⟩
  rw [show upd (upd (upd H pn (.lst [V.str "a", V.str "b", V.str "c", V.str "count"])) pg (.lst [V.str "G", V.str "H", V.str "Kit"])) pt (.tup [.ref pn, .ref pg]) = H3 from hH3]
  refine ⟨pt, _, rfl, .of hp3, rfl, _, _, rfl, _, _, rfl, rfl, ?_⟩
  refine ⟨3, rfl, by decide, by decide, fun D hD => ?_⟩
  have nD : D ≠ st := st3.ne hD
  refine lc_range (fun i G => Mv st H3 G ∧ ∃ zs : List Str, zs.length = i ∧ (∀ z ∈ zs, z ∈ nameL) ∧ G D = some (.lst (zs.map V.str))) ⟨⟨Kp.of_same (same_new hD _), st3.same (same_new hD _)⟩, [], rfl, fun z hz => (by cases hz), upd_same⟩ (fun i G hi h => ?_) (fun G h => ?_)
  · obtain ⟨mG, zs, lz, hz, gD⟩ := h
    have hi : i < 3 := hi
    refine ⟨rfl, yesG ⟨_, rfl, _, rfl, st, 4, rfl, mG.sa, by decide, by decide, fun r G1 r0 r1 m1 => ?_⟩⟩
    have hn1 := m1.kp _ _ npn (mG.kp _ _ npn hn3)
    have gD1 := m1.kp _ _ nD gD
    obtain ⟨z, hzr⟩ : ∃ z, nameL[r.toNat]? = some z := ⟨nameL[r.toNat]'(by show r.toNat < 4; omega), by simp⟩
    refine ⟨pn, nameL.map V.str, r, .str z, rfl, rfl, .of hn1, atI_at r0 (by rw [List.getElem?_map, hzr]; rfl), zs.map V.str, gD1, ?_, ⟨⟨fun b u hb hu => ?_, (mG.trans m1).sa.upd nD⟩, zs ++ [z], by rw [List.length_append, lz]; rfl, fun y hy => ?_, by rw [upd_same, List.map_append]; rfl⟩⟩
    · rw [List.length_map, lz]
      exact Nat.lt_of_lt_of_le (show _ < 1000 by omega) (show 1000 ≤ sizeLine by decide)
    · by_cases e : b = D
      · rw [e, hD] at hu
        cases hu
      · rw [upd_ne e]
        exact (mG.trans m1).kp b u hb hu
    · rcases List.mem_append.mp hy with hy | hy
      · exact hz y hy
      · rw [List.mem_singleton.mp hy]
        exact List.mem_of_getElem? hzr
  · obtain ⟨mG, zs, lz, hz, gD⟩ := h
    have lz : zs.length = 3 := lz
    match zs, lz, hz, gD with
    | [a, b, c], _, hz, gD =>
      have na : numNameD (.str a) = true := List.all_eq_true.mp nameL_ok a (hz a (by simp))
      have nb : numNameD (.str b) = true := List.all_eq_true.mp nameL_ok b (hz b (by simp))
      have nc : numNameD (.str c) = true := List.all_eq_true.mp nameL_ok c (hz c (by simp))
      refine ⟨D, _, rfl, .of gD, rfl, _, _, rfl, _, _, rfl, _, _, rfl, rfl, ?_⟩
      have m0G := m03.trans mG
      refine ⟨_, rfl, st, 3, rfl, m0G.sa, by decide, by decide, fun at1 G1 a0 a1 m1 => ?_⟩
      refine ⟨_, rfl, st, 3, rfl, m1.sa, by decide, by decide, fun k G2 k0 k1 m2 => ⟨_, _, rfl, ?_⟩⟩
      have m02 := m0G.trans (m1.trans m2)
      have hg2 := m2.kp _ _ npg (m1.kp _ _ npg (mG.kp _ _ npg hg3))
      obtain ⟨g, hgr⟩ : ∃ z, graphL[at1.toNat]? = some z := ⟨graphL[at1.toNat]'(by show at1.toNat < 3; omega), by simp⟩
      refine ⟨_, rfl, _, rfl, pg, graphL.map V.str, at1, .str g, rfl, rfl, .of hg2, atI_at a0 (by rw [List.getElem?_map, hgr]; rfl), _, rfl, _, rfl, _, _, rfl, rfl, _, rfl, st, 2, rfl, m2.sa, by decide, by decide, fun r3 G3 r30 r31 m3 => ?_⟩
      have m03' := m02.trans m3
      have hg3' := m3.kp _ _ npg hg2
      obtain ⟨h, hhr⟩ : ∃ z, graphL[((at1 + 1 + r3) % 3).toNat]? = some z := ⟨graphL[((at1 + 1 + r3) % 3).toNat]'(by show _ < 3; omega), by simp⟩
      refine ⟨_, _, rfl, rfl, _, _, rfl, rfl, (by show (0 : Int) < 3; decide), pg, graphL.map V.str, (at1 + 1 + r3) % 3, .str h, rfl, rfl, .of hg3', atI_at (by omega) (by rw [List.getElem?_map, hhr]; rfl), _, _, rfl, ?_⟩
      have ng : graphNameD (.str g) = true := List.all_eq_true.mp graphL_ok g (List.mem_of_getElem? hgr)
      have nh : graphNameD (.str h) = true := List.all_eq_true.mp graphL_ok h (List.mem_of_getElem? hhr)
      have wk : withinD 0 2 (.int k) = true := by
        show (decide ((0 : Int) ≤ k) && decide (k ≤ 2)) = true
        rw [decide_eq_true k0, decide_eq_true (by omega)]
        rfl
      have hgh : g ≠ h := fun e => by
        have hne : at1.toNat ≠ ((at1 + 1 + r3) % 3).toNat := by omega
        have nd : ∀ i j : Fin 3, i ≠ j → graphL[i.val]? ≠ graphL[j.val]? := by decide +kernel
        exact nd ⟨at1.toNat, by omega⟩ ⟨((at1 + 1 + r3) % 3).toNat, by omega⟩ (fun z => hne (congrArg Fin.val z)) (hgr.trans (by rw [← e] at hhr; exact hhr.symm))
      refine ⟨_, rfl, st, 19, rfl, m03'.sa, by decide, by decide, fun kd G4 kd0 kd1 m4 => ?_⟩
      have m04 := m03'.trans m4
      refine ⟨_, rfl, _, _, rfl, rfl, _, rfl, ?_⟩
      by_cases c3 : kd < 3
      · refine ifT (decide_eq_true c3) ?_
        refine ⟨_, rfl, _, rfl, _, rfl, st, 19999, rfl, m04.sa, by decide, by decide, fun r5 G5 r50 r51 m5 => ⟨_, _, rfl, rfl, small (by show 7 ≤ 1000; decide), fun pl hpl => ?_⟩⟩
        have m05 := m04.trans m5
        have s6 := same_new hpl (.lst ([0, 1, 2, -1, 3, 9999, r5 - 9999].map V.int))
        have npl : pl ≠ st := m05.sa.ne hpl
        refine ⟨_, rfl, st, 7, rfl, m05.sa.same s6, by decide, by decide, fun r6 G6 r60 r61 m6 => ?_⟩
        have m06 : Mv st H G6 := m05.trans (Mv.trans ⟨Kp.of_same s6, m05.sa.same s6⟩ m6)
        have hl6 := m6.kp _ _ npl (show upd G5 pl (.lst ([0, 1, 2, -1, 3, 9999, r5 - 9999].map V.int)) pl = _ from upd_same)
        obtain ⟨i, hir⟩ : ∃ z, ([0, 1, 2, -1, 3, 9999, r5 - 9999] : List Int)[r6.toNat]? = some z := ⟨([0, 1, 2, -1, 3, 9999, r5 - 9999] : List Int)[r6.toNat]'(by show r6.toNat < 7; omega), by simp⟩
        have hib : -9999 ≤ i ∧ i ≤ 9999 := by
          have hm := List.mem_of_getElem? hir
          simp only [List.mem_cons, List.not_mem_nil, or_false] at hm
          omega
        refine ⟨pl, _, r6, .int i, rfl, rfl, .of hl6, atI_at r60 (by rw [List.getElem?_map, hir]; rfl), small (by show 3 ≤ 1000; decide), fin m06 (.cons (.str _) (.cons (.str a) (.cons (.int i) .nil))) (deed_mk (ks := [.name, .number]) (by decide +kernel) rfl (andT na (andT ?_ rfl)) (unl_not (by decide +kernel)))⟩
        show (decide ((-9999 : Int) ≤ i) && decide (i ≤ 9999)) = true
        rw [decide_eq_true hib.1, decide_eq_true hib.2]
        rfl
      · refine ifF (decide_eq_false c3) ⟨_, rfl, rfl, _, rfl, ?_⟩
        by_cases c4 : kd = 3
        · refine ifT (by rw [c4]; exact decide_eq_true rfl) ?_
          refine ⟨_, rfl, _, rfl, _, rfl, st, 5, rfl, m04.sa, by decide, by decide, fun r5 G5 r50 r51 m5 => ?_⟩
          have m05 := m04.trans m5
          obtain ⟨ch, hch⟩ : ∃ z, ("+-*<=" : Str).cps.toList[r5.toNat]? = some z := by
            have h5 : ("+-*<=" : Str).cps.toList.length = 5 := by decide +kernel
            exact ⟨("+-*<=" : Str).cps.toList[r5.toNat]'(by omega), by simp⟩
          have hsg : ∀ i : Fin 5, ∃ c, ("+-*<=" : Str).cps.toList[i.val]? = some c ∧ (signs.any fun z => isStrD z (.str ⟨#[c]⟩)) = true := by
            have q0 : ∀ i : Fin 5, (match ("+-*<=" : Str).cps.toList[i.val]? with | some c => signs.any fun z => isStrD z (.str ⟨#[c]⟩) | none => false) = true := by decide +kernel
            intro i
            have q1 := q0 i
            cases z : ("+-*<=" : Str).cps.toList[i.val]? with
            | none => rw [z] at q1; cases q1
            | some c => rw [z] at q1; exact ⟨c, rfl, q1⟩
          obtain ⟨c', hc', hs'⟩ := hsg ⟨r5.toNat, by omega⟩
          have hc' : ("+-*<=" : Str).cps.toList[r5.toNat]? = some c' := hc'
          rw [hch] at hc'
          cases hc'
          refine ⟨"+-*<=", r5, ch, rfl, rfl, by decide +kernel, atI_at r50 hch, _, rfl, small (by show 5 ≤ 1000; decide), fin m05 (.cons (.str _) (.cons (.str a) (.cons (.str b) (.cons (.str _) (.cons (.str c) .nil))))) (deed_mk (ks := [.name, .name, .sign, .name]) (by decide +kernel) rfl (andT na (andT nb (andT hs' (andT nc rfl)))) (unl_not (by decide +kernel)))⟩
        · refine ifF (decide_eq_false (fun z => c4 (by injection z))) ?_
          have sa4 := m04.kp _ _ nsa hsa
          have ta4 := m04.kp _ _ nta hta
          have out : ∀ G, Same G4 G → ∀ D', D'.rt = Q → tRows K ss ts D' [some (.ref st), some (.ref sa), some (.ref ta), some (.ref pn), some (.ref pg), some (.str a), some (.str b), some (.str c), none, some (.int at1), some (.int k), some (.str g), some (.str h), some (.int kd), none] G := fun G sG D' hD' =>
            ⟨st, _, _, _, _, _, _, _, _, a, b, g, h, k, kd, rfl, m04.sa.same sG, na, nb, ng, nh, wk, hgh, fun v d H' mv dp dd => by rw [hD']; exact q v d H' (m04.trans (Mv.trans ⟨Kp.of_same sG, m04.sa.same sG⟩ mv)) dp dd⟩
          refine ⟨_, rfl, rfl, _, rfl, ?_⟩
          by_cases c16 : kd = 16
          · refine ifT (by rw [c16]; exact decide_eq_true rfl) ⟨_, rfl, small (Nat.zero_le _), fun p hp => ⟨sa, p, ss.map V.int, rfl, rfl, .of (by rw [upd_ne (ne_of_none sa4 hp)]; exact sa4), .of upd_same, _, rfl, ?_⟩⟩
            have sp := same_new hp (.lst [])
            cases hss : (ss.map V.int).isEmpty with
            | false =>
              refine ifT rfl ?_
              have l0 : 0 < ss.length := by
                cases ss with
                | nil => cases hss
                | cons x y => simp
              refine ⟨_, rfl, _, rfl, _, rfl, sa, ss.map V.int, rfl, .inl (.of (sp _ _ sa4)), st, ss.length, by rw [List.length_map]; rfl, m04.sa.same sp, by omega, by omega, fun r5 G5 r50 r51 m5 => ?_⟩
              have m05 := m04.trans (Mv.trans ⟨Kp.of_same sp, m04.sa.same sp⟩ m5)
              have sa5 := m5.kp _ _ nsa (sp _ _ sa4)
              obtain ⟨i, hir⟩ : ∃ z, ss[r5.toNat]? = some z := ⟨ss[r5.toNat]'(by omega), by simp⟩
              exact ⟨sa, _, r5, .int i, rfl, rfl, .of sa5, atI_at r50 (by rw [List.getElem?_map, hir]; rfl), _, rfl, small (by show 3 ≤ 1000; decide), fin m05 (.cons (.str _) (.cons (.int i) (.cons (.str g) .nil))) (deed_mk (ks := [.into, .graph]) (by decide +kernel) rfl (andT (decide_eq_true (List.mem_of_getElem? hir)) (andT ng rfl)) (unl_not (by decide +kernel)))⟩
            | true =>
              refine ifF rfl ?_
              refine ⟨_, rfl, rfl, _, rfl, ifF (by rw [c16]; decide +kernel) (ifF rfl (out _ sp _ rfl))⟩
          · refine ifF (decide_eq_false (fun z => c16 (by injection z))) (ifF rfl ?_)
            refine ⟨_, rfl, rfl, _, rfl, ?_⟩
            by_cases c17 : kd = 17
            · refine ifT (by rw [c17]; exact decide_eq_true rfl) ⟨_, rfl, small (Nat.zero_le _), fun p hp => ⟨ta, p, ts.map V.int, rfl, rfl, .of (by rw [upd_ne (ne_of_none ta4 hp)]; exact ta4), .of upd_same, _, rfl, ?_⟩⟩
              have sp := same_new hp (.lst [])
              cases hss : (ts.map V.int).isEmpty with
              | false =>
                refine ifT rfl ?_
                have l0 : 0 < ts.length := by
                  cases ts with
                  | nil => cases hss
                  | cons x y => simp
                refine ⟨_, rfl, _, rfl, _, rfl, _, rfl, ta, ts.map V.int, rfl, .inl (.of (sp _ _ ta4)), st, ts.length, by rw [List.length_map]; rfl, m04.sa.same sp, by omega, by omega, fun r5 G5 r50 r51 m5 => ?_⟩
                have m05 := m04.trans (Mv.trans ⟨Kp.of_same sp, m04.sa.same sp⟩ m5)
                have ta5 := m5.kp _ _ nta (sp _ _ ta4)
                obtain ⟨i, hir⟩ : ∃ z, ts[r5.toNat]? = some z := ⟨ts[r5.toNat]'(by omega), by simp⟩
                exact ⟨ta, _, r5, .int i, rfl, rfl, .of ta5, atI_at r50 (by rw [List.getElem?_map, hir]; rfl), small (by show 3 ≤ 1000; decide), fin m05 (.cons (.str _) (.cons (.str g) (.cons (.int i) .nil))) (deed_mk (ks := [.graph, .out]) (by decide +kernel) rfl (andT ng (andT (decide_eq_true (List.mem_of_getElem? hir)) rfl)) (unl_not (by decide +kernel)))⟩
              | true => exact ifF rfl (out _ sp _ rfl)
            · exact ifF (decide_eq_false (fun z => c17 (by injection z))) (ifF rfl (out _ (Same.refl _) _ rfl))
end
theorem row_split {K : PySem.W.Frag} {H : Hp} {v : V} {d : PyData} {ns : List Int} (h : Dp K H v (.tuple [d, .tuple (ns.map .int)])) : ∃ ra y1 y2, v = .ref ra ∧ SqT K H ra [y1, y2] ∧ Dp K H y1 d ∧ Dp K H y2 (.tuple (ns.map .int)) := by
  cases h with
  | @tup ra ys _ rat reach =>
    cases reach with
    | @cons y1 _ _ _ h1 h2 =>
      cases h2 with
      | @cons y2 _ _ _ h3 h4 =>
        cases h4
        exact ⟨ra, y1, y2, rfl, rat, h1, h3⟩
def rEqSh (K : PySem.W.Frag) : R2 := fun x y Hh Q => ∃ d e, Dp K Hh x d ∧ Dp K Hh y e ∧ SeqAt.shaped d = true ∧ SeqAt.shaped e = true ∧ Q (.bl (PyData.eqv d e)) Hh
theorem op_eqSh {X : Cx} (hu : X.A.units + 64 < cLine) : OpR X (compareOp .Eq) (rEqSh X.K) := by
  intro pins s σ Hh x y v u Q I rx ry h
  obtain ⟨d, e, hd, he, sd, se, q⟩ := h
  obtain ⟨as, r1, _⟩ := Dp.rd I d x v hd rx
  obtain ⟨bs, r2, _⟩ := Dp.rd I e y u he ry
  exact SeqAt.compareEq_shaped r1 r2 sd se hu ⟨.bl _, Hh, I, rfl, q⟩
theorem bulk_each {k : Nat} : ∀ {ds : List PyData}, (∀ d ∈ ds, d.bulk ≤ k) → PyData.bulkAll ds ≤ (k + 1) * ds.length
  | [], _ => by simp [PyData.bulkAll]
  | d :: ds, h => by
    have h1 := h d List.mem_cons_self
    have h2 := bulk_each (ds := ds) fun z hz => h z (List.mem_cons_of_mem _ hz)
    simp only [PyData.bulkAll, List.length_cons]
    rw [Nat.mul_add, Nat.mul_one]
    omega
theorem tup_all {ds : List PyData} (h : ∀ d ∈ ds, tupOnly d = true) : tupOnlyAll ds = true := by
  induction ds with
  | nil => rfl
  | cons d ds ih =>
    show (tupOnly d && tupOnlyAll ds) = true
    rw [h d List.mem_cons_self, ih fun z hz => h z (List.mem_cons_of_mem _ hz)]
    rfl
theorem lblk_tup {ss ts : List Int} : ∀ (n : Nat) {d : PyData}, lblk ss ts n d = true → tupOnly d = true
  | 0, d, h => by cases d <;> cases h
  | n + 1, d, h => by
    cases d with
    | tuple ds =>
      have h := and3 (show (decide (ds.length ≤ 12) && ds.all (lstB ss ts (lblk ss ts n))) = true from h)
      show tupOnlyAll ds = true
      refine tup_all fun d hd => ?_
      have hd := List.all_eq_true.mp h.2 d hd
      unfold lstB at hd
      cases hdd : deedD ss ts d with
      | true => exact deed_tup hdd
      | false =>
        rw [hdd, Bool.false_or] at hd
        have hd := and3 hd
        obtain ⟨z, d1, args, m, rfl, hz, hlen, hn⟩ := branch_shape hd.1
        obtain ⟨x, rfl, _⟩ := num_str hn
        show (true && (true && tupOnlyAll args)) = true
        rw [Bool.true_and, Bool.true_and]
        exact tup_all fun e he => lblk_tup n (List.all_eq_true.mp hd.2 e he)
    | _ => cases h
theorem lst_tup {ss ts : List Int} {n : Nat} {d : PyData} (h : lstB ss ts (lblk ss ts n) d = true) : tupOnly d = true := by
  have h1 : lblk ss ts (n + 1) (.tuple [d]) = true := by
    show (decide (1 ≤ 12) && (lstB ss ts (lblk ss ts n) d && true)) = true
    rw [h]
    rfl
  have h2 : (tupOnly d && true) = true := lblk_tup (n + 1) h1
  exact (and3 h2).1
theorem test_ne {z : Str} {es : List PyData} (h : z ≠ "test") : testD (.tuple (.str z :: es)) = false := by
  unfold testD
  split
  · rename_i z' e he
    injection he with he
    injection he with h1 h2
    injection h1 with h1
    subst h1
    rw [decide_eq_false h]
    rfl
  · rfl
theorem deed_ne {ss ts : List Int} {z : Str} {ds : List PyData} (h : deedD ss ts (.tuple (.str z :: ds)) = true) : z ≠ "test" := fun e => by
  subst e
  have h : deedB ss ts "test" ds = true := h
  unfold deedB at h
  rw [show deedK "test" = none by decide +kernel] at h
  cases h
theorem deed_form {ss ts : List Int} {d : PyData} (h : deedD ss ts d = true) : ∃ z ds, d = .tuple (.str z :: ds) := by
  unfold deedD at h
  split at h
  · exact ⟨_, _, rfl⟩
  · cases h
theorem hand_test {z : Str} (h : z ∈ handL) : z ≠ "test" := fun e => by
  rw [e] at h
  exact absurd h (by decide +kernel)
theorem flat_way {ss ts : List Int} {z y : Str} {ds : List PyData} (hz : z ∈ handL) (hy : y ∈ wayL) (h : deedD ss ts (.tuple (.str z :: ds)) = true) : flatD ss ts (.tuple (.str z :: (ds ++ [.str y]))) = true := by
  show (if z ∈ handL then _ else _) = true
  rw [if_pos hz]
  have e : (PyData.str z :: (ds ++ [.str y])) = (.str z :: ds) ++ [.str y] := rfl
  rw [e, List.dropLast_concat, h, Bool.and_true, List.getLastD_eq_getLast?, List.getLast?_concat]
  exact List.any_eq_true.mpr ⟨y, hy, decide_eq_true rfl⟩
theorem flat_bare {ss ts : List Int} {z : Str} {ds : List PyData} (hz : z ∉ handL) (h : deedD ss ts (.tuple (.str z :: ds)) = true) : flatD ss ts (.tuple (.str z :: ds)) = true := by
  show (if z ∈ handL then _ else _) = true
  rw [if_neg hz]
  exact h
theorem test_is {d : PyData} (h : testD d = true) : ∃ e, d = .tuple [.str "test", e] ∧ numNameD e = true := by
  unfold testD at h
  split at h
  · rename_i z e
    have h := and3 h
    have ez : z = "test" := of_decide_eq_true h.1
    exact ⟨e, by rw [ez], h.2⟩
  · cases h
theorem isStr_of {y : Str} {d : PyData} (h : isStrD y d = true) : d = .str y := by
  cases d with
  | str x =>
    have e : x = y := of_decide_eq_true h
    rw [e]
  | _ => cases h
theorem flat_split {ss ts : List Int} {d : PyData} (h : flatD ss ts d = true) : ∃ z ds y, d = .tuple (.str z :: ds ++ y) ∧ deedD ss ts (.tuple (.str z :: ds)) = true ∧ ((z ∉ handL ∧ y = []) ∨ (z ∈ handL ∧ ∃ x, x ∈ wayL ∧ y = [.str x])) := by
  unfold flatD at h
  split at h
  · rename_i z ds
    by_cases c : z ∈ handL
    · rw [if_pos c] at h
      have h := and3 h
      obtain ⟨ys, y, e1, e2, e3⟩ := last_snoc (PyData.str z) ds .none
      rw [e2] at h
      rw [e3] at h
      obtain ⟨x, hx, hd⟩ := List.any_eq_true.mp h.1
      cases ys with
      | nil => exact absurd (show false = true from h.2) (by decide)
      | cons y0 ys =>
        rw [List.cons_append] at e1
        injection e1 with e4 e5
        subst e4
        exact ⟨z, ys, [y], by rw [e5]; rfl, h.2, .inr ⟨c, x, hx, by rw [isStr_of hd]⟩⟩
    · rw [if_neg c] at h
      exact ⟨z, ds, [], by rw [List.append_nil], h, .inl ⟨c, rfl⟩⟩
  · cases h
theorem tupOnly_app : ∀ {ds es : List PyData}, tupOnlyAll ds = true → tupOnlyAll es = true → tupOnlyAll (ds ++ es) = true
  | [], es, _, h => h
  | x :: r, es, t, h => by
    simp only [tupOnlyAll, Bool.and_eq_true, List.cons_append] at *
    exact ⟨t.1, tupOnly_app t.2 h⟩
theorem ints_tupOnly : ∀ ns : List Int, tupOnlyAll (ns.map .int) = true
  | [] => rfl
  | n :: ns => by
    show (true && tupOnlyAll (ns.map .int)) = true
    rw [ints_tupOnly ns]
    rfl
theorem way_asc {x : Str} (h : x ∈ wayL) : (∀ z ∈ x.cps.toList, z < 128) ∧ x.cps.size ≤ 4 := by
  have q : wayL.all (fun x => x.cps.toList.all (fun c => decide (c < 128)) && decide (x.cps.size ≤ 4)) = true := by decide +kernel
  have q := and3 (List.all_eq_true.mp q x h)
  exact ⟨fun z hz => of_decide_eq_true (List.all_eq_true.mp q.1 z hz), of_decide_eq_true q.2⟩
theorem RowF.deedBd {ss ts : List Int} {m : Int} {r : PyData × List Int} (hs : ∀ i ∈ ss, i.natAbs < 10000) (ht : ∀ i ∈ ts, i.natAbs < 10000) (h : RowF ss ts m r) : tupOnly r.1 = true ∧ Bd 10000 40 r.1 ∧ r.1.bulk ≤ 40 ∧ r.1.depth ≤ 1 := by
  rcases h.form with ⟨a, b⟩ | ⟨_, a, b⟩
  · obtain ⟨e, he, hn⟩ := test_is a
    rw [he]
    obtain ⟨x, rfl, q1, q2⟩ := num_str hn
    have qt : ∀ z ∈ ("test" : Str).cps.toList, z < 128 := by decide +kernel
    have qs : ("test" : Str).cps.size = 4 := by decide +kernel
    refine ⟨rfl, .tup (by simp) fun z hz => ?_, ?_, ?_⟩
    · simp only [List.mem_cons, List.not_mem_nil, or_false] at hz
      rcases hz with rfl | rfl
      · exact .str qt
      · exact .str q1
    · simp only [PyData.bulk, PyData.bulkAll]
      omega
    · simp only [PyData.depth, PyData.depthAll]
      omega
  · obtain ⟨z, ds, y, he, hd, hy⟩ := flat_split a
    rw [he]
    obtain ⟨b1, b2, b3⟩ := deed_bd (c := 10000) (Nat.le_refl _) hs ht hd
    have td := deed_tup hd
    rcases hy with ⟨_, rfl⟩ | ⟨_, x, hx, rfl⟩
    · rw [List.append_nil]
      exact ⟨td, b1.mono (Nat.le_refl _) (by omega), by omega, b3⟩
    · obtain ⟨w1, w2⟩ := way_asc hx
      cases b1 with
      | tup l12 all =>
        refine ⟨tupOnly_app (ds := .str z :: ds) td rfl, .tup (by rw [List.length_append]; show _ + 1 ≤ 40; omega) fun v hv => ?_, ?_, ?_⟩
        · rcases List.mem_append.mp hv with hv | hv
          · exact (all v hv).mono (Nat.le_refl _) (by omega)
          · rw [List.mem_singleton.mp hv]
            exact .str w1
        · rw [bulk_tup] at b2 ⊢
          rw [bulk_app]
          simp only [PyData.bulk, PyData.bulkAll] at b2 ⊢
          omega
        · rw [depth_tup] at b3 ⊢
          have : PyData.depthAll (.str z :: ds ++ [.str x]) ≤ 0 := dAll_le fun v hv => by
            rcases List.mem_append.mp hv with hv | hv
            · have := depth_mem hv
              omega
            · rw [List.mem_singleton.mp hv]
              simp [PyData.depth]
          omega
theorem ints_bd {ns : List Int} {c : Nat} (h : ∀ n ∈ ns, n.natAbs < c) (hl : ns.length ≤ 40) : Bd c 40 (.tuple (ns.map .int)) ∧ PyData.bulkAll (ns.map .int) ≤ 2 * ns.length ∧ PyData.depthAll (ns.map .int) = 0 := by
  refine ⟨.tup (by rw [List.length_map]; exact hl) fun z hz => ?_, ?_, ?_⟩
  · obtain ⟨n, hn, rfl⟩ := List.mem_map.mp hz
    exact .int (h n hn)
  · clear h hl
    induction ns with
    | nil => simp [PyData.bulkAll]
    | cons n r ih =>
      simp only [List.map_cons, PyData.bulkAll, PyData.bulk, List.length_cons]
      omega
  · clear h hl
    induction ns with
    | nil => simp [PyData.depthAll]
    | cons n r ih =>
      simp only [List.map_cons, PyData.depthAll, PyData.depth, ih]
      rfl
theorem RowF.rowBd {ss ts : List Int} {m : Int} {r : PyData × List Int} (hs : ∀ i ∈ ss, i.natAbs < 10000) (ht : ∀ i ∈ ts, i.natAbs < 10000) (hm : m ≤ 40) (h : RowF ss ts m r) : tupOnly (rowD r) = true ∧ Bd 10000 40 (rowD r) ∧ (rowD r).bulk ≤ 60 ∧ (rowD r).depth ≤ 2 := by
  obtain ⟨a1, a2, a3, a4⟩ := h.deedBd hs ht
  have few : r.2.length ≤ 2 := by rcases h.form with ⟨_, e⟩ | ⟨_, _, e⟩ <;> omega
  obtain ⟨c1, c2, c3⟩ := ints_bd (ns := r.2) (c := 10000) (fun n hn => by have := h.rng n hn; omega) (by omega)
  refine ⟨?_, .tup (by simp) fun z hz => ?_, ?_, ?_⟩
  · show (tupOnly r.1 && (tupOnlyAll (r.2.map .int) && true)) = true
    rw [a1, ints_tupOnly]
    rfl
  · simp only [List.mem_cons, List.not_mem_nil, or_false] at hz
    rcases hz with rfl | rfl
    · exact a2
    · exact c1
  · show (PyData.tuple [r.1, .tuple (r.2.map .int)]).bulk ≤ 60
    simp only [PyData.bulk, PyData.bulkAll]
    omega
  · show (PyData.tuple [r.1, .tuple (r.2.map .int)]).depth ≤ 2
    simp only [PyData.depth, PyData.depthAll, c3]
    omega
/-! the rows of blocks -/
def cpD : PyData → PyData
  | .tuple (.str z :: ds) => if z ∈ handL then .tuple (.str z :: (ds ++ [.str "copy"])) else .tuple (.str z :: ds)
  | d => d
def tstD (nm : PyData) : PyData := .tuple [.str "test", nm]
def ifR (fb : PyData → Int → Int → List (PyData × List Int)) (nm x y : PyData) (n b : Int) : List (PyData × List Int) :=
  (tstD nm, [if (fb x (n + 1) b).isEmpty then b else n + 1, if (fb y (n + 1 + ((fb x (n + 1) b).length : Nat)) b).isEmpty then b else n + 1 + ((fb x (n + 1) b).length : Nat)]) :: (fb x (n + 1) b ++ fb y (n + 1 + ((fb x (n + 1) b).length : Nat)) b)
def whR (fb : PyData → Int → Int → List (PyData × List Int)) (nm x : PyData) (n b : Int) : List (PyData × List Int) :=
  (tstD nm, [if (fb x (n + 1) n).isEmpty then n else n + 1, b]) :: fb x (n + 1) n
def flS (fb : PyData → Int → Int → List (PyData × List Int)) (d : PyData) (n b : Int) : List (PyData × List Int) := match d with
  | .tuple [.str z, nm, x, y] => if z = "if" then ifR fb nm x y n b else [(cpD d, [b])]
  | .tuple [.str z, nm, x] => if z = "while" then whR fb nm x n b else [(cpD d, [b])]
  | _ => [(cpD d, [b])]
/-- of the first j statements -/
def flP (fs : PyData → Int → Int → List (PyData × List Int)) (sz : PyData → Nat) (ds : List PyData) (n b : Int) (j : Nat) : List (PyData × List Int) :=
  (List.range j).flatMap fun i => fs (ds.getD i .none) (n + (sumM sz (ds.take i) : Nat)) (if i + 1 < ds.length then n + (sumM sz (ds.take (i + 1)) : Nat) else b)
def flN : Nat → PyData → Int → Int → List (PyData × List Int)
  | k + 1, .tuple ds, n, b => flP (flS (flN k)) (manyS (manyN k)) ds n b ds.length
  | _, _, _, _ => []
theorem flP_succ {fs : PyData → Int → Int → List (PyData × List Int)} {sz : PyData → Nat} {ds : List PyData} {n b : Int} {j : Nat} {d : PyData} (h : ds[j]? = some d) : flP fs sz ds n b (j + 1) = flP fs sz ds n b j ++ fs d (n + (sumM sz (ds.take j) : Nat)) (if j + 1 < ds.length then n + (sumM sz (ds.take (j + 1)) : Nat) else b) := by
  unfold flP
  rw [List.range_succ, List.flatMap_append]
  congr 1
  rw [List.flatMap_cons, List.flatMap_nil, List.append_nil, List.getD_eq_getElem?_getD, h]
  rfl
theorem br_cases {z : Str} {m : Nat} (h : brK z = some m) : (z = "if" ∧ m = 2) ∨ (z = "while" ∧ m = 1) := by
  unfold brK at h
  split at h
  · rename_i e
    cases h
    exact .inl ⟨e, rfl⟩
  · split at h
    · rename_i e
      cases h
      exact .inr ⟨e, rfl⟩
    · cases h
/-- what a statement is -/
theorem st_cases {ss ts : List Int} {bl : PyData → Bool} {d : PyData} (h : lstB ss ts bl d = true) :
    (deedD ss ts d = true ∧ branchD d = false ∧ ∃ z ds, d = .tuple (.str z :: ds) ∧ z ∉ brL) ∨
    (∃ nm x y, d = .tuple [.str "if", nm, x, y] ∧ numNameD nm = true ∧ bl x = true ∧ bl y = true ∧ branchD d = true) ∨
    (∃ nm x, d = .tuple [.str "while", nm, x] ∧ numNameD nm = true ∧ bl x = true ∧ branchD d = true) := by
  unfold lstB at h
  cases hd : deedD ss ts d with
  | true =>
    refine .inl ⟨rfl, deed_no_branch hd, ?_⟩
    obtain ⟨z, ds, rfl, hz⟩ := st_word (ss := ss) (ts := ts) (d := d) (by unfold stD; rw [hd]; rfl)
    rw [deed_no_branch hd] at hz
    exact ⟨z, ds, rfl, of_decide_eq_false hz⟩
  | false =>
    rw [hd, Bool.false_or] at h
    have h := and3 h
    obtain ⟨z, d1, ds, m, rfl, hz, hl, hn⟩ := branch_shape h.1
    have ha : ds.all bl = true := h.2
    rcases br_cases hz with ⟨rfl, rfl⟩ | ⟨rfl, rfl⟩
    · match ds, hl with
      | [x, y], _ =>
        rw [List.all_cons, List.all_cons, List.all_nil, Bool.and_true] at ha
        exact .inr (.inl ⟨d1, x, y, rfl, hn, (and3 ha).1, (and3 ha).2, h.1⟩)
    · match ds, hl with
      | [x], _ =>
        rw [List.all_cons, List.all_nil, Bool.and_true] at ha
        exact .inr (.inr ⟨d1, x, rfl, hn, ha, h.1⟩)
theorem flS_deed {fb : PyData → Int → Int → List (PyData × List Int)} {z : Str} {ds : List PyData} {n b : Int} (h : z ∉ brL) : flS fb (.tuple (.str z :: ds)) n b = [(cpD (.tuple (.str z :: ds)), [b])] := by
  have h1 : z ≠ "if" := fun e => h (by rw [e]; decide +kernel)
  have h2 : z ≠ "while" := fun e => h (by rw [e]; decide +kernel)
  match ds with
  | [] => rfl
  | [_] => rfl
  | [_, _] => exact if_neg h2
  | [_, _, _] => exact if_neg h1
  | _ :: _ :: _ :: _ :: _ => rfl
theorem flS_if {fb : PyData → Int → Int → List (PyData × List Int)} {nm x y : PyData} {n b : Int} : flS fb (.tuple [.str "if", nm, x, y]) n b = ifR fb nm x y n b := by
  show (if ("if" : Str) = "if" then ifR fb nm x y n b else [(cpD (.tuple [.str "if", nm, x, y]), [b])]) = ifR fb nm x y n b
  exact if_pos rfl
theorem flS_wh {fb : PyData → Int → Int → List (PyData × List Int)} {nm x : PyData} {n b : Int} : flS fb (.tuple [.str "while", nm, x]) n b = whR fb nm x n b := by
  show (if ("while" : Str) = "while" then whR fb nm x n b else [(cpD (.tuple [.str "while", nm, x]), [b])]) = whR fb nm x n b
  exact if_pos rfl
theorem manyS_deed {mb : PyData → Nat} {d : PyData} (h : branchD d = false) : manyS mb d = 1 := by
  unfold manyS
  rw [h]
  rfl
theorem manyS_if {mb : PyData → Nat} {nm x y : PyData} (h : branchD (.tuple [.str "if", nm, x, y]) = true) : manyS mb (.tuple [.str "if", nm, x, y]) = 1 + mb x + mb y := by
  unfold manyS
  rw [if_pos h]
  show 1 + (mb x + (mb y + 0)) = _
  omega
theorem manyS_wh {mb : PyData → Nat} {nm x : PyData} (h : branchD (.tuple [.str "while", nm, x]) = true) : manyS mb (.tuple [.str "while", nm, x]) = 1 + mb x := by
  unfold manyS
  rw [if_pos h]
  rfl
section
variable {ss ts : List Int} {fb : PyData → Int → Int → List (PyData × List Int)} {bl : PyData → Bool} {mb : PyData → Nat}
theorem flS_len (hf : ∀ x n b, bl x = true → (fb x n b).length = mb x) {d : PyData} {n b : Int} (h : lstB ss ts bl d = true) : (flS fb d n b).length = manyS mb d := by
  rcases st_cases h with ⟨_, nb, z, ds, rfl, hz⟩ | ⟨nm, x, y, rfl, _, hx, hy, hb⟩ | ⟨nm, x, rfl, _, hx, hb⟩
  · rw [flS_deed hz, manyS_deed nb]
    rfl
  · rw [flS_if, manyS_if hb]
    unfold ifR
    rw [List.length_cons, List.length_append, hf x _ _ hx, hf y _ _ hy]
    omega
  · rw [flS_wh, manyS_wh hb]
    unfold whR
    rw [List.length_cons, hf x _ _ hx]
    omega
theorem flP_len {fs : PyData → Int → Int → List (PyData × List Int)} {sz : PyData → Nat} {ds : List PyData} {n b : Int} (hf : ∀ d ∈ ds, ∀ n b, (fs d n b).length = sz d) : ∀ j, j ≤ ds.length → (flP fs sz ds n b j).length = sumM sz (ds.take j)
  | 0, _ => rfl
  | j + 1, h => by
    have hd : ds[j]? = some (ds[j]) := List.getElem?_eq_getElem (by omega)
    rw [flP_succ hd, List.length_append, flP_len hf j (by omega), hf _ (List.getElem_mem _), take_more hd, sumM_snoc]
end
theorem flN_len {ss ts : List Int} : ∀ (k : Nat) {d : PyData} {n b : Int}, lblk ss ts k d = true → (flN k d n b).length = manyN k d
  | 0, d, n, b, h => by cases d <;> cases h
  | k + 1, d, n, b, h => by
    cases d with
    | tuple ds =>
      have hl := and3 (show (decide (ds.length ≤ 12) && ds.all (lstB ss ts (lblk ss ts k))) = true from h)
      show (flP (flS (flN k)) (manyS (manyN k)) ds n b ds.length).length = sumM (manyS (manyN k)) ds
      rw [flP_len (fs := flS (flN k)) (sz := manyS (manyN k)) (ds := ds) (fun d hd n b => flS_len (ss := ss) (ts := ts) (bl := lblk ss ts k) (fb := flN k) (mb := manyN k) (fun x n b hx => flN_len k hx) (List.all_eq_true.mp hl.2 d hd)) _ (Nat.le_refl _), List.take_length]
    | _ => cases h
theorem flB_len {ss ts : List Int} {k : Nat} {d : PyData} {n b : Int} (h : lstB ss ts (lblk ss ts k) d = true) : (flS (flN k) d n b).length = manyS (manyN k) d := flS_len (ss := ss) (ts := ts) (bl := lblk ss ts k) (fb := flN k) (mb := manyN k) (fun x n b hx => flN_len k hx) h
theorem sumM_mem {m : PyData → Nat} : ∀ {l : List PyData} {d : PyData}, d ∈ l → m d ≤ sumM m l
  | e :: l, d, h => by
    rcases List.mem_cons.mp h with rfl | h
    · exact Nat.le_add_right _ _
    · exact Nat.le_trans (sumM_mem h) (Nat.le_add_left _ _)
theorem sumM_takes {m : PyData → Nat} : ∀ (l : List PyData) (n : Nat), sumM m (l.take n) ≤ sumM m l
  | [], n => by simp [sumM]
  | d :: l, 0 => Nat.zero_le _
  | d :: l, n + 1 => Nat.add_le_add_left (sumM_takes l n) _
/-! the rows are rows -/
section
variable {ss ts : List Int} (hs : ∀ i ∈ ss, i.natAbs < 10000) (ht : ∀ i ∈ ts, i.natAbs < 10000)
include hs ht
theorem rowG_way {m : Int} {z y : Str} {ds : List PyData} {n : Int} (hz : z ∈ handL) (hy : y ∈ wayL) (h : deedD ss ts (.tuple (.str z :: ds)) = true) (h0 : -1 ≤ n) (h1 : n ≤ m - 1) : RowF ss ts m (.tuple (.str z :: (ds ++ [.str y])), [n]) := by
  refine ⟨?_, .inr ⟨test_ne (hand_test hz), flat_way hz hy h, rfl⟩, fun k hk => by rw [List.mem_singleton.mp hk]; exact ⟨h0, h1⟩⟩
  obtain ⟨_, b2, _⟩ := deed_bd (c := 10000) (Nat.le_refl _) hs ht h
  obtain ⟨_, w2⟩ := way_asc hy
  unfold BkOk
  show (PyData.tuple ((PyData.str z :: ds) ++ [.str y])).bulk ≤ _
  rw [bulk_tup] at b2 ⊢
  rw [bulk_app]
  simp only [PyData.bulk, PyData.bulkAll] at b2 ⊢
  omega
theorem rowG_bare {m : Int} {z : Str} {ds : List PyData} {n : Int} (hz : z ∉ handL) (h : deedD ss ts (.tuple (.str z :: ds)) = true) (h0 : -1 ≤ n) (h1 : n ≤ m - 1) : RowF ss ts m (.tuple (.str z :: ds), [n]) := by
  refine ⟨?_, .inr ⟨test_ne (deed_ne h), flat_bare hz h, rfl⟩, fun k hk => by rw [List.mem_singleton.mp hk]; exact ⟨h0, h1⟩⟩
  obtain ⟨_, b2, _⟩ := deed_bd (c := 10000) (Nat.le_refl _) hs ht h
  show (PyData.tuple (.str z :: ds)).bulk ≤ 1000000
  omega
omit hs ht in
theorem rowG_test {m : Int} {e : PyData} {n k : Int} (h : numNameD e = true) (h0 : -1 ≤ n) (h1 : n ≤ m - 1) (k0 : -1 ≤ k) (k1 : k ≤ m - 1) : RowF ss ts m (tstD e, [n, k]) := by
  refine ⟨?_, .inl ⟨?_, rfl⟩, fun j hj => ?_⟩
  · obtain ⟨x, rfl, _, q2⟩ := num_str h
    unfold BkOk tstD
    simp only [PyData.bulk, PyData.bulkAll]
    have qs : ("test" : Str).cps.size = 4 := by decide +kernel
    omega
  · show (decide (("test" : Str) = "test") && numNameD e) = true
    rw [h]
    rfl
  · simp only [List.mem_cons, List.not_mem_nil, or_false] at hj
    rcases hj with rfl | rfl
    · exact ⟨h0, h1⟩
    · exact ⟨k0, k1⟩
theorem flS_ok {fb : PyData → Int → Int → List (PyData × List Int)} {bl : PyData → Bool} {mb : PyData → Nat} (hl : ∀ x n b, bl x = true → (fb x n b).length = mb x) (hf : ∀ (x : PyData) (n b m : Int), bl x = true → 0 ≤ n → -1 ≤ b → b ≤ m - 1 → n + (mb x : Nat) ≤ m → ∀ r ∈ fb x n b, RowF ss ts m r)
    {d : PyData} {n b m : Int} (h : lstB ss ts bl d = true) (h0 : 0 ≤ n) (b0 : -1 ≤ b) (b1 : b ≤ m - 1) (hm : n + (manyS mb d : Nat) ≤ m) : ∀ r ∈ flS fb d n b, RowF ss ts m r := by
  intro r hr
  rcases st_cases h with ⟨hd, nb, z, ds, rfl, hz⟩ | ⟨nm, x, y, rfl, hn, hx, hy, hb⟩ | ⟨nm, x, rfl, hn, hx, hb⟩
  · rw [flS_deed hz] at hr
    rw [List.mem_singleton.mp hr]
    by_cases c : z ∈ handL
    · rw [show cpD (.tuple (.str z :: ds)) = .tuple (.str z :: (ds ++ [.str "copy"])) from if_pos c]
      exact rowG_way hs ht c (by decide +kernel) hd b0 b1
    · rw [show cpD (.tuple (.str z :: ds)) = .tuple (.str z :: ds) from if_neg c]
      exact rowG_bare hs ht c hd b0 b1
  · rw [flS_if] at hr
    rw [manyS_if hb] at hm
    have lx := hl x (n + 1) b hx
    unfold ifR at hr
    rcases List.mem_cons.mp hr with rfl | hr
    · have ly := hl y (n + 1 + ((fb x (n + 1) b).length : Nat)) b hy
      have ax : ∀ (l : List (PyData × List Int)) (p : Int), -1 ≤ p → p + (l.length : Nat) ≤ m → -1 ≤ (if l.isEmpty = true then b else p) ∧ (if l.isEmpty = true then b else p) ≤ m - 1 := fun l p p0 p1 => by
        cases l with
        | nil => exact ⟨b0, b1⟩
        | cons e l =>
          rw [List.length_cons] at p1
          exact ⟨p0, by show p ≤ m - 1; omega⟩
      obtain ⟨q1, q2⟩ := ax (fb x (n + 1) b) (n + 1) (by omega) (by rw [lx]; omega)
      obtain ⟨q3, q4⟩ := ax (fb y (n + 1 + ((fb x (n + 1) b).length : Nat)) b) (n + 1 + ((fb x (n + 1) b).length : Nat)) (by omega) (by rw [ly, lx]; omega)
      exact rowG_test hn q1 q2 q3 q4
    · rcases List.mem_append.mp hr with hr | hr
      · exact hf x _ _ m hx (by omega) b0 b1 (by omega) r hr
      · exact hf y _ _ m hy (by omega) b0 b1 (by rw [lx]; omega) r hr
  · rw [flS_wh] at hr
    rw [manyS_wh hb] at hm
    have lx := hl x (n + 1) n hx
    unfold whR at hr
    rcases List.mem_cons.mp hr with rfl | hr
    · have q : -1 ≤ (if (fb x (n + 1) n).isEmpty = true then n else n + 1) ∧ (if (fb x (n + 1) n).isEmpty = true then n else n + 1) ≤ m - 1 := by
        cases e : fb x (n + 1) n with
        | nil => exact ⟨by show -1 ≤ n; omega, by show n ≤ m - 1; omega⟩
        | cons a l =>
          rw [e, List.length_cons] at lx
          exact ⟨by show -1 ≤ n + 1; omega, by show n + 1 ≤ m - 1; omega⟩
      exact rowG_test hn q.1 q.2 b0 b1
    · exact hf x _ _ m hx (by omega) (by omega) (by omega) (by omega) r hr
theorem flN_ok : ∀ (k : Nat) {d : PyData} {n b m : Int}, lblk ss ts k d = true → 0 ≤ n → -1 ≤ b → b ≤ m - 1 → n + (manyN k d : Nat) ≤ m → ∀ r ∈ flN k d n b, RowF ss ts m r
  | 0, d, n, b, m, h, _, _, _, _ => by cases d <;> cases h
  | k + 1, d, n, b, m, h, h0, b0, b1, hm => by
    cases d with
    | tuple ds =>
      have hl := and3 (show (decide (ds.length ≤ 12) && ds.all (lstB ss ts (lblk ss ts k))) = true from h)
      have hm : n + (sumM (manyS (manyN k)) ds : Nat) ≤ m := hm
      intro r hr
      obtain ⟨i, hi, hr⟩ := List.mem_flatMap.mp (show r ∈ flP (flS (flN k)) (manyS (manyN k)) ds n b ds.length from hr)
      have hi := List.mem_range.mp hi
      have hd : ds[i]? = some (ds[i]) := List.getElem?_eq_getElem hi
      rw [List.getD_eq_getElem?_getD, hd] at hr
      have hst := List.all_eq_true.mp hl.2 _ (List.getElem_mem hi)
      have e1 : sumM (manyS (manyN k)) (ds.take (i + 1)) = sumM (manyS (manyN k)) (ds.take i) + manyS (manyN k) ds[i] := by rw [take_more hd, sumM_snoc]
      have e2 := sumM_takes (m := manyS (manyN k)) ds (i + 1)
      refine flS_ok hs ht (fb := flN k) (bl := lblk ss ts k) (mb := manyN k) (fun x n b hx => flN_len (ss := ss) (ts := ts) k hx) (fun x n b m hx a1 a2 a3 a4 => flN_ok k hx a1 a2 a3 a4) hst (by omega) ?_ ?_ (by omega) r hr
      · split <;> omega
      · split
        · rename_i c
          have hd2 : ds[i + 1]? = some (ds[i + 1]) := List.getElem?_eq_getElem c
          have e3 : sumM (manyS (manyN k)) (ds.take (i + 1 + 1)) = sumM (manyS (manyN k)) (ds.take (i + 1)) + manyS (manyN k) ds[i + 1] := by rw [take_more hd2, sumM_snoc]
          have e4 := sumM_takes (m := manyS (manyN k)) ds (i + 1 + 1)
          have e5 : 1 ≤ manyS (manyN k) ds[i + 1] := by unfold manyS; split <;> omega
          omega
        · exact b1
    | _ => cases h
end
/-! size_of, flat_block and its kin, flat -/
def inn : PyData → List PyData
  | .tuple es => es
  | _ => []
theorem inn_len {ss ts : List Int} {n : Nat} : ∀ {as : List PyData}, as.all (lblk ss ts n) = true → (as.flatMap inn).length ≤ 12 * as.length
  | [], _ => by simp
  | a :: as, h => by
    rw [List.all_cons] at h
    have h := and3 h
    have ih := inn_len h.2
    have l1 : (inn a).length ≤ 12 := by
      cases n with
      | zero => cases a <;> cases h.1
      | succ n =>
        cases a with
        | tuple es => exact of_decide_eq_true (and3 (show (decide (es.length ≤ 12) && es.all (lstB ss ts (lblk ss ts n))) = true from h.1)).1
        | _ => cases h.1
    rw [List.flatMap_cons, List.length_append, List.length_cons]
    omega
theorem sum_app (m : PyData → Nat) : ∀ (l r : List PyData), sumM m (l ++ r) = sumM m l + sumM m r
  | [], r => by simp [sumM]
  | a :: l, r => by
    show m a + sumM m (l ++ r) = (m a + sumM m l) + sumM m r
    rw [sum_app m l r]
    omega
theorem sum_inn {ss ts : List Int} {n : Nat} : ∀ {as : List PyData}, as.all (lblk ss ts (n + 1)) = true → sumM (manyS (manyN n)) (as.flatMap inn) = sumM (manyN (n + 1)) as
  | [], _ => rfl
  | a :: as, h => by
    rw [List.all_cons] at h
    have h := and3 h
    rw [List.flatMap_cons, sum_app, sum_inn h.2]
    cases a with
    | tuple es => rfl
    | _ => cases h.1
section
open PySem.Spec PyProof.Rows LamX
variable {P : Program} {w : World} {K : PySem.W.Frag} {mg : Str → Option Value} {base : Heap} {f : Addr} {fd : FuncData}
def spSizeOf (K : PySem.W.Frag) (n : Nat) : Sp := fun vs H Q _ => ∃ (x : V) (d : PyData) (ss ts : List Int), vs = [x] ∧ Dp K H x d ∧ lstB ss ts (lblk ss ts n) d = true ∧ ∀ H', Same H H' → Q (.int (manyS (manyN n) d : Nat)) H'
def spSizeS (K : PySem.W.Frag) (n : Nat) : Sp := fun vs H Q E => ∃ m, n = m + 1 ∧ spSizeOf K m vs H Q E
abbrev NSz : List Str := ["statement", "block", "inner"]
theorem scSizeOf : FnScope NSz ["statement"] (defScope sSizeOf) := ⟨rfl, rfl, rfl, by decide +kernel, rfl, by decide +kernel, by decide +kernel⟩
theorem ok_size {k n : Nat} (F : Fun K "size_of" "size_of" sSizeOf f fd) (T : Free mg) (cS : Cal P w K mg base "size_of" k ["statement"] (spSizeS K n)) : FnOk P w K mg base CX0 (k + 1) f fd ["statement"] (spSizeOf K n) := by
  refine F.ok scSizeOf (fun vs H Q E h => ?_) (fun cdv A outer s H vs Q E hr h => ?_)
  · obtain ⟨x, d, ss, ts, rfl, _⟩ := h
    rfl
  obtain ⟨x, d, ss, ts, rfl, hx, hl, q⟩ := h
  refine ⟨_, pss_cons (ps_if (pt_cmpR op_notIn_seq (pe_ix ix_tup (pv 0) pe_int (fun _ _ => rfl)) (pe_tup (pa_cons pe_str (pa_cons pe_str pa_nil))) rfl) (pss_one (ps_ret pe_int)) pss_nil)
    (pss_one (ps_ret (pe_op op_add pe_int (pe_callB (cr_sum rfl) rfl T.sum (by decide +kernel) (pa_cons
      (pe_lc2 (own := [("block", 1), ("inner", 2)]) (vs1 := [2]) (g := gName 1) (tt := tYes) (wi1 := iTup K (tVar 1)) (g1 := gName 2) (tt1 := tYes) (te := tCall (spSizeS K n) [] E0 (tCons (tVar 2) tNil)) rfl scSizeOf.nd (pi_tup (pe_slice sl_tupA (pv 0) (po_some pe_int) po_none))
        (blkOk_by (own := [("block", 1), ("inner", 2)]) (N := NSz) (sc := defScope sSizeOf) (by decide +kernel)) (by decide)
        (fun _ _ _ _ _ => pg_name (i := 1) scSizeOf.nd rfl (Or.inl rfl)) (fun _ _ _ _ _ => pts_nil) (fun _ _ _ _ _ => pi_tup (pv 1)) (fun _ _ _ _ _ => pg_name (i := 2) scSizeOf.nd rfl (Or.inl rfl))
        (fun _ _ _ _ _ => pts_nil) (fun _ _ _ _ _ => pe_cal cS hr rfl (pa_cons (pv 2) pa_nil))) pa_nil))))), ?_⟩
  have key : ∃ z es, d = .tuple (.str z :: es) ∧ ((z ∉ brL ∧ branchD d = false) ∨ (z ∈ brL ∧ branchD d = true ∧ ∃ nm as, es = nm :: as ∧ as.length ≤ 2 ∧ 1 ≤ as.length ∧ as.all (lblk ss ts n) = true)) := by
    rcases st_cases hl with ⟨_, nb, z, ds, rfl, hz⟩ | ⟨nm, a, b, rfl, _, ha, hb, br⟩ | ⟨nm, a, rfl, _, ha, br⟩
    · exact ⟨z, ds, rfl, .inl ⟨hz, nb⟩⟩
    · exact ⟨_, _, rfl, .inr ⟨by decide +kernel, br, nm, [a, b], rfl, Nat.le_refl 2, by show 1 ≤ 2; decide, by simp [ha, hb]⟩⟩
    · exact ⟨_, _, rfl, .inr ⟨by decide +kernel, br, nm, [a], rfl, by show 1 ≤ 2; decide, Nat.le_refl 1, by simp [ha]⟩⟩
  obtain ⟨z, es, rfl, kind⟩ := key
  cases hx with
  | @tup da zs _ dat deach =>
  cases deach with
  | @cons u us _ _ d1 d2 =>
  cases d1
  refine ⟨_, rfl, da, _, 0, _, rfl, rfl, dat, atI_at (by decide) rfl, small (by show 2 ≤ 1000; decide), fun p hp => ⟨p, _, rfl, .inr (SqT.of upd_same), rfl, flat_strs brL, _, rfl, ?_⟩⟩
  have sp := same_new hp (.tup (brL.map V.str))
  rw [if_pos rfl, show inV (V.str z) [V.str "if", V.str "while"] = decide (z ∈ brL) from inV_strs z brL]
  rcases kind with ⟨hz, nb⟩ | ⟨hz, br, nm, as, rfl, las, las1, hall⟩
  · have q' := q _ sp
    rw [manyS_deed nb] at q'
    rw [decide_eq_false hz]
    exact ifT rfl q'
  · rw [decide_eq_true hz]
    obtain ⟨m, rfl⟩ : ∃ m, n = m + 1 := by
      cases n with
      | zero =>
        cases as with
        | nil => simp at las1
        | cons a as =>
          rw [List.all_cons] at hall
          cases a <;> cases (and3 hall).1
      | succ m => exact ⟨m, rfl⟩
    refine ifF rfl ⟨_, rfl, _, rfl, noP (slA_run (sqT_same sp dat) fun r G1 s1 hr1 => ?_)⟩
    rw [cut_from0 (by decide)] at hr1
    cases d2 with
    | @cons nv xs _ _ n1 n2 =>
    have hr1 : SqT K G1 r xs := hr1
    have each := dps_same (sp.trans s1) n2
    have lx := dpAll_len each
    refine ⟨r, rfl, ⟨xs, hr1⟩, fun D hD => ?_⟩
    refine ⟨fun i m' H' => m' = xs.length - i ∧ i ≤ xs.length ∧ Same G1 H' ∧ H' D = some (.lst (((as.take i).flatMap inn).map fun d => V.int (manyS (manyN m) d : Nat))), ⟨xs.length, by simp, Nat.zero_le _, same_new hD _, by rw [upd_same]; rfl⟩, ?_⟩
    rintro i m' H1 ⟨rfl, hi, sm, hk⟩
    have ht1 := sqT_same sm hr1
    by_cases hlt : i < xs.length
    · refine .inr ⟨⟨xs, xs[i], ht1, by simp [hlt]⟩, fun H' => Same G1 H' ∧ H' D = some (.lst (((as.take (i + 1)).flatMap inn).map fun d => V.int (manyS (manyN m) d : Nat))), fun H' p' => ⟨xs.length - (i + 1), by omega, rfl, hlt, p'⟩, fun y H' hy => ?_⟩
      obtain ⟨e, hy⟩ := hy
      subst e
      have hyi := hy xs ht1
      obtain ⟨b, hb, hdb⟩ := dpAll_get each (i := i) (d := as[i]'(by omega)) (by simp)
      rw [hyi] at hb
      cases hb
      have hbm : as[i]'(by omega) ∈ as := List.getElem_mem _
      have has : as[i]? = some (as[i]'(by omega)) := List.getElem?_eq_getElem _
      generalize as[i]'(by omega) = a at hdb hbm has
      have hla := List.all_eq_true.mp hall a hbm
      cases a with
      | tuple es =>
        have hl2 := and3 (show (decide (es.length ≤ 12) && es.all (lstB ss ts (lblk ss ts m))) = true from hla)
        have l12 := of_decide_eq_true hl2.1
        cases hdb with
        | @tup ab ys _ hty hay =>
          have ly := dpAll_len hay
          have et := take_more has
          have lin := inn_len (as := as.take i) (n := m + 1) (ss := ss) (ts := ts) (List.all_eq_true.mpr fun q hq => List.all_eq_true.mp hall q (List.mem_of_mem_take hq))
          rw [List.length_take] at lin
          refine ⟨rfl, yesG ?_⟩
          refine ⟨_, rfl, ab, rfl, ⟨ys, sqT_same sm hty⟩, ?_⟩
          refine ⟨fun j m' H' => m' = ys.length - j ∧ j ≤ ys.length ∧ Same G1 H' ∧ H' D = some (.lst (((as.take i).flatMap inn ++ es.take j).map fun d => V.int (manyS (manyN m) d : Nat))), ⟨ys.length, by simp, Nat.zero_le _, sm, by simpa using hk⟩, ?_⟩
          rintro j m' H2 ⟨rfl, hj, sm2, hk2⟩
          have keep2 := sqT_same sm2 hty
          by_cases hjt : j < ys.length
          · refine .inr ⟨⟨ys, ys[j], keep2, by simp [hjt]⟩, fun H' => Same G1 H' ∧ H' D = some (.lst (((as.take i).flatMap inn ++ es.take (j + 1)).map fun d => V.int (manyS (manyN m) d : Nat))), fun H' p' => ⟨ys.length - (j + 1), by omega, rfl, hjt, p'⟩, fun zv H' hz' => ?_⟩
            obtain ⟨e, hz'⟩ := hz'
            subst e
            have hzj := hz' ys keep2
            obtain ⟨pd, hpd, hdz⟩ := dpAll_get' (dps_same sm2 hay) hzj
            have hst := List.all_eq_true.mp hl2.2 pd (List.mem_of_getElem? hpd)
            refine ⟨rfl, yesG ⟨_, rfl, m, rfl, zv, pd, ss, ts, rfl, hdz, hst, fun H3 s3 => ?_⟩⟩
            refine ⟨_, s3 _ _ hk2, Nat.lt_of_lt_of_le (show _ < 1000 by
              rw [List.length_map, List.length_append, List.length_take]
              omega) (small (Nat.le_refl _)), ?_, ?_⟩
            · exact same_upd2 (sm2.trans s3) hD
            · rw [upd_same, take_more hpd]
              simp only [List.map_append, List.map_cons, List.map_nil, List.append_assoc]
          · have e : j = ys.length := by omega
            subst e
            refine .inl ⟨⟨ys, keep2, Nat.le_refl _⟩, sm2, ?_⟩
            rw [ly, List.take_length] at hk2
            rw [et, List.flatMap_append, List.flatMap_cons, List.flatMap_nil, List.append_nil]
            exact hk2
      | _ => cases hla
    · have e : i = xs.length := by omega
      subst e
      refine .inl ⟨⟨xs, ht1, Nat.le_refl _⟩, ?_⟩
      rw [lx, List.take_length] at hk
      have e1 : ((as.flatMap inn).map fun d => V.int (manyS (manyN m) d : Nat)) = ((as.flatMap inn).map fun d => ((manyS (manyN m) d : Nat) : Int)).map V.int := by rw [List.map_map]; rfl
      rw [e1] at hk
      refine ⟨D, _, rfl, SqL.of hk, _, _, rfl, rfl, ?_⟩
      rw [sum_map, sum_inn hall]
      have r := q H1 (sp.trans (s1.trans sm))
      have e2 : manyS (manyN (m + 1)) (.tuple (.str z :: nm :: as)) = 1 + sumM (manyN (m + 1)) as := by
        unfold manyS
        rw [if_pos br]
        rfl
      rw [e2] at r
      rw [show ((1 + sumM (manyN (m + 1)) as : Nat) : Int) = 1 + ((sumM (manyN (m + 1)) as : Nat) : Int) by omega] at r
      exact r
theorem no_size {k : Nat} : FnOk P w K mg base CX0 k f fd ["statement"] (spSizeS K 0) := ⟨(fun vs H Q E h => by obtain ⟨m, e, _⟩ := h; cases e), (fun A outer s H args us vs Q E hr he hb hv h => by obtain ⟨m, e, _⟩ := h; cases e)⟩
theorem all_size {k : Nat} (F : Fun K "size_of" "size_of" sSizeOf f fd) (hm : mg "size_of" = some (.ref f)) (hb : Binds K fd ["statement"] []) (T : Free mg) : ∀ n, FnOk P w K mg base CX0 (k + n + 1) f fd ["statement"] (spSizeOf K n)
  | 0 => ok_size F T ⟨f, fd, no_size, hm, F.kp, hb⟩
  | n + 1 => ok_size (k := k + (n + 1)) F T ⟨f, fd, (all_size F hm hb T n).imp (fun vs H Q E z => by obtain ⟨m, e, z⟩ := z; cases e; exact z), hm, F.kp, hb⟩
/-! the rows -/
def spFB (K : PySem.W.Frag) (n : Nat) : Sp := fun vs H Q _ => ∃ (x : V) (d : PyData) (ss ts : List Int) (a b : Int), vs = [x, .int a, .int b] ∧ Dp K H x d ∧ lblk ss ts n d = true ∧ manyN n d ≤ 40 ∧ ∀ R ws H', Same H H' → H R = none → H' R = some (.lst ws) → DpAll K H' ws ((flN n d a b).map rowD) → Q (.ref R) H'
def spFS (K : PySem.W.Frag) (n : Nat) : Sp := fun vs H Q _ => ∃ (x : V) (d : PyData) (ss ts : List Int) (a b : Int), vs = [x, .int a, .int b] ∧ Dp K H x d ∧ lstB ss ts (lblk ss ts n) d = true ∧ manyS (manyN n) d ≤ 40 ∧ ∀ R ws H', Same H H' → H R = none → H' R = some (.lst ws) → DpAll K H' ws ((flS (flN n) d a b).map rowD) → Q (.ref R) H'
def spFI (K : PySem.W.Frag) (n : Nat) : Sp := fun vs H Q _ => ∃ (v : V) (nm x y : PyData) (ss ts : List Int) (a b : Int), vs = [v, .int a, .int b] ∧ Dp K H v (.tuple [.str "if", nm, x, y]) ∧ lblk ss ts n x = true ∧ lblk ss ts n y = true ∧ 1 + manyN n x + manyN n y ≤ 40 ∧ ∀ R ws H', Same H H' → H R = none → H' R = some (.lst ws) → DpAll K H' ws ((ifR (flN n) nm x y a b).map rowD) → Q (.ref R) H'
def spFW (K : PySem.W.Frag) (n : Nat) : Sp := fun vs H Q _ => ∃ (v : V) (nm x : PyData) (ss ts : List Int) (a b : Int), vs = [v, .int a, .int b] ∧ Dp K H v (.tuple [.str "while", nm, x]) ∧ lblk ss ts n x = true ∧ 1 + manyN n x ≤ 40 ∧ ∀ R ws H', Same H H' → H R = none → H' R = some (.lst ws) → DpAll K H' ws ((whR (flN n) nm x a b).map rowD) → Q (.ref R) H'
abbrev PFB : List Str := ["block", "first", "behind"]
abbrev NFB : List Str := ["block", "first", "behind", "rows", "place", "statement", "number", "after"]
theorem scFB : FnScope NFB PFB (defScope sFlatBl) := ⟨rfl, rfl, rfl, by decide +kernel, rfl, by decide +kernel, by decide +kernel⟩
abbrev PFS : List Str := ["statement", "number", "behind"]
theorem scFS : FnScope ["statement", "number", "behind", "deed"] PFS (defScope sFlatSt) := ⟨rfl, rfl, rfl, by decide +kernel, rfl, by decide +kernel, by decide +kernel⟩
abbrev NFI : List Str := ["statement", "number", "behind", "rows", "middle", "others", "nexts"]
theorem scFI : FnScope NFI PFS (defScope sFlatIf) := ⟨rfl, rfl, rfl, by decide +kernel, rfl, by decide +kernel, by decide +kernel⟩
theorem scFW : FnScope ["statement", "number", "behind", "rows"] PFS (defScope sFlatWh) := ⟨rfl, rfl, rfl, by decide +kernel, rfl, by decide +kernel, by decide +kernel⟩
theorem isE {α β : Type} {l : List α} {r : List β} (h : l.length = r.length) : l.isEmpty = r.isEmpty := by
  cases l <;> cases r <;> first | rfl | cases h
/-- the last row of flat_if -/
def tIfR (K : PySem.W.Frag) : TS := fun D σ G => ∃ (da R1 R2 pn : Addr) (v1 v2 v4 : Option V) (nv : V) (dvs ws1 ws2 : List V) (nm : PyData) (n1 n2 : Int) (r1 r2 : List (PyData × List Int)), σ = [some (.ref da), v1, v2, some (.ref R1), v4, some (.ref R2), some (.ref pn)] ∧ SqT K G da dvs ∧ dvs[1]? = some nv ∧ Dp K G nv nm ∧ G R1 = some (.lst ws1) ∧ DpAll K G ws1 (r1.map rowD) ∧ G R2 = some (.lst ws2) ∧ DpAll K G ws2 (r2.map rowD) ∧
  G pn = some (.tup [.int n1, .int n2]) ∧ ws1.length + ws2.length ≤ 100 ∧ ∀ R ws G', Same G G' → G R = none → G' R = some (.lst ws) → DpAll K G' ws (((tstD nm, [n1, n2]) :: (r1 ++ r2)).map rowD) → D.rt (.ref R) G'
theorem dpAll_app {H : Hp} : ∀ {xs ys : List V} {ds es : List PyData}, DpAll K H xs ds → DpAll K H ys es → DpAll K H (xs ++ ys) (ds ++ es)
  | [], _, [], _, .nil, h => h
  | _ :: _, _, _ :: _, _, .cons a b, h => .cons a (dpAll_app b h)
theorem ok_flatIf {k n : Nat} (F : Fun K "flat_if" "flat_if" sFlatIf f fd) (T : Free mg) (cB : Cal P w K mg base "flat_block" k PFB (spFB K n)) : FnOk P w K mg base CX0 (k + 1) f fd PFS (spFI K n) := by
  refine F.ok scFI (fun vs H Q E h => ?_) (fun cdv A outer s H vs Q E hr h => ?_)
  · obtain ⟨v, nm, x, y, ss, ts, a, b, rfl, _⟩ := h
    rfl
  obtain ⟨v, nm, x, y, ss, ts, a, b, rfl, hx, lx, ly, h40, q⟩ := h
  refine ⟨_, pss_cons (ps_set (i := 3) scFI.nd rfl (.inl rfl) (pe_cal cB hr rfl (pa_cons (pe_ix ix_tup (pv 0) pe_int (fun _ _ => rfl)) (pa_cons (pe_op op_add (pv 1) pe_int) (pa_cons (pv 2) pa_nil)))))
    (pss_cons (ps_set (i := 4) scFI.nd rfl (.inl rfl) (pe_op op_add (pe_op op_add (pv 1) pe_int) (pe_callB call_len_seq rfl T.len PySem.boot_len (pa_cons (pv 3) pa_nil))))
    (pss_cons (ps_set (i := 5) scFI.nd rfl (.inl rfl) (pe_cal cB hr rfl (pa_cons (pe_ix ix_tup (pv 0) pe_int (fun _ _ => rfl)) (pa_cons (pv 4) (pa_cons (pv 2) pa_nil)))))
    (pss_cons (ps_set (i := 6) scFI.nd rfl (.inl rfl) (pe_tup (pa_cons (pe_ifExp (pt_truth (pv 3) (by intro _; rfl)) (pe_op op_add (pv 1) pe_int) (pv 2)) (pa_cons (pe_ifExp (pt_truth (pv 5) (by intro _; rfl)) (pv 4) (pv 2)) pa_nil))))
    (pss_imp (t' := tIfR K) (pss_one (ps_ret (pe_op op_cat (pe_op op_cat (pe_lst (pa_cons (pe_tup (pa_cons (pe_tup (pa_cons pe_str (pa_cons (pe_ix ix_tup (pv 0) pe_int (fun _ _ => rfl)) pa_nil))) (pa_cons (pv 6) pa_nil))) pa_nil)) (pv 3)) (pv 5)))) (fun D σ G h => ?_))))), ?_⟩
  · obtain ⟨da, R1, R2, pn, v1, v2, v4, nv, dvs, ws1, ws2, nm, n1, n2, r1, r2, rfl, dat, hnv, dnm, g1, d1, g2, d2, gp, l100, q⟩ := h
    refine ⟨_, rfl, da, dvs, 1, nv, rfl, rfl, dat, atI_at (by decide) hnv, small (by show 2 ≤ 1000; decide), fun p1 f1 => ⟨_, rfl, small (by show 2 ≤ 1000; decide), fun p2 f2 => ⟨small (by show 1 ≤ 1000; decide), fun p3 f3 => ?_⟩⟩⟩
    have s1 := same_new f1 (.tup [.str "test", nv])
    have s2 := same_new f2 (.tup [.ref p1, .ref pn])
    have s3 := same_new f3 (.lst [.ref p2])
    have s123 := s1.trans (s2.trans s3)
    refine ⟨_, rfl, p3, R1, _, _, rfl, rfl, upd_same, s123 _ _ g1, small (by rw [List.length_cons, List.length_nil]; omega), fun p4 f4 => ?_⟩
    have s4 := same_new f4 (.lst ([.ref p2] ++ ws1))
    refine ⟨_, rfl, p4, R2, _, _, rfl, rfl, upd_same, (s123.trans s4) _ _ g2, small (by rw [List.length_append]; show 1 + _ + _ ≤ 1000; omega), fun p5 f5 => ?_⟩
    have s5 := same_new f5 (.lst (([.ref p2] ++ ws1) ++ ws2))
    have s25 := s2.trans (s3.trans (s4.trans s5))
    have s15 := s1.trans s25
    refine q p5 _ _ s15 (none_of_same (s123.trans s4) f5) upd_same (.cons (.tup (SqT.of ((s3.trans (s4.trans s5)) _ _ upd_same)) (.cons (.tup (SqT.of (s25 _ _ upd_same)) (.cons (.str _) (.cons (dp_same s15 dnm) .nil))) (.cons (.tup (SqT.of (s15 _ _ gp)) (.cons (.int _) (.cons (.int _) .nil))) .nil))) ?_)
    rw [List.map_append]
    exact dpAll_app (dps_same s15 d1) (dps_same s15 d2)
  · cases hx with
    | @tup da dvs _ dat deach =>
    cases deach with
    | @cons u0 _ _ _ e0 r0 =>
    cases r0 with
    | @cons nv _ _ _ e1 r1 =>
    cases r1 with
    | @cons xv _ _ _ e2 r2 =>
    cases r2 with
    | @cons yv _ _ _ e3 r3 =>
    cases r3
    refine ⟨_, rfl, da, _, 2, xv, rfl, rfl, dat, atI_at (by decide) rfl, _, rfl, _, _, rfl, rfl, _, rfl, xv, x, ss, ts, a + 1, b, rfl, e2, lx, by omega, fun R1 ws1 H1 s1 f1 g1 d1 => ?_⟩
    have l1 := dpAll_len d1
    rw [List.length_map, flN_len n lx] at l1
    refine ⟨_, rfl, _, _, rfl, rfl, _, rfl, R1, ws1, rfl, .inl (SqL.of g1), _, _, rfl, rfl, ?_⟩
    refine ⟨_, rfl, da, _, 3, yv, rfl, rfl, sqT_same s1 dat, atI_at (by decide) rfl, _, rfl, _, rfl, yv, y, ss, ts, a + 1 + (ws1.length : Int), b, rfl, dp_same s1 e3, ly, by omega, fun R2 ws2 H2 s2 f2 g2 d2 => ?_⟩
    have l2 := dpAll_len d2
    rw [List.length_map, flN_len n ly] at l2
    have g1' := s2 _ _ g1
    have eR : ((flN n x (a + 1) b).length : Int) = (ws1.length : Int) := by rw [flN_len n lx]; omega
    have emp1 : ws1.isEmpty = (flN n x (a + 1) b).isEmpty := isE (by rw [flN_len n lx]; omega)
    have emp2 : ws2.isEmpty = (flN n y (a + 1 + ((flN n x (a + 1) b).length : Nat)) b).isEmpty := isE (by rw [flN_len n ly]; omega)
    have last : ∀ (n1 n2 : Int) pn, n1 = (if (flN n x (a + 1) b).isEmpty then b else a + 1) → n2 = (if (flN n y (a + 1 + ((flN n x (a + 1) b).length : Nat)) b).isEmpty then b else a + 1 + ((flN n x (a + 1) b).length : Nat)) → H2 pn = none →
        tIfR K { nx := fun _ H' => Q .non H', rt := Q } [some (.ref da), some (.int a), some (.int b), some (.ref R1), some (.int (a + 1 + (ws1.length : Int))), some (.ref R2), some (.ref pn)] (upd H2 pn (.tup [.int n1, .int n2])) := fun n1 n2 pn z1 z2 fp => by
      have sp := same_new fp (.tup [.int n1, .int n2])
      have s12 := s1.trans s2
      refine ⟨da, R1, R2, pn, _, _, _, nv, _, ws1, ws2, nm, n1, n2, flN n x (a + 1) b, flN n y (a + 1 + ((flN n x (a + 1) b).length : Nat)) b, rfl, sqT_same (s12.trans sp) dat, rfl, dp_same (s12.trans sp) e1, sp _ _ g1', dps_same (s2.trans sp) d1, sp _ _ g2, ?_, upd_same, by omega, fun R ws G' sG fR gR dR => ?_⟩
      · rw [eR]
        exact dps_same sp d2
      · refine q R ws G' (s12.trans (sp.trans sG)) (none_of_same s12 (none_of_same sp fR)) gR ?_
        rw [z1, z2] at dR
        exact dR
    refine ⟨_, rfl, !ws1.isEmpty, .inl ⟨ws1, SqL.of g1', rfl⟩, ?_⟩
    cases w1 : ws1.isEmpty with
    | true =>
      rw [w1] at emp1
      refine ifF rfl ⟨_, rfl, _, rfl, !ws2.isEmpty, .inl ⟨ws2, SqL.of g2, rfl⟩, ?_⟩
      cases w2 : ws2.isEmpty with
      | true =>
        rw [w2] at emp2
        exact ifF rfl ⟨_, rfl, small (by show 2 ≤ 1000; decide), fun pn fp => last _ _ pn (by rw [← emp1]; rfl) (by rw [← emp2]; rfl) fp⟩
      | false =>
        rw [w2] at emp2
        exact ifT rfl ⟨_, rfl, small (by show 2 ≤ 1000; decide), fun pn fp => last _ _ pn (by rw [← emp1]; rfl) (by rw [← emp2, eR]; rfl) fp⟩
    | false =>
      rw [w1] at emp1
      refine ifT rfl ⟨_, rfl, _, _, rfl, rfl, _, rfl, !ws2.isEmpty, .inl ⟨ws2, SqL.of g2, rfl⟩, ?_⟩
      cases w2 : ws2.isEmpty with
      | true =>
        rw [w2] at emp2
        exact ifF rfl ⟨_, rfl, small (by show 2 ≤ 1000; decide), fun pn fp => last _ _ pn (by rw [← emp1]; rfl) (by rw [← emp2]; rfl) fp⟩
      | false =>
        rw [w2] at emp2
        exact ifT rfl ⟨_, rfl, small (by show 2 ≤ 1000; decide), fun pn fp => last _ _ pn (by rw [← emp1]; rfl) (by rw [← emp2, eR]; rfl) fp⟩
end
/-! flat_while, flat_statement, flat_block, flat -/
theorem le_foldr_abs {i : Int} : ∀ {l : List Int}, i ∈ l → i.natAbs ≤ l.foldr (fun i m => max i.natAbs m) 0
  | a :: l, h => by
    rw [List.foldr_cons]
    rcases List.mem_cons.mp h with rfl | h
    · exact Nat.le_max_left _ _
    · exact Nat.le_trans (le_foldr_abs h) (Nat.le_max_right _ _)
theorem cp_tup {d : PyData} (h : tupOnly d = true) : tupOnly (cpD d) = true := by
  unfold cpD
  split
  · rename_i z ds
    split
    · exact tupOnly_app (ds := .str z :: ds) h rfl
    · exact h
  · exact h
theorem num_tup {d : PyData} (h : numNameD d = true) : tupOnly d = true := by
  obtain ⟨x, rfl, _⟩ := num_str h
  rfl
theorem tst_tup {nm : PyData} (h : numNameD nm = true) : tupOnly (tstD nm) = true := by
  show (tupOnly (.str "test") && (tupOnly nm && true)) = true
  rw [num_tup h]
  rfl
theorem flS_tup {ss ts : List Int} {fb : PyData → Int → Int → List (PyData × List Int)} {bl : PyData → Bool} (hf : ∀ (x : PyData) (n b : Int), bl x = true → ∀ r ∈ fb x n b, tupOnly r.1 = true) {d : PyData} {n b : Int} (h : lstB ss ts bl d = true) : ∀ r ∈ flS fb d n b, tupOnly r.1 = true := by
  intro r hr
  rcases st_cases h with ⟨hd, nb, z, ds, rfl, hz⟩ | ⟨nm, x, y, rfl, hn, hx, hy, hb⟩ | ⟨nm, x, rfl, hn, hx, hb⟩
  · rw [flS_deed hz] at hr
    rw [List.mem_singleton.mp hr]
    exact cp_tup (deed_tup hd)
  · rw [flS_if] at hr
    unfold ifR at hr
    rcases List.mem_cons.mp hr with rfl | hr
    · exact tst_tup hn
    · rcases List.mem_append.mp hr with hr | hr
      · exact hf x _ _ hx r hr
      · exact hf y _ _ hy r hr
  · rw [flS_wh] at hr
    unfold whR at hr
    rcases List.mem_cons.mp hr with rfl | hr
    · exact tst_tup hn
    · exact hf x _ _ hx r hr
theorem flN_tup {ss ts : List Int} : ∀ (k : Nat) {d : PyData} {n b : Int}, lblk ss ts k d = true → ∀ r ∈ flN k d n b, tupOnly r.1 = true
  | 0, d, n, b, h => by cases d <;> cases h
  | k + 1, d, n, b, h => by
    cases d with
    | tuple ds =>
      have hl := and3 (show (decide (ds.length ≤ 12) && ds.all (lstB ss ts (lblk ss ts k))) = true from h)
      intro r hr
      obtain ⟨i, hi, hr⟩ := List.mem_flatMap.mp (show r ∈ flP (flS (flN k)) (manyS (manyN k)) ds n b ds.length from hr)
      have hi := List.mem_range.mp hi
      rw [List.getD_eq_getElem?_getD, List.getElem?_eq_getElem hi] at hr
      exact flS_tup (fb := flN k) (bl := lblk ss ts k) (fun x n b hx => flN_tup (ss := ss) (ts := ts) k hx) (List.all_eq_true.mp hl.2 _ (List.getElem_mem hi)) r hr
    | _ => cases h
theorem flP_tup {fs : PyData → Int → Int → List (PyData × List Int)} {sz : PyData → Nat} {ds : List PyData} {n b : Int} (hf : ∀ d ∈ ds, ∀ n b, ∀ r ∈ fs d n b, tupOnly r.1 = true) {j : Nat} (hj : j ≤ ds.length) : ∀ r ∈ flP fs sz ds n b j, tupOnly r.1 = true := fun r hr => by
  obtain ⟨i, hi, hr⟩ := List.mem_flatMap.mp hr
  have hi := List.mem_range.mp hi
  rw [List.getD_eq_getElem?_getD, List.getElem?_eq_getElem (show i < ds.length by omega)] at hr
  exact hf _ (List.getElem_mem _) _ _ r hr
theorem rows_tup {rs : List (PyData × List Int)} (h : ∀ r ∈ rs, tupOnly r.1 = true) : tupOnlyAll (rs.map rowD) = true := by
  induction rs with
  | nil => rfl
  | cons r rs ih =>
    show ((tupOnly r.1 && (tupOnlyAll (r.2.map .int) && true)) && tupOnlyAll (rs.map rowD)) = true
    rw [h r List.mem_cons_self, ints_tupOnly, ih fun r hr => h r (List.mem_cons_of_mem _ hr)]
    rfl
theorem kt_updL {G : Hp} {R : Addr} {l l' : List V} (g : G R = some (.lst l)) : KT G (upd G R (.lst l')) := fun b u hb hn => by
  rw [upd_ne (fun e => by rw [e, g] at hb; cases hb; exact hn _ rfl)]
  exact hb
theorem rows_upd {K : PySem.W.Frag} {G : Hp} {R : Addr} {l l' ws : List V} {rs : List (PyData × List Int)} (h : DpAll K G ws (rs.map rowD)) (g : G R = some (.lst l)) (t : ∀ r ∈ rs, tupOnly r.1 = true) : DpAll K (upd G R (.lst l')) ws (rs.map rowD) := dpAll_kt (kt_updL g) _ _ (rows_tup t) h
section
open PySem.Spec PyProof.Rows LamX
variable {P : Program} {w : World} {K : PySem.W.Frag} {mg : Str → Option Value} {base : Heap} {f : Addr} {fd : FuncData}
theorem ok_flatWh {k n : Nat} (F : Fun K "flat_while" "flat_while" sFlatWh f fd) (cB : Cal P w K mg base "flat_block" k PFB (spFB K n)) : FnOk P w K mg base CX0 (k + 1) f fd PFS (spFW K n) := by
  refine F.ok scFW (fun vs H Q E h => ?_) (fun cdv A outer s H vs Q E hr h => ?_)
  · obtain ⟨v, nm, x, ss, ts, a, b, rfl, _⟩ := h
    rfl
  obtain ⟨v, nm, x, ss, ts, a, b, rfl, hx, lx, h40, q⟩ := h
  refine ⟨_, pss_cons (ps_set (i := 3) scFW.nd rfl (.inl rfl) (pe_cal cB hr rfl (pa_cons (pe_ix ix_tup (pv 0) pe_int (fun _ _ => rfl)) (pa_cons (pe_op op_add (pv 1) pe_int) (pa_cons (pv 1) pa_nil)))))
    (pss_one (ps_ret (pe_op op_cat (pe_lst (pa_cons (pe_tup (pa_cons (pe_tup (pa_cons pe_str (pa_cons (pe_ix ix_tup (pv 0) pe_int (fun _ _ => rfl)) pa_nil))) (pa_cons (pe_tup (pa_cons (pe_ifExp (pt_truth (pv 3) (by intro _; rfl)) (pe_op op_add (pv 1) pe_int) (pv 1)) (pa_cons (pv 2) pa_nil))) pa_nil))) pa_nil)) (pv 3)))), ?_⟩
  cases hx with
  | @tup da dvs _ dat deach =>
  cases deach with
  | @cons u0 _ _ _ e0 r0 =>
  cases r0 with
  | @cons nv _ _ _ e1 r1 =>
  cases r1 with
  | @cons xv _ _ _ e2 r2 =>
  cases r2
  refine ⟨_, rfl, da, _, 2, xv, rfl, rfl, dat, atI_at (by decide) rfl, _, rfl, _, _, rfl, rfl, _, rfl, xv, x, ss, ts, a + 1, a, rfl, e2, lx, by omega, fun R ws H1 s1 f1 g1 d1 => ?_⟩
  have l1 := dpAll_len d1
  rw [List.length_map, flN_len n lx] at l1
  have emp : ws.isEmpty = (flN n x (a + 1) a).isEmpty := isE (by rw [flN_len n lx]; omega)
  have fin : ∀ n1 : Int, n1 = (if (flN n x (a + 1) a).isEmpty then a else a + 1) → ∀ (p1 p2 p3 p4 p5 : Addr), H1 p1 = none → (upd H1 p1 (.tup [.str "test", nv])) p2 = none → (upd (upd H1 p1 (.tup [.str "test", nv])) p2 (.tup [.int n1, .int b])) p3 = none →
      (upd (upd (upd H1 p1 (.tup [.str "test", nv])) p2 (.tup [.int n1, .int b])) p3 (.tup [.ref p1, .ref p2])) p4 = none → (upd (upd (upd (upd H1 p1 (.tup [.str "test", nv])) p2 (.tup [.int n1, .int b])) p3 (.tup [.ref p1, .ref p2])) p4 (.lst [.ref p3])) p5 = none →
      Q (.ref p5) (upd (upd (upd (upd (upd H1 p1 (.tup [.str "test", nv])) p2 (.tup [.int n1, .int b])) p3 (.tup [.ref p1, .ref p2])) p4 (.lst [.ref p3])) p5 (.lst ([.ref p3] ++ ws))) := fun n1 z p1 p2 p3 p4 p5 q1 q2 q3 q4 q5 => by
    have t1 := same_new q1 (.tup [.str "test", nv])
    have t2 := same_new q2 (.tup [.int n1, .int b])
    have t3 := same_new q3 (.tup [.ref p1, .ref p2])
    have t4 := same_new q4 (.lst [.ref p3])
    have t5 := same_new q5 (.lst ([.ref p3] ++ ws))
    have t45 := t4.trans t5
    have t35 := t3.trans t45
    have t25 := t2.trans t35
    have t15 := t1.trans t25
    refine q p5 _ _ (s1.trans t15) (none_of_same (s1.trans (t1.trans (t2.trans (t3.trans t4)))) q5) upd_same ?_
    show DpAll K _ _ (rowD (tstD nm, [if (flN n x (a + 1) a).isEmpty then a else a + 1, b]) :: (flN n x (a + 1) a).map rowD)
    rw [← z]
    exact .cons (.tup (SqT.of (t45 _ _ upd_same)) (.cons (.tup (SqT.of (t25 _ _ upd_same)) (.cons (.str _) (.cons (dp_same (s1.trans t15) e1) .nil))) (.cons (.tup (SqT.of (t35 _ _ upd_same)) (.cons (.int _) (.cons (.int _) .nil))) .nil))) (dps_same t15 d1)
  refine ⟨_, rfl, da, _, 1, nv, rfl, rfl, sqT_same s1 dat, atI_at (by decide) rfl, small (by show 2 ≤ 1000; decide), fun p1 q1 => ?_⟩
  have t1 := same_new q1 (.tup [.str "test", nv])
  refine ⟨_, rfl, !ws.isEmpty, .inl ⟨ws, SqL.of (t1 _ _ g1), rfl⟩, ?_⟩
  have at4 : ∀ {n1 : Int} {p2 p3 p4 : Addr}, (upd H1 p1 (.tup [.str "test", nv])) p2 = none → (upd (upd H1 p1 (.tup [.str "test", nv])) p2 (.tup [.int n1, .int b])) p3 = none → (upd (upd (upd H1 p1 (.tup [.str "test", nv])) p2 (.tup [.int n1, .int b])) p3 (.tup [.ref p1, .ref p2])) p4 = none →
      (upd (upd (upd (upd H1 p1 (.tup [.str "test", nv])) p2 (.tup [.int n1, .int b])) p3 (.tup [.ref p1, .ref p2])) p4 (.lst [.ref p3])) R = some (.lst ws) := fun q2 q3 q4 => ((t1.trans (same_new q2 _)).trans ((same_new q3 _).trans (same_new q4 _))) _ _ g1
  cases we : ws.isEmpty with
  | true =>
    rw [we] at emp
    exact ifF rfl ⟨_, rfl, _, rfl, small (by show 2 ≤ 1000; decide), fun p2 q2 => ⟨small (by show 2 ≤ 1000; decide), fun p3 q3 => ⟨small (by show 1 ≤ 1000; decide), fun p4 q4 => ⟨_, rfl, p4, R, _, _, rfl, rfl, upd_same, at4 q2 q3 q4, small (by show 1 + ws.length ≤ 1000; omega), fun p5 q5 => fin _ (by rw [← emp]; rfl) p1 p2 p3 p4 p5 q1 q2 q3 q4 q5⟩⟩⟩⟩
  | false =>
    rw [we] at emp
    exact ifT rfl ⟨_, rfl, _, _, rfl, rfl, _, rfl, small (by show 2 ≤ 1000; decide), fun p2 q2 => ⟨small (by show 2 ≤ 1000; decide), fun p3 q3 => ⟨small (by show 1 ≤ 1000; decide), fun p4 q4 => ⟨_, rfl, p4, R, _, _, rfl, rfl, upd_same, at4 q2 q3 q4, small (by show 1 + ws.length ≤ 1000; omega), fun p5 q5 => fin _ (by rw [← emp]; rfl) p1 p2 p3 p4 p5 q1 q2 q3 q4 q5⟩⟩⟩⟩
def tStR (K : PySem.W.Frag) : TS := fun D σ G => ∃ (v0 v1 : Option V) (b : Int) (dv : V) (d : PyData), σ = [v0, v1, some (.int b), some dv] ∧ Dp K G dv d ∧ ∀ R ws G', Same G G' → G R = none → G' R = some (.lst ws) → DpAll K G' ws [rowD (d, [b])] → D.rt (.ref R) G'
theorem ok_flatSt {k n : Nat} (F : Fun K "flat_statement" "flat_statement" sFlatSt f fd) (cI : Cal P w K mg base "flat_if" k PFS (spFI K n)) (cW : Cal P w K mg base "flat_while" k PFS (spFW K n)) (cH : Cal P w K mg base "hands_on" k ["deed"] (spHands K)) : FnOk P w K mg base CX0 (k + 1) f fd PFS (spFS K n) := by
  refine F.ok scFS (fun vs H Q E h => ?_) (fun cdv A outer s H vs Q E hr h => ?_)
  · obtain ⟨x, d, ss, ts, a, b, rfl, _⟩ := h
    rfl
  obtain ⟨x, d, ss, ts, a, b, rfl, hx, hl, h40, q⟩ := h
  refine ⟨_, pss_cons (ps_if (pt_cmpR op_eq (pe_ix ix_tup (pv 0) pe_int (fun _ _ => rfl)) pe_str (nomark _)) (pss_one (ps_ret (pe_cal cI hr rfl (pa_cons (pv 0) (pa_cons (pv 1) (pa_cons (pv 2) pa_nil)))))) pss_nil)
    (pss_cons (ps_if (pt_cmpR op_eq (pe_ix ix_tup (pv 0) pe_int (fun _ _ => rfl)) pe_str (nomark _)) (pss_one (ps_ret (pe_cal cW hr rfl (pa_cons (pv 0) (pa_cons (pv 1) (pa_cons (pv 2) pa_nil)))))) pss_nil)
    (pss_cons (ps_set (i := 3) scFS.nd rfl (.inl rfl) (pe_ifExp (pt_val (pe_cal cH hr rfl (pa_cons (pv 0) pa_nil))) (pe_op op_catA (pv 0) (pe_tup (pa_cons pe_str pa_nil))) (pv 0)))
    (pss_imp (t' := tStR K) (pss_one (ps_ret (pe_lst (pa_cons (pe_tup (pa_cons (pv 3) (pa_cons (pe_tup (pa_cons (pv 2) pa_nil)) pa_nil))) pa_nil)))) (fun D σ G h => ?_)))), ?_⟩
  · obtain ⟨v0, v1, b, dv, d, rfl, hd, q⟩ := h
    refine ⟨_, rfl, _, rfl, small (by show 1 ≤ 1000; decide), fun p1 f1 => ⟨small (by show 2 ≤ 1000; decide), fun p2 f2 => ⟨small (by show 1 ≤ 1000; decide), fun p3 f3 => ?_⟩⟩⟩
    have s1 := same_new f1 (.tup [.int b])
    have s2 := same_new f2 (.tup [dv, .ref p1])
    have s3 := same_new f3 (.lst [.ref p2])
    exact q p3 _ _ (s1.trans (s2.trans s3)) (none_of_same (s1.trans s2) f3) upd_same (.cons (.tup (SqT.of (s3 _ _ upd_same)) (.cons (dp_same (s1.trans (s2.trans s3)) hd) (.cons (.tup (SqT.of ((s2.trans s3) _ _ upd_same)) (.cons (.int _) .nil)) .nil))) .nil)
  · rcases st_cases hl with ⟨hdd, nb, z, ds, rfl, hz⟩ | ⟨nm, y1, y2, rfl, hn, l1, l2, br⟩ | ⟨nm, y1, rfl, hn, l1, br⟩
    · have z1 : z ≠ "if" := fun e => hz (by rw [e]; decide +kernel)
      have z2 : z ≠ "while" := fun e => hz (by rw [e]; decide +kernel)
      rw [flS_deed hz] at q
      have hx' := hx
      cases hx with
      | @tup da dvs _ dat deach =>
      have ld := dpAll_len deach
      have l12 : dvs.length ≤ 12 := by
        obtain ⟨b1, _, _⟩ := deed_bd (c := 10000 + ss.foldr (fun i m => max i.natAbs m) 0 + ts.foldr (fun i m => max i.natAbs m) 0 + 1) (by omega) (fun i hi => by have := le_foldr_abs hi; omega) (fun i hi => by have := le_foldr_abs hi; omega) hdd
        cases b1 with
        | tup l _ => omega
      cases deach with
      | @cons u us _ _ d1 d2 =>
      cases d1
      refine ⟨_, rfl, da, _, 0, _, rfl, rfl, dat, atI_at (by decide) rfl, rfl, _, rfl, ifF (by rw [decV]; exact decide_eq_false z1) ?_⟩
      refine ⟨_, rfl, da, _, 0, _, rfl, rfl, dat, atI_at (by decide) rfl, rfl, _, rfl, ifF (by rw [decV]; exact decide_eq_false z2) ?_⟩
      refine ⟨_, rfl, .ref da, z, ds, rfl, hx', _, rfl, ?_⟩
      by_cases c : z ∈ handL
      · refine ifT (decide_eq_true c) ⟨_, rfl, small (by show 1 ≤ 1000; decide), fun p1 f1 => ?_⟩
        have s1 := same_new f1 (.tup [.str "copy"])
        refine ⟨da, p1, _, _, rfl, rfl, sqT_same s1 dat, SqT.of upd_same, small (by rw [List.length_cons] at l12 ⊢; show _ + 1 ≤ 1000; omega), fun e => (by cases e), fun _ e => (by cases e), fun _ _ p2 f2 => ?_⟩
        have s2 := same_new f2 (.tup ((.str z :: us) ++ [.str "copy"]))
        have s12 := s1.trans s2
        refine ⟨_, _, b, .ref p2, cpD (.tuple (.str z :: ds)), rfl, ?_, fun R ws G' sG fR gR dR => q R ws G' (s12.trans sG) (none_of_same s12 fR) gR dR⟩
        rw [show cpD (.tuple (.str z :: ds)) = .tuple (.str z :: (ds ++ [.str "copy"])) from if_pos c]
        exact .tup (SqT.of upd_same) (.cons (.str _) (dpAll_app (dps_same s12 d2) (.cons (.str _) .nil)))
      · refine ifF (decide_eq_false c) ⟨_, rfl, _, _, b, .ref da, cpD (.tuple (.str z :: ds)), rfl, ?_, q⟩
        rw [show cpD (.tuple (.str z :: ds)) = .tuple (.str z :: ds) from if_neg c]
        exact hx'
    · rw [flS_if] at q
      rw [manyS_if br] at h40
      have hx' := hx
      cases hx with
      | @tup da dvs _ dat deach =>
      cases deach with
      | @cons u us _ _ d1 d2 =>
      cases d1
      exact ⟨_, rfl, da, _, 0, _, rfl, rfl, dat, atI_at (by decide) rfl, rfl, _, rfl, ifT (by decide +kernel) ⟨_, rfl, _, rfl, _, rfl, .ref da, nm, y1, y2, ss, ts, a, b, rfl, hx', l1, l2, h40, q⟩⟩
    · rw [flS_wh] at q
      rw [manyS_wh br] at h40
      have hx' := hx
      cases hx with
      | @tup da dvs _ dat deach =>
      cases deach with
      | @cons u us _ _ d1 d2 =>
      cases d1
      refine ⟨_, rfl, da, _, 0, _, rfl, rfl, dat, atI_at (by decide) rfl, rfl, _, rfl, ifF (by decide +kernel) ?_⟩
      exact ⟨_, rfl, da, _, 0, _, rfl, rfl, dat, atI_at (by decide) rfl, rfl, _, rfl, ifT (by decide +kernel) ⟨_, rfl, _, rfl, _, rfl, .ref da, nm, y1, ss, ts, a, b, rfl, hx', l1, h40, q⟩⟩
def tFBx (K : PySem.W.Frag) (n : Nat) : TS := fun D σ G => ∃ (v0 v1 v2 v4 : Option V) (R : Addr) (v : V) (num af : Int) (ws : List V) (d : PyData) (ss ts : List Int), σ = [v0, v1, v2, some (.ref R), v4, some v, some (.int num), some (.int af)] ∧ Dp K G v d ∧ lstB ss ts (lblk ss ts n) d = true ∧ manyS (manyN n) d ≤ 40 ∧ G R = some (.lst ws) ∧ ws.length ≤ 100 ∧
  ∀ ws2 G2, Same G G2 → DpAll K G2 ws2 ((flS (flN n) d num af).map rowD) → D.nx σ (upd G2 R (.lst (ws ++ ws2)))
theorem ok_flatBl {k n : Nat} (F : Fun K "flat_block" "flat_block" sFlatBl f fd) (T : Free mg) (hE : mg "enumerate" = none) (cS : Cal P w K mg base "size_of" k ["statement"] (spSizeOf K n)) (cF : Cal P w K mg base "flat_statement" k PFS (spFS K n)) : FnOk P w K mg base CX0 (k + 1) f fd PFB (spFB K (n + 1)) := by
  refine F.ok scFB (fun vs H Q E h => ?_) (fun cdv A outer s H vs Q E hr h => ?_)
  · obtain ⟨x, d, ss, ts, a, b, rfl, _⟩ := h
    rfl
  obtain ⟨x, d, ss, ts, a, b, rfl, hx, hl, h40, q⟩ := h
  refine ⟨_, pss_cons (ps_set (i := 3) scFB.nd rfl (.inl rfl) (pe_lst pa_nil))
    (pss_cons (ps_for PassesOwn.never rfl (pi_enumT rfl hE (pa_cons (pv 0) pa_nil)) (pg_tup rfl (pgs_cons (pg_name (i := 4) scFB.nd rfl (.inl rfl)) (pgs_cons (pg_name (i := 5) scFB.nd rfl (.inl rfl)) pgs_nil)))
      (pss_cons (ps_set (i := 6) scFB.nd rfl (.inl rfl) (pe_op op_add (pv 1) (pe_callB call_len_seq rfl T.len PySem.boot_len (pa_cons (pv 3) pa_nil))))
      (pss_cons (ps_set (i := 7) scFB.nd rfl (.inl rfl) (pe_ifExp (pt_cmpR op_lt (pe_op op_add (pv 4) pe_int) (pe_callB call_len_seq rfl T.len PySem.boot_len (pa_cons (pv 0) pa_nil)) (nomark _)) (pe_op op_add (pv 6) (pe_cal cS hr rfl (pa_cons (pv 5) pa_nil))) (pv 2)))
      (pss_imp (t' := tFBx K n) (pss_one (ps_expr (pe_bm PySem.F.plainAttrs_list PySem.F.slot_list_extend PySem.F.type_list_extend mt_extend (pv 3) (pa_cons (pe_cal cF hr rfl (pa_cons (pv 5) (pa_cons (pv 6) (pa_cons (pv 7) pa_nil)))) pa_nil)))) (fun D σ G h => ?_)))))
    (pss_one (ps_ret (pv 3)))), ?_⟩
  · obtain ⟨v0, v1, v2, v4, R, v, num, af, ws, d, ss, ts, rfl, hd, hl, h40, gR, l100, q⟩ := h
    refine ⟨_, rfl, .inl ⟨rfl, _, SqL.of gR⟩, _, rfl, _, rfl, _, rfl, v, d, ss, ts, num, af, rfl, hd, hl, h40, fun R2 ws2 G2 s2 f2 g2 d2 => ?_⟩
    have l2 := dpAll_len d2
    rw [List.length_map, flB_len hl] at l2
    exact ⟨R, R2, ws, ws2, rfl, rfl, s2 _ _ gR, g2, small (by omega), q ws2 G2 s2 d2⟩
  cases d with
  | tuple ds =>
    have hl2 := and3 (show (decide (ds.length ≤ 12) && ds.all (lstB ss ts (lblk ss ts n))) = true from hl)
    have l12 := of_decide_eq_true hl2.1
    have h40 : sumM (manyS (manyN n)) ds ≤ 40 := h40
    cases hx with
    | @tup ta xs _ at_ each =>
      have lx := dpAll_len each
      refine ⟨small (by show 0 ≤ 1000; decide), fun R fR => ?_⟩
      have n0 := same_new fR (.lst [])
      refine ⟨_, rfl, ta, xs, rfl, sqT_same n0 at_, ?_⟩
      refine for_enumT (xs := xs) (fun j σ G => ∃ (ws : List V) (o4 o5 o6 o7 : Option V), σ = [some (.ref ta), some (.int a), some (.int b), some (.ref R), o4, o5, o6, o7] ∧ Same H G ∧ G R = some (.lst ws) ∧ DpAll K G ws ((flP (flS (flN n)) (manyS (manyN n)) ds a b j).map rowD))
        ⟨[], _, _, _, _, rfl, n0, upd_same, .nil⟩ (fun j σ G _ h => by obtain ⟨_, _, _, _, _, _, e, _⟩ := h; exact sqT_same e at_) (fun j v T0 σ G hv h hT => ?_) (fun σ G h => ?_)
      · obtain ⟨ws, o4, o5, o6, o7, rfl, sG, gR, dR⟩ := h
        have hj := (List.getElem?_eq_some_iff.mp hv).1
        obtain ⟨d, hd, hdv⟩ := dpAll_get' (dps_same sG each) hv
        have hdm := List.mem_of_getElem? hd
        have jl : j ≤ ds.length := by omega
        have hst := List.all_eq_true.mp hl2.2 d hdm
        have lP := flP_len (fs := flS (flN n)) (sz := manyS (manyN n)) (ds := ds) (n := a) (b := b) (fun d hd n' b' => flB_len (List.all_eq_true.mp hl2.2 d hd)) j (by omega)
        have lw := dpAll_len dR
        rw [List.length_map, lP] at lw
        have st := sumM_takes (m := manyS (manyN n)) ds j
        have sd := sumM_mem (m := manyS (manyN n)) hdm
        have nT := same_new hT (.tup [.int (j : Nat), v])
        have gR1 := nT _ _ gR
        refine ⟨T0, _, rfl, SqT.of upd_same, rfl, _, _, rfl, _, _, rfl, rfl, ?_⟩
        refine ⟨_, rfl, _, rfl, R, ws, rfl, .inl (SqL.of gR1), _, _, rfl, rfl, ?_⟩
        refine ⟨_, rfl, _, _, rfl, rfl, _, rfl, ta, xs, rfl, .inr (sqT_same (sG.trans nT) at_), _, _, rfl, rfl, _, rfl, ?_⟩
        have rest : ∀ (G1 : Hp) (af : Int), Same (upd G T0 (.tup [.int (j : Nat), v])) G1 → af = (if j + 1 < ds.length then a + (sumM (manyS (manyN n)) (ds.take (j + 1)) : Nat) else b) → ∀ ws2 G2, Same G1 G2 → DpAll K G2 ws2 ((flS (flN n) d (a + (ws.length : Int)) af).map rowD) →
            ∃ (ws' : List V) (o4 o5 o6 o7 : Option V), [some (.ref ta), some (.int a), some (.int b), some (.ref R), some (.int (j : Nat)), some v, some (.int (a + (ws.length : Int))), some (.int af)] = [some (.ref ta), some (.int a), some (.int b), some (.ref R), o4, o5, o6, o7] ∧ Same H (upd G2 R (.lst (ws ++ ws2))) ∧ (upd G2 R (.lst (ws ++ ws2))) R = some (.lst ws') ∧ DpAll K (upd G2 R (.lst (ws ++ ws2))) ws' ((flP (flS (flN n)) (manyS (manyN n)) ds a b (j + 1)).map rowD) := fun G1 af s1 eaf ws2 G2 s2 d2 => by
          have sA := nT.trans (s1.trans s2)
          refine ⟨ws ++ ws2, _, _, _, _, rfl, same_upd2 (sG.trans sA) fR, upd_same, ?_⟩
          rw [flP_succ hd, List.map_append, ← eaf, ← lP, show ((flP (flS (flN n)) (manyS (manyN n)) ds a b j).length : Int) = (ws.length : Int) by rw [lP]; omega]
          exact dpAll_app (rows_upd (dps_same sA dR) (sA _ _ gR) (flP_tup (fun d hd n' b' => flS_tup (fb := flN n) (bl := lblk ss ts n) (fun x n' b hx => flN_tup (ss := ss) (ts := ts) n hx) (List.all_eq_true.mp hl2.2 d hd)) jl)) (rows_upd d2 (sA _ _ gR) (flS_tup (fb := flN n) (bl := lblk ss ts n) (fun x n' b hx => flN_tup (ss := ss) (ts := ts) n hx) hst))
        by_cases c : j + 1 < ds.length
        · refine ifT (by rw [decide_eq_true_eq]; omega) ⟨_, rfl, _, rfl, v, d, ss, ts, rfl, dp_same nT hdv, hst, fun G1 s1 => ⟨_, _, rfl, rfl, ?_⟩⟩
          refine ⟨_, _, _, _, R, v, _, _, ws, d, ss, ts, rfl, dp_same (nT.trans s1) hdv, hst, by omega, (nT.trans s1) _ _ gR, by omega, fun ws2 G2 s2 d2 => rest G1 _ s1 ?_ ws2 G2 s2 d2⟩
          rw [if_pos c, take_more hd, sumM_snoc]
          omega
        · refine ifF (by rw [decide_eq_false_iff_not]; omega) ⟨_, rfl, ?_⟩
          exact ⟨_, _, _, _, R, v, _, _, ws, d, ss, ts, rfl, dp_same nT hdv, hst, by omega, gR1, by omega, fun ws2 G2 s2 d2 => rest _ _ (Same.refl _) (by rw [if_neg c]) ws2 G2 s2 d2⟩
      · obtain ⟨ws, o4, o5, o6, o7, rfl, sG, gR, dR⟩ := h
        rw [lx] at dR
        exact ⟨_, rfl, q R ws G sG fR gR dR⟩
  | _ => cases hl
end
/-! check_net, flat -/
abbrev rTupOf (K : PySem.W.Frag) : List V → Hp → VK → Prop := fun xs H Q => ∃ p ys, xs = [.ref p] ∧ ((SqL K H p ys ∧ ∀ l, H l = none → Q (.ref l) (upd H l (.tup ys))) ∨ (SqT K H p ys ∧ Q (.ref p) H))
theorem acts_at {chs : List (Int × Int)} {as : List PyData} {i : Nat} {d : PyData} (h : actsB chs 0 as = true) (hi : as[i]? = some d) : lblk (sideL Prod.fst chs (i : Int)) (sideL Prod.snd chs (i : Int)) 4 d = true ∧ manyN 4 d ≤ 40 := by
  have s : (blkD (sideL Prod.fst chs (i : Int)) (sideL Prod.snd chs (i : Int)) 4 d).isSome = true := by
    cases e : blkD (sideL Prod.fst chs (i : Int)) (sideL Prod.snd chs (i : Int)) 4 d with
    | some t => rfl
    | none =>
      have := acts_no (chs := chs) (me := 0) hi (by rw [show (0 : Int) + (i : Nat) = (i : Int) by omega]; exact e)
      rw [h] at this
      cases this
  rw [blk_some] at s
  have s := and3 s
  exact ⟨s.1, of_decide_eq_true s.2⟩
structure NetG (cs as : List PyData) : Prop where
  l6 : cs.length ≤ 6
  l1 : 1 ≤ as.length
  l4 : as.length ≤ 4
  ch : cs = (cs.map pairD).map mkCh
  act : ∀ (i : Nat) d, as[i]? = some d → lblk (sideL Prod.fst (cs.map pairD) (i : Int)) (sideL Prod.snd (cs.map pairD) (i : Int)) 4 d = true ∧ manyN 4 d ≤ 40
theorem netB_G {cs as : List PyData} (h : netB cs as = true) : NetG cs as := by
  have h := and3 (show ((decide (cs.length ≤ 6) && (decide (1 ≤ as.length) && decide (as.length ≤ 4))) && (cs.all (chanD as.length) && actsB (cs.map pairD) 0 as)) = true from h)
  have h1 := and3 h.1
  have h2 := and3 h.2
  exact ⟨of_decide_eq_true h1.1, of_decide_eq_true (and3 h1.2).1, of_decide_eq_true (and3 h1.2).2, chans_of h2.1, fun i d hi => acts_at h2.2 hi⟩
abbrev codeR (as : List PyData) : List (List (PyData × List Int)) := as.map fun d => flN 4 d 0 (-1)
def codeD (rss : List (List (PyData × List Int))) : PyData := .tuple (rss.map rowsD)
section
open PySem.Spec PyProof.Rows LamX
variable {P : Program} {w : World} {K : PySem.W.Frag} {mg : Str → Option Value} {base : Heap} {f : Addr} {fd : FuncData}
theorem all_fb {k : Nat} {fs fi fw : Addr} {fds fdi fdw : FuncData} (F : Fun K "flat_block" "flat_block" sFlatBl f fd) (FS : Fun K "flat_statement" "flat_statement" sFlatSt fs fds) (FI : Fun K "flat_if" "flat_if" sFlatIf fi fdi) (FW : Fun K "flat_while" "flat_while" sFlatWh fw fdw)
    (hm : mg "flat_block" = some (.ref f)) (hms : mg "flat_statement" = some (.ref fs)) (hmi : mg "flat_if" = some (.ref fi)) (hmw : mg "flat_while" = some (.ref fw)) (hb : Binds K fd PFB []) (hbs : Binds K fds PFS []) (hbi : Binds K fdi PFS []) (hbw : Binds K fdw PFS [])
    (T : Free mg) (hE : mg "enumerate" = none) (cS : ∀ n, n ≤ 3 → Cal P w K mg base "size_of" k ["statement"] (spSizeOf K n)) (cH : Cal P w K mg base "hands_on" k ["deed"] (spHands K)) :
    ∀ n, n ≤ 4 → FnOk P w K mg base CX0 (k + 3 * n) f fd PFB (spFB K n)
  | 0, _ => ⟨(fun vs H Q E h => by obtain ⟨x, d, ss, ts, a, b, _, _, h, _⟩ := h; cases d <;> cases h), (fun A outer s H args us vs Q E hr he hb hv h => by obtain ⟨x, d, ss, ts, a, b, _, _, h, _⟩ := h; cases d <;> cases h)⟩
  | n + 1, hn => by
    have ih := all_fb F FS FI FW hm hms hmi hmw hb hbs hbi hbw T hE cS cH n (by omega)
    have cB : Cal P w K mg base "flat_block" (k + 3 * n) PFB (spFB K n) := ⟨f, fd, ih, hm, F.kp, hb⟩
    have cI : Cal P w K mg base "flat_if" (k + 3 * n + 1) PFS (spFI K n) := ⟨fi, fdi, ok_flatIf FI T cB, hmi, FI.kp, hbi⟩
    have cW : Cal P w K mg base "flat_while" (k + 3 * n + 1) PFS (spFW K n) := ⟨fw, fdw, ok_flatWh FW cB, hmw, FW.kp, hbw⟩
    have cF : Cal P w K mg base "flat_statement" (k + 3 * n + 2) PFS (spFS K n) := ⟨fs, fds, ok_flatSt FS cI cW (cH.mono (by omega)), hms, FS.kp, hbs⟩
    exact (ok_flatBl (k := k + 3 * n + 2) F T hE ((cS n (by omega)).mono (by omega)) cF).mono (by omega)
def spCheckNet (K : PySem.W.Frag) (PT : List Addr) : Sp := fun vs H Q _ => ∃ (x : V) (d : PyData), vs = [x] ∧ Dp K H x d ∧ netD d = true ∧ TabsG PT H ∧ ∀ H', ExtN H H' → TabsG PT H' → Q .non H'
theorem scCheckNet : FnScope ["net"] ["net"] (defScope sCheckNet) := ⟨rfl, rfl, rfl, by decide +kernel, rfl, by decide +kernel, by decide +kernel⟩
theorem ok_checkNet {k : Nat} {PT : List Addr} (F : Fun K "check_net" "check_net" sCheckNet f fd) (cI : Cal P w K mg base "is_net" k ["thing"] (spIsNet K PT)) : FnOk P w K mg base CX0 (k + 1) f fd ["net"] (spCheckNet K PT) := by
  refine F.ok scCheckNet (fun vs H Q E h => ?_) (fun cdv A outer s H vs Q E hr h => ?_)
  · obtain ⟨x, d, rfl, _⟩ := h
    rfl
  obtain ⟨x, d, rfl, hx, hd, tb, q⟩ := h
  have bk : BkOk d := by
    obtain ⟨_, _, _, _, _, b, _⟩ := net_bd hd
    unfold BkOk
    omega
  refine ⟨_, pss_one (ps_if (pt_not (pt_val (pe_cal cI hr rfl (pa_cons (pv 0) pa_nil)))) pss_never pss_nil), ?_⟩
  exact ⟨_, rfl, x, d, rfl, hx, bk, tb, fun H' e t => ⟨_, rfl, ifF (by rw [hd]; rfl) (q H' e t)⟩⟩
def spFlat (K : PySem.W.Frag) (PT : List Addr) : Sp := fun vs H Q _ => ∃ (x : V) (cs as : List PyData), vs = [x] ∧ Dp K H x (.tuple [.tuple cs, .tuple as]) ∧ netB cs as = true ∧ TabsG PT H ∧ ∀ v H', ExtN H H' → TabsG PT H' → Dp K H' v (codeD (codeR as)) → Q v H'
theorem scFlat : FnScope ["net", "block"] ["net"] (defScope sFlat) := ⟨rfl, rfl, rfl, by decide +kernel, rfl, by decide +kernel, by decide +kernel⟩
theorem ok_flat {k : Nat} {c Pc : Addr} {PT : List Addr} (F : Fun K "flat" "flat" sFlat f fd) (hc : fd.code = .ref c) (TB : LamX.TabB base mg c Pc) (hPT : Pc ∈ PT) (T : Free mg) (C : Cst mg) (cN : Cal P w K mg base "check_net" k ["net"] (spCheckNet K PT)) (cB : Cal P w K mg base "flat_block" k PFB (spFB K 4)) :
    FnOk P w K mg base CX0 (k + 2) f fd ["net"] (spFlat K PT) := by
  refine okC F hc scFlat (fun vs H Q E h => ?_) (fun A outer s H vs Q E hr h => ?_)
  · obtain ⟨x, cs, as, rfl, _⟩ := h
    rfl
  obtain ⟨x, cs, as, rfl, hx, hn, tb, q⟩ := h
  have cN' := cN.mono (Nat.le_succ k)
  refine ⟨_, pss_cons (ps_expr (pe_cal cN' hr rfl (pa_cons (pv 0) pa_nil)))
    (pss_one (ps_ret (pe_tupG (k := k) (own := [("block", 1)]) (wi := iTup K (tOp (rIxT K) (tVar 0) (tC (.int 1)))) (g := gName 1) (tt := tYes) (te := tCB (rTupOf K) (tCons (tCall (spFB K 4) [] E0 (tCons (tVar 1) (tCons (tC (.int 0)) (tCons (tC (.int (-1))) tNil)))) tNil)) scFlat.nd hr rfl T.tuple (by decide +kernel) TB rfl
      (blkOk_by (own := [("block", 1)]) (N := ["net", "block"]) (sc := defScope sFlat) (by decide +kernel)) (by decide +kernel) rfl rfl (pi_tup (pe_ix ix_tup (pv 0) pe_int (fun _ _ => rfl)))
      (fun _ _ _ _ _ _ _ _ _ _ => pg_name (i := 1) scFlat.nd rfl (Or.inl rfl)) (fun _ _ _ _ _ _ _ _ _ _ => pts_nil)
      (fun _ _ _ _ _ _ _ _ _ hr' => pe_callTy call_tuple_of rfl T.tuple (by decide +kernel) (pa_cons (pe_cal cB hr' rfl (pa_cons (pv 1) (pa_cons pe_int (pa_cons (pe_globI rfl C.fin) pa_nil)))) pa_nil)) (fun _ => rfl)))), ?_⟩
  have G := netB_G hn
  refine ⟨_, rfl, x, _, rfl, hx, hn, tb, fun H1 e1 t1 => ?_⟩
  have hx1 := dp_ext e1 _ _ hx
  cases hx1 with
  | @tup na nvs _ nat neach =>
  cases neach with
  | @cons cv _ _ _ c1 r1 =>
  cases r1 with
  | @cons av _ _ _ a1 r2 =>
  cases r2
  cases a1 with
  | @tup aa avs _ aat aeach =>
  have la := dpAll_len aeach
  refine ⟨_, rfl, na, _, 1, _, rfl, rfl, nat, atI_at (by decide) rfl, aa, rfl, ⟨_, aat⟩, t1 Pc hPT, fun H2 b2 D hD => ?_⟩
  have e2 := tabbed_ext (t1 Pc hPT) b2
  have t2 := t1.tabbed b2
  have hHD : ∀ u, H2 D = some u → ∃ ps, u = .tbl ps := fun u hu => by rw [hD] at hu; cases hu
  refine lc_tup (K := K) (a := aa) (xs := avs) (fun j G' => ExtN H2 G' ∧ TabsG PT G' ∧ ∃ ws : List V, G' D = some (.lst ws) ∧ ws.length = j ∧ DpAll K G' ws (((as.take j).map fun d => flN 4 d 0 (-1)).map rowsD)) ⟨ext_same (same_new hD _), t2.same (same_new hD _), [], upd_same, rfl, .nil⟩ (fun j G' _ h => sqT_ext (e2.trans h.1) aat) (fun j v G' hv h => ?_) (fun G' h => ?_)
  · obtain ⟨eG, tG, ws, gD, lw, dw⟩ := h
    obtain ⟨d, hd, hdv⟩ := dpAll_get' (dp_exts (e2.trans eG) _ _ aeach) hv
    obtain ⟨hb1, hb2⟩ := G.act j d hd
    refine ⟨rfl, yesG ⟨_, rfl, v, d, _, _, 0, -1, rfl, hdv, hb1, hb2, fun R rws G1 s1 fR gR dR => ⟨R, rws, rfl, .inl ⟨SqL.of gR, fun p fp => ?_⟩⟩⟩⟩
    have np := same_new fp (.tup rws)
    have sp := s1.trans np
    have gD1 := sp _ _ gD
    have tp : tupOnlyAll (((as.take (j + 1)).map fun d => flN 4 d 0 (-1)).map rowsD) = true := tup_all fun z hz => by
      obtain ⟨rs, hrs, rfl⟩ := List.mem_map.mp hz
      obtain ⟨d', hd', rfl⟩ := List.mem_map.mp hrs
      obtain ⟨i, hi⟩ := List.getElem?_of_mem (List.mem_of_mem_take hd')
      exact rows_tup (flN_tup 4 (G.act i d' hi).1)
    refine ⟨ws, gD1, Nat.lt_of_lt_of_le (show _ < 1000 by have := (List.getElem?_eq_some_iff.mp hv).1; have := G.l4; omega) (small (Nat.le_refl _)), ext_upd (eG.trans (ext_same sp)) hHD, tabsG_upd (tG.same sp) gD1, ws ++ [.ref p], upd_same, by rw [List.length_append, lw]; rfl, ?_⟩
    refine dpAll_kt (kt_updL gD1) _ _ tp ?_
    rw [take_more hd, List.map_append, List.map_append]
    exact dpAll_app (dps_same sp dw) (.cons (.tup (SqT.of upd_same) (dps_same np dR)) .nil)
  · obtain ⟨eG, tG, ws, gD, lw, dw⟩ := h
    rw [la, List.take_length] at dw
    exact ⟨_, gD, fun p hp => q _ _ (e1.trans (e2.trans (eG.trans (ext_same (same_new hp _))))) (tG.same (same_new hp _)) (.tup (SqT.of upd_same) (dps_same (same_new hp _) dw))⟩
end
/-! is_code, is_own -/
theorem gx_enumT {K : PySem.W.Frag} {a : Addr} {xs : List V} {g : TG} {tt : TT} {te : TE} {vs : List Nat} {σ0 : L2.St} {e : Bool} {Qe Qn : Hp → Prop} {H : Hp} (Pv : Nat → Hp → Prop) (h0 : Pv 0 H) (hl : ∀ i H, i ≤ xs.length → Pv i H → SqT K H a xs)
    (hs : ∀ i x T H, xs[i]? = some x → Pv i H → H T = none → g (.ref T) σ0 (upd H T (.tup [.int (i : Nat), x])) fun σ2 H2 => wipe σ2 vs = σ0 ∧ tt σ2 H2 fun b H3 => if b = true then te σ2 H3 fun y H4 => ∃ c, y = .bl c ∧ (c = e → Pv (i + 1) H4) ∧ (c ≠ e → Qn H4) else Pv (i + 1) H3) (hd : ∀ H, Pv xs.length H → Qe H) :
    ∃ W : Nat → Nat → Hp → Prop, (∃ m, W 0 m H) ∧ gxTurn (Ienum K a) g tt te vs σ0 e Qe Qn W := by
  refine ⟨fun i m H => m = xs.length - i ∧ i ≤ xs.length ∧ Pv i H, ⟨xs.length, by simp, Nat.zero_le _, h0⟩, ?_⟩
  rintro i m H ⟨rfl, hi, p⟩
  have q := hl i H hi p
  by_cases hlt : i < xs.length
  · have hx := List.getElem?_eq_getElem hlt
    refine .inr ⟨⟨xs, _, q, hx⟩, Pv (i + 1), fun H' p' => ⟨xs.length - (i + 1), by omega, rfl, hlt, p'⟩, fun v H' y => ?_⟩
    obtain ⟨T, x, rfl, hT, rfl, y⟩ := y
    exact hs i x T H (y xs q) p hT
  · have e : i = xs.length := by omega
    exact .inl ⟨⟨xs, q, e.symm⟩, hd H (by rw [← e]; exact p)⟩
structure CodeF (cs as : List PyData) (rss : List (List (PyData × List Int))) : Prop where
  len : rss.length = as.length
  each : ∀ (i : Nat) rs, rss[i]? = some rs → rs.length ≤ 40 ∧ ∀ r ∈ rs, RowF (sideL Prod.fst (cs.map pairD) (i : Int)) (sideL Prod.snd (cs.map pairD) (i : Int)) rs.length r
theorem codeR_F {cs as : List PyData} (G : NetG cs as) : CodeF cs as (codeR as) := by
  refine ⟨by unfold codeR; rw [List.length_map], fun i rs hi => ?_⟩
  unfold codeR at hi
  rw [List.getElem?_map] at hi
  obtain ⟨d, hd, rfl⟩ := Option.map_eq_some_iff.mp hi
  obtain ⟨h1, h2⟩ := G.act i d hd
  have l := flN_len (n := 0) (b := -1) 4 h1
  have l100 : (cs.map pairD).length ≤ 100 := by
    have := G.l6
    rw [List.length_map]
    omega
  exact ⟨by omega, flN_ok (side_nn l100) (side_nn l100) 4 h1 (Int.le_refl _) (Int.le_refl _) (by omega) (by omega)⟩
/-- its last part, where it has one, is "copy" -/
def CpRow (r : PyData × List Int) : Prop := ∃ z ds, r.1 = .tuple (.str z :: ds) ∧ (z ∈ handL → ∃ es, ds = es ++ [.str "copy"])
theorem cp_row {z : Str} {ds : List PyData} {ns : List Int} : CpRow (cpD (.tuple (.str z :: ds)), ns) := by
  by_cases c : z ∈ handL
  · exact ⟨z, ds ++ [.str "copy"], (show (if z ∈ handL then _ else _) = _ from if_pos c), fun _ => ⟨ds, rfl⟩⟩
  · exact ⟨z, ds, (show (if z ∈ handL then _ else _) = _ from if_neg c), fun h => absurd h c⟩
theorem tst_row {nm : PyData} {ns : List Int} : CpRow (tstD nm, ns) := ⟨"test", [nm], rfl, fun h => absurd h (by decide +kernel)⟩
theorem flS_cp {ss ts : List Int} {fb : PyData → Int → Int → List (PyData × List Int)} {bl : PyData → Bool} (hf : ∀ (x : PyData) (n b : Int), bl x = true → ∀ r ∈ fb x n b, CpRow r) {d : PyData} {n b : Int} (h : lstB ss ts bl d = true) : ∀ r ∈ flS fb d n b, CpRow r := by
  intro r hr
  rcases st_cases h with ⟨hd, nb, z, ds, rfl, hz⟩ | ⟨nm, x, y, rfl, hn, hx, hy, hb⟩ | ⟨nm, x, rfl, hn, hx, hb⟩
  · rw [flS_deed hz] at hr
    rw [List.mem_singleton.mp hr]
    exact cp_row
  · rw [flS_if] at hr
    unfold ifR at hr
    rcases List.mem_cons.mp hr with rfl | hr
    · exact tst_row
    · rcases List.mem_append.mp hr with hr | hr
      · exact hf x _ _ hx r hr
      · exact hf y _ _ hy r hr
  · rw [flS_wh] at hr
    unfold whR at hr
    rcases List.mem_cons.mp hr with rfl | hr
    · exact tst_row
    · exact hf x _ _ hx r hr
theorem flN_cp {ss ts : List Int} : ∀ (k : Nat) {d : PyData} {n b : Int}, lblk ss ts k d = true → ∀ r ∈ flN k d n b, CpRow r
  | 0, d, n, b, h => by cases d <;> cases h
  | k + 1, d, n, b, h => by
    cases d with
    | tuple ds =>
      have hl := and3 (show (decide (ds.length ≤ 12) && ds.all (lstB ss ts (lblk ss ts k))) = true from h)
      intro r hr
      obtain ⟨i, hi, hr⟩ := List.mem_flatMap.mp (show r ∈ flP (flS (flN k)) (manyS (manyN k)) ds n b ds.length from hr)
      have hi := List.mem_range.mp hi
      rw [List.getD_eq_getElem?_getD, List.getElem?_eq_getElem hi] at hr
      exact flS_cp (fb := flN k) (bl := lblk ss ts k) (fun x n b hx => flN_cp (ss := ss) (ts := ts) k hx) (List.all_eq_true.mp hl.2 _ (List.getElem_mem hi)) r hr
    | _ => cases h
theorem lay_all : ∀ {ds : List PyData}, (∀ d ∈ ds, d.canLay0 = true) → PyData.canLayAll0 ds = true
  | [], _ => by simp only [PyData.canLayAll0]
  | d :: ds, h => by
    simp only [PyData.canLayAll0]
    rw [h d List.mem_cons_self, lay_all fun z hz => h z (List.mem_cons_of_mem _ hz)]
    rfl
theorem tupAll_mem {d : PyData} : ∀ {ds : List PyData}, tupOnlyAll ds = true → d ∈ ds → tupOnly d = true
  | e :: ds, h, hm => by
    have h := and3 (show (tupOnly e && tupOnlyAll ds) = true from h)
    rcases List.mem_cons.mp hm with rfl | hm
    · exact h.1
    · exact tupAll_mem h.2 hm
theorem str_ok {x : Str} (h : ∀ z ∈ x.cps.toList, z < 128) : PyData.strOk x = true := by
  unfold PyData.strOk
  rw [Array.all_eq_true_iff_forall_mem]
  intro z hz
  have := h z (Array.mem_toList_iff.mpr hz)
  exact decide_eq_true (by omega)
theorem lay_bd {c wd : Nat} {d : PyData} (b : Bd c wd d) : tupOnly d = true → d.canLay0 = true := by
  induction b with
  | non => intro h; cases h
  | bl => intro h; cases h
  | int _ => intro _; simp [PyData.canLay0]
  | str h =>
    intro _
    simp only [PyData.canLay0]
    exact str_ok h
  | lst _ _ _ => intro h; cases h
  | tup _ _ ih =>
    intro h
    simp only [PyData.canLay0]
    exact lay_all fun z hz => ih z hz (tupAll_mem h hz)
  | dct _ _ => intro h; cases h
theorem codeF_bd {cs as : List PyData} {rss : List (List (PyData × List Int))} (G : NetG cs as) (F : CodeF cs as rss) : tupOnly (codeD rss) = true ∧ Bd 10000 40 (codeD rss) ∧ (codeD rss).bulk ≤ 10000 ∧ (codeD rss).depth ≤ 4 := by
  have l100 : (cs.map pairD).length ≤ 100 := by
    have := G.l6
    rw [List.length_map]
    omega
  have l4 := F.len
  have g4 := G.l4
  have e : ∀ d ∈ rss.map rowsD, tupOnly d = true ∧ Bd 10000 40 d ∧ d.bulk ≤ 2440 ∧ d.depth ≤ 3 := fun d hd => by
    obtain ⟨rs, hrs, rfl⟩ := List.mem_map.mp hd
    obtain ⟨i, hi⟩ := List.getElem?_of_mem hrs
    obtain ⟨l40, hr⟩ := F.each i rs hi
    have e : ∀ d ∈ rs.map rowD, tupOnly d = true ∧ Bd 10000 40 d ∧ d.bulk ≤ 60 ∧ d.depth ≤ 2 := fun d hd => by
      obtain ⟨r, hm, rfl⟩ := List.mem_map.mp hd
      exact (hr r hm).rowBd (side_nn l100) (side_nn l100) (by omega)
    have hb := bulk_each (k := 60) fun d hd => (e d hd).2.2.1
    rw [List.length_map] at hb
    refine ⟨tup_all fun d hd => (e d hd).1, .tup (by rw [List.length_map]; exact l40) fun d hd => (e d hd).2.1, ?_, ?_⟩
    · show (PyData.tuple (rs.map rowD)).bulk ≤ _
      rw [bulk_tup]
      have : 61 * rs.length ≤ 61 * 40 := Nat.mul_le_mul_left _ l40
      omega
    · show (PyData.tuple (rs.map rowD)).depth ≤ _
      rw [depth_tup]
      have := dAll_le (k := 2) fun d hd => (e d hd).2.2.2
      omega
  have hb := bulk_each (k := 2440) fun d hd => (e d hd).2.2.1
  rw [List.length_map] at hb
  refine ⟨tup_all fun d hd => (e d hd).1, .tup (by rw [List.length_map]; omega) fun d hd => (e d hd).2.1, ?_, ?_⟩
  · show (PyData.tuple (rss.map rowsD)).bulk ≤ _
    rw [bulk_tup]
    have : 2441 * rss.length ≤ 2441 * 4 := Nat.mul_le_mul_left _ (by omega)
    omega
  · show (PyData.tuple (rss.map rowsD)).depth ≤ _
    rw [depth_tup]
    have := dAll_le (k := 3) fun d hd => (e d hd).2.2.2
    omega
section
open PySem.Spec PyProof.Rows LamX
variable {P : Program} {w : World} {K : PySem.W.Frag} {mg : Str → Option Value} {base : Heap} {f : Addr} {fd : FuncData}
def spIsCode (K : PySem.W.Frag) (PT : List Addr) : Sp := fun vs H Q _ => ∃ (x y : V) (cs as : List PyData) (rss : List (List (PyData × List Int))), vs = [x, y] ∧ Dp K H x (.tuple [.tuple cs, .tuple as]) ∧ netB cs as = true ∧ Dp K H y (codeD rss) ∧ CodeF cs as rss ∧ TabsG PT H ∧ ∀ H', ExtN H H' → TabsG PT H' → Q (.bl true) H'
abbrev NIsCode : List Str := ["net", "thing", "channels", "actors", "actor", "rows"]
theorem scIsCode : FnScope NIsCode ["net", "thing"] (defScope sIsCode) := ⟨rfl, rfl, rfl, by decide +kernel, rfl, by decide +kernel, by decide +kernel⟩
theorem ok_isCode {k : Nat} {c Pc : Addr} {PT : List Addr} (F : Fun K "is_code" "is_code" sIsCode f fd) (hc : fd.code = .ref c) (TB : LamX.TabB base mg c Pc) (hPT : Pc ∈ PT) (T : Free mg) (hA : mg "all" = none) (hE : mg "enumerate" = none) (cN : Cal P w K mg base "check_net" k ["net"] (spCheckNet K PT)) (cT : Cal P w K mg base "is_tuple" k ["thing", "least", "most"] (spTuple K))
    (cS : Cal P w K mg base "sends_of" k ["channels", "actor"] (spSide K PT Prod.fst)) (cTk : Cal P w K mg base "takes_of" k ["channels", "actor"] (spSide K PT Prod.snd)) (cA : Cal P w K mg base "are_rows" k ["thing", "sends", "takes"] (spAreRows K PT)) : FnOk P w K mg base CX0 (k + 2) f fd ["net", "thing"] (spIsCode K PT) := by
  refine okC F hc scIsCode (fun vs H Q E h => ?_) (fun A outer s H vs Q E hr h => ?_)
  · obtain ⟨x, y, cs, as, rss, rfl, _⟩ := h
    rfl
  obtain ⟨x, y, cs, as, rss, rfl, hx, hn, hy, hF, tb, q⟩ := h
  have cN' := cN.mono (Nat.le_succ k)
  have cT' := cT.mono (Nat.le_succ k)
  refine ⟨_, pss_cons (ps_expr (pe_cal cN' hr rfl (pa_cons (pv 0) pa_nil)))
    (pss_cons (ps_asg (pv 0) (pg_tup rfl (pgs_cons (pg_name (i := 2) scIsCode.nd rfl (.inr rfl)) (pgs_cons (pg_name (i := 3) scIsCode.nd rfl (.inl rfl)) pgs_nil))))
    (pss_cons (ps_if (pt_not (pt_val (pe_cal cT' hr rfl (pa_cons (pv 1) (pa_cons (pe_callB call_len_seq rfl T.len PySem.boot_len (pa_cons (pv 3) pa_nil)) (pa_cons (pe_callB call_len_seq rfl T.len PySem.boot_len (pa_cons (pv 3) pa_nil)) pa_nil)))))) (pss_one (ps_ret pe_bl)) pss_nil)
    (pss_one (ps_ret (pe_allG (own := [("actor", 4), ("rows", 5)]) (wi := iEnumT K (tCons (tVar 1) tNil)) (g := gTup K 2 (gCons (gName 4) (gCons (gName 5) gNil))) (tt := tYes) (te := tCall (spAreRows K PT) [] E0 (tCons (tVar 5) (tCons (tCall (spSide K PT Prod.fst) [] E0 (tCons (tVar 2) (tCons (tVar 4) tNil))) (tCons (tCall (spSide K PT Prod.snd) [] E0 (tCons (tVar 2) (tCons (tVar 4) tNil))) tNil)))) scIsCode.nd hr rfl hA (by decide +kernel) TB rfl
      (blkOk_by (own := [("actor", 4), ("rows", 5)]) (N := NIsCode) (sc := defScope sIsCode) (by decide +kernel)) (by decide +kernel) rfl rfl (pi_enumT rfl hE (pa_cons (pv 1) pa_nil))
      (fun _ _ _ _ _ _ _ _ _ _ => pg_tup rfl (pgs_cons (pg_name (i := 4) scIsCode.nd rfl (Or.inl rfl)) (pgs_cons (pg_name (i := 5) scIsCode.nd rfl (Or.inl rfl)) pgs_nil))) (fun _ _ _ _ _ _ _ _ _ _ => pts_nil)
      (fun _ _ _ _ _ _ _ _ _ hr' => pe_cal cA hr' rfl (pa_cons (pv 5) (pa_cons (pe_cal cS hr' rfl (pa_cons (pv 2) (pa_cons (pv 4) pa_nil))) (pa_cons (pe_cal cTk hr' rfl (pa_cons (pv 2) (pa_cons (pv 4) pa_nil))) pa_nil)))) (fun _ => rfl)))))), ?_⟩
  have G := netB_G hn
  refine ⟨_, rfl, x, _, rfl, hx, hn, tb, fun H1 e1 t1 => ?_⟩
  have hx1 := dp_ext e1 _ _ hx
  have hy1 := dp_ext e1 _ _ hy
  cases hx1 with
  | @tup na nvs _ nat neach =>
  cases neach with
  | @cons cv _ _ _ c1 r1 =>
  cases r1 with
  | @cons av _ _ _ a1 r2 =>
  cases r2
  have a1' := a1
  cases a1 with
  | @tup aa avs _ aat aeach =>
  have la := dpAll_len aeach
  refine ⟨_, rfl, na, _, rfl, nat, rfl, _, _, rfl, _, _, rfl, rfl, ?_⟩
  refine ⟨_, rfl, _, rfl, aa, avs, rfl, .inr aat, _, rfl, aa, avs, rfl, .inr aat, y, _, _, _, rfl, hy1, _, rfl, ?_⟩
  have tt : tupD (avs.length : Int) (avs.length : Int) (codeD rss) = true := by
    show (decide ((avs.length : Int) ≤ ((rss.map rowsD).length : Int)) && decide (((rss.map rowsD).length : Int) ≤ (avs.length : Int))) = true
    have := hF.len
    rw [List.length_map, decide_eq_true (show (avs.length : Int) ≤ (rss.length : Int) by omega), decide_eq_true (show (rss.length : Int) ≤ (avs.length : Int) by omega)]
    rfl
  refine ifF (by rw [tt]; rfl) ?_
  cases hy1 with
  | @tup ya yvs _ yat yeach =>
  have chs : Dp K H1 cv (.tuple ((cs.map pairD).map mkCh)) := by
    rw [← G.ch]
    exact c1
  have l100 : (cs.map pairD).length ≤ 100 := by
    have := G.l6
    rw [List.length_map]
    omega
  refine ⟨_, rfl, ya, yvs, rfl, yat, t1 Pc hPT, fun H2 b2 => ?_⟩
  have e2 := tabbed_ext (t1 Pc hPT) b2
  refine gx_enumT (xs := yvs) (fun i H' => ExtN H1 H' ∧ TabsG PT H') ⟨e2, t1.tabbed b2⟩ (fun i H' _ h => sqT_ext h.1 yat) (fun i v T0 H' hv h hT => ?_) (fun H' h => q H' (e1.trans h.1) h.2)
  obtain ⟨e3, t3⟩ := h
  have nT := same_new hT (.tup [.int (i : Nat), v])
  have e3' := e3.trans (ext_same nT)
  obtain ⟨d, hd, hdv⟩ := dpAll_get' yeach hv
  rw [List.getElem?_map] at hd
  obtain ⟨rs, hrs, rfl⟩ := Option.map_eq_some_iff.mp hd
  obtain ⟨h40, hrf⟩ := hF.each i rs hrs
  refine ⟨T0, _, rfl, SqT.of upd_same, rfl, _, _, rfl, _, _, rfl, rfl, rfl, yesG ?_⟩
  refine ⟨_, rfl, _, rfl, _, rfl, cv, _, (i : Int), rfl, dp_ext e3' _ _ chs, l100, t3.same nT, fun p1 H4 e4 t4 g1 => ?_⟩
  refine ⟨_, rfl, _, rfl, cv, _, (i : Int), rfl, dp_ext (e3'.trans e4) _ _ chs, l100, t4, fun p2 H5 e5 t5 g2 => ?_⟩
  exact ⟨v, rs, p1, p2, _, _, rfl, dp_ext (e3'.trans (e4.trans e5)) _ _ hdv, h40, hrf, sqT_ext e5 g1, g2, t5, fun H6 e6 t6 => ⟨true, rfl, fun _ => ⟨e3'.trans (e4.trans (e5.trans e6)), t6⟩, fun c => absurd rfl c⟩⟩
theorem scCheckCode : FnScope ["net", "code"] ["net", "code"] (defScope sCheckCode) := ⟨rfl, rfl, rfl, by decide +kernel, rfl, by decide +kernel, by decide +kernel⟩
def spCheckCode (K : PySem.W.Frag) (PT : List Addr) : Sp := fun vs H Q _ => ∃ (x y : V) (cs as : List PyData) (rss : List (List (PyData × List Int))), vs = [x, y] ∧ Dp K H x (.tuple [.tuple cs, .tuple as]) ∧ netB cs as = true ∧ Dp K H y (codeD rss) ∧ CodeF cs as rss ∧ TabsG PT H ∧ ∀ H', ExtN H H' → TabsG PT H' → Q .non H'
theorem ok_checkCode {k : Nat} {PT : List Addr} (F : Fun K "check_code" "check_code" sCheckCode f fd) (cI : Cal P w K mg base "is_code" k ["net", "thing"] (spIsCode K PT)) : FnOk P w K mg base CX0 (k + 1) f fd ["net", "code"] (spCheckCode K PT) := by
  refine F.ok scCheckCode (fun vs H Q E h => ?_) (fun cdv A outer s H vs Q E hr h => ?_)
  · obtain ⟨x, y, cs, as, rss, rfl, _⟩ := h
    rfl
  obtain ⟨x, y, cs, as, rss, rfl, hx, hn, hy, hF, tb, q⟩ := h
  refine ⟨_, pss_one (ps_if (pt_not (pt_val (pe_cal cI hr rfl (pa_cons (pv 0) (pa_cons (pv 1) pa_nil))))) pss_never pss_nil), ?_⟩
  exact ⟨_, rfl, _, rfl, x, y, cs, as, rss, rfl, hx, hn, hy, hF, tb, fun H' e t => ⟨_, rfl, ifF rfl (q H' e t)⟩⟩
def spWithWay (K : PySem.W.Frag) : Sp := fun vs H Q _ => ∃ (x : V) (r : PyData × List Int), vs = [x, .str "copy"] ∧ Dp K H x (rowD r) ∧ CpRow r ∧ (∃ ds, r.1 = .tuple ds ∧ ds.length ≤ 100) ∧ ∀ v H', Same H H' → Dp K H' v (rowD r) → Q v H'
theorem scWithWay : FnScope ["row", "way", "deed", "nexts"] ["row", "way"] (defScope sWithWay) := ⟨rfl, rfl, rfl, by decide +kernel, rfl, by decide +kernel, by decide +kernel⟩
theorem ok_withWay {k : Nat} (F : Fun K "with_way" "with_way" sWithWay f fd) (cH : Cal P w K mg base "hands_on" k ["deed"] (spHands K)) : FnOk P w K mg base CX0 (k + 1) f fd ["row", "way"] (spWithWay K) := by
  refine F.ok scWithWay (fun vs H Q E h => ?_) (fun cdv A outer s H vs Q E hr h => ?_)
  · obtain ⟨x, r, rfl, _⟩ := h
    rfl
  obtain ⟨x, r, rfl, hx, ⟨z, ds, er, hcp⟩, ⟨ds', er', l100⟩, q⟩ := h
  rw [er] at er'
  cases er'
  refine ⟨_, pss_cons (ps_asg (pv 0) (pg_tup rfl (pgs_cons (pg_name (i := 2) scWithWay.nd rfl (.inl rfl)) (pgs_cons (pg_name (i := 3) scWithWay.nd rfl (.inl rfl)) pgs_nil))))
    (pss_one (ps_ret (pe_ifExp (pt_val (pe_cal cH hr rfl (pa_cons (pv 2) pa_nil))) (pe_tup (pa_cons (pe_op op_catA (pe_slice sl_tup (pv 2) po_none (po_some (pe_un un_neg pe_int))) (pe_tup (pa_cons (pv 1) pa_nil))) (pa_cons (pv 3) pa_nil))) (pv 0)))), ?_⟩
  have hx0 := hx
  obtain ⟨ra, y1, y2, rfl, rat, g1, g2⟩ := row_split (d := r.1) (ns := r.2) hx
  rw [er] at g1
  refine ⟨_, rfl, ra, _, rfl, rat, rfl, _, _, rfl, _, _, rfl, rfl, ?_⟩
  refine ⟨_, rfl, y1, z, ds, rfl, g1, _, rfl, ?_⟩
  by_cases c : z ∈ handL
  · obtain ⟨es, rfl⟩ := hcp c
    refine ifT (decide_eq_true c) ?_
    cases g1 with
    | @tup ta xs _ at_ each =>
      rw [show (PyData.str z :: (es ++ [.str "copy"])) = (.str z :: es) ++ [.str "copy"] from rfl] at each
      obtain ⟨us, u, rfl, hus, hu⟩ := dpAll_split each
      cases hu
      have lu := dpAll_len hus
      rw [show (PyData.str z :: (es ++ [.str "copy"])) = (.str z :: es) ++ [.str "copy"] from rfl, List.length_append] at l100
      have l100 : (PyData.str z :: es).length + 1 ≤ 100 := l100
      refine ⟨_, rfl, _, rfl, _, rfl, ta, _, rfl, at_, sl_last us _, fun p hp => ?_⟩
      have s0 := same_new hp (.tup (cutV (us ++ [.str "copy"]) none (some (-1))))
      rw [cut_last] at s0 ⊢
      refine ⟨_, rfl, small (by show 1 ≤ 1000; decide), fun p1 h1 => ?_⟩
      have s1 := same_new h1 (.tup [.str "copy"])
      have une : us ≠ [] := fun e => by rw [e] at lu; cases lu
      refine ⟨p, p1, us, _, rfl, rfl, SqT.of (s1 _ _ upd_same), SqT.of upd_same, small (by show us.length + 1 ≤ 1000; omega), fun e => absurd e une, fun _ e => (by cases e), fun _ _ p2 h2 => ?_⟩
      have s2 := same_new h2 (.tup (us ++ [.str "copy"]))
      refine ⟨_, rfl, small (by show 2 ≤ 1000; decide), fun p3 h3 => ?_⟩
      have s3 := same_new h3 (.tup [.ref p2, y2])
      have sA := s0.trans (s1.trans (s2.trans s3))
      refine q _ _ sA (.tup (SqT.of upd_same) (.cons ?_ (.cons (dp_same sA g2) .nil)))
      rw [er]
      exact .tup (SqT.of (s3 _ _ upd_same)) (dpAll_app (dps_same sA hus) (.cons (.str _) .nil))
  · exact ifF (decide_eq_false c) ⟨_, rfl, q _ H (Same.refl _) hx0⟩
end
/-! copying, is_own -/
section
open PySem.Spec PyProof.Rows LamX
variable {P : Program} {w : World} {K : PySem.W.Frag} {mg : Str → Option Value} {base : Heap} {f : Addr} {fd : FuncData}
structure CpRows (rs : List (PyData × List Int)) : Prop where
  len : rs.length ≤ 40
  each : ∀ r ∈ rs, CpRow r ∧ (∃ ds, r.1 = .tuple ds ∧ ds.length ≤ 100) ∧ tupOnly r.1 = true
def spCopying (K : PySem.W.Frag) (PT : List Addr) : Sp := fun vs H Q _ => ∃ (x : V) (rs : List (PyData × List Int)), vs = [x] ∧ Dp K H x (rowsD rs) ∧ CpRows rs ∧ TabsG PT H ∧ ∀ v H', ExtN H H' → TabsG PT H' → Dp K H' v (rowsD rs) → Q v H'
theorem scCopying : FnScope ["rows", "row"] ["rows"] (defScope sCopying) := ⟨rfl, rfl, rfl, by decide +kernel, rfl, by decide +kernel, by decide +kernel⟩
theorem ok_copying {k : Nat} {c Pc : Addr} {PT : List Addr} (F : Fun K "copying" "copying" sCopying f fd) (hc : fd.code = .ref c) (TB : LamX.TabB base mg c Pc) (hPT : Pc ∈ PT) (T : Free mg) (cW : Cal P w K mg base "with_way" k ["row", "way"] (spWithWay K)) : FnOk P w K mg base CX0 (k + 2) f fd ["rows"] (spCopying K PT) := by
  refine okC F hc scCopying (fun vs H Q E h => ?_) (fun A outer s H vs Q E hr h => ?_)
  · obtain ⟨x, rs, rfl, _⟩ := h
    rfl
  obtain ⟨x, rs, rfl, hx, cp, tb, q⟩ := h
  refine ⟨_, pss_one (ps_ret (pe_tupG (k := k) (own := [("row", 1)]) (wi := iTup K (tVar 0)) (g := gName 1) (tt := tYes) (te := tCall (spWithWay K) [] E0 (tCons (tVar 1) (tCons (tC (.str "copy")) tNil))) scCopying.nd hr rfl T.tuple (by decide +kernel) TB rfl
      (blkOk_by (own := [("row", 1)]) (N := ["rows", "row"]) (sc := defScope sCopying) (by decide +kernel)) (by decide +kernel) rfl rfl (pi_tup (pv 0))
      (fun _ _ _ _ _ _ _ _ _ _ => pg_name (i := 1) scCopying.nd rfl (Or.inl rfl)) (fun _ _ _ _ _ _ _ _ _ _ => pts_nil)
      (fun _ _ _ _ _ _ _ _ _ hr' => pe_cal cW hr' rfl (pa_cons (pv 1) (pa_cons pe_str pa_nil))) (fun _ => rfl))), ?_⟩
  cases hx with
  | @tup aa avs _ aat aeach =>
  have la := dpAll_len aeach
  rw [List.length_map] at la
  refine ⟨_, rfl, aa, rfl, ⟨_, aat⟩, tb Pc hPT, fun H2 b2 D hD => ?_⟩
  have e2 := tabbed_ext (tb Pc hPT) b2
  have t2 := tb.tabbed b2
  have hHD : ∀ u, H2 D = some u → ∃ ps, u = .tbl ps := fun u hu => by rw [hD] at hu; cases hu
  refine lc_tup (K := K) (a := aa) (xs := avs) (fun j G' => ExtN H2 G' ∧ TabsG PT G' ∧ ∃ ws : List V, G' D = some (.lst ws) ∧ ws.length = j ∧ DpAll K G' ws ((rs.take j).map rowD)) ⟨ext_same (same_new hD _), t2.same (same_new hD _), [], upd_same, rfl, .nil⟩ (fun j G' _ h => sqT_ext (e2.trans h.1) aat) (fun j v G' hv h => ?_) (fun G' h => ?_)
  · obtain ⟨eG, tG, ws, gD, lw, dw⟩ := h
    obtain ⟨d, hd, hdv⟩ := dpAll_get' (dp_exts (e2.trans eG) _ _ aeach) hv
    rw [List.getElem?_map] at hd
    obtain ⟨r, hr', rfl⟩ := Option.map_eq_some_iff.mp hd
    obtain ⟨h1, h2, h3⟩ := cp.each r (List.mem_of_getElem? hr')
    refine ⟨rfl, yesG ⟨_, rfl, v, r, rfl, hdv, h1, h2, fun y G1 s1 dy => ?_⟩⟩
    have gD1 := s1 _ _ gD
    have tp : ∀ z ∈ rs.take (j + 1), tupOnly z.1 = true := fun z hz => (cp.each z (List.mem_of_mem_take hz)).2.2
    have l40 := cp.len
    refine ⟨ws, gD1, Nat.lt_of_lt_of_le (show _ < 1000 by have := (List.getElem?_eq_some_iff.mp hv).1; omega) (small (Nat.le_refl _)), ext_upd (eG.trans (ext_same s1)) hHD, tabsG_upd (tG.same s1) gD1, ws ++ [y], upd_same, by rw [List.length_append, lw]; rfl, ?_⟩
    refine rows_upd ?_ gD1 tp
    rw [take_more hr', List.map_append]
    exact dpAll_app (dps_same s1 dw) (.cons dy .nil)
  · obtain ⟨eG, tG, ws, gD, lw, dw⟩ := h
    rw [la, List.take_length] at dw
    exact ⟨_, gD, fun p hp => q _ _ (e2.trans (eG.trans (ext_same (same_new hp _)))) (tG.same (same_new hp _)) (.tup (SqT.of upd_same) (dps_same (same_new hp _) dw))⟩
theorem codeR_cp {cs as : List PyData} (G : NetG cs as) : ∀ rs ∈ codeR as, CpRows rs := fun rs hrs => by
  obtain ⟨i, hi⟩ := List.getElem?_of_mem hrs
  have F := codeR_F G
  obtain ⟨l40, hr⟩ := F.each i rs hi
  have l100 : (cs.map pairD).length ≤ 100 := by
    have := G.l6
    rw [List.length_map]
    omega
  have cps : ∀ r ∈ rs, CpRow r := by
    unfold codeR at hi
    rw [List.getElem?_map] at hi
    obtain ⟨d, hd, rfl⟩ := Option.map_eq_some_iff.mp hi
    exact flN_cp 4 (G.act i d hd).1
  refine ⟨l40, fun r hm => ?_⟩
  obtain ⟨a1, a2, _⟩ := (hr r hm).deedBd (side_nn l100) (side_nn l100)
  obtain ⟨z, ds, e, h⟩ := cps r hm
  refine ⟨⟨z, ds, e, h⟩, ⟨_, e, ?_⟩, a1⟩
  rw [e] at a2
  cases a2 with
  | tup l _ => omega
def spIsOwn (K : PySem.W.Frag) (PT : List Addr) : Sp := fun vs H Q _ => ∃ (x y : V) (cs as : List PyData), vs = [x, y] ∧ Dp K H x (.tuple [.tuple cs, .tuple as]) ∧ netB cs as = true ∧ Dp K H y (codeD (codeR as)) ∧ TabsG PT H ∧ ∀ H', ExtN H H' → TabsG PT H' → Q (.bl true) H'
theorem scIsOwn : FnScope ["net", "code", "rows"] ["net", "code"] (defScope sIsOwn) := ⟨rfl, rfl, rfl, by decide +kernel, rfl, by decide +kernel, by decide +kernel⟩
theorem ok_isOwn {k : Nat} {c Pc : Addr} {PT : List Addr} (F : Fun K "is_own" "is_own" sIsOwn f fd) (hc : fd.code = .ref c) (TB : LamX.TabB base mg c Pc) (hPT : Pc ∈ PT) (T : Free mg) (cC : Cal P w K mg base "check_code" k ["net", "code"] (spCheckCode K PT)) (cW : Cal P w K mg base "copying" k ["rows"] (spCopying K PT)) (cF : Cal P w K mg base "flat" k ["net"] (spFlat K PT)) : FnOk P w K mg base CX0 (k + 2) f fd ["net", "code"] (spIsOwn K PT) := by
  refine okC F hc scIsOwn (fun vs H Q E h => ?_) (fun A outer s H vs Q E hr h => ?_)
  · obtain ⟨x, y, cs, as, rfl, _⟩ := h
    rfl
  obtain ⟨x, y, cs, as, rfl, hx, hn, hy, tb, q⟩ := h
  have cC' := cC.mono (Nat.le_succ k)
  have cF' := cF.mono (Nat.le_succ k)
  refine ⟨_, pss_cons (ps_expr (pe_cal cC' hr rfl (pa_cons (pv 0) (pa_cons (pv 1) pa_nil))))
    (pss_one (ps_ret (pe_cmpR (op_eqSh hr.units) (pe_tupG (k := k) (own := [("rows", 2)]) (wi := iTup K (tVar 1)) (g := gName 2) (tt := tYes) (te := tCall (spCopying K PT) [] E0 (tCons (tVar 2) tNil)) scIsOwn.nd hr rfl T.tuple (by decide +kernel) TB rfl
      (blkOk_by (own := [("rows", 2)]) (N := ["net", "code", "rows"]) (sc := defScope sIsOwn) (by decide +kernel)) (by decide +kernel) rfl rfl (pi_tup (pv 1))
      (fun _ _ _ _ _ _ _ _ _ _ => pg_name (i := 2) scIsOwn.nd rfl (Or.inl rfl)) (fun _ _ _ _ _ _ _ _ _ _ => pts_nil)
      (fun _ _ _ _ _ _ _ _ _ hr' => pe_cal cW hr' rfl (pa_cons (pv 2) pa_nil)) (fun _ => rfl)) (pe_cal cF' hr rfl (pa_cons (pv 0) pa_nil)) (nomark _)))), ?_⟩
  have G := netB_G hn
  have CF := codeR_F G
  refine ⟨_, rfl, _, rfl, x, y, cs, as, codeR as, rfl, hx, hn, hy, CF, tb, fun H1 e1 t1 => ?_⟩
  have hy1 := dp_ext e1 _ _ hy
  cases hy1 with
  | @tup aa avs _ aat aeach =>
  have la := dpAll_len aeach
  rw [List.length_map] at la
  have l4 := CF.len
  have g4 := G.l4
  refine ⟨_, rfl, aa, rfl, ⟨_, aat⟩, t1 Pc hPT, fun H2 b2 D hD => ?_⟩
  have e2 := tabbed_ext (t1 Pc hPT) b2
  have t2 := t1.tabbed b2
  have hHD : ∀ u, H2 D = some u → ∃ ps, u = .tbl ps := fun u hu => by rw [hD] at hu; cases hu
  refine lc_tup (K := K) (a := aa) (xs := avs) (fun j G' => ExtN H2 G' ∧ TabsG PT G' ∧ ∃ ws : List V, G' D = some (.lst ws) ∧ ws.length = j ∧ DpAll K G' ws (((codeR as).take j).map rowsD)) ⟨ext_same (same_new hD _), t2.same (same_new hD _), [], upd_same, rfl, .nil⟩ (fun j G' _ h => sqT_ext (e2.trans h.1) aat) (fun j v G' hv h => ?_) (fun G' h => ?_)
  · obtain ⟨eG, tG, ws, gD, lw, dw⟩ := h
    obtain ⟨d, hd, hdv⟩ := dpAll_get' (dp_exts (e2.trans eG) _ _ aeach) hv
    rw [List.getElem?_map] at hd
    obtain ⟨rs, hrs, rfl⟩ := Option.map_eq_some_iff.mp hd
    refine ⟨rfl, yesG ⟨_, rfl, v, rs, rfl, hdv, codeR_cp G rs (List.mem_of_getElem? hrs), tG, fun y G1 x1 u1 dy => ?_⟩⟩
    have gD1 := ext_lst x1 gD
    have tp : tupOnlyAll (((codeR as).take (j + 1)).map rowsD) = true := tup_all fun z hz => by
      obtain ⟨rs, hrs, rfl⟩ := List.mem_map.mp hz
      exact rows_tup fun r hr => ((codeR_cp G rs (List.mem_of_mem_take hrs)).each r hr).2.2
    refine ⟨ws, gD1, Nat.lt_of_lt_of_le (show _ < 1000 by have := (List.getElem?_eq_some_iff.mp hv).1; omega) (small (Nat.le_refl _)), ext_upd (eG.trans x1) hHD, tabsG_upd u1 gD1, ws ++ [y], upd_same, by rw [List.length_append, lw]; rfl, ?_⟩
    refine dpAll_kt (kt_updL gD1) _ _ tp ?_
    rw [take_more hrs, List.map_append]
    exact dpAll_app (dp_exts x1 _ _ dw) (.cons dy .nil)
  · obtain ⟨eG, tG, ws, gD, lw, dw⟩ := h
    rw [la, List.take_length] at dw
    refine ⟨_, gD, fun p hp => ?_⟩
    have np := same_new hp (.tup ws)
    have eA := e1.trans (e2.trans (eG.trans (ext_same np)))
    refine ⟨_, rfl, x, cs, as, rfl, dp_ext eA _ _ hx, hn, tG.same np, fun v H5 e5 t5 dv => ?_⟩
    obtain ⟨b1, b2', b3, b4⟩ := codeF_bd G CF
    have lay := lay_bd b2' b1
    have sh : SeqAt.shaped (codeD (codeR as)) = true := by
      show ((codeD (codeR as)).canLay0 && decide ((codeD (codeR as)).depth ≤ 64)) = true
      rw [lay, decide_eq_true (by omega)]
      rfl
    refine ⟨codeD (codeR as), codeD (codeR as), dp_ext e5 _ _ (.tup (SqT.of upd_same) (dps_same np dw)), dv, sh, sh, ?_⟩
    rw [SeqAt.eqv_refl _ lay]
    exact q H5 (eA.trans e5) t5
end
/-! _law_block -/
theorem lst_deed {ss ts : List Int} {bl : PyData → Bool} {d : PyData} (h : deedD ss ts d = true) : lstB ss ts bl d = true := by
  unfold lstB
  rw [h]
  rfl
theorem lst_branch {ss ts : List Int} {bl : PyData → Bool} {z x : Str} {args : List PyData} {m : Nat} (hz : brK z = some m) (hx : numNameD (.str x) = true) (hl : args.length = m) (ha : args.all bl = true) : lstB ss ts bl (.tuple (.str z :: .str x :: args)) = true := by
  unfold lstB
  have hb : branchD (.tuple (.str z :: .str x :: args)) = true := by
    show branchB z (.str x :: args) = true
    unfold branchB
    rw [hz]
    show (decide (args.length + 1 = m + 1) && numNameD (.str x)) = true
    rw [decide_eq_true (by omega), hx]
    rfl
  rw [hb]
  show (_ || (true && args.all bl)) = true
  rw [ha]
  exact Bool.or_true _
theorem cut12 (xs : List V) : cutV xs none (some 12) = xs.take 12 := by
  have e : HT.sIx xs.length xs.length (some 12) = min 12 xs.length := HT.sIx_nat xs.length xs.length 12
  show (xs.drop 0).take (HT.sIx xs.length xs.length (some 12) - 0) = xs.take 12
  rw [e, List.drop_zero, Nat.sub_zero]
  by_cases h : 12 ≤ xs.length
  · rw [show min 12 xs.length = 12 by omega]
  · rw [show min 12 xs.length = xs.length by omega, List.take_length, List.take_of_length_le (by omega)]
theorem dpAll_takeN {K : PySem.W.Frag} {H : Hp} : ∀ (n : Nat) {vs : List V} {ds : List PyData}, DpAll K H vs ds → DpAll K H (vs.take n) (ds.take n)
  | 0, _, _, _ => .nil
  | n + 1, _, _, .nil => .nil
  | n + 1, _, _, .cons a b => .cons a (dpAll_takeN n b)
def lnameL : List Str := ["a", "b", "count"]
theorem lnameL_ok : lnameL.all (fun z => numNameD (.str z)) = true := by decide +kernel
section
open PySem.Spec PyProof.Rows LamX
variable {P : Program} {w : World} {K : PySem.W.Frag} {mg : Str → Option Value} {base : Heap} {f : Addr} {fd : FuncData}
/-- n + 1 blocks may stand within one another from here on -/
def spBlock (K : PySem.W.Frag) (n : Nat) : Sp := fun vs H Q _ => ∃ (st sa ta : Addr) (ss ts : List Int) (dp most : Int), vs = [.ref st, .ref sa, .ref ta, .int dp, .int most] ∧ dp = 4 - (n : Int) ∧ 0 ≤ most ∧ most ≤ 8 ∧ StAt H st ∧ sa ≠ st ∧ ta ≠ st ∧ H sa = some (.lst (ss.map V.int)) ∧ H ta = some (.lst (ts.map V.int)) ∧ ss.length ≤ 100 ∧ ts.length ≤ 100 ∧ ∀ v ds H', Mv st H H' → Dp K H' v (.tuple ds) → lblk ss ts (n + 1) (.tuple ds) = true → (ds.length : Int) ≤ 3 * most → Q v H'
def spBlockS (K : PySem.W.Frag) (n : Nat) : Sp := fun vs H Q E => ∃ m, n = m + 1 ∧ spBlock K m vs H Q E
abbrev PBlock : List Str := ["_law_state_here", "_law_sends", "_law_takes", "_law_deep", "_law_most"]
abbrev NBlock : List Str := ["_law_state_here", "_law_sends", "_law_takes", "_law_deep", "_law_most", "_law_rows", "_law_turn", "_law_kind", "_law_inner", "_law_other", "_law_name"]
theorem scBlock : FnScope NBlock PBlock (defScope sBlock) := ⟨rfl, rfl, rfl, by decide +kernel, rfl, by decide +kernel, by decide +kernel⟩
/-- what stands of the rows -/
structure Bl (K : PySem.W.Frag) (ss ts : List Int) (n : Nat) (st R : Addr) (H G : Hp) (vs : List V) (ds : List PyData) : Prop where
  mv : Mv st H G
  at_ : G R = some (.lst vs)
  dp : DpAll K G vs ds
  ok : ds.all (lstB ss ts (lblk ss ts n)) = true
theorem Bl.move {ss ts : List Int} {n : Nat} {st R : Addr} {H G G' : Hp} {vs : List V} {ds : List PyData} (b : Bl K ss ts n st R H G vs ds) (nR : R ≠ st) (m : Mv st G G') : Bl K ss ts n st R H G' vs ds :=
  ⟨b.mv.trans m, m.kp _ _ nR b.at_, dpAll_kt (m.kp.kt b.mv.sa) _ _ (tup_all fun d hd => lst_tup (List.all_eq_true.mp b.ok d hd)) b.dp, b.ok⟩
theorem Bl.app {ss ts : List Int} {n : Nat} {st R : Addr} {H G : Hp} {vs : List V} {ds : List PyData} {v : V} {d : PyData} (b : Bl K ss ts n st R H G vs ds) (nR : R ≠ st) (hR : H R = none) (hv : Dp K G v d) (hd : lstB ss ts (lblk ss ts n) d = true) : Bl K ss ts n st R H (upd G R (.lst (vs ++ [v]))) (vs ++ [v]) (ds ++ [d]) := by
  have kt : KT G (upd G R (.lst (vs ++ [v]))) := KT.upd b.at_
  refine ⟨⟨fun c u hc hu => ?_, b.mv.sa.upd nR⟩, upd_same, ?_, ?_⟩
  · rw [upd_ne (fun e => by rw [e, hR] at hu; cases hu)]
    exact b.mv.kp c u hc hu
  · exact dpAll_snoc (dp_kt kt _ _ (lst_tup hd) hv) (dpAll_kt kt _ _ (tup_all fun d hd => lst_tup (List.all_eq_true.mp b.ok d hd)) b.dp)
  · rw [List.all_append, b.ok]
    show (true && (lstB ss ts (lblk ss ts n) d && true)) = true
    rw [hd]
    rfl
set_option maxHeartbeats 2000000 in
theorem ok_block {k n : Nat} (hn : n ≤ 3) (F : Fun K "_law_block" "_law_block" sBlock f fd) (T : Free mg) (cC : Cal P w K mg base "_law_choice" k ["_law_state_here", "_law_many_here"] spChoice) (cS : Cal P w K mg base "_law_simple" k ["_law_state_here", "_law_sends", "_law_takes"] (spSimple K)) (cB : Cal P w K mg base "_law_block" k PBlock (spBlockS K n)) :
    FnOk P w K mg base CX0 (k + 1) f fd PBlock (spBlock K n) := by
  refine F.ok scBlock (fun vs H Q E h => ?_) (fun cdv A outer s H vs Q E hr h => ?_)
  · obtain ⟨st, sa, ta, ss, ts, dp, most, rfl, _⟩ := h
    rfl
  obtain ⟨st, sa, ta, ss, ts, dp, most, rfl, hdp, m0, m6, hst, nsa, nta, hsa, hta, ls, lt, q⟩ := h
  refine ⟨_, pss_cons (ps_set (i := 5) scBlock.nd rfl (.inl rfl) (pe_lst pa_nil))
    (pss_cons (ps_for PassesOwn.never rfl (pi_range1 rfl T.range (pa_cons (pe_cal cC hr rfl (pa_cons (pv 0) (pa_cons (pe_op op_add (pv 4) pe_int) pa_nil))) pa_nil)) (pg_name (i := 6) scBlock.nd rfl (.inl rfl))
      (pss_cons (ps_set (i := 7) scBlock.nd rfl (.inl rfl) (pe_cal cC hr rfl (pa_cons (pv 0) (pa_cons pe_int pa_nil))))
      (pss_one (ps_if (PW.pt (pw_and (pt_cmpR op_lt (pv 7) pe_int (nomark _)) (pw_and1 (pt_cmpR op_lt (pv 3) pe_int (nomark _)))))
        (pss_cons (ps_set (i := 8) scBlock.nd rfl (.inl rfl) (pe_cal cB hr rfl (pa_cons (pv 0) (pa_cons (pv 1) (pa_cons (pv 2) (pa_cons (pe_op op_add (pv 3) pe_int) (pa_cons pe_int pa_nil)))))))
        (pss_cons (ps_set (i := 9) scBlock.nd rfl (.inl rfl) (pe_cal cB hr rfl (pa_cons (pv 0) (pa_cons (pv 1) (pa_cons (pv 2) (pa_cons (pe_op op_add (pv 3) pe_int) (pa_cons pe_int pa_nil)))))))
        (pss_cons (ps_set (i := 10) scBlock.nd rfl (.inl rfl) (pe_ix ix_list (pe_lst (pa_cons pe_str (pa_cons pe_str (pa_cons pe_str pa_nil)))) (pe_cal cC hr rfl (pa_cons (pv 0) (pa_cons pe_int pa_nil))) (fun _ _ => rfl)))
        (pss_one (ps_if (pt_cmpR op_eq (pv 7) pe_int (nomark _)) (pss_one (ps_expr (pe_bm PySem.F.plainAttrs_list PySem.F.slot_list_append PySem.F.type_list_append mt_append (pv 5) (pa_cons (pe_tup (pa_cons pe_str (pa_cons (pv 10) (pa_cons (pv 8) (pa_cons (pv 9) pa_nil))))) pa_nil))))
          (pss_one (ps_if (pt_cmpR op_eq (pe_cal cC hr rfl (pa_cons (pv 0) (pa_cons pe_int pa_nil))) pe_int (nomark _)) (pss_one (ps_expr (pe_bm PySem.F.plainAttrs_list PySem.F.slot_list_append PySem.F.type_list_append mt_append (pv 5) (pa_cons (pe_tup (pa_cons pe_str (pa_cons (pv 10) (pa_cons (pv 8) pa_nil)))) pa_nil))))
            (pss_cons (ps_expr (pe_bm PySem.F.plainAttrs_list PySem.F.slot_list_append PySem.F.type_list_append mt_append (pv 5) (pa_cons (pe_tup (pa_cons pe_str (pa_cons pe_str (pa_cons (pe_op op_add pe_int (pe_cal cC hr rfl (pa_cons (pv 0) (pa_cons pe_int pa_nil)))) pa_nil)))) pa_nil)))
            (pss_cons (ps_expr (pe_bm PySem.F.plainAttrs_list PySem.F.slot_list_append PySem.F.type_list_append mt_append (pv 5) (pa_cons (pe_tup (pa_cons pe_str (pa_cons pe_str (pa_cons pe_int pa_nil)))) pa_nil)))
            (pss_one (ps_expr (pe_bm PySem.F.plainAttrs_list PySem.F.slot_list_append PySem.F.type_list_append mt_append (pv 5) (pa_cons (pe_tup (pa_cons pe_str (pa_cons pe_str (pa_cons (pe_op op_catA (pv 8) (pe_tup (pa_cons (pe_tup (pa_cons pe_str (pa_cons pe_str (pa_cons pe_str (pa_cons pe_str (pa_cons pe_str pa_nil)))))) pa_nil))) pa_nil)))) pa_nil)))))))))))))
        (pss_one (ps_expr (pe_bm PySem.F.plainAttrs_list PySem.F.slot_list_append PySem.F.type_list_append mt_append (pv 5) (pa_cons (pe_cal cS hr rfl (pa_cons (pv 0) (pa_cons (pv 1) (pa_cons (pv 2) pa_nil)))) pa_nil))))))))
    (pss_one (ps_ret (pe_callTy call_tuple_of rfl T.tuple (by decide +kernel) (pa_cons (pe_slice sl_list (pv 5) po_none (po_some pe_int)) pa_nil))))), ?_⟩
  refine ⟨small (Nat.zero_le _), fun R hR => ?_⟩
  have nR : R ≠ st := hst.ne hR
  have s1 := same_new hR (.lst [])
  refine ⟨_, rfl, _, rfl, _, _, rfl, rfl, st, most + 1, rfl, hst.same s1, by omega, by omega, fun r G0 r0 r1 mv0 => ⟨r, rfl, by omega, by omega, ?_⟩⟩
  have b0 : Bl K ss ts n st R H G0 [] [] := ⟨Mv.trans ⟨Kp.of_same s1, hst.same s1⟩ mv0, mv0.kp _ _ nR upd_same, .nil, rfl⟩
  refine for_range (lo := 0) (n := r.toNat) (fun i σ G => ∃ (vs : List V) (ds : List PyData) (o6 o7 o8 o9 o10 : Option V), σ = [some (.ref st), some (.ref sa), some (.ref ta), some (.int dp), some (.int most), some (.ref R), o6, o7, o8, o9, o10] ∧ Bl K ss ts n st R H G vs ds ∧ ds.length ≤ 3 * i) ⟨[], [], _, _, _, _, _, rfl, b0, Nat.zero_le _⟩ (fun i σ G hi h => ?_) (fun σ G h => ?_)
  · obtain ⟨vs, ds, o6, o7, o8, o9, o10, rfl, b, hl⟩ := h
    have i6 : i < 9 := by omega
    have lv : ∀ {G' : Hp} {vs' : List V} {ds' : List PyData}, Bl K ss ts n st R H G' vs' ds' → ds'.length ≤ 100 → vs'.length < sizeLine := fun b' h => by
      rw [dpAll_len b'.dp]
      exact Nat.lt_of_lt_of_le (show _ < 1000 by omega) (show 1000 ≤ sizeLine by decide)
    refine ⟨_, rfl, st, 9, rfl, b.mv.sa, by decide, by decide, fun kd G1 kd0 kd1 mv1 => ?_⟩
    have b1 := b.move nR mv1
    have sa1 := b1.mv.kp _ _ nsa hsa
    have ta1 := b1.mv.kp _ _ nta hta
    refine ⟨_, rfl, _, _, rfl, rfl, _, rfl, ?_⟩
    by_cases c2 : kd < 2 ∧ dp < 4
    · refine ifT (decide_eq_true c2.1) ⟨_, rfl, _, _, rfl, rfl, _, rfl, ifT (decide_eq_true c2.2) ?_⟩
      obtain ⟨m, rfl⟩ : ∃ m, n = m + 1 := ⟨n - 1, by omega⟩
      refine ⟨_, rfl, _, rfl, _, rfl, _, rfl, _, _, rfl, rfl, m, rfl, st, sa, ta, ss, ts, dp + 1, 3, rfl, by omega, by decide, by decide, b1.mv.sa, nsa, nta, sa1, ta1, ls, lt, fun v1 e1 G2 mv2 dp1 ok1 le1 => ?_⟩
      obtain ⟨a1, rfl⟩ : ∃ a, v1 = .ref a := by cases dp1; exact ⟨_, rfl⟩
      have b2 := b1.move nR mv2
      refine ⟨_, rfl, _, rfl, _, rfl, _, rfl, _, _, rfl, rfl, m, rfl, st, sa, ta, ss, ts, dp + 1, 2, rfl, by omega, by decide, by decide, b2.mv.sa, nsa, nta, b2.mv.kp _ _ nsa hsa, b2.mv.kp _ _ nta hta, ls, lt, fun v2 e2 G3 mv3 dp2 ok2 le2 => ?_⟩
      have b3 := b2.move nR mv3
      have dp1' := dp_kt (mv3.kp.kt b2.mv.sa) _ _ (lblk_tup _ ok1) dp1
      refine ⟨small (by show 3 ≤ 1000; decide), fun pl hpl => ?_⟩
      have sl := same_new hpl (.lst (lnameL.map V.str))
      have npl : pl ≠ st := b3.mv.sa.ne hpl
      have mvl : Mv st G3 (upd G3 pl (.lst (lnameL.map V.str))) := ⟨Kp.of_same sl, b3.mv.sa.same sl⟩
      refine ⟨_, rfl, st, 3, rfl, mvl.sa, by decide, by decide, fun r4 G4 r40 r41 mv4 => ?_⟩
      have mv34 := mvl.trans mv4
      have b4 := b3.move nR mv34
      have hl4 := mv4.kp _ _ npl (show upd G3 pl (.lst (lnameL.map V.str)) pl = _ from upd_same)
      have d14 := dp_kt (mv34.kp.kt b3.mv.sa) _ _ (lblk_tup _ ok1) dp1'
      have d24 := dp_kt (mv34.kp.kt b3.mv.sa) _ _ (lblk_tup _ ok2) dp2
      obtain ⟨nm, hnm⟩ : ∃ z, lnameL[r4.toNat]? = some z := ⟨lnameL[r4.toNat]'(by show r4.toNat < 3; omega), by simp⟩
      have nn : numNameD (.str nm) = true := List.all_eq_true.mp lnameL_ok nm (List.mem_of_getElem? hnm)
      refine ⟨pl, _, r4, .str nm, rfl, rfl, .of hl4, atI_at r40 (by rw [List.getElem?_map, hnm]; rfl), ?_⟩
      refine ⟨_, rfl, rfl, _, rfl, ?_⟩
      by_cases ck : kd = 0
      · refine ifT (by rw [ck]; exact decide_eq_true rfl) ?_
        refine ⟨_, rfl, .inl ⟨rfl, _, SqL.of b4.at_⟩, _, rfl, _, rfl, _, rfl, small (by show 4 ≤ 1000; decide), fun p hp => ?_⟩
        have sp := same_new hp (.tup [.str "if", .str nm, .ref a1, v2])
        have b5 := b4.move nR ⟨Kp.of_same sp, b4.mv.sa.same sp⟩
        have dv : Dp K (upd G4 p (.tup [.str "if", .str nm, .ref a1, v2])) (.ref p) (.tuple [.str "if", .str nm, .tuple e1, .tuple e2]) := .tup (.of upd_same) (.cons (.str _) (.cons (.str _) (.cons (dp_same sp d14) (.cons (dp_same sp d24) .nil))))
        have ok5 : lstB ss ts (lblk ss ts (m + 1)) (.tuple [.str "if", .str nm, .tuple e1, .tuple e2]) = true := lst_branch (m := 2) (by decide +kernel) nn rfl (by show (lblk ss ts (m + 1) _ && (lblk ss ts (m + 1) _ && true)) = true; rw [ok1, ok2]; rfl)
        refine ⟨R, _, _, rfl, rfl, b5.at_, lv b5 (by omega), vs ++ [.ref p], ds ++ [_], _, _, _, _, _, rfl, b5.app nR hR dv ok5, ?_⟩
        rw [List.length_append, List.length_singleton]
        omega
      · refine ifF (decide_eq_false (fun z => ck (by injection z))) ?_
        refine ⟨_, rfl, st, 5, rfl, b4.mv.sa, by decide, by decide, fun r5 G5 r50 r51 mv5 => ⟨rfl, _, rfl, ?_⟩⟩
        have b5 := b4.move nR mv5
        have d15 := dp_kt (mv5.kp.kt b4.mv.sa) _ _ (lblk_tup _ ok1) d14
        by_cases c5 : r5 = 0
        · refine ifT (by rw [c5]; exact decide_eq_true rfl) ?_
          refine ⟨_, rfl, .inl ⟨rfl, _, SqL.of b5.at_⟩, _, rfl, _, rfl, small (by show 3 ≤ 1000; decide), fun p hp => ?_⟩
          have sp := same_new hp (.tup [.str "while", .str nm, .ref a1])
          have b6 := b5.move nR ⟨Kp.of_same sp, b5.mv.sa.same sp⟩
          have dv : Dp K (upd G5 p (.tup [.str "while", .str nm, .ref a1])) (.ref p) (.tuple [.str "while", .str nm, .tuple e1]) := .tup (.of upd_same) (.cons (.str _) (.cons (.str _) (.cons (dp_same sp d15) .nil)))
          have ok6 : lstB ss ts (lblk ss ts (m + 1)) (.tuple [.str "while", .str nm, .tuple e1]) = true := lst_branch (m := 1) (by decide +kernel) nn rfl (by show (lblk ss ts (m + 1) _ && true) = true; rw [ok1]; rfl)
          refine ⟨R, _, _, rfl, rfl, b6.at_, lv b6 (by omega), vs ++ [.ref p], ds ++ [_], _, _, _, _, _, rfl, b6.app nR hR dv ok6, ?_⟩
          rw [List.length_append, List.length_singleton]
          omega
        · refine ifF (decide_eq_false (fun z => c5 (by injection z))) ?_
          refine ⟨_, rfl, .inl ⟨rfl, _, SqL.of b5.at_⟩, _, rfl, st, 3, rfl, b5.mv.sa, by decide, by decide, fun r6 G6 r60 r61 mv6 => ⟨_, _, rfl, rfl, small (by show 3 ≤ 1000; decide), fun p hp => ?_⟩⟩
          have b6 := b5.move nR mv6
          have d16 := dp_kt (mv6.kp.kt b5.mv.sa) _ _ (lblk_tup _ ok1) d15
          have sp := same_new hp (.tup [.str "num", .str "left", .int (1 + r6)])
          have mvp : Mv st G6 (upd G6 p (.tup [.str "num", .str "left", .int (1 + r6)])) := ⟨Kp.of_same sp, b6.mv.sa.same sp⟩
          have b7 := b6.move nR mvp
          have ok7 : deedD ss ts (.tuple [.str "num", .str "left", .int (1 + r6)]) = true := deed_mk (ks := [.name, .number]) (by decide +kernel) rfl (andT (show numNameD (.str "left") = true by decide +kernel) (andT (by show (decide ((-9999 : Int) ≤ 1 + r6) && decide (1 + r6 ≤ 9999)) = true; rw [decide_eq_true (by omega), decide_eq_true (by omega)]; rfl) rfl)) (unl_not (by decide +kernel))
          have b8 := b7.app nR hR (d := .tuple [.str "num", .str "left", .int (1 + r6)]) (v := .ref p) (.tup (.of upd_same) (.cons (.str _) (.cons (.str _) (.cons (.int _) .nil)))) (lst_deed ok7)
          refine ⟨R, _, _, rfl, rfl, b7.at_, lv b7 (by omega), ?_⟩
          have l8 : (ds ++ [PyData.tuple [.str "num", .str "left", .int (1 + r6)]]).length = ds.length + 1 := by rw [List.length_append]; rfl
          refine ⟨_, rfl, .inl ⟨rfl, _, SqL.of b8.at_⟩, small (by show 3 ≤ 1000; decide), fun p2 hp2 => ?_⟩
          have sp2 := same_new hp2 (.tup [.str "num", .str "one", .int 1])
          have b9 := b8.move nR ⟨Kp.of_same sp2, b8.mv.sa.same sp2⟩
          have ok9 : deedD ss ts (.tuple [.str "num", .str "one", .int 1]) = true := deed_mk (ks := [.name, .number]) (by decide +kernel) rfl (andT (show numNameD (.str "one") = true by decide +kernel) (andT (show withinD (-9999) 9999 (.int 1) = true by decide +kernel) rfl)) (unl_not (by decide +kernel))
          have b10 := b9.app nR hR (d := .tuple [.str "num", .str "one", .int 1]) (v := .ref p2) (.tup (.of upd_same) (.cons (.str _) (.cons (.str _) (.cons (.int _) .nil)))) (lst_deed ok9)
          refine ⟨R, _, _, rfl, rfl, b9.at_, lv b9 (by omega), ?_⟩
          have l10 : (ds ++ [PyData.tuple [.str "num", .str "left", .int (1 + r6)]] ++ [PyData.tuple [.str "num", .str "one", .int 1]]).length = ds.length + 2 := by rw [List.length_append, List.length_append]; rfl
          have dfin := dp_kt (((KT.of_same sp).trans (KT.upd b7.at_)).trans ((KT.of_same sp2).trans (KT.upd (l' := vs ++ [.ref p] ++ [.ref p2]) b9.at_))) _ _ (lblk_tup _ ok1) d16
          cases dfin with
          | @tup _ xs1 _ at1 each1 =>
            refine ⟨_, rfl, .inl ⟨rfl, _, SqL.of b10.at_⟩, _, rfl, small (by show 5 ≤ 1000; decide), fun p3 hp3 => ⟨small (by show 1 ≤ 1000; decide), fun p4 hp4 => ?_⟩⟩
            have sp3 := same_new hp3 (.tup [.str "sum", .str "left", .str "left", .str "-", .str "one"])
            have sp4 := same_new hp4 (.tup [.ref p3])
            have s34 := sp3.trans sp4
            refine catA_run (sqT_same s34 at1) (.of upd_same) (by rw [dpAll_len each1]; show _ + 1 ≤ 1000; omega) fun rr G11 s5 hrr => ⟨small (by show 3 ≤ 1000; decide), fun p6 hp6 => ?_⟩
            have sp6 := same_new hp6 (.tup [.str "while", .str "left", .ref rr])
            have s36 := s34.trans (s5.trans sp6)
            have b11 := b10.move nR ⟨Kp.of_same s36, b10.mv.sa.same s36⟩
            have okS : deedD ss ts (.tuple [.str "sum", .str "left", .str "left", .str "-", .str "one"]) = true := deed_mk (ks := [.name, .name, .sign, .name]) (by decide +kernel) rfl (andT (show numNameD (.str "left") = true by decide +kernel) (andT (show numNameD (.str "left") = true by decide +kernel) (andT (show (signs.any fun z => isStrD z (.str "-")) = true by decide +kernel) (andT (show numNameD (.str "one") = true by decide +kernel) rfl)))) (unl_not (by decide +kernel))
            have dS := dp_same (sp4.trans (s5.trans sp6)) (show Dp K _ (.ref p3) (.tuple [.str "sum", .str "left", .str "left", .str "-", .str "one"]) from .tup (.of upd_same) (.cons (.str _) (.cons (.str _) (.cons (.str _) (.cons (.str _) (.cons (.str _) .nil))))))
            have ok1' := and3 (show (decide (e1.length ≤ 12) && e1.all (lstB ss ts (lblk ss ts m))) = true from ok1)
            have okW : lblk ss ts (m + 1) (.tuple (e1 ++ [.tuple [.str "sum", .str "left", .str "left", .str "-", .str "one"]])) = true := by
              show (decide ((e1 ++ [_]).length ≤ 12) && (e1 ++ [_]).all (lstB ss ts (lblk ss ts m))) = true
              rw [List.length_append, List.length_singleton, decide_eq_true (by omega), List.all_append, ok1'.2]
              show (true && (true && (lstB ss ts (lblk ss ts m) _ && true))) = true
              rw [lst_deed okS]
              rfl
            have dW : Dp K (upd G11 p6 (.tup [.str "while", .str "left", .ref rr])) (.ref p6) (.tuple [.str "while", .str "left", .tuple (e1 ++ [.tuple [.str "sum", .str "left", .str "left", .str "-", .str "one"]])]) :=
              .tup (.of upd_same) (.cons (.str _) (.cons (.str _) (.cons (.tup (sqT_same sp6 hrr) (dpAll_snoc dS (dps_same s36 each1))) .nil)))
            have ok12 : lstB ss ts (lblk ss ts (m + 1)) (.tuple [.str "while", .str "left", .tuple (e1 ++ [.tuple [.str "sum", .str "left", .str "left", .str "-", .str "one"]])]) = true := lst_branch (m := 1) (by decide +kernel) (by decide +kernel) rfl (by show (lblk ss ts (m + 1) _ && true) = true; rw [okW]; rfl)
            refine ⟨R, _, _, rfl, rfl, b11.at_, lv b11 (by omega), _, _, _, _, _, _, _, rfl, b11.app nR hR dW ok12, ?_⟩
            rw [List.length_append, List.length_singleton]
            omega
    · by_cases c1 : kd < 2
      · exact ifT (decide_eq_true c1) ⟨_, rfl, _, _, rfl, rfl, _, rfl, ifF (decide_eq_false (fun z => c2 ⟨c1, z⟩)) ⟨_, rfl, .inl ⟨rfl, _, SqL.of b1.at_⟩, _, rfl, _, rfl, _, rfl, st, sa, ta, ss, ts, rfl, b1.mv.sa, nsa, nta, sa1, ta1, ls, lt, fun v d G2 mv2 dpv okd => ⟨R, _, _, rfl, rfl, (b1.move nR mv2).at_, lv (b1.move nR mv2) (by omega), _, _, _, _, _, _, _, rfl, (b1.move nR mv2).app nR hR dpv (lst_deed okd), by rw [List.length_append, List.length_singleton]; omega⟩⟩⟩
      · exact ifF (decide_eq_false c1) (ifF rfl ⟨_, rfl, .inl ⟨rfl, _, SqL.of b1.at_⟩, _, rfl, _, rfl, _, rfl, st, sa, ta, ss, ts, rfl, b1.mv.sa, nsa, nta, sa1, ta1, ls, lt, fun v d G2 mv2 dpv okd => ⟨R, _, _, rfl, rfl, (b1.move nR mv2).at_, lv (b1.move nR mv2) (by omega), _, _, _, _, _, _, _, rfl, (b1.move nR mv2).app nR hR dpv (lst_deed okd), by rw [List.length_append, List.length_singleton]; omega⟩⟩)
  · obtain ⟨vs, ds, o6, o7, o8, o9, o10, rfl, b, hl⟩ := h
    refine ⟨_, rfl, _, rfl, R, vs, rfl, .of b.at_, fun p hp => ?_⟩
    rw [cut12]
    have sp := same_new hp (.lst (vs.take 12))
    refine ⟨p, vs.take 12, rfl, .inl ⟨.of upd_same, fun p2 hp2 => ?_⟩⟩
    have sp2 := same_new hp2 (.tup (vs.take 12))
    have s12 := sp.trans sp2
    refine q _ (ds.take 12) _ ⟨b.mv.kp.trans (Kp.of_same s12), b.mv.sa.same s12⟩ (.tup (.of upd_same) (dpAll_takeN 12 (dps_same s12 b.dp))) ?_ ?_
    · show (decide ((ds.take 12).length ≤ 12) && (ds.take 12).all (lstB ss ts (lblk ss ts n))) = true
      rw [decide_eq_true (by rw [List.length_take]; omega), Bool.true_and, List.all_eq_true]
      exact fun d hd => List.all_eq_true.mp b.ok d (List.mem_of_mem_take hd)
    · rw [List.length_take]
      omega
theorem no_block {k : Nat} : FnOk P w K mg base CX0 k f fd PBlock (spBlockS K 0) := ⟨(fun vs H Q E h => by obtain ⟨m, e, _⟩ := h; cases e), (fun A outer s H args us vs Q E hr he hb hv h => by obtain ⟨m, e, _⟩ := h; cases e)⟩
theorem all_block {k : Nat} (F : Fun K "_law_block" "_law_block" sBlock f fd) (hm : mg "_law_block" = some (.ref f)) (hb : Binds K fd PBlock []) (T : Free mg) (cC : Cal P w K mg base "_law_choice" k ["_law_state_here", "_law_many_here"] spChoice) (cS : Cal P w K mg base "_law_simple" k ["_law_state_here", "_law_sends", "_law_takes"] (spSimple K)) :
    ∀ n, n ≤ 3 → FnOk P w K mg base CX0 (k + n + 1) f fd PBlock (spBlock K n)
  | 0, _ => ok_block (by omega) F T cC cS ⟨f, fd, no_block, hm, F.kp, hb⟩
  | n + 1, hn => by
    have ih := all_block F hm hb T cC cS n (by omega)
    exact ok_block (k := k + (n + 1)) hn F T (cC.mono (by omega)) (cS.mono (by omega)) ⟨f, fd, ih.imp (fun vs H Q E z => by obtain ⟨m, e, z⟩ := z; cases e; exact z), hm, F.kp, hb⟩
end
/-! _law_ends, _law_net -/
def sdOf (b : Bool) : Int × Int → Int := if b = true then Prod.snd else Prod.fst
theorem chs_app (chs : List (Int × Int)) (c : Int × Int) : (chs ++ [c]).map mkCh = chs.map mkCh ++ [mkCh c] := by rw [List.map_append]; rfl
theorem chs_tup (chs : List (Int × Int)) : tupOnlyAll (chs.map mkCh) = true := tup_all fun d hd => by
  obtain ⟨c, _, rfl⟩ := List.mem_map.mp hd
  rfl
theorem pairs_of (chs : List (Int × Int)) : (chs.map mkCh).map pairD = chs := by
  rw [List.map_map]
  conv => rhs; rw [← List.map_id chs]
  rfl
theorem chan_ok {m : Int} {c : Int × Int} (h : 0 ≤ c.1 ∧ c.1 < m ∧ 0 ≤ c.2 ∧ c.2 < m ∧ c.1 ≠ c.2) : chanD m (mkCh c) = true := by
  show ((withinD 0 (m - 1) (.int c.1) && withinD 0 (m - 1) (.int c.2)) && intNe (.int c.1) (.int c.2)) = true
  show (((decide ((0 : Int) ≤ c.1) && decide (c.1 ≤ m - 1)) && (decide ((0 : Int) ≤ c.2) && decide (c.2 ≤ m - 1))) && !decide (c.1 = c.2)) = true
  rw [decide_eq_true h.1, decide_eq_true (show c.1 ≤ m - 1 by omega), decide_eq_true h.2.2.1, decide_eq_true (show c.2 ≤ m - 1 by omega), decide_eq_false h.2.2.2.2]
  rfl
theorem cutLast (xs : List V) : cutV xs none (some (-1)) = xs.take (xs.length - 1) := by
  show (xs.drop 0).take (HT.sIx xs.length xs.length (some (-1)) - 0) = _
  rw [List.drop_zero, Nat.sub_zero]
  have e : HT.sIx xs.length xs.length (some (-1)) = ((-1 : Int) + (xs.length : Int)).toNat := by
    unfold HT.sIx
    exact if_pos (by decide)
  rw [e]
  congr 1
  omega
theorem sumM_take {m : PyData → Nat} : ∀ (l : List PyData) (n : Nat), sumM m (l.take n) ≤ sumM m l
  | [], n => by cases n <;> exact Nat.le_refl _
  | d :: l, 0 => Nat.zero_le _
  | d :: l, n + 1 => by
    have := sumM_take (m := m) l n
    show m d + sumM m (l.take n) ≤ m d + sumM m l
    omega
section
open PySem.Spec PyProof.Rows LamX
variable {P : Program} {w : World} {K : PySem.W.Frag} {mg : Str → Option Value} {base : Heap} {f : Addr} {fd : FuncData}
def spEnds (K : PySem.W.Frag) : Sp := fun vs H Q _ => ∃ (L : Addr) (cvs : List V) (chs : List (Int × Int)) (me : Int) (b : Bool), vs = [.ref L, .int me, .int (if b = true then 1 else 0)] ∧ H L = some (.lst cvs) ∧ DpAll K H cvs (chs.map mkCh) ∧ chs.length ≤ 100 ∧ ∀ D H', Same H H' → H D = none → H' D = some (.lst ((sideL (sdOf b) chs me).map V.int)) → Q (.ref D) H'
abbrev NEnds : List Str := ["_law_channels", "_law_actor", "_law_side", "_law_number", "_law_ends_here"]
theorem scEnds : FnScope NEnds ["_law_channels", "_law_actor", "_law_side"] (defScope sEnds) := ⟨rfl, rfl, rfl, by decide +kernel, rfl, by decide +kernel, by decide +kernel⟩
theorem ok_ends {k : Nat} (F : Fun K "_law_ends" "_law_ends" sEnds f fd) (hE : mg "enumerate" = none) : FnOk P w K mg base CX0 (k + 1) f fd ["_law_channels", "_law_actor", "_law_side"] (spEnds K) := by
  refine F.ok scEnds (fun vs H Q E h => ?_) (fun cdv A outer s H vs Q E hr h => ?_)
  · obtain ⟨L, cvs, chs, me, b, rfl, _⟩ := h
    rfl
  obtain ⟨L, cvs, chs, me, b, rfl, hL, hdp, hl, q⟩ := h
  refine ⟨_, pss_one (ps_ret (pe_lc (own := [("_law_number", 3), ("_law_ends_here", 4)]) (g := gTup K 2 (gCons (gName 3) (gCons (gName 4) gNil))) (tt := tTest (tOp rEq (tOp (rIxT K) (tVar 4) (tVar 2)) (tVar 1))) (te := tVar 3) rfl scEnds.nd (pi_enum rfl hE (pa_cons (pv 0) pa_nil))
      (blkOk_by (own := [("_law_number", 3), ("_law_ends_here", 4)]) (N := NEnds) (sc := defScope sEnds) (by decide +kernel))
      (fun _ _ _ _ _ => pg_tup rfl (pgs_cons (pg_name (i := 3) scEnds.nd rfl (Or.inl rfl)) (pgs_cons (pg_name (i := 4) scEnds.nd rfl (Or.inl rfl)) pgs_nil))) (fun _ _ _ _ _ => pts_one (pt_cmpR op_eq (pe_ix ix_tup (pv 4) (pv 2) (fun _ _ => rfl)) (pv 1) (nomark _))) (fun _ _ _ _ _ => pv 3))), ?_⟩
  have lx := dpAll_len hdp
  rw [List.length_map] at lx
  refine ⟨_, rfl, L, cvs, rfl, SqL.of hL, fun D hD => ?_⟩
  refine lc_it (walk_enum (xs := cvs)) (fun i G => Same H G ∧ G D = some (.lst ((sideN (sdOf b) chs me i).map V.int))) ⟨same_new hD _, by rw [upd_same]; rfl⟩ (fun i G _ h => SqL.of (h.1 _ _ hL)) (fun i v G G' hi h y => ?_) (fun G h => ?_)
  · obtain ⟨sm, hG⟩ := h
    obtain ⟨T, x, y', rfl, hT, rfl, ex, ey⟩ := y
    cases ex
    obtain ⟨c, r, hcm, rfl, hr2⟩ := chs_at (dps_same sm hdp) ey
    have nT := same_new hT (.tup [.int (i : Nat), .ref r])
    refine ⟨T, _, rfl, SqT.of upd_same, rfl, _, _, rfl, _, _, rfl, rfl, rfl, ?_⟩
    have nD : D ≠ T := ne_of_none hG hT
    have rd : ∃ xv : Int, xv = sdOf b c ∧ atI [V.int c.1, V.int c.2] (if b = true then 1 else 0) = some (.int xv) := by
      cases b
      · exact ⟨c.1, rfl, rfl⟩
      · exact ⟨c.2, rfl, rfl⟩
    obtain ⟨xv, hxv, hat⟩ := rd
    refine ⟨_, rfl, _, rfl, r, _, _, .int xv, rfl, rfl, sqT_same nT hr2, hat, _, rfl, rfl, _, rfl, ?_⟩
    by_cases hc : xv = me
    · refine ifT (by rw [hc]; exact decide_eq_true rfl) ⟨_, rfl, _, nT _ _ hG, ?_, same_upd2 (sm.trans nT) hD, ?_⟩
      · rw [List.length_map]
        have := sideN_len (sdOf b) chs me i
        exact Nat.lt_of_lt_of_le (show _ < 1000 by omega) (show 1000 ≤ sizeLine by decide)
      · rw [upd_same, sideN_yes hcm (by rw [← hxv]; exact hc), List.map_append]
        rfl
    · refine ifF (decide_eq_false (fun z => hc (by injection z))) ⟨sm.trans nT, ?_⟩
      rw [sideN_no hcm (by rw [← hxv]; exact hc)]
      exact nT _ _ hG
  · obtain ⟨sm, hG⟩ := h
    rw [lx] at hG
    exact q D G sm hD hG
def spNet (K : PySem.W.Frag) : Sp := fun vs H Q _ => ∃ (st : Addr) (M L : Int), vs = [.ref st, .int M, .int L] ∧ 1 ≤ M ∧ M ≤ 4 ∧ 0 ≤ L ∧ L ≤ 8 ∧ StAt H st ∧ ∀ v d H', Mv st H H' → Dp K H' v d → netD d = true → Q v H'
abbrev NNet : List Str := ["_law_state_here", "_law_most", "_law_long", "_law_many_here", "_law_channels", "_law_actors", "_law_turn", "_law_one", "_law_actor", "_law_block_here"]
theorem scNet : FnScope NNet ["_law_state_here", "_law_most", "_law_long"] (defScope sNet) := ⟨rfl, rfl, rfl, by decide +kernel, rfl, by decide +kernel, by decide +kernel⟩
def tNetB (K : PySem.W.Frag) : TS := fun D σ H => ∃ (M L : Int) (H0 : Hp) (st C A : Addr) (r : Int) (cvs : List V) (chs : List (Int × Int)) (o6 o7 o8 o9 : Option V), σ = [some (.ref st), some (.int M), some (.int L), some (.int (1 + r)), some (.ref C), some (.ref A), o6, o7, o8, o9] ∧ 0 ≤ L ∧ L ≤ 8 ∧ StAt H st ∧ C ≠ st ∧ A ≠ st ∧ C ≠ A ∧ H C = some (.lst cvs) ∧ H A = some (.lst []) ∧ DpAll K H cvs (chs.map mkCh) ∧ chs.length ≤ 6 ∧
  (∀ c ∈ chs, 0 ≤ c.1 ∧ c.1 < 1 + r ∧ 0 ≤ c.2 ∧ c.2 < 1 + r ∧ c.1 ≠ c.2) ∧ 0 ≤ r ∧ r < 4 ∧ Kp st H0 H ∧ H0 C = none ∧ H0 A = none ∧ ∀ v d H', Mv st H0 H' → Dp K H' v d → netD d = true → D.rt v H'
set_option maxHeartbeats 2000000 in
theorem ok_net {k : Nat} (F : Fun K "_law_net" "_law_net" sNet f fd) (T : Free mg) (cC : Cal P w K mg base "_law_choice" k ["_law_state_here", "_law_many_here"] spChoice) (cE : Cal P w K mg base "_law_ends" k ["_law_channels", "_law_actor", "_law_side"] (spEnds K)) (cB : Cal P w K mg base "_law_block" k PBlock (spBlock K 3)) (cM : Cal P w K mg base "_law_many" k ["_law_block_here"] (spMany K 4)) :
    FnOk P w K mg base CX0 (k + 1) f fd ["_law_state_here", "_law_most", "_law_long"] (spNet K) := by
  refine F.ok scNet (fun vs H Q E h => ?_) (fun cdv A outer s H vs Q E hr h => ?_)
  · obtain ⟨st, M, L, rfl, _⟩ := h
    rfl
  obtain ⟨st, M, L, rfl, M1, M4, L0, L8, hst, q⟩ := h
  refine ⟨_, pss_cons (ps_par3 (i := 3) (j := 4) (l := 5) rfl scNet.nd rfl rfl rfl (by decide) (by decide) (by decide) rfl rfl rfl (pa_cons (pe_op op_add pe_int (pe_cal cC hr rfl (pa_cons (pv 0) (pa_cons (pv 1) pa_nil)))) (pa_cons (pe_lst pa_nil) (pa_cons (pe_lst pa_nil) pa_nil))) rfl)
    (pss_cons (ps_for PassesOwn.never rfl (pi_range1 rfl T.range (pa_cons (pe_ifExp (pt_cmpR op_gt (pv 3) pe_int (nomark _)) (pe_cal cC hr rfl (pa_cons (pv 0) (pa_cons pe_int pa_nil))) pe_int) pa_nil)) (pg_name (i := 6) scNet.nd rfl (.inl rfl))
      (pss_cons (ps_set (i := 7) scNet.nd rfl (.inl rfl) (pe_cal cC hr rfl (pa_cons (pv 0) (pa_cons (pv 3) pa_nil))))
      (pss_one (ps_expr (pe_bm PySem.F.plainAttrs_list PySem.F.slot_list_append PySem.F.type_list_append mt_append (pv 4) (pa_cons (pe_tup (pa_cons (pv 7) (pa_cons (pe_op op_mod (pe_op op_add (pe_op op_add (pv 7) pe_int) (pe_cal cC hr rfl (pa_cons (pv 0) (pa_cons (pe_op op_sub (pv 3) pe_int) pa_nil)))) (pv 3)) pa_nil))) pa_nil))))))
    (pss_imp (t' := tNetB K) (pss_cons (ps_for PassesOwn.never rfl (pi_range1 rfl T.range (pa_cons (pv 3) pa_nil)) (pg_name (i := 8) scNet.nd rfl (.inl rfl))
      (pss_cons (ps_set (i := 9) scNet.nd rfl (.inl rfl) (pe_cal cB hr rfl (pa_cons (pv 0) (pa_cons (pe_cal cE hr rfl (pa_cons (pv 4) (pa_cons (pv 8) (pa_cons pe_int pa_nil)))) (pa_cons (pe_cal cE hr rfl (pa_cons (pv 4) (pa_cons (pv 8) (pa_cons pe_int pa_nil)))) (pa_cons pe_int (pa_cons (pv 2) pa_nil)))))))
      (pss_cons (ps_while PassesOwn.never (pt_cmpR op_gt (pe_cal cM hr rfl (pa_cons (pv 9) pa_nil)) pe_int (nomark _))
        (pss_one (ps_set (i := 9) scNet.nd rfl (.inl rfl) (pe_slice sl_tupA (pv 9) po_none (po_some (pe_un un_neg pe_int))))))
      (pss_one (ps_expr (pe_bm PySem.F.plainAttrs_list PySem.F.slot_list_append PySem.F.type_list_append mt_append (pv 5) (pa_cons (pv 9) pa_nil)))))))
    (pss_one (ps_ret (pe_tup (pa_cons (pe_callTy call_tuple_of rfl T.tuple (by decide +kernel) (pa_cons (pv 4) pa_nil)) (pa_cons (pe_callTy call_tuple_of rfl T.tuple (by decide +kernel) (pa_cons (pv 5) pa_nil)) pa_nil)))))) ?net)), ?_⟩
  case net =>
    intro D σ H h
    obtain ⟨M, L, H0, st, C, A, r, cvs, chs, o6, o7, o8, o9, rfl, L0, L8, hst, nC, nA, nCA, hC, hA, hdp, hl, hch, r0, r4, k0, hC0, hA0, q⟩ := h
    refine ⟨_, rfl, 1 + r, rfl, by omega, by omega, ?_⟩
    refine for_range (lo := 0) (n := (1 + r).toNat) (fun i σ G => ∃ (ws : List V) (ds : List PyData) (o8 o9 : Option V), σ = [some (.ref st), some (.int M), some (.int L), some (.int (1 + r)), some (.ref C), some (.ref A), o6, o7, o8, o9] ∧ StAt G st ∧ (∀ b u, b ≠ st → b ≠ A → H b = some u → G b = some u) ∧ G A = some (.lst ws) ∧ DpAll K G ws ds ∧ ds.length = i ∧ ∀ (j : Nat) d, ds[j]? = some d → (blkD (sideL Prod.fst chs (0 + j)) (sideL Prod.snd chs (0 + j)) 4 d).isSome = true)
      ⟨[], [], _, _, rfl, hst, fun b u _ _ hu => hu, hA, .nil, rfl, fun j d h => (by cases h)⟩ (fun i σ G hi h => ?_) (fun σ G h => ?_)
    · obtain ⟨ws, ds, o8, o9, rfl, sG, kG, hA2, dpw, ld, okd⟩ := h
      have hC2 := kG _ _ nC nCA hC
      have tupD : tupOnlyAll ds = true := tup_all fun d hd => by
        obtain ⟨j, hj⟩ := List.getElem?_of_mem hd
        have z := okd j d hj
        rw [blk_some] at z
        exact lblk_tup 4 (and3 z).1
      have kt0 : ∀ {G' : Hp}, (∀ b u, b ≠ st → b ≠ A → H b = some u → G' b = some u) → KT H G' := fun {G'} k b u hb n => k b u (fun e => by obtain ⟨l, hl⟩ := hst.some; rw [e, hl] at hb; cases hb; exact n _ rfl) (fun e => by rw [e, hA] at hb; cases hb; exact n _ rfl) hb
      have dpc : ∀ {G' : Hp}, (∀ b u, b ≠ st → b ≠ A → H b = some u → G' b = some u) → DpAll K G' cvs (chs.map mkCh) := fun {G'} k => dpAll_kt (kt0 k) _ _ (chs_tup chs) hdp
      refine ⟨_, rfl, _, rfl, _, rfl, C, cvs, chs, (0 : Int) + (i : Nat), false, rfl, hC2, dpc kG, by omega, fun D1 G1 s1 n1 h1 => ?_⟩
      refine ⟨_, rfl, _, rfl, C, cvs, chs, (0 : Int) + (i : Nat), true, rfl, s1 _ _ hC2, dps_same s1 (dpc kG), by omega, fun D2 G2 s2 n2 h2 => ?_⟩
      have s12 := s1.trans s2
      have sd1 : (sideL (sdOf false) chs ((0 : Int) + (i : Nat))).length ≤ 100 := Nat.le_trans (sideN_len _ _ _ _) (by omega)
      have sd2 : (sideL (sdOf true) chs ((0 : Int) + (i : Nat))).length ≤ 100 := Nat.le_trans (sideN_len _ _ _ _) (by omega)
      refine ⟨_, rfl, st, D1, D2, _, _, 1, L, rfl, by decide, L0, L8, sG.same s12, sG.ne n1, (sG.same s1).ne n2, s2 _ _ h1, h2, sd1, sd2, fun v e G3 mv3 dp3 ok3 le3 => ?_⟩
      -- behind the block
      have kG3 : ∀ b u, b ≠ st → G b = some u → G3 b = some u := fun b u nb hb => mv3.kp _ _ nb (s12 _ _ hb)
      refine ⟨fun m σ G4 => ∃ (v : V) (e : List PyData), m = e.length ∧ σ = [some (.ref st), some (.int M), some (.int L), some (.int (1 + r)), some (.ref C), some (.ref A), o6, o7, some (.int ((0 : Int) + (i : Nat))), some v] ∧ Same G3 G4 ∧ Dp K G4 v (.tuple e) ∧ lblk (sideL Prod.fst chs ((0 : Int) + (i : Nat))) (sideL Prod.snd chs ((0 : Int) + (i : Nat))) 4 (.tuple e) = true, ⟨_, v, e, rfl, rfl, Same.refl _, dp3, ok3⟩, fun m σ G4 w4 => ?_⟩
      obtain ⟨v, e, rfl, rfl, s34, dpv, okv⟩ := w4
      refine ⟨_, rfl, v, .tuple e, _, _, rfl, dpv, okv, fun G5 s5 => ⟨_, _, rfl, rfl, _, rfl, ?_⟩⟩
      have s35 := s34.trans s5
      by_cases h40 : 40 < manyN 4 (.tuple e)
      · refine ifT (decide_eq_true (by omega)) ⟨_, fun σ' H' h => h, ?_⟩
        have e0 : e.length ≠ 0 := fun z => by
          have : e = [] := List.length_eq_zero_iff.mp z
          subst this
          cases h40
        cases dp_same s5 dpv with
        | @tup ea evs _ eat eeach =>
          refine ⟨_, rfl, _, rfl, _, rfl, slA_run eat fun rr G6 s6 hrr => ?_⟩
          rw [cutLast, dpAll_len eeach] at hrr
          have okc := and3 (show (decide (e.length ≤ 12) && e.all (lstB (sideL Prod.fst chs ((0 : Int) + (i : Nat))) (sideL Prod.snd chs ((0 : Int) + (i : Nat))) (lblk (sideL Prod.fst chs ((0 : Int) + (i : Nat))) (sideL Prod.snd chs ((0 : Int) + (i : Nat))) 3))) = true from okv)
          refine ⟨(e.take (e.length - 1)).length, by rw [List.length_take]; omega, _, e.take (e.length - 1), rfl, rfl, s35.trans s6, .tup hrr (dpAll_takeN _ (dps_same s6 eeach)), ?_⟩
          show (decide ((e.take (e.length - 1)).length ≤ 12) && (e.take (e.length - 1)).all (lstB _ _ (lblk _ _ 3))) = true
          rw [decide_eq_true (by rw [List.length_take]; have := of_decide_eq_true okc.1; omega), Bool.true_and, List.all_eq_true]
          exact fun d hd => List.all_eq_true.mp okc.2 d (List.mem_of_mem_take hd)
      · refine ifF (decide_eq_false (by omega)) ?_
        have hA5 := s35 _ _ (kG3 _ _ nA hA2)
        have kt35 : KT G G5 := fun b u hb n => s35 _ _ (kG3 b u (fun z => by obtain ⟨l, hl⟩ := sG.some; rw [z, hl] at hb; cases hb; exact n _ rfl) hb)
        refine ⟨_, rfl, .inl ⟨rfl, _, SqL.of hA5⟩, _, rfl, A, ws, v, rfl, rfl, hA5, ?_, ?_⟩
        · rw [dpAll_len dpw, ld]
          exact Nat.lt_of_lt_of_le (show _ < 1000 by omega) (show 1000 ≤ sizeLine by decide)
        have ktA : KT G5 (upd G5 A (.lst (ws ++ [v]))) := KT.upd hA5
        have dv5 := dp_kt ktA _ _ (lblk_tup 4 okv) (dp_same s5 dpv)
        refine ⟨ws ++ [v], ds ++ [.tuple e], _, _, rfl, (mv3.sa.same s35).upd nA, fun b u nb nbA hb => ?_, upd_same, dpAll_snoc dv5 (dpAll_kt ktA _ _ tupD (dpAll_kt kt35 _ _ tupD dpw)), by rw [List.length_append, ld]; rfl, fun j d hj => ?_⟩
        · rw [upd_ne nbA]
          exact s35 _ _ (kG3 b u nb (kG b u nb nbA hb))
        · rcases Nat.lt_or_ge j ds.length with hjl | hjl
          · rw [List.getElem?_append_left hjl] at hj
            exact okd j d hj
          · rw [List.getElem?_append_right hjl] at hj
            have hj0 : j - ds.length = 0 := by
              by_cases z : j - ds.length = 0
              · exact z
              · have : ([PyData.tuple e])[j - ds.length]? = none := List.getElem?_eq_none (by show 1 ≤ _; omega)
                rw [this] at hj
                cases hj
            rw [hj0] at hj
            cases hj
            have ej : j = i := by omega
            subst ej
            rw [blk_some, okv, decide_eq_true (by omega)]
            rfl
    · obtain ⟨ws, ds, o8, o9, rfl, sG, kG, hA2, dpw, ld, okd⟩ := h
      have hC2 := kG _ _ nC nCA hC
      have tupD : tupOnlyAll ds = true := tup_all fun d hd => by
        obtain ⟨j, hj⟩ := List.getElem?_of_mem hd
        have z := okd j d hj
        rw [blk_some] at z
        exact lblk_tup 4 (and3 z).1
      have kt0 : KT H G := fun b u hb n => kG b u (fun e => by obtain ⟨l, hl⟩ := hst.some; rw [e, hl] at hb; cases hb; exact n _ rfl) (fun e => by rw [e, hA] at hb; cases hb; exact n _ rfl) hb
      have dpc := dpAll_kt kt0 _ _ (chs_tup chs) hdp
      refine ⟨_, rfl, C, cvs, rfl, .inl ⟨.of hC2, fun p hp => ?_⟩⟩
      have sp := same_new hp (.tup cvs)
      refine ⟨_, rfl, A, ws, rfl, .inl ⟨.of (sp _ _ hA2), fun p2 hp2 => ⟨small (by show 2 ≤ 1000; decide), fun p3 hp3 => ?_⟩⟩⟩
      have sp2 := same_new hp2 (.tup ws)
      have sp3 := same_new hp3 (.tup [.ref p, .ref p2])
      have s23 := sp2.trans sp3
      have s13 := sp.trans s23
      refine q _ (.tuple [.tuple (chs.map mkCh), .tuple ds]) _ ⟨fun b u nb hb => s13 _ _ (kG b u nb (fun e => by rw [e, hA0] at hb; cases hb) (k0 b u nb hb)), sG.same s13⟩ (.tup (.of upd_same) (.cons (.tup (sqT_same s23 (.of upd_same)) (dps_same s13 dpc)) (.cons (.tup (sqT_same sp3 (.of upd_same)) (dps_same s13 dpw)) .nil))) ?_
      show ((decide ((chs.map mkCh).length ≤ 6) && (decide (1 ≤ ds.length) && decide (ds.length ≤ 4))) && ((chs.map mkCh).all (chanD ds.length) && actsB ((chs.map mkCh).map pairD) 0 ds)) = true
      rw [List.length_map, decide_eq_true hl, decide_eq_true (show 1 ≤ ds.length by omega), decide_eq_true (show ds.length ≤ 4 by omega), pairs_of, acts_yes (me := 0) okd, Bool.and_true, Bool.and_true, Bool.and_true, Bool.true_and, List.all_eq_true]
      intro d hd
      obtain ⟨c, hc, rfl⟩ := List.mem_map.mp hd
      have h := hch c hc
      exact chan_ok ⟨h.1, by omega, h.2.2.1, by omega, h.2.2.2.2⟩
  refine ⟨_, rfl, _, rfl, st, M, rfl, hst, by omega, by omega, fun r G0 r0 rM mv0 => ⟨_, _, rfl, rfl, small (Nat.zero_le _), fun C hC => ⟨small (Nat.zero_le _), fun A hA => ⟨_, _, _, rfl, ?_⟩⟩⟩⟩
  have r4 : r < 4 := by omega
  have sC := same_new hC (.lst [])
  have sA := same_new hA (.lst [])
  have nC : C ≠ st := mv0.sa.ne hC
  have nA : A ≠ st := (mv0.sa.same sC).ne hA
  have nCA : C ≠ A := fun e => by rw [← e, upd_same] at hA; cases hA
  have s0 := sC.trans sA
  have mv1 : Mv st H (upd (upd G0 C (.lst [])) A (.lst [])) := mv0.trans ⟨Kp.of_same s0, mv0.sa.same s0⟩
  have hC0 : H C = none := mv0.kp.free nC hC
  have hA0 : H A = none := mv0.kp.free nA (none_of_same sC hA)
  generalize hG1 : upd (upd G0 C (.lst [])) A (.lst []) = G1
  rw [hG1] at mv1
  have hC1 : G1 C = some (.lst []) := by rw [← hG1]; exact sA _ _ upd_same
  have hA1 : G1 A = some (.lst []) := by rw [← hG1]; exact upd_same
  refine ⟨_, rfl, _, _, rfl, rfl, _, rfl, ?_⟩
  by_cases hr0 : 0 < r
  · refine ifT (decide_eq_true (by omega)) ⟨_, rfl, st, 7, rfl, mv1.sa, by decide, by decide, fun r2 G2 r20 r21 mv2 => ⟨r2, rfl, by omega, by omega, ?_⟩⟩
    refine for_range (lo := 0) (n := r2.toNat) (fun i σ G => ∃ (cvs : List V) (chs : List (Int × Int)) (o6 o7 : Option V), σ = [some (.ref st), some (.int M), some (.int L), some (.int (1 + r)), some (.ref C), some (.ref A), o6, o7, none, none] ∧ Mv st H G ∧ G C = some (.lst cvs) ∧ G A = some (.lst []) ∧ DpAll K G cvs (chs.map mkCh) ∧ chs.length = i ∧ ∀ c ∈ chs, 0 ≤ c.1 ∧ c.1 < 1 + r ∧ 0 ≤ c.2 ∧ c.2 < 1 + r ∧ c.1 ≠ c.2)
      ⟨[], [], _, _, rfl, mv1.trans mv2, mv2.kp _ _ nC hC1, mv2.kp _ _ nA hA1, .nil, rfl, fun c hc => (by cases hc)⟩ (fun i σ G hi h => ?_) (fun σ G h => ?_)
    · obtain ⟨cvs, chs, o6, o7, rfl, mvG, hCG, hAG, dpG, lG, okG⟩ := h
      refine ⟨_, rfl, _, rfl, st, 1 + r, rfl, mvG.sa, by omega, by omega, fun one G3 on0 on1 mv3 => ?_⟩
      have hC3 := mv3.kp _ _ nC hCG
      refine ⟨_, rfl, .inl ⟨rfl, _, SqL.of hC3⟩, _, rfl, _, rfl, _, _, rfl, rfl, _, rfl, _, rfl, _, _, rfl, rfl, st, 1 + r - 1, rfl, mv3.sa, by omega, by omega, fun t G4 t0 t1 mv4 => ?_⟩
      have mv34 := mv3.trans mv4
      have hC4 := mv4.kp _ _ nC hC3
      have dp4 := dpAll_kt (mv34.kp.kt mvG.sa) _ _ (chs_tup chs) dpG
      refine ⟨_, _, rfl, rfl, _, rfl, _, _, rfl, rfl, (by show 0 < 1 + r; omega), small (by show 2 ≤ 1000; decide), fun p hp => ?_⟩
      have sp := same_new hp (.tup [.int one, .int ((one + 1 + t) % (1 + r))])
      have hC5 := sp _ _ hC4
      have ktC : KT _ (upd (upd G4 p (.tup [.int one, .int ((one + 1 + t) % (1 + r))])) C (.lst (cvs ++ [.ref p]))) := KT.upd hC5
      have hm0 : 0 ≤ (one + 1 + t) % (1 + r) := Int.emod_nonneg _ (by omega)
      have hm1 : (one + 1 + t) % (1 + r) < 1 + r := Int.emod_lt_of_pos _ (by omega)
      have hne : one ≠ (one + 1 + t) % (1 + r) := by
        by_cases z : one + 1 + t < 1 + r
        · rw [Int.emod_eq_of_lt (by omega) z]
          omega
        · have e : (one + 1 + t) % (1 + r) = one + 1 + t - (1 + r) := by
            rw [← Int.sub_emod_right, Int.emod_eq_of_lt (by omega) (by omega)]
          rw [e]
          omega
      refine ⟨C, cvs, _, rfl, rfl, hC5, ?_, ?_⟩
      · rw [dpAll_len dpG, List.length_map, lG]
        exact Nat.lt_of_lt_of_le (show _ < 1000 by omega) (show 1000 ≤ sizeLine by decide)
      refine ⟨cvs ++ [.ref p], chs ++ [(one, (one + 1 + t) % (1 + r))], _, _, rfl, ⟨fun b u nb hb => ?_, ((mvG.trans mv34).sa.same sp).upd nC⟩, upd_same, ?_, ?_, by rw [List.length_append, lG]; rfl, fun c hc => ?_⟩
      · rw [upd_ne (fun e => by rw [e, hC0] at hb; cases hb)]
        exact sp _ _ ((mvG.trans mv34).kp b u nb hb)
      · rw [upd_ne nCA.symm]
        exact sp _ _ (mv34.kp _ _ nA hAG)
      · rw [chs_app]
        exact dpAll_snoc (dp_kt ktC _ _ rfl (show Dp K _ (.ref p) (mkCh (one, (one + 1 + t) % (1 + r))) from .tup (.of upd_same) (.cons (.int _) (.cons (.int _) .nil)))) (dpAll_kt ktC _ _ (chs_tup chs) (dps_same sp dp4))
      · rcases List.mem_append.mp hc with hc | hc
        · exact okG c hc
        · rw [List.mem_singleton.mp hc]
          exact ⟨on0, on1, hm0, hm1, hne⟩
    · obtain ⟨cvs, chs, o6, o7, rfl, mvG, hCG, hAG, dpG, lG, okG⟩ := h
      exact ⟨M, L, H, st, C, A, r, cvs, chs, _, _, _, _, rfl, L0, L8, mvG.sa, nC, nA, nCA, hCG, hAG, dpG, by omega, okG, r0, r4, mvG.kp, hC0, hA0, q⟩
  · refine ifF (decide_eq_false (by omega)) ⟨0, rfl, by decide, by decide, ?_⟩
    refine for_range (lo := 0) (n := (0 : Int).toNat) (fun i σ G => σ = [some (.ref st), some (.int M), some (.int L), some (.int (1 + r)), some (.ref C), some (.ref A), none, none, none, none] ∧ G = G1) ⟨rfl, rfl⟩ (fun i σ G hi h => absurd hi (Nat.not_lt_zero _)) (fun σ G h => ?_)
    obtain ⟨rfl, rfl⟩ := h
    exact ⟨M, L, H, st, C, A, r, [], [], _, _, _, _, rfl, L0, L8, mv1.sa, nC, nA, nCA, hC1, hA1, .nil, by show 0 ≤ 6; decide, fun c hc => (by cases hc), r0, r4, mv1.kp, hC0, hA0, q⟩
end
/-! the law's own rows -/
def lfS (fb : PyData → Int → Int → List (PyData × List Int)) (d : PyData) (n b : Int) : List (PyData × List Int) := match d with
  | .tuple [.str z, nm, x, y] => if z = "if" then ifR fb nm x y n b else [(.tuple [.str z, nm, x, y], [b])]
  | .tuple [.str z, nm, x] => if z = "while" then whR fb nm x n b else [(.tuple [.str z, nm, x], [b])]
  | d => [(d, [b])]
def lfN : Nat → PyData → Int → Int → List (PyData × List Int)
  | k + 1, .tuple ds, n, b => flP (lfS (lfN k)) (manyS (manyN k)) ds n b ds.length
  | _, _, _, _ => []
def cpR (r : PyData × List Int) : PyData × List Int := (cpD r.1, r.2)
theorem lfS_deed {fb : PyData → Int → Int → List (PyData × List Int)} {z : Str} {ds : List PyData} {n b : Int} (h : z ∉ brL) : lfS fb (.tuple (.str z :: ds)) n b = [(.tuple (.str z :: ds), [b])] := by
  have h1 : z ≠ "if" := fun e => h (by rw [e]; decide +kernel)
  have h2 : z ≠ "while" := fun e => h (by rw [e]; decide +kernel)
  match ds with
  | [] => rfl
  | [_] => rfl
  | [_, _] => exact if_neg h2
  | [_, _, _] => exact if_neg h1
  | _ :: _ :: _ :: _ :: _ => rfl
theorem lfS_if {fb : PyData → Int → Int → List (PyData × List Int)} {nm x y : PyData} {n b : Int} : lfS fb (.tuple [.str "if", nm, x, y]) n b = ifR fb nm x y n b := by
  show (if ("if" : Str) = "if" then ifR fb nm x y n b else [(.tuple [.str "if", nm, x, y], [b])]) = ifR fb nm x y n b
  exact if_pos rfl
theorem lfS_wh {fb : PyData → Int → Int → List (PyData × List Int)} {nm x : PyData} {n b : Int} : lfS fb (.tuple [.str "while", nm, x]) n b = whR fb nm x n b := by
  show (if ("while" : Str) = "while" then whR fb nm x n b else [(.tuple [.str "while", nm, x], [b])]) = whR fb nm x n b
  exact if_pos rfl
theorem cp_tst {nm : PyData} : cpD (tstD nm) = tstD nm := by
  show (if ("test" : Str) ∈ handL then PyData.tuple (.str "test" :: ([nm] ++ [.str "copy"])) else .tuple (.str "test" :: [nm])) = _
  exact if_neg (by decide +kernel)
theorem cpR_tst {nm : PyData} {ns : List Int} : cpR (tstD nm, ns) = (tstD nm, ns) := congrArg (·, ns) cp_tst
theorem empty_map {α β : Type} (f : α → β) (l : List α) : (l.map f).isEmpty = l.isEmpty := by cases l <;> rfl
theorem lfS_map {ss ts : List Int} {fb gb : PyData → Int → Int → List (PyData × List Int)} {bl : PyData → Bool} (h : ∀ x n b, bl x = true → fb x n b = (gb x n b).map cpR) {d : PyData} {n b : Int} (hl : lstB ss ts bl d = true) : flS fb d n b = (lfS gb d n b).map cpR := by
  rcases st_cases hl with ⟨_, nb, z, ds, rfl, hz⟩ | ⟨nm, x, y, rfl, _, hx, hy, hb⟩ | ⟨nm, x, rfl, _, hx, hb⟩
  · rw [flS_deed hz, lfS_deed hz]
    rfl
  · rw [flS_if, lfS_if]
    unfold ifR
    rw [h x _ _ hx, List.length_map, h y _ _ hy, empty_map, empty_map, List.map_cons, cpR_tst, List.map_append]
  · rw [flS_wh, lfS_wh]
    unfold whR
    rw [h x _ _ hx, empty_map, List.map_cons, cpR_tst]
theorem flP_map {fs gs : PyData → Int → Int → List (PyData × List Int)} {sz : PyData → Nat} {ds : List PyData} {n b : Int} (h : ∀ d ∈ ds, ∀ n b, fs d n b = (gs d n b).map cpR) : ∀ j, j ≤ ds.length → flP fs sz ds n b j = (flP gs sz ds n b j).map cpR
  | 0, _ => rfl
  | j + 1, hj => by
    have hd : ds[j]? = some (ds[j]) := List.getElem?_eq_getElem (by omega)
    rw [flP_succ hd, flP_succ hd, List.map_append, flP_map h j (by omega), h _ (List.getElem_mem _)]
theorem lfN_map {ss ts : List Int} : ∀ (k : Nat) {d : PyData} {n b : Int}, lblk ss ts k d = true → flN k d n b = (lfN k d n b).map cpR
  | 0, d, n, b, h => by cases d <;> cases h
  | k + 1, d, n, b, h => by
    cases d with
    | tuple ds =>
      have hl := and3 (show (decide (ds.length ≤ 12) && ds.all (lstB ss ts (lblk ss ts k))) = true from h)
      exact flP_map (fs := flS (flN k)) (gs := lfS (lfN k)) (sz := manyS (manyN k)) (fun d hd n b => lfS_map (fb := flN k) (gb := lfN k) (bl := lblk ss ts k) (fun x n b hx => lfN_map (ss := ss) (ts := ts) k hx) (List.all_eq_true.mp hl.2 d hd)) _ (Nat.le_refl _)
    | _ => cases h
theorem lfN_len {ss ts : List Int} {k : Nat} {d : PyData} {n b : Int} (h : lblk ss ts k d = true) : (lfN k d n b).length = manyN k d := by
  have := flN_len (n := n) (b := b) k h
  rw [lfN_map k h, List.length_map] at this
  exact this
theorem lfB_len {ss ts : List Int} {k : Nat} {d : PyData} {n b : Int} (h : lstB ss ts (lblk ss ts k) d = true) : (lfS (lfN k) d n b).length = manyS (manyN k) d := by
  have := flB_len (n := n) (b := b) h
  rw [lfS_map (fb := flN k) (gb := lfN k) (bl := lblk ss ts k) (fun x n b hx => lfN_map (ss := ss) (ts := ts) k hx) h, List.length_map] at this
  exact this
theorem lfS_tup {ss ts : List Int} {fb : PyData → Int → Int → List (PyData × List Int)} {bl : PyData → Bool} (hf : ∀ (x : PyData) (n b : Int), bl x = true → ∀ r ∈ fb x n b, tupOnly r.1 = true) {d : PyData} {n b : Int} (h : lstB ss ts bl d = true) : ∀ r ∈ lfS fb d n b, tupOnly r.1 = true := by
  intro r hr
  rcases st_cases h with ⟨hd, nb, z, ds, rfl, hz⟩ | ⟨nm, x, y, rfl, hn, hx, hy, hb⟩ | ⟨nm, x, rfl, hn, hx, hb⟩
  · rw [lfS_deed hz] at hr
    rw [List.mem_singleton.mp hr]
    exact deed_tup hd
  · rw [lfS_if] at hr
    unfold ifR at hr
    rcases List.mem_cons.mp hr with rfl | hr
    · exact tst_tup hn
    · rcases List.mem_append.mp hr with hr | hr
      · exact hf x _ _ hx r hr
      · exact hf y _ _ hy r hr
  · rw [lfS_wh] at hr
    unfold whR at hr
    rcases List.mem_cons.mp hr with rfl | hr
    · exact tst_tup hn
    · exact hf x _ _ hx r hr
theorem lfN_tup {ss ts : List Int} : ∀ (k : Nat) {d : PyData} {n b : Int}, lblk ss ts k d = true → ∀ r ∈ lfN k d n b, tupOnly r.1 = true
  | 0, d, n, b, h => by cases d <;> cases h
  | k + 1, d, n, b, h => by
    cases d with
    | tuple ds =>
      have hl := and3 (show (decide (ds.length ≤ 12) && ds.all (lstB ss ts (lblk ss ts k))) = true from h)
      exact flP_tup (fs := lfS (lfN k)) (fun d hd n b => lfS_tup (fb := lfN k) (bl := lblk ss ts k) (fun x n b hx => lfN_tup (ss := ss) (ts := ts) k hx) (List.all_eq_true.mp hl.2 d hd)) (Nat.le_refl _)
    | _ => cases h
theorem manyS_pos {mb : PyData → Nat} {d : PyData} : 1 ≤ manyS mb d := by
  unfold manyS
  split <;> omega
/-- a block is empty just where it has no rows -/
theorem blk_empty {ss ts : List Int} {k : Nat} {es : List PyData} {n b : Int} (h : lblk ss ts k (.tuple es) = true) : (lfN k (.tuple es) n b).isEmpty = es.isEmpty := by
  have l := lfN_len (n := n) (b := b) h
  cases k with
  | zero => cases h
  | succ k =>
    cases es with
    | nil => rfl
    | cons e es =>
      have p : 1 ≤ manyN (k + 1) (.tuple (e :: es)) := by
        show 1 ≤ manyS (manyN k) e + sumM _ es
        have := manyS_pos (mb := manyN k) (d := e)
        omega
      cases q : lfN (k + 1) (.tuple (e :: es)) n b with
      | nil => rw [q] at l; rw [← l] at p; cases p
      | cons _ _ => rfl
section
open PySem.Spec PyProof.Rows LamX
variable {P : Program} {w : World} {K : PySem.W.Frag} {mg : Str → Option Value} {base : Heap} {f : Addr} {fd : FuncData}
def spLF (K : PySem.W.Frag) (n : Nat) : Sp := fun vs H Q _ => ∃ (x : V) (d : PyData) (ss ts : List Int) (a b : Int), vs = [x, .int a, .int b] ∧ Dp K H x d ∧ lblk ss ts n d = true ∧ manyN n d ≤ 40 ∧ ∀ R ws H', Same H H' → H R = none → H' R = some (.lst ws) → DpAll K H' ws ((lfN n d a b).map rowD) → Q (.ref R) H'
abbrev PLF : List Str := ["_law_block_here", "_law_begin", "_law_behind"]
abbrev NLF : List Str := ["_law_block_here", "_law_begin", "_law_behind", "_law_rows", "_law_at", "_law_one", "_law_here", "_law_after", "_law_other", "_law_ways"]
theorem scLF : FnScope NLF PLF (defScope sLFlat) := ⟨rfl, rfl, rfl, by decide +kernel, rfl, by decide +kernel, by decide +kernel⟩
/-- all but the list R stays -/
def ButR (R : Addr) (G G' : Hp) : Prop := ∀ b u, b ≠ R → G b = some u → G' b = some u
/-- a statement's rows put behind those so far -/
def tLFx (K : PySem.W.Frag) (n : Nat) : TS := fun D σ G => ∃ (v0 v1 v2 v4 v8 v9 : Option V) (R : Addr) (v : V) (num af : Int) (ws : List V) (d : PyData) (ss ts : List Int), σ = [v0, v1, v2, some (.ref R), v4, some v, some (.int num), some (.int af), v8, v9] ∧ Dp K G v d ∧ lstB ss ts (lblk ss ts n) d = true ∧ manyS (manyN n) d ≤ 40 ∧ G R = some (.lst ws) ∧ ws.length ≤ 100 ∧
  ∀ R' ws2 G2 v8' v9', ButR R G G2 → (R' = R ∨ G R' = none) → G2 R' = some (.lst (ws ++ ws2)) → DpAll K G2 ws2 ((lfS (lfN n) d num af).map rowD) → D.nx [v0, v1, v2, some (.ref R'), v4, some v, some (.int num), some (.int af), v8', v9'] G2
/-- the same behind the ways of an if -/
def tLF2 (K : PySem.W.Frag) (n : Nat) : TS := fun D σ G => ∃ (v0 v1 v2 v4 : Option V) (R pw da : Addr) (nv xv yv : V) (num af ot n1 n2 : Int) (ws : List V) (nm x y : PyData) (ss ts : List Int), σ = [v0, v1, v2, some (.ref R), v4, some (.ref da), some (.int num), some (.int af), some (.int ot), some (.ref pw)] ∧ SqT K G da [.str "if", nv, xv, yv] ∧ Dp K G nv nm ∧ Dp K G xv x ∧ Dp K G yv y ∧ tupOnly nm = true ∧ tupOnly x = true ∧ tupOnly y = true ∧ lblk ss ts n x = true ∧ lblk ss ts n y = true ∧ 1 + manyN n x + manyN n y ≤ 40 ∧ G R = some (.lst ws) ∧ ws.length ≤ 100 ∧ G pw = some (.tup [.int n1, .int n2]) ∧
  ∀ R' ws2 G2, ButR R G G2 → G R' = none → G2 R' = some (.lst (ws ++ ws2)) → DpAll K G2 ws2 (((tstD nm, [n1, n2]) :: (lfN n x (num + 1) af ++ lfN n y ot af)).map rowD) → D.nx [v0, v1, v2, some (.ref R'), v4, some (.ref da), some (.int num), some (.int af), some (.int ot), some (.ref pw)] G2
theorem but_same {R : Addr} {G G1 G2 : Hp} (a : ButR R G G1) (b : Same G1 G2) : ButR R G G2 := fun c u n h => b c u (a c u n h)
theorem but_kt {R : Addr} {G G1 : Hp} {l : List V} (g : G R = some (.lst l)) (a : ButR R G G1) : KT G G1 := fun b u hb hn => a b u (fun e => by rw [e, g] at hb; cases hb; exact hn _ rfl) hb
theorem blk_is {ss ts : List Int} {n : Nat} {x : PyData} (h : lblk ss ts n x = true) : ∃ es, x = .tuple es := by
  cases n with
  | zero => cases x <;> cases h
  | succ n =>
    cases x with
    | tuple es => exact ⟨es, rfl⟩
    | _ => cases h
theorem but_none {R c : Addr} {G G1 : Hp} {u : HO} (a : ButR R G G1) (g : G1 R = some u) (n : G1 c = none) : G c = none := by
  cases e : G c with
  | none => rfl
  | some v =>
    have := a c v (fun e => by rw [e, g] at n; cases n) e
    rw [n] at this
    cases this
set_option maxHeartbeats 1000000 in
theorem ok_lf {k n : Nat} (F : Fun K "_law_flat" "_law_flat" sLFlat f fd) (T : Free mg) (hE : mg "enumerate" = none) (cM : Cal P w K mg base "_law_many" k ["_law_block_here"] (spMany K n)) (cM1 : Cal P w K mg base "_law_many" k ["_law_block_here"] (spMany K (n + 1))) (cF : Cal P w K mg base "_law_flat" k PLF (spLF K n)) : FnOk P w K mg base CX0 (k + 1) f fd PLF (spLF K (n + 1)) := by
  refine F.ok scLF (fun vs H Q E h => ?_) (fun cdv A outer s H vs Q E hr h => ?_)
  · obtain ⟨x, d, ss, ts, a, b, rfl, _⟩ := h
    rfl
  obtain ⟨x, d, ss, ts, a, b, rfl, hx, hl, h40, q⟩ := h
  refine ⟨_, pss_cons (ps_set (i := 3) scLF.nd rfl (.inl rfl) (pe_lst pa_nil))
    (pss_cons (ps_for PassesOwn.never rfl (pi_enumT rfl hE (pa_cons (pv 0) pa_nil)) (pg_tup rfl (pgs_cons (pg_name (i := 4) scLF.nd rfl (.inl rfl)) (pgs_cons (pg_name (i := 5) scLF.nd rfl (.inl rfl)) pgs_nil)))
      (pss_cons (ps_set (i := 6) scLF.nd rfl (.inl rfl) (pe_op op_add (pv 1) (pe_callB call_len_seq rfl T.len PySem.boot_len (pa_cons (pv 3) pa_nil))))
      (pss_cons (ps_set (i := 7) scLF.nd rfl (.inl rfl) (pe_ifExp (pt_cmpR op_lt (pe_op op_add (pv 4) pe_int) (pe_callB call_len_seq rfl T.len PySem.boot_len (pa_cons (pv 0) pa_nil)) (nomark _)) (pe_op op_add (pv 6) (pe_cal cM1 hr rfl (pa_cons (pe_tup (pa_cons (pv 5) pa_nil)) pa_nil))) (pv 2)))
      (pss_imp (t' := tLFx K n) (pss_one (ps_if (pt_cmpR op_eq (pe_ix ix_tup (pv 5) pe_int (fun _ _ => rfl)) pe_str (nomark _))
        (pss_cons (ps_set (i := 8) scLF.nd rfl (.inl rfl) (pe_op op_add (pe_op op_add (pv 6) pe_int) (pe_cal cM hr rfl (pa_cons (pe_ix ix_tup (pv 5) pe_int (fun _ _ => rfl)) pa_nil))))
        (pss_cons (ps_set (i := 9) scLF.nd rfl (.inl rfl) (pe_tup (pa_cons (pe_ifExp (pt_cmpR (op_neE hr.units) (pe_ix ix_tup (pv 5) pe_int (fun _ _ => rfl)) (pe_tup pa_nil) (nomark _)) (pe_op op_add (pv 6) pe_int) (pv 7)) (pa_cons (pe_ifExp (pt_cmpR (op_neE hr.units) (pe_ix ix_tup (pv 5) pe_int (fun _ _ => rfl)) (pe_tup pa_nil) (nomark _)) (pv 8) (pv 7)) pa_nil))))
        (pss_imp (t' := tLF2 K n) (pss_cons (ps_expr (pe_bm PySem.F.plainAttrs_list PySem.F.slot_list_append PySem.F.type_list_append mt_append (pv 3) (pa_cons (pe_tup (pa_cons (pe_tup (pa_cons pe_str (pa_cons (pe_ix ix_tup (pv 5) pe_int (fun _ _ => rfl)) pa_nil))) (pa_cons (pv 9) pa_nil))) pa_nil)))
          (pss_one (ps_set (i := 3) scLF.nd rfl (.inl rfl) (pe_op op_cat (pe_op op_cat (pv 3) (pe_cal cF hr rfl (pa_cons (pe_ix ix_tup (pv 5) pe_int (fun _ _ => rfl)) (pa_cons (pe_op op_add (pv 6) pe_int) (pa_cons (pv 7) pa_nil))))) (pe_cal cF hr rfl (pa_cons (pe_ix ix_tup (pv 5) pe_int (fun _ _ => rfl)) (pa_cons (pv 8) (pa_cons (pv 7) pa_nil)))))))) (fun D σ G h => ?_))))
        (pss_one (ps_if (pt_cmpR op_eq (pe_ix ix_tup (pv 5) pe_int (fun _ _ => rfl)) pe_str (nomark _))
          (pss_cons (ps_expr (pe_bm PySem.F.plainAttrs_list PySem.F.slot_list_append PySem.F.type_list_append mt_append (pv 3) (pa_cons (pe_tup (pa_cons (pe_tup (pa_cons pe_str (pa_cons (pe_ix ix_tup (pv 5) pe_int (fun _ _ => rfl)) pa_nil))) (pa_cons (pe_tup (pa_cons (pe_ifExp (pt_cmpR (op_neE hr.units) (pe_ix ix_tup (pv 5) pe_int (fun _ _ => rfl)) (pe_tup pa_nil) (nomark _)) (pe_op op_add (pv 6) pe_int) (pv 6)) (pa_cons (pv 7) pa_nil))) pa_nil))) pa_nil)))
          (pss_one (ps_set (i := 3) scLF.nd rfl (.inl rfl) (pe_op op_cat (pv 3) (pe_cal cF hr rfl (pa_cons (pe_ix ix_tup (pv 5) pe_int (fun _ _ => rfl)) (pa_cons (pe_op op_add (pv 6) pe_int) (pa_cons (pv 6) pa_nil))))))))
          (pss_one (ps_expr (pe_bm PySem.F.plainAttrs_list PySem.F.slot_list_append PySem.F.type_list_append mt_append (pv 3) (pa_cons (pe_tup (pa_cons (pv 5) (pa_cons (pe_tup (pa_cons (pv 7) pa_nil)) pa_nil))) pa_nil)))))))) (fun D σ G h => ?_)))))
    (pss_one (ps_ret (pv 3)))), ?_⟩
  · obtain ⟨v0, v1, v2, v4, R, pw, da, nv, xv, yv, num, af, ot, n1, n2, ws, nm, x, y, ss, ts, rfl, dat, dn, dx, dy, tn, tx, ty, lx, ly, h40, gR, l100, gp, q⟩ := h
    refine ⟨_, rfl, .inl ⟨rfl, _, SqL.of gR⟩, _, rfl, da, _, 1, nv, rfl, rfl, dat, atI_at (by decide) rfl, small (by show 2 ≤ 1000; decide), fun p1 q1 => ⟨_, rfl, small (by show 2 ≤ 1000; decide), fun p2 q2 => ?_⟩⟩
    have s1 := same_new q1 (.tup [.str "test", nv])
    have s2 := same_new q2 (.tup [.ref p1, .ref pw])
    have s02 : Same G _ := s1.trans s2
    have gR2 := s02 _ _ gR
    have p2R : p2 ≠ R := fun e => by rw [e, s1 _ _ gR] at q2; cases q2
    have p1R : p1 ≠ R := fun e => by rw [e, gR] at q1; cases q1
    have pwR : pw ≠ R := fun e => by rw [e, gR] at gp; cases gp
    refine ⟨R, _, _, rfl, rfl, gR2, Nat.lt_of_lt_of_le (show ws.length < 1000 by omega) (show 1000 ≤ sizeLine by decide), ?_⟩
    have kt : KT G _ := (KT.of_same s02).trans (KT.upd (l' := ws ++ [.ref p2]) gR2)
    have dat2 := sqT_kt kt dat
    refine ⟨_, rfl, _, rfl, da, _, 2, xv, rfl, rfl, dat2, atI_at (by decide) rfl, _, rfl, _, _, rfl, rfl, _, rfl, xv, x, ss, ts, num + 1, af, rfl, dp_kt kt _ _ tx dx, lx, by omega, fun Ra wa Ga sa fa ga da' => ?_⟩
    have la := dpAll_len da'
    rw [List.length_map, lfN_len lx] at la
    refine ⟨R, Ra, ws ++ [.ref p2], wa, rfl, rfl, sa _ _ upd_same, ga, small (by rw [List.length_append, List.length_singleton]; omega), fun p3 q3 => ?_⟩
    have s3 := same_new q3 (.lst ((ws ++ [.ref p2]) ++ wa))
    have sa3 := sa.trans s3
    refine ⟨_, rfl, da, _, 3, yv, rfl, rfl, sqT_same sa3 dat2, atI_at (by decide) rfl, _, rfl, _, rfl, yv, y, ss, ts, ot, af, rfl, dp_same sa3 (dp_kt kt _ _ ty dy), ly, by omega, fun Rb wb Gb sb fb gb db' => ?_⟩
    have lb := dpAll_len db'
    rw [List.length_map, lfN_len ly] at lb
    refine ⟨p3, Rb, (ws ++ [.ref p2]) ++ wa, wb, rfl, rfl, sb _ _ upd_same, gb, small (by rw [List.length_append, List.length_append, List.length_singleton]; omega), fun p4 q4 => ?_⟩
    have s4 := same_new q4 (.lst (((ws ++ [.ref p2]) ++ wa) ++ wb))
    have sb4 := sb.trans s4
    have sE := sa3.trans sb4
    have bE : ButR R G _ := fun b u n h => sE b u (by rw [upd_ne n]; exact s02 b u h)
    have at1 := sE _ _ (by rw [upd_ne p1R]; exact s2 _ _ upd_same)
    have atw := sE _ _ (by rw [upd_ne pwR]; exact s02 _ _ gp)
    have at2 := sE _ _ (by rw [upd_ne p2R]; exact upd_same)
    refine q p4 (.ref p2 :: (wa ++ wb)) _ bE (none_of_same s02 (by
      have := none_of_same (sa3.trans sb) q4
      rw [upd_ne (fun e => by rw [e, upd_same] at this; cases this)] at this
      exact this)) (by rw [upd_same, List.append_assoc, List.append_assoc]; rfl) ?_
    rw [List.map_cons, List.map_append]
    exact .cons (.tup (SqT.of at2) (.cons (.tup (SqT.of at1) (.cons (.str _) (.cons (dp_same sE (dp_kt kt _ _ tn dn)) .nil))) (.cons (.tup (SqT.of atw) (.cons (.int _) (.cons (.int _) .nil))) .nil))) (dpAll_app (dps_same (s3.trans sb4) da') (dps_same s4 db'))
  · obtain ⟨v0, v1, v2, v4, v8, v9, R, v, num, af, ws, d, ss, ts, rfl, hd, hl, h40, gR, l100, q⟩ := h
    rcases st_cases hl with ⟨hdd, nb, z, ds, rfl, hz⟩ | ⟨nm, x, y, rfl, hn, l1, l2, br⟩ | ⟨nm, x, rfl, hn, l1, br⟩
    · have z1 : z ≠ "if" := fun e => hz (by rw [e]; decide +kernel)
      have z2 : z ≠ "while" := fun e => hz (by rw [e]; decide +kernel)
      rw [lfS_deed hz] at q
      have hd' := hd
      cases hd with
      | @tup da dvs _ dat deach =>
      cases deach with
      | @cons u us _ _ d1 d2 =>
      cases d1
      refine ⟨_, rfl, da, _, 0, _, rfl, rfl, dat, atI_at (by decide) rfl, rfl, _, rfl, ifF (by rw [decV]; exact decide_eq_false z1) ?_⟩
      refine ⟨_, rfl, da, _, 0, _, rfl, rfl, dat, atI_at (by decide) rfl, rfl, _, rfl, ifF (by rw [decV]; exact decide_eq_false z2) ?_⟩
      refine ⟨_, rfl, .inl ⟨rfl, _, SqL.of gR⟩, _, rfl, _, rfl, small (by show 1 ≤ 1000; decide), fun p1 q1 => ⟨small (by show 2 ≤ 1000; decide), fun p2 q2 => ?_⟩⟩
      have s1 := same_new q1 (.tup [.int af])
      have s2 := same_new q2 (.tup [.ref da, .ref p1])
      have s02 : Same G _ := s1.trans s2
      have gR2 := s02 _ _ gR
      have p2R : p2 ≠ R := fun e => by rw [e, s1 _ _ gR] at q2; cases q2
      have p1R : p1 ≠ R := fun e => by rw [e, gR] at q1; cases q1
      refine ⟨R, _, _, rfl, rfl, gR2, Nat.lt_of_lt_of_le (show ws.length < 1000 by omega) (show 1000 ≤ sizeLine by decide), ?_⟩
      have kt : KT G _ := (KT.of_same s02).trans (KT.upd (l' := ws ++ [.ref p2]) gR2)
      refine q R [.ref p2] _ _ _ (fun b u n h => by rw [upd_ne n]; exact s02 b u h) (.inl rfl) upd_same ?_
      exact .cons (.tup (SqT.of (by rw [upd_ne p2R]; exact upd_same)) (.cons (dp_kt kt _ _ (deed_tup hdd) hd') (.cons (.tup (SqT.of (by rw [upd_ne p1R]; exact s2 _ _ upd_same)) (.cons (.int _) .nil)) .nil))) .nil
    · rw [lfS_if] at q
      unfold ifR at q
      rw [lfN_len l1] at q
      rw [manyS_if br] at h40
      cases hd with
      | @tup da dvs _ dat deach =>
      cases deach with
      | @cons u0 _ _ _ e0 r0 =>
      cases e0
      cases r0 with
      | @cons nv _ _ _ dn r1 =>
      cases r1 with
      | @cons xv _ _ _ dx r2 =>
      cases r2 with
      | @cons yv _ _ _ dy r3 =>
      cases r3
      refine ⟨_, rfl, da, _, 0, _, rfl, rfl, dat, atI_at (by decide) rfl, rfl, _, rfl, ifT (by decide +kernel) ?_⟩
      refine ⟨_, rfl, _, _, rfl, rfl, _, rfl, da, _, 2, xv, rfl, rfl, dat, atI_at (by decide) rfl, xv, x, ss, ts, rfl, dx, l1, fun G1 s1 => ⟨_, _, rfl, rfl, ?_⟩⟩
      obtain ⟨es, rfl⟩ := blk_is l1
      obtain ⟨fs, rfl⟩ := blk_is l2
      have e1 := blk_empty (n := num + 1) (b := af) l1
      have e2 := blk_empty (n := num + 1 + (manyN n (.tuple es) : Nat)) (b := af) l2
      rw [e1, e2] at q
      have dx' := dx
      have dy' := dy
      cases dx with
      | @tup xa xs _ xat xeach =>
      cases dy with
      | @tup ya ys _ yat yeach =>
      have ex : xs.isEmpty = es.isEmpty := isE (dpAll_len xeach)
      have ey : ys.isEmpty = fs.isEmpty := isE (dpAll_len yeach)
      have fin : ∀ (n1 n2 : Int) (G2 : Hp) (p : Addr) (v8 v9 : Option V), Same G1 G2 → G2 p = some (.tup [.int n1, .int n2]) → n1 = (if es.isEmpty = true then af else num + 1) → n2 = (if fs.isEmpty = true then af else num + 1 + (manyN n (.tuple es) : Nat)) →
          tLF2 K n D [v0, v1, v2, some (.ref R), v4, some (.ref da), some (.int num), some (.int af), some (.int (num + 1 + (manyN n (.tuple es) : Nat))), some (.ref p)] G2 := fun n1 n2 G2 p v8 v9 s2 gp z1 z2 => by
        have sG := s1.trans s2
        refine ⟨v0, v1, v2, v4, R, p, da, nv, .ref xa, .ref ya, num, af, _, n1, n2, ws, nm, .tuple es, .tuple fs, ss, ts, rfl, sqT_same sG dat, dp_same sG dn, dp_same sG dx', dp_same sG dy', num_tup hn, lblk_tup _ l1, lblk_tup _ l2, l1, l2, h40, sG _ _ gR, l100, gp, fun R' ws2 G3 b3 f3 g3 d3 => ?_⟩
        refine q R' ws2 G3 _ _ (fun b u n h => b3 b u n (sG b u h)) (.inr (none_of_same sG f3)) g3 ?_
        rw [← z1, ← z2]
        exact d3
      have datx := fun {G' : Hp} (s : Same G1 G') => sqT_same (s1.trans s) dat
      refine ⟨_, rfl, da, _, 2, .ref xa, rfl, rfl, sqT_same s1 dat, atI_at (by decide) rfl, small (by show 0 ≤ 1000; decide), fun p1 q1 => ?_⟩
      have t1 := same_new q1 (.tup [])
      refine ⟨xa, p1, xs, rfl, rfl, sqT_same (s1.trans t1) xat, SqT.of upd_same, _, rfl, ?_⟩
      have second : ∀ p2, (upd G1 p1 (.tup [])) p2 = none → Same G1 (upd (upd G1 p1 (.tup [])) p2 (.tup [])) := fun p2 q2 => t1.trans (same_new q2 _)
      cases exe : es.isEmpty with
      | true =>
        refine ifF (by rw [ex, exe]; rfl) ⟨_, rfl, _, rfl, da, _, 3, .ref ya, rfl, rfl, datx t1, atI_at (by decide) rfl, small (by show 0 ≤ 1000; decide), fun p2 q2 => ?_⟩
        have t2 := second p2 q2
        refine ⟨ya, p2, ys, rfl, rfl, sqT_same (s1.trans t2) yat, SqT.of upd_same, _, rfl, ?_⟩
        cases eye : fs.isEmpty with
        | true => exact ifF (by rw [ey, eye]; rfl) ⟨_, rfl, small (by show 2 ≤ 1000; decide), fun p3 q3 => fin _ _ _ p3 v8 v9 (t2.trans (same_new q3 _)) upd_same (by rw [exe]; rfl) (by rw [eye]; rfl)⟩
        | false => exact ifT (by rw [ey, eye]; rfl) ⟨_, rfl, small (by show 2 ≤ 1000; decide), fun p3 q3 => fin _ _ _ p3 v8 v9 (t2.trans (same_new q3 _)) upd_same (by rw [exe]; rfl) (by rw [eye]; rfl)⟩
      | false =>
        refine ifT (by rw [ex, exe]; rfl) ⟨_, rfl, _, _, rfl, rfl, _, rfl, da, _, 3, .ref ya, rfl, rfl, datx t1, atI_at (by decide) rfl, small (by show 0 ≤ 1000; decide), fun p2 q2 => ?_⟩
        have t2 := second p2 q2
        refine ⟨ya, p2, ys, rfl, rfl, sqT_same (s1.trans t2) yat, SqT.of upd_same, _, rfl, ?_⟩
        cases eye : fs.isEmpty with
        | true => exact ifF (by rw [ey, eye]; rfl) ⟨_, rfl, small (by show 2 ≤ 1000; decide), fun p3 q3 => fin _ _ _ p3 v8 v9 (t2.trans (same_new q3 _)) upd_same (by rw [exe]; rfl) (by rw [eye]; rfl)⟩
        | false => exact ifT (by rw [ey, eye]; rfl) ⟨_, rfl, small (by show 2 ≤ 1000; decide), fun p3 q3 => fin _ _ _ p3 v8 v9 (t2.trans (same_new q3 _)) upd_same (by rw [exe]; rfl) (by rw [eye]; rfl)⟩
    · rw [lfS_wh] at q
      unfold whR at q
      rw [manyS_wh br] at h40
      cases hd with
      | @tup da dvs _ dat deach =>
      cases deach with
      | @cons u0 _ _ _ e0 r0 =>
      cases e0
      cases r0 with
      | @cons nv _ _ _ dn r1 =>
      cases r1 with
      | @cons xv _ _ _ dx r2 =>
      cases r2
      obtain ⟨es, rfl⟩ := blk_is l1
      rw [blk_empty (n := num + 1) (b := num) l1] at q
      have dx' := dx
      cases dx' with
      | @tup xa xs _ xat xeach =>
      have ex : xs.isEmpty = es.isEmpty := isE (dpAll_len xeach)
      refine ⟨_, rfl, da, _, 0, _, rfl, rfl, dat, atI_at (by decide) rfl, rfl, _, rfl, ifF (by decide +kernel) ?_⟩
      refine ⟨_, rfl, da, _, 0, _, rfl, rfl, dat, atI_at (by decide) rfl, rfl, _, rfl, ifT (by decide +kernel) ?_⟩
      refine ⟨_, rfl, .inl ⟨rfl, _, SqL.of gR⟩, _, rfl, da, _, 1, nv, rfl, rfl, dat, atI_at (by decide) rfl, small (by show 2 ≤ 1000; decide), fun p1 q1 => ?_⟩
      have s1 := same_new q1 (.tup [.str "test", nv])
      refine ⟨_, rfl, da, _, 2, .ref xa, rfl, rfl, sqT_same s1 dat, atI_at (by decide) rfl, small (by show 0 ≤ 1000; decide), fun p0 q0 => ?_⟩
      have s0 := same_new q0 (.tup [])
      refine ⟨xa, p0, xs, rfl, rfl, sqT_same (s1.trans s0) xat, SqT.of upd_same, _, rfl, ?_⟩
      cases exe : es.isEmpty with
      | true =>
        rw [exe] at q
        refine ifF (by rw [ex, exe]; rfl) ⟨_, rfl, ?_⟩
        refine ⟨_, rfl, small (by show 2 ≤ 1000; decide), fun p2 q2 => ⟨small (by show 2 ≤ 1000; decide), fun p3 q3 => ?_⟩⟩
        have s2 := same_new q2 (.tup [.int num, .int af])
        have s3 := same_new q3 (.tup [.ref p1, .ref p2])
        have s02 : Same G _ := s1.trans (s0.trans s2)
        have s03 : Same G _ := s02.trans s3
        have gR3 := s03 _ _ gR
        have p3R : p3 ≠ R := fun e => by rw [e, s02 _ _ gR] at q3; cases q3
        have p2R : p2 ≠ R := fun e => by rw [e, (s1.trans s0) _ _ gR] at q2; cases q2
        have p1R : p1 ≠ R := fun e => by rw [e, gR] at q1; cases q1
        refine ⟨R, _, _, rfl, rfl, gR3, Nat.lt_of_lt_of_le (show ws.length < 1000 by omega) (show 1000 ≤ sizeLine by decide), ?_⟩
        have kt : KT G _ := (KT.of_same s03).trans (KT.upd (l' := ws ++ [.ref p3]) gR3)
        have dat3 := sqT_kt kt dat
        refine ⟨_, rfl, _, rfl, da, _, 2, .ref xa, rfl, rfl, dat3, atI_at (by decide) rfl, _, rfl, _, _, rfl, rfl, _, rfl, .ref xa, .tuple es, ss, ts, num + 1, num, rfl, dp_kt kt _ _ (lblk_tup _ l1) dx, l1, by omega, fun Ra wa Ga sa fa ga da' => ?_⟩
        have la := dpAll_len da'
        rw [List.length_map, lfN_len l1] at la
        refine ⟨R, Ra, ws ++ [.ref p3], wa, rfl, rfl, sa _ _ upd_same, ga, small (by rw [List.length_append, List.length_singleton]; omega), fun p4 q4 => ?_⟩
        have s4 := same_new q4 (.lst ((ws ++ [.ref p3]) ++ wa))
        have sE := sa.trans s4
        have bE : ButR R G _ := fun b u n h => sE b u (by rw [upd_ne n]; exact s03 b u h)
        have gE := sE _ _ upd_same
        have at1 := sE _ _ (by rw [upd_ne p1R]; exact (s0.trans (s2.trans s3)) _ _ upd_same)
        have at2 := sE _ _ (by rw [upd_ne p2R]; exact s3 _ _ upd_same)
        have at3 := sE _ _ (by rw [upd_ne p3R]; exact upd_same)
        refine q p4 (.ref p3 :: wa) _ _ _ bE (.inr (none_of_same s03 (by
          have := none_of_same sa q4
          rw [upd_ne (fun e => by rw [e, upd_same] at this; cases this)] at this
          exact this))) (by rw [upd_same, List.append_assoc]; rfl) ?_
        exact .cons (.tup (SqT.of at3) (.cons (.tup (SqT.of at1) (.cons (.str _) (.cons (dp_same sE (dp_kt kt _ _ (num_tup hn) dn)) .nil))) (.cons (.tup (SqT.of at2) (.cons (.int _) (.cons (.int _) .nil))) .nil))) (dps_same s4 da')
      | false =>
        rw [exe] at q
        refine ifT (by rw [ex, exe]; rfl) ⟨_, rfl, _, _, rfl, rfl, ?_⟩
        refine ⟨_, rfl, small (by show 2 ≤ 1000; decide), fun p2 q2 => ⟨small (by show 2 ≤ 1000; decide), fun p3 q3 => ?_⟩⟩
        have s2 := same_new q2 (.tup [.int (num + 1), .int af])
        have s3 := same_new q3 (.tup [.ref p1, .ref p2])
        have s02 : Same G _ := s1.trans (s0.trans s2)
        have s03 : Same G _ := s02.trans s3
        have gR3 := s03 _ _ gR
        have p3R : p3 ≠ R := fun e => by rw [e, s02 _ _ gR] at q3; cases q3
        have p2R : p2 ≠ R := fun e => by rw [e, (s1.trans s0) _ _ gR] at q2; cases q2
        have p1R : p1 ≠ R := fun e => by rw [e, gR] at q1; cases q1
        refine ⟨R, _, _, rfl, rfl, gR3, Nat.lt_of_lt_of_le (show ws.length < 1000 by omega) (show 1000 ≤ sizeLine by decide), ?_⟩
        have kt : KT G _ := (KT.of_same s03).trans (KT.upd (l' := ws ++ [.ref p3]) gR3)
        have dat3 := sqT_kt kt dat
        refine ⟨_, rfl, _, rfl, da, _, 2, .ref xa, rfl, rfl, dat3, atI_at (by decide) rfl, _, rfl, _, _, rfl, rfl, _, rfl, .ref xa, .tuple es, ss, ts, num + 1, num, rfl, dp_kt kt _ _ (lblk_tup _ l1) dx, l1, by omega, fun Ra wa Ga sa fa ga da' => ?_⟩
        have la := dpAll_len da'
        rw [List.length_map, lfN_len l1] at la
        refine ⟨R, Ra, ws ++ [.ref p3], wa, rfl, rfl, sa _ _ upd_same, ga, small (by rw [List.length_append, List.length_singleton]; omega), fun p4 q4 => ?_⟩
        have s4 := same_new q4 (.lst ((ws ++ [.ref p3]) ++ wa))
        have sE := sa.trans s4
        have bE : ButR R G _ := fun b u n h => sE b u (by rw [upd_ne n]; exact s03 b u h)
        have gE := sE _ _ upd_same
        have at1 := sE _ _ (by rw [upd_ne p1R]; exact (s0.trans (s2.trans s3)) _ _ upd_same)
        have at2 := sE _ _ (by rw [upd_ne p2R]; exact s3 _ _ upd_same)
        have at3 := sE _ _ (by rw [upd_ne p3R]; exact upd_same)
        refine q p4 (.ref p3 :: wa) _ _ _ bE (.inr (none_of_same s03 (by
          have := none_of_same sa q4
          rw [upd_ne (fun e => by rw [e, upd_same] at this; cases this)] at this
          exact this))) (by rw [upd_same, List.append_assoc]; rfl) ?_
        exact .cons (.tup (SqT.of at3) (.cons (.tup (SqT.of at1) (.cons (.str _) (.cons (dp_same sE (dp_kt kt _ _ (num_tup hn) dn)) .nil))) (.cons (.tup (SqT.of at2) (.cons (.int _) (.cons (.int _) .nil))) .nil))) (dps_same s4 da')
  cases d with
  | tuple ds =>
    have hl2 := and3 (show (decide (ds.length ≤ 12) && ds.all (lstB ss ts (lblk ss ts n))) = true from hl)
    have l12 := of_decide_eq_true hl2.1
    have h40 : sumM (manyS (manyN n)) ds ≤ 40 := h40
    cases hx with
    | @tup ta xs _ at_ each =>
      have lx := dpAll_len each
      refine ⟨small (by show 0 ≤ 1000; decide), fun R fR => ?_⟩
      have n0 := same_new fR (.lst [])
      refine ⟨_, rfl, ta, xs, rfl, sqT_same n0 at_, ?_⟩
      refine for_enumT (xs := xs) (fun j σ G => ∃ (R : Addr) (ws : List V) (o4 o5 o6 o7 o8 o9 : Option V), σ = [some (.ref ta), some (.int a), some (.int b), some (.ref R), o4, o5, o6, o7, o8, o9] ∧ Same H G ∧ H R = none ∧ G R = some (.lst ws) ∧ DpAll K G ws ((flP (lfS (lfN n)) (manyS (manyN n)) ds a b j).map rowD))
        ⟨R, [], _, _, _, _, _, _, rfl, n0, fR, upd_same, .nil⟩ (fun j σ G _ h => by obtain ⟨_, _, _, _, _, _, _, _, _, e, _⟩ := h; exact sqT_same e at_) (fun j v T0 σ G hv h hT => ?_) (fun σ G h => ?_)
      · obtain ⟨R, ws, o4, o5, o6, o7, o8, o9, rfl, sG, fR, gR, dR⟩ := h
        have hj := (List.getElem?_eq_some_iff.mp hv).1
        obtain ⟨d, hd, hdv⟩ := dpAll_get' (dps_same sG each) hv
        have hdm := List.mem_of_getElem? hd
        have jl : j ≤ ds.length := by omega
        have hst := List.all_eq_true.mp hl2.2 d hdm
        have lP := flP_len (fs := lfS (lfN n)) (sz := manyS (manyN n)) (ds := ds) (n := a) (b := b) (fun d hd n' b' => lfB_len (List.all_eq_true.mp hl2.2 d hd)) j (by omega)
        have lw := dpAll_len dR
        rw [List.length_map, lP] at lw
        have st := sumM_takes (m := manyS (manyN n)) ds j
        have sd := sumM_mem (m := manyS (manyN n)) hdm
        have nT := same_new hT (.tup [.int (j : Nat), v])
        have gR1 := nT _ _ gR
        refine ⟨T0, _, rfl, SqT.of upd_same, rfl, _, _, rfl, _, _, rfl, rfl, ?_⟩
        refine ⟨_, rfl, _, rfl, R, ws, rfl, .inl (SqL.of gR1), _, _, rfl, rfl, ?_⟩
        refine ⟨_, rfl, _, _, rfl, rfl, _, rfl, ta, xs, rfl, .inr (sqT_same (sG.trans nT) at_), _, _, rfl, rfl, _, rfl, ?_⟩
        have rest : ∀ (G1 : Hp) (af : Int), Same (upd G T0 (.tup [.int (j : Nat), v])) G1 → af = (if j + 1 < ds.length then a + (sumM (manyS (manyN n)) (ds.take (j + 1)) : Nat) else b) → ∀ (R' : Addr) (ws2 : List V) (G2 : Hp) (v8 v9 : Option V), ButR R G1 G2 → (R' = R ∨ G1 R' = none) → G2 R' = some (.lst (ws ++ ws2)) → DpAll K G2 ws2 ((lfS (lfN n) d (a + (ws.length : Int)) af).map rowD) →
            ∃ (Rn : Addr) (wn : List V) (o4 o5 o6 o7 o8 o9 : Option V), [some (.ref ta), some (.int a), some (.int b), some (.ref R'), some (.int (j : Nat)), some v, some (.int (a + (ws.length : Int))), some (.int af), v8, v9] = [some (.ref ta), some (.int a), some (.int b), some (.ref Rn), o4, o5, o6, o7, o8, o9] ∧ Same H G2 ∧ H Rn = none ∧ G2 Rn = some (.lst wn) ∧ DpAll K G2 wn ((flP (lfS (lfN n)) (manyS (manyN n)) ds a b (j + 1)).map rowD) := fun G1 af s1 eaf R' ws2 G2 v8 v9 b2 c2 g2 d2 => by
          have sA := sG.trans (nT.trans s1)
          have sH : Same H G2 := fun c u hc => b2 c u (fun e => by rw [e, fR] at hc; cases hc) (sA c u hc)
          have fR' : H R' = none := by
            rcases c2 with rfl | c2
            · exact fR
            · exact none_of_same sA c2
          refine ⟨R', ws ++ ws2, _, _, _, _, _, _, rfl, sH, fR', g2, ?_⟩
          rw [flP_succ hd, List.map_append, ← eaf, ← lP, show ((flP (lfS (lfN n)) (manyS (manyN n)) ds a b j).length : Int) = (ws.length : Int) by rw [lP]; omega]
          have gR2 := (nT.trans s1) _ _ gR
          exact dpAll_app (dpAll_kt (but_kt gR2 b2) _ _ (rows_tup (flP_tup (fun d hd n' b' => lfS_tup (fb := lfN n) (bl := lblk ss ts n) (fun x n' b hx => lfN_tup (ss := ss) (ts := ts) n hx) (List.all_eq_true.mp hl2.2 d hd)) jl)) (dps_same (nT.trans s1) dR)) d2
        by_cases c : j + 1 < ds.length
        · have one : lblk ss ts (n + 1) (.tuple [d]) = true := by
            show (decide (1 ≤ 12) && (lstB ss ts (lblk ss ts n) d && true)) = true
            rw [hst]
            rfl
          refine ifT (by rw [decide_eq_true_eq]; omega) ⟨_, rfl, _, rfl, small (by show 1 ≤ 1000; decide), fun p hp => ?_⟩
          have sp := same_new hp (.tup [v])
          refine ⟨.ref p, .tuple [d], ss, ts, rfl, .tup (SqT.of upd_same) (.cons (dp_same (nT.trans sp) hdv) .nil), one, fun G1 s1 => ⟨_, _, rfl, rfl, ?_⟩⟩
          have s1' := sp.trans s1
          refine ⟨_, _, _, _, _, _, R, v, _, _, ws, d, ss, ts, rfl, dp_same (nT.trans s1') hdv, hst, by omega, (nT.trans s1') _ _ gR, by omega, fun R' ws2 G2 v8 v9 b2 c2 g2 d2 => rest G1 _ s1' ?_ R' ws2 G2 v8 v9 b2 c2 g2 d2⟩
          rw [if_pos c, take_more hd, sumM_snoc, show manyN (n + 1) (.tuple [d]) = manyS (manyN n) d from Nat.add_zero _]
          omega
        · refine ifF (by rw [decide_eq_false_iff_not]; omega) ⟨_, rfl, ?_⟩
          exact ⟨_, _, _, _, _, _, R, v, _, _, ws, d, ss, ts, rfl, dp_same nT hdv, hst, by omega, gR1, by omega, fun R' ws2 G2 v8 v9 b2 c2 g2 d2 => rest _ _ (Same.refl _) (by rw [if_neg c]) R' ws2 G2 v8 v9 b2 c2 g2 d2⟩
      · obtain ⟨R, ws, o4, o5, o6, o7, o8, o9, rfl, sG, fR, gR, dR⟩ := h
        rw [lx] at dR
        exact ⟨_, rfl, q R ws G sG fR gR dR⟩
  | _ => cases hl
theorem all_lf {k : Nat} (F : Fun K "_law_flat" "_law_flat" sLFlat f fd) (hm : mg "_law_flat" = some (.ref f)) (hb : Binds K fd PLF []) (T : Free mg) (hE : mg "enumerate" = none) (cM : ∀ n, n ≤ 4 → Cal P w K mg base "_law_many" k ["_law_block_here"] (spMany K n)) : ∀ n, n ≤ 4 → FnOk P w K mg base CX0 (k + n) f fd PLF (spLF K n)
  | 0, _ => ⟨(fun vs H Q E h => by obtain ⟨x, d, ss, ts, a, b, _, _, h, _⟩ := h; cases d <;> cases h), (fun A outer s H args us vs Q E hr he hb hv h => by obtain ⟨x, d, ss, ts, a, b, _, _, h, _⟩ := h; cases d <;> cases h)⟩
  | n + 1, hn => ok_lf (k := k + n) F T hE ((cM n (by omega)).mono (by omega)) ((cM (n + 1) hn).mono (by omega)) ⟨f, fd, all_lf F hm hb T hE cM n (by omega), hm, F.kp, hb⟩
end
/-! _law_marked, _law_ends_of_blocks -/
abbrev eobO : PyData := .tuple [.str "tell", .str "a"]
abbrev eobN : PyData := .tuple []
abbrev eobI : PyData := .tuple [.str "if", .str "a", eobN, .tuple [.tuple [.str "while", .str "b", eobN]]]
def eob1 : List PyData := [.tuple [.tuple [.str "while", .str "a", eobN]], .tuple [.tuple [.str "if", .str "a", eobN, eobN]], .tuple [.tuple [.str "if", .str "a", .tuple [eobO], eobN], eobO]]
def eob2 : List PyData := [.tuple [eobI, eobI]]
def eob3 : List PyData := [.tuple [.tuple [.str "while", .str "a", .tuple [eobI, .tuple [.str "while", .str "b", .tuple [eobO, .tuple [.str "if", .str "b", eobN, .tuple [eobO]]]]]]]]
def eob4 : List PyData := [eobN, .tuple [eobO, eobO], .tuple [.tuple [.str "if", .str "b", .tuple [eobI], .tuple [eobO]]]]
def eobA : PyData := .tuple [.tuple [], .tuple ((eob1 ++ eob2 ++ eob3 ++ eob4).take 4)]
def eobB : PyData := .tuple [.tuple [], .tuple ((eob1 ++ eob2 ++ eob3 ++ eob4).drop 4)]
theorem eobA_net : netD eobA = true := by decide +kernel
theorem eobB_net : netD eobB = true := by decide +kernel
theorem dps_of {K : PySem.W.Frag} {H : Hp} {vs ws : List V} {ds : List PyData} (e : vs = ws) (h : DpAll K H vs ds) : DpAll K H ws ds := e ▸ h
theorem len8 {α : Type} {l : List α} (h : l.length = 8) : ∃ a0 a1 a2 a3 a4 a5 a6 a7, l = [a0, a1, a2, a3, a4, a5, a6, a7] := by
  match l, h with
  | [a0, a1, a2, a3, a4, a5, a6, a7], _ => exact ⟨a0, a1, a2, a3, a4, a5, a6, a7, rfl⟩
section
variable {K : PySem.W.Frag} {L : List (Nat × PyData)}
theorem set_go {t : TE} {d : PyData} {i : Nat} {u : TS} {D : Ends} {σ : L2.St} {H : Hp} (h : Mk K L t d) (env : EnvD K L σ H) (q : ∀ v H', Same H H' → Dp K H' v d → u D (σ.set i (some v)) H') : tSeq (tAsg t (gName i)) u D σ H := h σ H _ env q
theorem app_go {t : TE} {d : PyData} {es : List PyData} {i : Nat} {u : TS} {D : Ends} {σ : L2.St} {H : Hp} {p : Addr} {vs : List V} (h : Mk K L t d) (env : EnvD K L σ H) (hi : σ[i]? = some (some (.ref p))) (hp : H p = some (.lst vs)) (hd : DpAll K H vs es) (hl : es.length ≤ 900) (hn : tupOnlyAll (es ++ [d]) = true)
    (q : ∀ ws H', H' p = some (.lst ws) → DpAll K H' ws (es ++ [d]) → KT H H' → (∀ b u, b ≠ p → H b = some u → H' b = some u) → u D σ H') : tSeq (tDrop (tBM K "list" rAppend (tVar i) (tCons t tNil))) u D σ H :=
  ⟨_, hi, .inl ⟨rfl, _, SqL.of hp⟩, h σ H _ env fun v H1 s1 d1 => ⟨p, vs, v, rfl, rfl, s1 _ _ hp, (by rw [dpAll_len hd]; exact Nat.lt_of_lt_of_le (show _ < 1000 by omega) (show 1000 ≤ sizeLine by decide)), by
    have kt : KT H1 (upd H1 p (.lst (vs ++ [v]))) := KT.upd (s1 _ _ hp)
    have dd : DpAll K H1 (vs ++ [v]) (es ++ [d]) := dpAll_snoc d1 (dps_same s1 hd)
    exact q _ _ upd_same (dpAll_kt kt _ _ hn dd) ((KT.of_same s1).trans kt) fun b u nb hb => by rw [upd_ne nb]; exact s1 _ _ hb⟩⟩
end
section
open PySem.Spec PyProof.Rows LamX
variable {P : Program} {w : World} {K : PySem.W.Frag} {mg : Str → Option Value} {base : Heap} {f : Addr} {fd : FuncData}
def spMarked (K : PySem.W.Frag) : Sp := fun vs H Q _ => ∃ (x : V) (r : PyData × List Int) (z : Str) (ds : List PyData), vs = [x] ∧ Dp K H x (rowD r) ∧ r.1 = .tuple (.str z :: ds) ∧ ds.length ≤ 100 ∧ ∀ y H', Same H H' → Dp K H' y (rowD (cpR r)) → Q y H'
abbrev NMarked : List Str := ["_law_row", "_law_deed", "_law_nexts"]
theorem scMarked : FnScope NMarked ["_law_row"] (defScope sMarked) := ⟨rfl, rfl, rfl, by decide +kernel, rfl, by decide +kernel, by decide +kernel⟩
theorem ok_marked {k : Nat} (F : Fun K "_law_marked" "_law_marked" sMarked f fd) : FnOk P w K mg base CX0 (k + 1) f fd ["_law_row"] (spMarked K) := by
  refine F.ok scMarked (fun vs H Q E h => ?_) (fun cdv A outer s H vs Q E hr h => ?_)
  · obtain ⟨x, r, z, ds, rfl, _⟩ := h
    rfl
  obtain ⟨x, r, z, ds, rfl, hx, er, l100, q⟩ := h
  refine ⟨_, pss_cons (ps_asg (pv 0) (pg_tup rfl (pgs_cons (pg_name (i := 1) scMarked.nd rfl (.inl rfl)) (pgs_cons (pg_name (i := 2) scMarked.nd rfl (.inl rfl)) pgs_nil))))
    (pss_one (ps_ret (pe_tup (pa_cons (pe_ifExp (pt_cmpR op_in_seq (pe_ix ix_tup (pv 1) pe_int (fun _ _ => rfl)) (pe_tup (pa_cons pe_str (pa_cons pe_str (pa_cons pe_str (pa_cons pe_str pa_nil))))) rfl) (pe_op op_catA (pv 1) (pe_tup (pa_cons pe_str pa_nil))) (pv 1)) (pa_cons (pv 2) pa_nil))))), ?_⟩
  obtain ⟨ra, y1, y2, rfl, rat, g1, g2⟩ := row_split (d := r.1) (ns := r.2) hx
  have e2 : cpR r = (cpD (.tuple (.str z :: ds)), r.2) := by unfold cpR; rw [er]
  rw [er] at g1
  rw [e2] at q
  refine ⟨_, rfl, ra, _, rfl, rat, rfl, _, _, rfl, _, _, rfl, rfl, ?_⟩
  have g1' := g1
  cases g1 with
  | @tup ta xs _ at_ each =>
  have lx := dpAll_len each
  rw [List.length_cons] at lx
  cases each with
  | @cons u us _ _ d1 d2 =>
  cases d1
  refine ⟨_, rfl, ta, _, 0, _, rfl, rfl, at_, atI_at (by decide) rfl, small (by show 4 ≤ 1000; decide), fun p hp => ⟨p, _, rfl, .inr (SqT.of upd_same), rfl, flat_strs handL, _, rfl, ?_⟩⟩
  have sp := same_new hp (.tup (handL.map V.str))
  rw [if_neg (by decide), show inV (V.str z) [V.str "let", V.str "hang", V.str "pick", V.str "send"] = decide (z ∈ handL) from inV_strs z handL]
  by_cases c : z ∈ handL
  · rw [show cpD (.tuple (.str z :: ds)) = .tuple (.str z :: (ds ++ [.str "copy"])) from if_pos c] at q
    refine ifT (decide_eq_true c) ⟨_, rfl, small (by show 1 ≤ 1000; decide), fun p1 q1 => ?_⟩
    have s1 := same_new q1 (.tup [.str "copy"])
    refine ⟨ta, p1, _, _, rfl, rfl, sqT_same (sp.trans s1) at_, SqT.of upd_same, small (by rw [List.length_cons] at lx ⊢; show _ + 1 ≤ 1000; omega), fun e => (by cases e), fun _ e => (by cases e), fun _ _ p2 q2 => ?_⟩
    have s2 := same_new q2 (.tup ((.str z :: us) ++ [.str "copy"]))
    refine ⟨_, rfl, small (by show 2 ≤ 1000; decide), fun p3 q3 => ?_⟩
    have s3 := same_new q3 (.tup [.ref p2, y2])
    have sA := sp.trans (s1.trans (s2.trans s3))
    exact q _ _ sA (.tup (SqT.of upd_same) (.cons (.tup (SqT.of (s3 _ _ upd_same)) (.cons (.str _) (dpAll_app (dps_same sA d2) (.cons (.str _) .nil)))) (.cons (dp_same sA g2) .nil)))
  · rw [show cpD (.tuple (.str z :: ds)) = .tuple (.str z :: ds) from if_neg c] at q
    refine ifF (decide_eq_false c) ⟨_, rfl, _, rfl, small (by show 2 ≤ 1000; decide), fun p3 q3 => ?_⟩
    have s3 := same_new q3 (.tup [.ref ta, y2])
    have sA := sp.trans s3
    exact q _ _ sA (.tup (SqT.of upd_same) (.cons (dp_same sA g1') (.cons (dp_same sA g2) .nil)))
def spEob (K : PySem.W.Frag) : Sp := fun vs H Q _ => vs = [] ∧ ∀ p v1 v2 H', Same H H' → H p = none → H' p = some (.lst [v1, v2]) → Dp K H' v1 eobA → Dp K H' v2 eobB → Q (.ref p) H'
abbrev NEob : List Str := ["_law_one", "_law_none", "_law_inner", "_law_rows"]
theorem scEob : FnScope NEob [] (defScope sEob) := ⟨rfl, rfl, rfl, by decide +kernel, rfl, by decide +kernel, by decide +kernel⟩
set_option maxHeartbeats 0 in
theorem ok_eob {k : Nat} (F : Fun K "_law_ends_of_blocks" "_law_ends_of_blocks" sEob f fd) (T : Free mg) : FnOk P w K mg base CX0 (k + 1) f fd [] (spEob K) := by
  refine F.ok scEob (fun vs H Q E h => ?_) (fun cdv A outer s H vs Q E hr h => ?_)
  · obtain ⟨rfl, _⟩ := h
    rfl
  obtain ⟨rfl, q⟩ := h
  refine ⟨_, pss_cons (ps_asg (pe_tup (pa_cons (pe_tup (pa_cons pe_str (pa_cons pe_str pa_nil))) (pa_cons (pe_tup pa_nil) pa_nil))) (pg_tup rfl (pgs_cons (pg_name (i := 0) scEob.nd rfl (.inl rfl)) (pgs_cons (pg_name (i := 1) scEob.nd rfl (.inl rfl)) pgs_nil))))
    (pss_cons (ps_set (i := 2) scEob.nd rfl (.inl rfl) (pe_tup (pa_cons pe_str (pa_cons pe_str (pa_cons (pv 1) (pa_cons (pe_tup (pa_cons (pe_tup (pa_cons pe_str (pa_cons pe_str (pa_cons (pv 1) pa_nil)))) pa_nil)) pa_nil))))))
    (pss_cons (ps_set (i := 3) scEob.nd rfl (.inl rfl) (pe_lst (pa_cons (pe_tup (pa_cons (pe_tup (pa_cons pe_str (pa_cons pe_str (pa_cons (pv 1) pa_nil)))) pa_nil)) (pa_cons (pe_tup (pa_cons (pe_tup (pa_cons pe_str (pa_cons pe_str (pa_cons (pv 1) (pa_cons (pv 1) pa_nil))))) pa_nil)) (pa_cons (pe_tup (pa_cons (pe_tup (pa_cons pe_str (pa_cons pe_str (pa_cons (pe_tup (pa_cons (pv 0) pa_nil)) (pa_cons (pv 1) pa_nil))))) (pa_cons (pv 0) pa_nil))) pa_nil)))))
    (pss_cons (ps_expr (pe_bm PySem.F.plainAttrs_list PySem.F.slot_list_append PySem.F.type_list_append mt_append (pv 3) (pa_cons (pe_tup (pa_cons (pv 2) (pa_cons (pv 2) pa_nil))) pa_nil)))
    (pss_cons (ps_expr (pe_bm PySem.F.plainAttrs_list PySem.F.slot_list_append PySem.F.type_list_append mt_append (pv 3) (pa_cons (pe_tup (pa_cons (pe_tup (pa_cons pe_str (pa_cons pe_str (pa_cons (pe_tup (pa_cons (pv 2) (pa_cons (pe_tup (pa_cons pe_str (pa_cons pe_str (pa_cons (pe_tup (pa_cons (pv 0) (pa_cons (pe_tup (pa_cons pe_str (pa_cons pe_str (pa_cons (pv 1) (pa_cons (pe_tup (pa_cons (pv 0) pa_nil)) pa_nil))))) pa_nil))) pa_nil)))) pa_nil))) pa_nil)))) pa_nil)) pa_nil)))
    (pss_cons (ps_set (i := 3) scEob.nd rfl (.inl rfl) (pe_op op_cat (pv 3) (pe_lst (pa_cons (pv 1) (pa_cons (pe_tup (pa_cons (pv 0) (pa_cons (pv 0) pa_nil))) (pa_cons (pe_tup (pa_cons (pe_tup (pa_cons pe_str (pa_cons pe_str (pa_cons (pe_tup (pa_cons (pv 2) pa_nil)) (pa_cons (pe_tup (pa_cons (pv 0) pa_nil)) pa_nil))))) pa_nil)) pa_nil))))))
    (pss_one (ps_ret (pe_lst (pa_cons (pe_tup (pa_cons (pe_tup pa_nil) (pa_cons (pe_callTy call_tuple_of rfl T.tuple (by decide +kernel) (pa_cons (pe_slice sl_list (pv 3) po_none (po_some pe_int)) pa_nil)) pa_nil))) (pa_cons (pe_tup (pa_cons (pe_tup pa_nil) (pa_cons (pe_callTy call_tuple_of rfl T.tuple (by decide +kernel) (pa_cons (pe_slice sl_list (pv 3) (po_some pe_int) po_none) pa_nil)) pa_nil))) pa_nil)))))))))), ?_⟩
  refine ⟨small (by show 2 ≤ 1000; decide), fun p1 q1 => ⟨small (Nat.zero_le _), fun p2 q2 => ⟨small (by show 2 ≤ 1000; decide), fun p3 q3 => ?_⟩⟩⟩
  have s1 := same_new q1 (.tup [.str "tell", .str "a"])
  have s2 := same_new q2 (.tup [])
  have s3 := same_new q3 (.tup [.ref p1, .ref p2])
  refine ⟨p3, _, rfl, SqT.of upd_same, rfl, _, _, rfl, _, _, rfl, rfl, ?_⟩
  have e0 : Dp K _ (.ref p1) eobO := .tup (SqT.of ((s2.trans s3) _ _ upd_same)) (.cons (.str _) (.cons (.str _) .nil))
  have e1 : Dp K _ (.ref p2) eobN := .tup (SqT.of (s3 _ _ upd_same)) .nil
  have t0 := s1.trans (s2.trans s3)
  refine set_go (K := K) (L := [(0, eobO), (1, eobN)]) (d := eobI) (mk_tup (mka_cons mk_str (mka_cons mk_str (mka_cons (mk_var (by simp)) (mka_cons (mk_tup (mka_cons (mk_tup (mka_cons mk_str (mka_cons mk_str (mka_cons (mk_var (by simp)) mka_nil))) (by simp)) mka_nil) (by simp)) mka_nil)))) (by simp)) (fun p hp => by
    simp only [List.mem_cons, List.not_mem_nil, or_false] at hp
    rcases hp with rfl | rfl
    · exact ⟨_, rfl, e0⟩
    · exact ⟨_, rfl, e1⟩) fun v2 G1 t1 e2 => ?_
  have e0 := dp_same t1 e0
  have e1 := dp_same t1 e1
  have sG := t0.trans t1
  refine setl_go (K := K) (L := [(0, eobO), (1, eobN), (2, eobI)]) (ds := eob1) (mka_cons (mk_tup (mka_cons (mk_tup (mka_cons mk_str (mka_cons mk_str (mka_cons (mk_var (by simp)) mka_nil))) (by simp)) mka_nil) (by simp)) (mka_cons (mk_tup (mka_cons (mk_tup (mka_cons mk_str (mka_cons mk_str (mka_cons (mk_var (by simp)) (mka_cons (mk_var (by simp)) mka_nil)))) (by simp)) mka_nil) (by simp)) (mka_cons (mk_tup (mka_cons (mk_tup (mka_cons mk_str (mka_cons mk_str (mka_cons (mk_tup (mka_cons (mk_var (by simp)) mka_nil) (by simp)) (mka_cons (mk_var (by simp)) mka_nil)))) (by simp)) (mka_cons (mk_var (by simp)) mka_nil)) (by simp)) mka_nil))) (by decide) (fun p hp => by
    simp only [List.mem_cons, List.not_mem_nil, or_false] at hp
    rcases hp with rfl | rfl | rfl
    · exact ⟨_, rfl, e0⟩
    · exact ⟨_, rfl, e1⟩
    · exact ⟨_, rfl, e2⟩) fun ws G2 R t2 dR nR => ?_
  have g2 := same_new nR (.lst ws)
  have t := t2.trans g2
  have e0 := dp_same t e0
  have e1 := dp_same t e1
  have e2 := dp_same t e2
  have dR := dps_same g2 dR
  have hR : upd G2 R (.lst ws) R = some (.lst ws) := upd_same
  have zR : H R = none := none_of_same (sG.trans t2) nR
  have sG := sG.trans t
  generalize upd G2 R (.lst ws) = G3 at sG e0 e1 e2 dR hR ⊢
  refine app_go (K := K) (L := [(0, eobO), (1, eobN), (2, eobI)]) (d := .tuple [eobI, eobI]) (es := eob1) (mk_tup (mka_cons (mk_var (by simp)) (mka_cons (mk_var (by simp)) mka_nil)) (by simp)) (fun p hp => by
    simp only [List.mem_cons, List.not_mem_nil, or_false] at hp
    rcases hp with rfl | rfl | rfl
    · exact ⟨_, rfl, e0⟩
    · exact ⟨_, rfl, e1⟩
    · exact ⟨_, rfl, e2⟩) rfl hR dR (by decide) (by decide +kernel) fun ws G4 hR dR kt k => ?_
  have e0 := dp_kt kt _ _ (by decide +kernel) e0
  have e1 := dp_kt kt _ _ (by decide +kernel) e1
  have e2 := dp_kt kt _ _ (by decide +kernel) e2
  have sG : Same H G4 := fun b u hb => k b u (fun e => by rw [e, zR] at hb; cases hb) (sG b u hb)
  have dR : DpAll K G4 ws (eob1 ++ eob2) := dR
  clear kt k
  refine app_go (K := K) (L := [(0, eobO), (1, eobN), (2, eobI)]) (d := .tuple [.tuple [.str "while", .str "a", .tuple [eobI, .tuple [.str "while", .str "b", .tuple [eobO, .tuple [.str "if", .str "b", eobN, .tuple [eobO]]]]]]]) (es := eob1 ++ eob2) (mk_tup (mka_cons (mk_tup (mka_cons mk_str (mka_cons mk_str (mka_cons (mk_tup (mka_cons (mk_var (by simp)) (mka_cons (mk_tup (mka_cons mk_str (mka_cons mk_str (mka_cons (mk_tup (mka_cons (mk_var (by simp)) (mka_cons (mk_tup (mka_cons mk_str (mka_cons mk_str (mka_cons (mk_var (by simp)) (mka_cons (mk_tup (mka_cons (mk_var (by simp)) mka_nil) (by simp)) mka_nil)))) (by simp)) mka_nil)) (by simp)) mka_nil))) (by simp)) mka_nil)) (by simp)) mka_nil))) (by simp)) mka_nil) (by simp)) (fun p hp => by
    simp only [List.mem_cons, List.not_mem_nil, or_false] at hp
    rcases hp with rfl | rfl | rfl
    · exact ⟨_, rfl, e0⟩
    · exact ⟨_, rfl, e1⟩
    · exact ⟨_, rfl, e2⟩) rfl hR dR (by decide) (by decide +kernel) fun ws G5 hR dR kt k => ?_
  have e0 := dp_kt kt _ _ (by decide +kernel) e0
  have e1 := dp_kt kt _ _ (by decide +kernel) e1
  have e2 := dp_kt kt _ _ (by decide +kernel) e2
  have sG : Same H G5 := fun b u hb => k b u (fun e => by rw [e, zR] at hb; cases hb) (sG b u hb)
  have dR : DpAll K G5 ws (eob1 ++ eob2 ++ eob3) := dR
  clear kt k
  refine setc_go (K := K) (L := [(0, eobO), (1, eobN), (2, eobI)]) (ds := eob4) (es := eob1 ++ eob2 ++ eob3) (mka_cons (mk_var (by simp)) (mka_cons (mk_tup (mka_cons (mk_var (by simp)) (mka_cons (mk_var (by simp)) mka_nil)) (by simp)) (mka_cons (mk_tup (mka_cons (mk_tup (mka_cons mk_str (mka_cons mk_str (mka_cons (mk_tup (mka_cons (mk_var (by simp)) mka_nil) (by simp)) (mka_cons (mk_tup (mka_cons (mk_var (by simp)) mka_nil) (by simp)) mka_nil)))) (by simp)) mka_nil) (by simp)) mka_nil))) (by decide) (fun p hp => by
    simp only [List.mem_cons, List.not_mem_nil, or_false] at hp
    rcases hp with rfl | rfl | rfl
    · exact ⟨_, rfl, e0⟩
    · exact ⟨_, rfl, e1⟩
    · exact ⟨_, rfl, e2⟩) rfl hR dR fun ws G6 R2 t6 n6 hR6 dR6 => ?_
  have sG := sG.trans t6
  have l8 := dpAll_len dR6
  have l8 : ws.length = 8 := l8
  refine ⟨small (Nat.zero_le _), fun p1 q1 => ?_⟩
  have s1 := same_new q1 (.tup [])
  refine ⟨_, rfl, _, rfl, R2, ws, rfl, SqL.of (s1 _ _ hR6), fun p2 q2 => ?_⟩
  have s2 := same_new q2 (.lst (cutV ws none (some 4)))
  refine ⟨p2, _, rfl, .inl ⟨SqL.of upd_same, fun p3 q3 => ?_⟩⟩
  have s3 := same_new q3 (.tup (cutV ws none (some 4)))
  refine ⟨small (by show 2 ≤ 1000; decide), fun p4 q4 => ?_⟩
  have s4 := same_new q4 (.tup [.ref p1, .ref p3])
  have s14 := s1.trans (s2.trans (s3.trans s4))
  refine ⟨small (Nat.zero_le _), fun p5 q5 => ?_⟩
  have s5 := same_new q5 (.tup [])
  refine ⟨_, rfl, _, rfl, R2, ws, rfl, SqL.of ((s14.trans s5) _ _ hR6), fun p6 q6 => ?_⟩
  have s6 := same_new q6 (.lst (cutV ws (some 4) none))
  refine ⟨p6, _, rfl, .inl ⟨SqL.of upd_same, fun p7 q7 => ?_⟩⟩
  have s7 := same_new q7 (.tup (cutV ws (some 4) none))
  refine ⟨small (by show 2 ≤ 1000; decide), fun p8 q8 => ?_⟩
  have s8 := same_new q8 (.tup [.ref p5, .ref p7])
  refine ⟨small (by show 2 ≤ 1000; decide), fun p9 q9 => ?_⟩
  have s9 := same_new q9 (.lst [.ref p4, .ref p8])
  have s89 := s8.trans s9
  have s79 := s7.trans s89
  have s59 := s5.trans (s6.trans s79)
  have s49 := s4.trans s59
  have sE := s14.trans s59
  have c1 : cutV ws none (some 4) = ws.take 4 := by
    obtain ⟨a0, a1, a2, a3, a4, a5, a6, a7, rfl⟩ := len8 l8
    rfl
  have c2 : cutV ws (some 4) none = ws.drop 4 := by
    obtain ⟨a0, a1, a2, a3, a4, a5, a6, a7, rfl⟩ := len8 l8
    rfl
  have dE := dps_same sE dR6
  refine q p9 (.ref p4) (.ref p8) _ (sG.trans sE) (none_of_same (sG.trans (s14.trans (s5.trans (s6.trans (s7.trans s8))))) q9) upd_same
    (.tup (SqT.of (s59 _ _ upd_same)) (.cons (.tup (SqT.of ((s2.trans (s3.trans s49)) _ _ upd_same)) .nil) (.cons (.tup (SqT.of (s49 _ _ upd_same)) ?_) .nil)))
    (.tup (SqT.of (s9 _ _ upd_same)) (.cons (.tup (SqT.of ((s6.trans s79) _ _ upd_same)) .nil) (.cons (.tup (SqT.of (s89 _ _ upd_same)) ?_) .nil)))
  · exact dps_of c1.symm (dpAll_takeN 4 dE)
  · exact dps_of c2.symm (dpAll_drop 4 dE)
end
/-- the script, which nobody writes -/
def ScrOk (K : PySem.W.Frag) (H : Hp) (a : Addr) (xs : List V) : Prop := (∃ o, H a = some (.frz o (.lst xs))) ∨
  ∃ (o : Obj) (its : Array Value) (n : Nat), K.lookup a = some o ∧ o.cls = .type "list" ∧ o.dict = none ∧ o.data = .seq its n ∧ its.size ≤ sizeLine ∧ Vals xs its.toList
theorem ScrOk.kt {K : PySem.W.Frag} {H H' : Hp} {a : Addr} {xs : List V} (h : ScrOk K H a xs) (k : KT H H') : ScrOk K H' a xs := by
  rcases h with ⟨o, z⟩ | z
  · exact .inl ⟨o, k _ _ z (fun l q => by cases q)⟩
  · exact .inr z
theorem ScrOk.sq {K : PySem.W.Frag} {H : Hp} {a : Addr} {xs : List V} (h : ScrOk K H a xs) : SqL K H a xs := by
  rcases h with h | h
  · exact .inl (.inr h)
  · exact .inr h
/-! repr, where sys.modules stands in the base: no list and no dict of the law's is it -/
section
variable {X : Cx} {pins : List (Addr × Obj)} {σ : L2.St} {H : Hp} {s : Shared}
def SysB (base : Heap) : Prop := ∃ mm, base.Ns sysModules mm
theorem list_ne_sys (I : Inv X pins σ H s) (hs : SysB X.base) {r : Addr} {us : List V} (h : SqL X.K H r us) : r ≠ sysModules := by
  obtain ⟨mm, o0, es, ep, e0, d0, _⟩ := hs
  have hn := (I.bs _ _ e0).2
  intro e
  rw [e] at h
  rcases h with (z | ⟨o, z⟩) | ⟨o, its, n, hk, hc, hdn, hd, _⟩
  · rw [hn] at z
    cases z
  · rw [hn] at z
    cases z
  · have z := I.mod.kin _ _ hk
    rw [e0] at z
    cases z
    rw [d0] at hd
    cases hd
mutual
theorem Dp.rdS (I : Inv X pins σ H s) (hs : SysB X.base) : ∀ (d : PyData) (v : V) (u : Value), Dp X.K H v d → RelV v u → ∃ as, Reads s.heap u d as ∧ sysModules ∉ as
  | .none, v, u, h, r => by cases h; cases r; exact ⟨_, .none, fun z => nomatch z⟩
  | .bool b, v, u, h, r => by cases h; cases r; exact ⟨_, .bool b, fun z => nomatch z⟩
  | .int i, v, u, h, r => by cases h; obtain ⟨t, rfl⟩ := r; exact ⟨_, .int i t, fun z => nomatch z⟩
  | .str x, v, u, h, r => by cases h; obtain ⟨t, rfl⟩ := r; exact ⟨_, .str x t, fun z => nomatch z⟩
  | .list es, v, u, h, r => by
    cases h with
    | lst at_ each =>
      cases r
      have ne := list_ne_sys I hs at_
      obtain ⟨its, rv, ⟨o, n, ho, hc, _, hd⟩, _⟩ := I.list at_
      obtain ⟨as, hr, hn⟩ := Dp.rdsS I hs es _ its each rv
      refine ⟨_, .list ho hc hd hr, fun z => ?_⟩
      rcases List.mem_cons.mp z with z | z
      · exact ne z.symm
      · exact hn z
  | .tuple es, v, u, h, r => by
    cases h with
    | tup at_ each =>
      cases r
      obtain ⟨its, rv, ⟨o, ho, hc, n, hd⟩, _⟩ := I.tuple at_
      obtain ⟨as, hr, hn⟩ := Dp.rdsS I hs es _ its each rv
      exact ⟨_, .tuple ho hc hd hr, hn⟩
  | .dict kvs, v, u, h, r => by
    cases h with
    | dct at_ =>
      cases r
      obtain ⟨_, _, _, _, _, _, ns, rd⟩ := dct_reads I at_
      exact ⟨_, rd, fun z => by
        have z : sysModules ∈ [_] := z
        exact ns (List.mem_singleton.mp z).symm⟩
theorem Dp.rdsS (I : Inv X pins σ H s) (hs : SysB X.base) : ∀ (ds : List PyData) (vs : List V) (us : List Value), DpAll X.K H vs ds → Vals vs us → ∃ as, ReadsAll s.heap us ds as ∧ sysModules ∉ as
  | [], vs, us, h, r => by cases h; cases r; exact ⟨_, .nil, fun z => nomatch z⟩
  | d :: ds, vs, us, h, r => by
    cases h with
    | cons one more =>
      cases r with
      | cons r1 r2 =>
        obtain ⟨as, q1, n1⟩ := Dp.rdS I hs d _ _ one r1
        obtain ⟨bs, q2, n2⟩ := Dp.rdsS I hs ds _ _ more r2
        refine ⟨_, .cons q1 q2, fun hm => ?_⟩
        rcases List.mem_append.mp hm with hm | hm
        · exact n1 hm
        · exact n2 hm
end
end
theorem call_reprS {X : Cx} (hs : SysB X.base) (hg : X.A.guards = some []) (hu : X.A.units + 80 < cLine) : CallR X (.builtin "repr") (fun xs H Q => ∃ (a : Addr) (d : PyData), xs = [.ref a] ∧ Dp X.K H (.ref a) d ∧ d.showable = true ∧ d.depth ≤ 64 ∧ d.shown.length ≤ sizeLine ∧ Q (.str d.shown) H) := by
  intro pins s σ H xs us Q I r h
  obtain ⟨a, d, rfl, hd, h1, h3, h4, q⟩ := h
  obtain ⟨u, rfl, ru⟩ := vals1 r
  cases ru
  obtain ⟨as, hr, hn⟩ := Dp.rdS I hs d (.ref a) (.ref a) hd rfl
  exact repr_of_reads' hr h1 (fun _ => hn) hg (by omega) (fun _ _ e => e) (fun h' u tk hk => ⟨.str d.shown, H, I.kept hk, ⟨u, rfl⟩, q⟩) h4
theorem call_reprA {X : Cx} (hs : SysB X.base) (hg : X.A.guards = some []) (hu : X.A.units + 80 < cLine) : CallR X (.builtin "repr") (fun xs H Q => ∃ (v : V) (d : PyData), xs = [v] ∧ Dp X.K H v d ∧ d.showable = true ∧ d.depth ≤ 64 ∧ d.shown.length ≤ sizeLine ∧ Q (.str d.shown) H) := by
  intro pins s σ H xs us Q I r h
  obtain ⟨v, d, rfl, hd, h1, h3, h4, q⟩ := h
  have refs : ∀ a : Addr, v = .ref a → wpAny (model X.prog X.w) X.A (call (.builtin "repr") us) (EP X pins σ Q) X.xe s := fun a e => by
    subst e
    exact call_reprS hs hg hu pins s σ H _ us Q I r ⟨a, d, rfl, hd, h1, h3, h4, q⟩
  cases hd with
  | non =>
    obtain ⟨u, rfl, ru⟩ := vals1 r
    cases ru
    exact PySem.P.repr_of_none ⟨.str _, H, I.tok _, ⟨_, rfl⟩, q⟩
  | bl b =>
    obtain ⟨u, rfl, ru⟩ := vals1 r
    cases ru
    exact PySem.P.repr_of_bool ⟨.str _, H, I.tok _, ⟨_, rfl⟩, by simpa only [PyData.shown] using q⟩
  | int i =>
    obtain ⟨u, rfl, t, rfl⟩ := vals1 r
    exact PySem.P.repr_of_int (of_decide_eq_true (by simpa only [PyData.showable] using h1)) ⟨.str _, H, I.tok _, ⟨_, rfl⟩, by simpa only [PyData.shown] using q⟩
  | str x =>
    obtain ⟨u, rfl, t, rfl⟩ := vals1 r
    exact PySem.P.repr_of_str ⟨.str _, H, I.tok _, ⟨_, rfl⟩, by simpa only [PyData.shown] using q⟩ (by simpa only [PyData.shown] using h4)
  | lst _ _ => exact refs _ rfl
  | tup _ _ => exact refs _ rfl
  | dct _ => exact refs _ rfl
/-! the end of a law whose defs hold lambdas: the tables of their code are tracked, too -/
section
open PySem.Spec PyProof.Rows LamX
theorem run_law2 {P : Program} {w : World} {K : PySem.W.Frag} {mg : Str → Option Value} {base : Heap} {fa a : Addr} {fd : FuncData} {st : Stmt} {N : List Str} {k : Nat} {s : Shared} {H : Hp} {nm par : Str}
    (F : Fun K nm nm st fa fd) (S : FnScope N [par] (defScope st)) (room : Room (k + 1) callerA) (at0 : Env0 P w K mg base callerA [] s H) (bd : BindsTo s fd ⟨[.ref a], []⟩ [(par, .ref a)])
    (body : ∀ cdv, fd.code = cdv → Room k (callerA.deeper (envOfC nm (defScope st) s.heap.objs.size fa cdv)) →
      ∃ t, PSs (cxOf CX0 P w K mg base N nm (defScope st) fa cdv callerA [] s H E0).nox (defBody st) t ∧ t { nx := fun _ _ => False, rt := fun v _ => v = .bl true } (L2.start N [.ref a]) H) :
    codeAny (model P w) callerA (.call (.ref fa) ⟨[.ref a], []⟩) (CR CX0 [] P w H s (fun v _ => v = .bl true) E0) s := by
  obtain ⟨oc, od, kV, doc, pm, an, cdv, ct, osl, rfl, found, code⟩ := F.ex
  have kin : K.In s.heap := at0.mod.kin.keeps fun b o e => (at0.bs b o e).1
  have unl : s.heap.NoLimit := at0.mod.nolimit.keeps fun b o e => (at0.bs b o e).1
  have kinds : ∀ y ∈ [(par, Value.ref a)], (defScope st).names.lookup y.1 = some .local ∨ ((defScope st).names.lookup y.1 = some .cell ∧ ((cellsFrom (s.heap.objs.size + 1) (defScope st).names []).lookup y.1).isSome = true) := by
    intro y hy
    rcases List.mem_cons.mp hy with rfl | hy
    · rcases S.par par List.mem_cons_self with q | q
      · exact .inl q
      · exact .inr ⟨q, PySem.W.cellsFrom_some _ _ _ (.inl q)⟩
    · cases hy
  refine codeAny_call_function room.depth (kin _ _ found) rfl S.co S.gen rfl (PySem.W.codeRec_of kin code) (bd _ _ _ _ ?_)
  refine wpAny_newFunctionEnv_cells S.kind kinds fun env he s1 ic => ?_
  subst he
  refine ⟨unl.keeps ic.toInCall.keep, codeAny_func ?_⟩
  obtain ⟨t, ht, hq⟩ := body cdv rfl (room.deeper _)
  have start_ok := inv_start (CX := CX0) (E := E0) (us := [.ref a]) (vs := [.ref a]) S room.hd at0 rfl (.cons rfl .nil) ic
  refine wpAny_mono (ht.nox.run [] s1 _ H _ start_ok hq) (fun fl s' out => ?_) fun e s' out => out
  cases fl with
  | ret u =>
    obtain ⟨v, σ', H', J, rv, q⟩ := out
    exact ⟨v, H', J.os, J.bare, J.base, J.hok, rv, q⟩
  | next =>
    obtain ⟨_, _, _, q⟩ := out
    exact q.elim
  | brk =>
    obtain ⟨_, _, _, q⟩ := out
    exact q.elim
  | cont =>
    obtain ⟨_, _, _, q⟩ := out
    exact q.elim
/-- what the module's head leaves of tables -/
structure TabsAt (K : PySem.W.Frag) (mg : Str → Option Value) (h : Heap) (cs : List (Addr × Addr)) : Prop where
  empty : ∀ p ∈ cs, h.get? p.2 = some { cls := .none, data := .fields #[] }
  out : ∀ p ∈ cs, K.lookup p.2 = none
  heads : ∀ p ∈ cs, PySem.W.CodeHd h p.1 p.2
  sys : SysB h
  blt : ∃ (bm : Addr) (ob : Obj), mg "__builtins__" = some (.ref bm) ∧ bm ≠ builtinsNs ∧ h.get? bm = some ob ∧ ob.cls = .type "module" ∧ ob.dict = some builtinsNs ∧ ob.data = .plain
theorem law_endT {P : Program} {w : World} {K : PySem.W.Frag} {mg mb : Str → Option Value} {fa a : Addr} {cs : List (Addr × Addr)} {fd : FuncData} {st : Stmt} {N : List Str} {k : Nat} {s : Shared} {nm par : Str} {vs : List Value} {ns : List Int}
    (kin : K.In s.heap) (gl : s.heap.Ns mainGlobals mg) (bl : s.heap.Ns builtinsNs mb) (blb : ∀ x : Str, x ≠ "__name__" → mb x = bootBuiltins x) (unl : s.heap.NoLimit) (gens : s.gens = #[]) (TA : TabsAt K mg s.heap cs)
    (ha : s.heap.get? a = some { cls := .type "list", data := .seq vs.toArray }) (hi : IntsAre vs ns) (hl : ns.length ≤ sizeLine) (room : Room (k + 1) callerA)
    (F : Fun K nm nm st fa fd) (S : FnScope N [par] (defScope st)) (bd : ∀ (s : Shared) (u : Value), BindsTo s fd ⟨[u], []⟩ [(par, u)])
    (body : ∀ (base : Heap), K.In base → base.Ns mainGlobals mg → SysB base → (∀ p ∈ cs, TabB base mg p.1 p.2) → ∀ (H : Hp) cdv, fd.code = cdv → (∀ p ∈ cs, H p.2 = some (.tbl #[])) → ScrOk K H a (ns.map V.int) → Room k (callerA.deeper (envOfC nm (defScope st) s.heap.objs.size fa cdv)) →
      ∃ t, PSs (cxOf CX0 P w K mg base N nm (defScope st) fa cdv callerA [] s H E0).nox (defBody st) t ∧ t { nx := fun _ _ => False, rt := fun v _ => v = .bl true } (L2.start N [.ref a]) H) :
    codeAny (model P w) callerA (.call (.ref fa) ⟨[.ref a], []⟩) (fun r s' => r = .ok (.ret (.bool true)) ∧ OldK s.heap s'.heap ∧ s'.os = s.os ∧ AllBare s'.gens) s := by
  have vals := vals_ints hi
  have len := hi.length
  have no_tab : ∀ p ∈ cs, p.2 ≠ a := fun p hp z => by
    have e := TA.empty p hp
    rw [z, ha] at e
    have e : Data.seq vs.toArray _ = Data.fields #[] := congrArg Obj.data (Option.some.inj e)
    cases e
  -- whatever of the script is tracked
  have main : ∀ H : Hp, (∀ p ∈ cs, H p.2 = some (.tbl #[])) → ScrOk K H a (ns.map V.int) → HOk P w H s.heap →
      (∀ b u, H b = some u → (b = a ∧ K.lookup a = none ∧ ∃ o xs, u = .frz o (.lst xs)) ∨ ∃ p ∈ cs, b = p.2) →
      codeAny (model P w) callerA (.call (.ref fa) ⟨[.ref a], []⟩) (fun r s' => r = .ok (.ret (.bool true)) ∧ OldK s.heap s'.heap ∧ s'.os = s.os ∧ AllBare s'.gens) s := by
    intro H tabs scr hok alone
    have off : ∀ {b : Addr} {o : Obj}, s.heap.get? b = some o → (∀ us n, o.data ≠ .seq us n) → o.data ≠ .fields #[] → H b = none := by
      intro b o e n1 n2
      cases q : H b with
      | none => rfl
      | some u =>
        rcases alone b u q with ⟨rfl, _⟩ | ⟨p, hp, rfl⟩
        · rw [ha] at e
          cases e
          exact absurd rfl (n1 _ _)
        · rw [TA.empty p hp] at e
          cases e
          exact absurd rfl n2
    have spaces : ∀ {b : Addr} {m : Str → Option Value}, s.heap.Ns b m → (hidT s.heap H).Ns b m := by
      intro b m ⟨o, es, ep, e, d, r⟩
      refine ⟨o, es, ep, hidT_get e (off e (fun us n z => ?_) fun z => ?_), d, r⟩
      · rw [d] at z
        cases z
      · rw [d] at z
        cases z
    have kinB : K.In (hidT s.heap H) := by
      intro b o e
      refine hidT_get (kin b o e) ?_
      cases q : H b with
      | none => rfl
      | some u =>
        rcases alone b u q with ⟨rfl, z, _⟩ | ⟨p, hp, rfl⟩
        · rw [z] at e
          cases e
        · rw [TA.out p hp] at e
          cases e
    have TB : ∀ p ∈ cs, TabB (hidT s.heap H) mg p.1 p.2 := by
      intro p hp
      constructor
      · obtain ⟨o, us, x1, x2, x3, x4, x5, x6, x7, e, y1, y2, y3, y4⟩ := TA.heads p hp
        refine ⟨o, us, x1, x2, x3, x4, x5, x6, x7, hidT_get e (off e (fun vs n z => ?_) fun z => ?_), y1, y2, y3, y4⟩
        · rw [y2] at z
          cases z
        · rw [y2] at z
          cases z
          simp at y3
      · obtain ⟨bm, ob, g1, g2, g3, g4, g5, g6⟩ := TA.blt
        refine ⟨bm, ob, g1, g2, fun z => ?_, fun z => ?_, hidT_get g3 (off g3 (fun vs n z => ?_) fun z => ?_), g4, g5, g6⟩
        · obtain ⟨o, es, ep, e, d, _⟩ := gl
          rw [z, e] at g3
          cases g3
          rw [d] at g6
          cases g6
        · rw [z, TA.empty p hp] at g3
          cases g3
          cases g6
        · rw [g6] at z
          cases z
        · rw [g6] at z
          cases z
      · intro z
        obtain ⟨o, es, ep, e, d, _⟩ := gl
        rw [z, TA.empty p hp] at e
        cases e
        cases d
    obtain ⟨mc, un1, un2⟩ := unl
    have md : Mod K mg (hidT s.heap H) := ⟨kinB, spaces gl, ⟨mb, spaces bl, blb⟩, ⟨mc, spaces un1, un2⟩⟩
    have at0 : Env0 P w K mg (hidT s.heap H) callerA [] s H := by
      refine ⟨rfl, md, fun b o e => of_hidT e, Nat.le_of_eq (hidT_size _ _), trivial, fun b hb => ?_, hok, .of_eq gens⟩
      cases (show b ∈ ([] : List Addr) from hb)
    refine codeAny_mono (run_law2 F S room at0 (bd s (.ref a)) fun cdv hc hr => body _ kinB (spaces gl) (let ⟨mm, z⟩ := TA.sys; ⟨mm, spaces z⟩) TB H cdv hc tabs scr hr) fun r s' res => ?_
    match r, res with
    | .error e, res => exact (show False from res).elim
    | .ok .next, res => exact (show False from res).elim
    | .ok .brk, res => exact (show False from res).elim
    | .ok .cont, res => exact (show False from res).elim
    | .ok (.ret u), res =>
      obtain ⟨v, H', os, bare, un, hok', rv, q⟩ := res
      obtain rfl : v = .bl true := q
      obtain rfl : u = Value.bool true := rv
      have stays : ∀ b o, (∀ p ∈ cs, b ≠ p.2) → s.heap.get? b = some o → s'.heap.get? b = some o := by
        intro b o nb e
        cases q : H b with
        | none =>
          refine un.keep b o e q (fun z => ?_) (by simp)
          cases (show b ∈ ([] : List Addr) from z)
        | some u =>
          rcases alone b u q with ⟨_, _, ob, xs, rfl⟩ | ⟨p, hp, z⟩
          · obtain ⟨e1, _⟩ := hok b _ q
            obtain ⟨e2, _⟩ := hok' b _ (un.frzs b ob _ q)
            rw [e] at e1
            cases e1
            exact e2
          · exact absurd z (nb p hp)
      have grows : ∀ p ∈ cs, ∃ more : Array Value, s'.heap.get? p.2 = some { cls := .none, data := .fields more } := by
        intro p hp
        obtain ⟨more, z⟩ := un.tbls p.2 #[] (tabs p hp)
        exact ⟨_, hok' p.2 _ z⟩
      refine ⟨rfl, ⟨fun b o e => ?_, fun b o e => ?_⟩, os, bare⟩
      · by_cases nb : ∀ p ∈ cs, b ≠ p.2
        · exact .inl (stays b o nb e)
        · obtain ⟨p, hp, z⟩ : ∃ p ∈ cs, b = p.2 := by
            refine Classical.byContradiction fun no => nb fun p hp z => no ⟨p, hp, z⟩
          subst z
          obtain ⟨more, hm⟩ := grows p hp
          have e0 := TA.empty p hp
          rw [e0] at e
          cases e
          refine .inr (.inl ⟨((TA.heads p hp).tab (ps := #[]) e0).isCodeTable, rfl, #[], more, rfl, ?_⟩)
          rw [Array.empty_append]
          exact hm
      · by_cases nb : ∀ p ∈ cs, b ≠ p.2
        · exact ⟨o, stays b o nb e⟩
        · obtain ⟨p, hp, z⟩ : ∃ p ∈ cs, b = p.2 := by
            refine Classical.byContradiction fun no => nb fun p hp z => no ⟨p, hp, z⟩
          subst z
          obtain ⟨more, hm⟩ := grows p hp
          exact ⟨_, hm⟩
  -- the tables, and the script where it isn't written
  let tb : Addr → Bool := fun b => cs.any fun p => decide (b = p.2)
  have tb_in : ∀ {b}, tb b = true → ∃ p ∈ cs, b = p.2 := fun {b} z => by
    obtain ⟨p, hp, e⟩ := List.any_eq_true.mp z
    exact ⟨p, hp, of_decide_eq_true e⟩
  have in_tb : ∀ p ∈ cs, tb p.2 = true := fun p hp => List.any_eq_true.mpr ⟨p, hp, decide_eq_true rfl⟩
  cases hk : K.lookup a with
  | some o =>
    have e := kin a o hk
    rw [ha] at e
    cases e
    refine main (fun b => if tb b = true then some (.tbl #[]) else none) (fun p hp => if_pos (in_tb p hp)) (.inr ⟨_, vs.toArray, _, hk, rfl, rfl, rfl, by rw [List.size_toArray, len]; exact hl, by simpa using vals⟩) (fun b u z => ?_) (fun b u z => ?_)
    · by_cases c : tb b = true
      · obtain ⟨p, hp, rfl⟩ := tb_in c
        have z := (if_pos c).symm.trans z
        cases z
        exact TA.empty p hp
      · have z := (if_neg c).symm.trans z
        cases z
    · by_cases c : tb b = true
      · exact .inr (tb_in c)
      · have z := (if_neg c).symm.trans z
        cases z
  | none =>
    refine main (fun b => if b = a then some (.frz { cls := .type "list", data := .seq vs.toArray } (.lst (ns.map V.int))) else if tb b = true then some (.tbl #[]) else none) (fun p hp => (if_neg (no_tab p hp)).trans (if_pos (in_tb p hp))) (.inl ⟨_, if_pos rfl⟩) (fun b u z => ?_) (fun b u z => ?_)
    · by_cases c0 : b = a
      · have z := (if_pos c0).symm.trans z
        cases z
        rw [c0]
        exact ⟨ha, by rw [List.length_map]; exact hl, vs, _, vals, ha⟩
      · have z := (if_neg c0).symm.trans z
        by_cases c : tb b = true
        · obtain ⟨p, hp, rfl⟩ := tb_in c
          have z := (if_pos c).symm.trans z
          cases z
          exact TA.empty p hp
        · have z := (if_neg c).symm.trans z
          cases z
    · by_cases c0 : b = a
      · have z := (if_pos c0).symm.trans z
        exact .inl ⟨c0, hk, _, _, (Option.some.inj z).symm⟩
      · have z := (if_neg c0).symm.trans z
        by_cases c : tb b = true
        · exact .inr (tb_in c)
        · have z := (if_neg c).symm.trans z
          cases z
end
section
open PySem.Spec PyProof.Rows LamX
theorem mn_ext {st : Addr} {H H' : Hp} (e : ExtN H H') : ExtN (mn st H) (mn st H') := fun b o h n => by
  obtain ⟨n1, h1⟩ := mn_some h
  exact mn_at n1 (e b o h1 n)
theorem st_ext {st : Addr} {H H' : Hp} (h : StAt H st) (e : ExtN H H') : StAt H' st := by
  obtain ⟨x, y, z, h, ok⟩ := h
  exact ⟨x, y, z, e _ _ h (fun ps q => by cases q), ok⟩
theorem scr_ext {K : PySem.W.Frag} {H H' : Hp} {a : Addr} {xs : List V} (h : ScrOk K H a xs) (e : ExtN H H') : ScrOk K H' a xs := by
  rcases h with ⟨o, z⟩ | z
  · exact .inl ⟨o, e _ _ z (fun ps q => by cases q)⟩
  · exact .inr z
end
def tKw (m : Nat) (sp : Sp) (gV : List V → List V → List V) (tk : TA) : TE := fun σ H Q => tk σ H fun zs H2 => zs.length = m ∧ sp (gV [] zs) H2 Q E0
def CalK (P : Program) (w : World) (K : PySem.W.Frag) (mg : Str → Option Value) (base : Heap) (x : Str) (k : Nat) (ps ks : List Str) (g : List Value → List Value → List Value) (gV : List V → List V → List V) (sp : Sp) : Prop :=
  ∃ (f : Addr) (fd : FuncData), FnOk P w K mg base CX0 k f fd ps sp ∧ mg x = some (.ref f) ∧ PySem.W.keepIn K (.ref f) = true ∧ KBn K fd ps 0 ks g gV
theorem pe_kw {X : Cx} {x : Str} {p pos : Pos} {k : Nat} {ps ks : List Str} {g : List Value → List Value → List Value} {gV : List V → List V → List V} {sp : Sp} {kws : List Keyword} {tk : TA}
    (C : CalK X.prog X.w X.K X.mg X.base x k ps ks g gV sp) (hr : Room k X.A) (hg : Gl X x) (hkw : PK X kws tk)
    (h1 : (backToKw pos (keywordEach kws X.env)).all (·.1.isSome) = true := by rfl) (h2 : (backToKw pos (keywordEach kws X.env)).filterMap (·.1) = ks := by rfl) (h3 : (x == ("__debug__" : Str)) = false := by decide)
    (h4 : ((backTo pos (starEach [] X.env)).any (·.1) || (backToKw pos (keywordEach kws X.env)).any (·.1.isNone)) = false := by rfl) :
    PE X (.Call (.Name x p) [] kws pos) (tKw ks.length sp gV tk) := by
  obtain ⟨f, fd, F, hm, hk, hb⟩ := C
  constructor
  intro pins s σ H Q I h
  refine wpAny_Call_Name_kw (ld_glob I hg hm ?_ h3)
  refine PySem.W.callWith_KW0 (h₀ := X.base) I.ok.mod.kin hk h1 ?_ h4
  refine thn (hkw.run pos pins s σ H _ I h) ?_
  rintro ws s2 ⟨zs, H2, I2, rz, l2, q2⟩
  refine ⟨I2.kIn, ?_⟩
  rw [h2]
  exact run_fnN (us := []) (vs := []) F hr hb pass0 I2 .nil rz rfl l2 q2
theorem pe_cal0 {X : Cx} {x : Str} {p pos : Pos} {k : Nat} {sp : Sp} (C : Cal X.prog X.w X.K X.mg X.base x k [] sp) (hr : Room k X.A) (hg : Gl X x) (hdb : (x == ("__debug__" : Str)) = false := by decide) :
    PE X (.Call (.Name x p) [] [] pos) (tCall sp [] E0 tNil) := by
  obtain ⟨f, fd, F, hm, hk, hb⟩ := C
  exact pe_call0 F hr hg hm hk hb .nil pass0 hdb
/-! the law -/
theorem TabsG.kp {PT : List Addr} {H H' : Hp} {st : Addr} (t : TabsG PT H) (sa : StAt H st) (k : Kp st H H') : TabsG PT H' := fun P hP => by
  obtain ⟨l, hl⟩ := sa.some
  obtain ⟨ps, h1, h2⟩ := t P hP
  exact ⟨ps, k _ _ (fun z => by rw [z, hl] at h1; cases h1) h1, h2⟩
theorem show12 {z : PyData} (b : Bd 10000 40 z) (h3 : z.bulk ≤ 10000) (h4 : z.depth ≤ 20) : z.showable = true ∧ z.depth ≤ 64 ∧ z.shown.length ≤ sizeLine := by
  have l := PyData.shown_le_bulk 40 (by decide) z (b.sho (by decide))
  exact ⟨b.shw (by decide), Nat.le_trans h4 (by decide), big (by omega)⟩
theorem net_tupO {d : PyData} (h : netD d = true) : tupOnly d = true := by
  obtain ⟨cs, as, rfl, nb, _⟩ := net_bd h
  have nb := and3 (show ((decide (cs.length ≤ 6) && (decide (1 ≤ as.length) && decide (as.length ≤ 4))) && (cs.all (chanD as.length) && actsB (cs.map pairD) 0 as)) = true from nb)
  have n2 := and3 nb.2
  have e := chans_of n2.1
  have hc : tupOnlyAll cs = true := by
    rw [e]
    generalize cs.map pairD = l
    induction l with
    | nil => rfl
    | cons c l ih => show (tupOnly (mkCh c) && tupOnlyAll (l.map mkCh)) = true; rw [ih]; rfl
  show (tupOnlyAll cs && (tupOnlyAll as && true)) = true
  rw [hc, Bool.true_and, Bool.and_true]
  have : ∀ {as : List PyData} {me : Int} {chs : List (Int × Int)}, actsB chs me as = true → tupOnlyAll as = true := fun {as} => by
    induction as with
    | nil => intro _ _ _; rfl
    | cons d as ih =>
      intro me chs h
      have h := and3 (show ((blkD _ _ 4 d).isSome && actsB chs (me + 1) as) = true from h)
      have h1 := h.1
      rw [blk_some] at h1
      show (tupOnly d && tupOnlyAll as) = true
      rw [lblk_tup 4 (and3 h1).1, ih h.2]
      rfl
  exact this n2.2
/-- the law's own code -/
theorem code_rows {cs as : List PyData} (G : NetG cs as) : (as.map fun d => rowsD ((lfN 4 d 0 (-1)).map cpR)) = (codeR as).map rowsD := by
  unfold codeR
  rw [List.map_map]
  refine List.map_congr_left fun d hd => ?_
  obtain ⟨i, hi⟩ := List.getElem?_of_mem hd
  show _ = rowsD (flN 4 d 0 (-1))
  rw [lfN_map 4 (G.act i d hi).1]
def ShR (r : PyData × List Int) : Prop := ∃ z ds, r.1 = .tuple (.str z :: ds) ∧ ds.length ≤ 100
theorem sh_tst {nm : PyData} {ns : List Int} : ShR (tstD nm, ns) := ⟨"test", [nm], rfl, by show 1 ≤ 100; decide⟩
theorem lfS_sh {ss ts : List Int} (hs : ∀ i ∈ ss, i.natAbs < 10000) (ht : ∀ i ∈ ts, i.natAbs < 10000) {fb : PyData → Int → Int → List (PyData × List Int)} {bl : PyData → Bool} (hf : ∀ (x : PyData) (n b : Int), bl x = true → ∀ r ∈ fb x n b, ShR r) {d : PyData} {n b : Int} (h : lstB ss ts bl d = true) : ∀ r ∈ lfS fb d n b, ShR r := by
  intro r hr
  rcases st_cases h with ⟨hd, nb, z, ds, rfl, hz⟩ | ⟨nm, x, y, rfl, hn, hx, hy, hb⟩ | ⟨nm, x, rfl, hn, hx, hb⟩
  · rw [lfS_deed hz] at hr
    rw [List.mem_singleton.mp hr]
    refine ⟨z, ds, rfl, ?_⟩
    obtain ⟨b1, _, _⟩ := deed_bd (c := 10000) (Nat.le_refl _) hs ht hd
    cases b1 with
    | tup l _ =>
      rw [List.length_cons] at l
      omega
  · rw [lfS_if] at hr
    unfold ifR at hr
    rcases List.mem_cons.mp hr with rfl | hr
    · exact sh_tst
    · rcases List.mem_append.mp hr with hr | hr
      · exact hf x _ _ hx r hr
      · exact hf y _ _ hy r hr
  · rw [lfS_wh] at hr
    unfold whR at hr
    rcases List.mem_cons.mp hr with rfl | hr
    · exact sh_tst
    · exact hf x _ _ hx r hr
theorem lfN_sh {ss ts : List Int} (hs : ∀ i ∈ ss, i.natAbs < 10000) (ht : ∀ i ∈ ts, i.natAbs < 10000) : ∀ (k : Nat) {d : PyData} {n b : Int}, lblk ss ts k d = true → ∀ r ∈ lfN k d n b, ShR r
  | 0, d, n, b, h => by cases d <;> cases h
  | k + 1, d, n, b, h => by
    cases d with
    | tuple ds =>
      have hl := and3 (show (decide (ds.length ≤ 12) && ds.all (lstB ss ts (lblk ss ts k))) = true from h)
      intro r hr
      obtain ⟨i, hi, hr⟩ := List.mem_flatMap.mp (show r ∈ flP (lfS (lfN k)) (manyS (manyN k)) ds n b ds.length from hr)
      have hi := List.mem_range.mp hi
      rw [List.getD_eq_getElem?_getD, List.getElem?_eq_getElem hi] at hr
      exact lfS_sh hs ht (fb := lfN k) (bl := lblk ss ts k) (fun x n b hx => lfN_sh hs ht k hx) (List.all_eq_true.mp hl.2 _ (List.getElem_mem hi)) r hr
    | _ => cases h
theorem lfN_row {ss ts : List Int} {d : PyData} {n b : Int} (hs : ∀ i ∈ ss, i.natAbs < 10000) (ht : ∀ i ∈ ts, i.natAbs < 10000) (h : lblk ss ts 4 d = true) : ∀ r ∈ lfN 4 d n b, ∃ z ds, r.1 = .tuple (.str z :: ds) ∧ ds.length ≤ 100 := lfN_sh hs ht 4 h
section
open PySem.Spec PyProof.Rows LamX
variable {P : Program} {w : World} {K : PySem.W.Frag} {mg : Str → Option Value} {base : Heap} {f : Addr} {fd : FuncData} {PT : List Addr}
theorem kb_flat (F : Fun K "flat" "flat" sFlat f fd) : KBn K fd ["net"] 0 ["net"] (fun _ ws => ws) (fun _ zs => zs) := by
  obtain ⟨oc, od, kV, doc, pm, an, cdv, ct, osl, rfl, lk, hcd⟩ := F.ex
  refine ⟨fun s us ws _ l1 l2 => ?_, fun _ r => r⟩
  match us, ws, l1, l2 with
  | [], [a], _, _ => exact .of_eq rfl
abbrev NLaw : List Str := ["_law_script", "_law_k", "_law_state_here", "_law_nets", "_law_web", "_law_rows", "_law_kept", "_law_block_here", "_law_turn", "_law_found", "_law_row"]
theorem scLaw : FnScope NLaw ["_law_script"] (defScope sLaw) := ⟨rfl, rfl, rfl, by decide +kernel, rfl, by decide +kernel, by decide +kernel⟩
structure Law12 (P : Program) (w : World) (K : PySem.W.Frag) (mg : Str → Option Value) (base : Heap) (PT : List Addr) (k : Nat) : Prop where
  cSt : Cal P w K mg base "_law_state" k ["_law_script", "_law_k"] (spState K)
  cN : Cal P w K mg base "_law_net" k ["_law_state_here", "_law_most", "_law_long"] (spNet K)
  cEb : Cal P w K mg base "_law_ends_of_blocks" k [] (spEob K)
  cL : Cal P w K mg base "_law_flat" k PLF (spLF K 4)
  cM : Cal P w K mg base "_law_marked" k ["_law_row"] (spMarked K)
  cF : Cal P w K mg base "flat" k ["net"] (spFlat K PT)
  kF : CalK P w K mg base "flat" k ["net"] ["net"] (fun _ ws => ws) (fun _ zs => zs) (spFlat K PT)
  cI : Cal P w K mg base "is_code" k ["net", "thing"] (spIsCode K PT)
  cO : Cal P w K mg base "is_own" k ["net", "code"] (spIsOwn K PT)
def tWebs (K : PySem.W.Frag) : TE := fun σ H Q => ∃ (k : Int) (p : Addr) (v1 v2 : V) (d1 d2 : PyData), σ[1]? = some (some (.int k)) ∧ σ[3]? = some (some (.ref p)) ∧ H p = some (.lst [v1, v2]) ∧ Dp K H v1 d1 ∧ Dp K H v2 d2 ∧ netD d1 = true ∧ netD d2 = true ∧
  ∀ q vs ds H', Same H H' → H' q = some (.lst vs) → DpAll K H' vs ds → (∀ d ∈ ds, netD d = true) → Q (.ref q) H'
set_option maxHeartbeats 0 in
theorem law_body {k : Nat} {cdv : Value} {s : Shared} {H : Hp} {a : Addr} {ns : List Int} (T : Free mg) (sys : SysB base) (scr : ScrOk K H a (ns.map V.int)) (h63 : ns.length ≤ 63) (tbs : TabsG PT H)
    (hr : Room k (callerA.deeper (envOfC "law" (defScope sLaw) s.heap.objs.size f cdv))) (L : Law12 P w K mg base PT k) :
    ∃ t, PSs (cxOf CX0 P w K mg base NLaw "law" (defScope sLaw) f cdv callerA [] s H E0).nox (defBody sLaw) t ∧ t { nx := fun _ _ => False, rt := fun v _ => v = .bl true } (L2.start NLaw [.ref a]) H := by
  have hu : (callerA.deeper (envOfC "law" (defScope sLaw) s.heap.objs.size f cdv)).units + 80 < cLine := by
    have := hr.un
    omega
  refine ⟨_, pss_cons (ps_for PassesOwn.never rfl (pi_range1 rfl T.range (pa_cons (pe_callB (call_max2 rfl) rfl T.max (by decide +kernel) (pa_cons pe_int (pa_cons (pe_callB (call_min2 rfl) rfl T.min (by decide +kernel)
        (pa_cons (pe_callB call_len_seq rfl T.len PySem.boot_len (pa_cons (pv 0) pa_nil)) (pa_cons pe_int pa_nil))) pa_nil))) pa_nil)) (pg_name (i := 1) scLaw.nd rfl (.inl rfl))
    (pss_cons (ps_set (i := 2) scLaw.nd rfl (.inl rfl) (pe_cal L.cSt hr rfl (pa_cons (pv 0) (pa_cons (pv 1) pa_nil))))
    (pss_cons (ps_set (i := 3) scLaw.nd rfl (.inl rfl) (pe_lst (pa_cons (pe_cal L.cN hr rfl (pa_cons (pv 2) (pa_cons pe_int (pa_cons pe_int pa_nil)))) (pa_cons (pe_cal L.cN hr rfl (pa_cons (pv 2) (pa_cons pe_int (pa_cons pe_int pa_nil)))) pa_nil))))
    (pss_one (ps_for PassesOwn.never rfl (pi_list (pe_imp (t' := tWebs K) (pe_op op_cat (pv 3) (pe_slice sl_list (pe_cal0 L.cEb hr rfl) po_none (po_some (pe_op op_mul pe_int (pe_callTy call_int1 rfl T.int (by decide +kernel) (pa_cons (pe_cmpR op_eq (pv 1) pe_int (nomark _)) pa_nil)))))) ?webs)) (pg_name (i := 4) scLaw.nd rfl (.inl rfl))
      (pss_cons (ps_par (i := 5) (j := 6) rfl scLaw.nd rfl rfl (by decide) rfl rfl (pa_cons (pe_lst pa_nil) (pa_cons (pe_callB (call_reprA sys rfl hu) rfl T.repr (by decide +kernel) (pa_cons (pv 4) pa_nil)) pa_nil)) rfl)
      (pss_cons (ps_for PassesOwn.never rfl (pi_tup (pe_ix ix_tup (pv 4) pe_int (fun _ _ => rfl))) (pg_name (i := 7) scLaw.nd rfl (.inl rfl))
        (pss_one (ps_expr (pe_bm PySem.F.plainAttrs_list PySem.F.slot_list_append PySem.F.type_list_append mt_append (pv 5) (pa_cons (pe_callTy call_tuple_of rfl T.tuple (by decide +kernel) (pa_cons (pe_lc (own := [("_law_row", 10)]) (g := gName 10) (tt := tYes) (te := tCall (spMarked K) [] E0 (tCons (tVar 10) tNil)) rfl scLaw.nd (pi_list (pe_cal L.cL hr rfl (pa_cons (pv 7) (pa_cons pe_int (pa_cons (pe_un un_neg pe_int) pa_nil)))))
          (blkOk_by (own := [("_law_row", 10)]) (N := NLaw) (sc := defScope sLaw) (by decide +kernel))
          (fun _ _ _ _ _ => pg_name (i := 10) scLaw.nd rfl (Or.inl rfl)) (fun _ _ _ _ _ => pts_nil) (fun _ _ _ _ _ => pe_cal L.cM hr rfl (pa_cons (pv 10) pa_nil))) pa_nil)) pa_nil)))))
      (pss_cons (ps_for PassesOwn.never rfl (pi_range1 rfl T.range (pa_cons pe_int pa_nil)) (pg_name (i := 8) scLaw.nd rfl (.inl rfl))
        (pss_cons (ps_set (i := 9) scLaw.nd rfl (.inl rfl) (pe_cal L.cF hr rfl (pa_cons (pv 4) pa_nil)))
        (pss_cons (ps_if (PW.pt (pw_or (pt_cmpR op_ne (pe_callB (call_reprA sys rfl hu) rfl T.repr (by decide +kernel) (pa_cons (pv 9) pa_nil)) (pe_callB (call_reprA sys rfl hu) rfl T.repr (by decide +kernel) (pa_cons (pe_callTy call_tuple_of rfl T.tuple (by decide +kernel) (pa_cons (pv 5) pa_nil)) pa_nil)) (nomark _))
            (pw_or1 (pt_cmpR op_isnot_bl (pe_cal L.cI hr rfl (pa_cons (pv 4) (pa_cons (pv 9) pa_nil))) pe_bl (nomark _))))) (pss_one (ps_ret pe_bl)) pss_nil)
        (pss_one (ps_if (pt_cmpR op_isnot_bl (pe_cal L.cO hr rfl (pa_cons (pv 4) (pa_cons (pv 9) pa_nil))) pe_bl (nomark _)) (pss_one (ps_ret pe_bl)) pss_nil)))))
      (pss_one (ps_if (PW.pt (pw_or (pt_cmpR op_ne (pe_callB (call_reprA sys rfl hu) rfl T.repr (by decide +kernel) (pa_cons (pe_kw L.kF hr rfl (pk_cons (pv 4) pk_nil)) pa_nil)) (pe_callB (call_reprA sys rfl hu) rfl T.repr (by decide +kernel) (pa_cons (pv 9) pa_nil)) (nomark _))
          (pw_or1 (pt_cmpR op_ne (pe_callB (call_reprA sys rfl hu) rfl T.repr (by decide +kernel) (pa_cons (pv 4) pa_nil)) (pv 6) (nomark _))))) (pss_one (ps_ret pe_bl)) pss_nil))))))))))
    (pss_one (ps_ret pe_bl)), ?main⟩
  case webs =>
    rintro σ G Q ⟨k, p, v1, v2, d1, d2, h1, h3, hp, e1, e2, n1, n2, q⟩
    refine ⟨_, h3, rfl, fun r u1 u2 G1 s1 fr gr a1 a2 => ?_⟩
    refine ⟨_, h1, rfl, .inr ⟨_, rfl, ?_⟩⟩
    have e1 := dp_same s1 e1
    have e2 := dp_same s1 e2
    by_cases c : k = 0
    · rw [show decide (V.int k = V.int 0) = true from decide_eq_true (by rw [c])]
      refine ⟨2, 1, rfl, rfl, .inl ⟨by decide, by decide⟩, _, rfl, r, _, rfl, SqL.of gr, fun p2 q2 => ?_⟩
      have s2 := same_new q2 (.lst (cutV [u1, u2] none (some (2 * 1))))
      refine ⟨p, p2, _, _, rfl, rfl, (s1.trans s2) _ _ hp, upd_same, small (by show 2 + 2 ≤ 1000; decide), fun p3 q3 => ?_⟩
      have s3 := same_new q3 (.lst ([v1, v2] ++ cutV [u1, u2] none (some (2 * 1))))
      have s23 := s2.trans s3
      refine q p3 [v1, v2, u1, u2] [d1, d2, eobA, eobB] _ (s1.trans s23) upd_same (.cons (dp_same s23 e1) (.cons (dp_same s23 e2) (.cons (dp_same s23 a1) (.cons (dp_same s23 a2) .nil)))) fun d hd => ?_
      simp only [List.mem_cons, List.not_mem_nil, or_false] at hd
      rcases hd with rfl | rfl | rfl | rfl
      · exact n1
      · exact n2
      · exact eobA_net
      · exact eobB_net
    · rw [show decide (V.int k = V.int 0) = false from decide_eq_false (fun z => c (by injection z))]
      refine ⟨2, 0, rfl, rfl, .inl ⟨by decide, by decide⟩, _, rfl, r, _, rfl, SqL.of gr, fun p2 q2 => ?_⟩
      have s2 := same_new q2 (.lst (cutV [u1, u2] none (some (2 * 0))))
      refine ⟨p, p2, _, _, rfl, rfl, (s1.trans s2) _ _ hp, upd_same, small (by show 2 + 0 ≤ 1000; decide), fun p3 q3 => ?_⟩
      have s3 := same_new q3 (.lst ([v1, v2] ++ cutV [u1, u2] none (some (2 * 0))))
      have s23 := s2.trans s3
      refine q p3 [v1, v2] [d1, d2] _ (s1.trans s23) upd_same (.cons (dp_same s23 e1) (.cons (dp_same s23 e2) .nil)) fun d hd => ?_
      simp only [List.mem_cons, List.not_mem_nil, or_false] at hd
      rcases hd with rfl | rfl
      · exact n1
      · exact n2
  case main =>
    have ll : (ns.map V.int).length = ns.length := List.length_map _
    have hm : 0 ≤ (if (if (6 : Int) < ((ns.map V.int).length : Int) then 6 else ((ns.map V.int).length : Int)) > 1 then (if (6 : Int) < ((ns.map V.int).length : Int) then 6 else ((ns.map V.int).length : Int)) else 1) ∧
        (if (if (6 : Int) < ((ns.map V.int).length : Int) then 6 else ((ns.map V.int).length : Int)) > 1 then (if (6 : Int) < ((ns.map V.int).length : Int) then 6 else ((ns.map V.int).length : Int)) else 1) ≤ 6 := by
      split <;> split <;> omega
    refine ⟨_, rfl, a, _, rfl, .inl scr.sq, _, _, rfl, _, _, rfl, _, rfl, by omega, by omega, ?_⟩
    refine for_range (lo := 0) (fun i σ H' => ∃ o1 o2 o3 o4 o5 o6 o7 o8 o9 o10, σ = [some (.ref a), o1, o2, o3, o4, o5, o6, o7, o8, o9, o10] ∧ ScrOk K H' a (ns.map V.int) ∧ TabsG PT H') ⟨_, _, _, _, _, _, _, _, _, _, rfl, scr, tbs⟩ (fun i σ H' hi h => ?_) (fun σ H' h => rfl)
    obtain ⟨o1, o2, o3, o4, o5, o6, o7, o8, o9, o10, rfl, sc, tb'⟩ := h
    refine ⟨_, rfl, _, rfl, a, ns, 0 + (i : Int), rfl, sc.sq, by omega, fun st x y z hst ok => ?_⟩
    have s0 := same_new hst (.lst [.int x, .int y, .int z])
    have sa0 : StAt (upd H' st (.lst [.int x, .int y, .int z])) st := ⟨x, y, z, upd_same, ok⟩
    have sc0 := scr_ext sc (ext_same s0)
    have tb0 := tb'.same s0
    generalize upd H' st (.lst [.int x, .int y, .int z]) = H0 at sa0 sc0 tb0 ⊢
    clear s0
    refine ⟨_, rfl, st, 4, 8, rfl, by decide, by decide, by decide, by decide, sa0, fun v1 d1 H1 mv1 hd1 n1 => ?_⟩
    refine ⟨_, rfl, st, 2, 3, rfl, by decide, by decide, by decide, by decide, mv1.sa, fun v2 d2 H2 mv2 hd2 n2 => ⟨small (by show 2 ≤ 1000; decide), fun p hp => ?_⟩⟩
    have mv12 := mv1.trans mv2
    have sp := same_new hp (.lst [v1, v2])
    have sc2 := scr_ext (sc0.kt (mv12.kp.kt sa0)) (ext_same sp)
    have tb2 := (tb0.kp sa0 mv12.kp).same sp
    refine ⟨0 + (i : Int), p, v1, v2, d1, d2, rfl, rfl, upd_same, dp_same sp (dp_kt (mv2.kp.kt mv1.sa) _ _ (net_tupO n1) hd1), dp_same sp hd2, n1, n2, fun q vs ds H3 s3 hq dq nq => ?_⟩
    have sc3 := scr_ext sc2 (ext_same s3)
    have tb3 := tb2.same s3
    clear sp s3 sc2 tb2
    refine ⟨q, rfl, ⟨vs, SqL.of hq⟩, ?_⟩
    refine for_list (xs := vs) (fun l σ G => ∃ o4 o5 o6 o7 o8 o9 o10, σ = [some (.ref a), some (.int (0 + (i : Int))), some (.ref st), some (.ref p), o4, o5, o6, o7, o8, o9, o10] ∧ ExtN H3 G ∧ TabsG PT G)
      ⟨_, _, _, _, _, _, _, rfl, ExtN.refl _, tb3⟩ (fun l σ G _ h => by obtain ⟨_, _, _, _, _, _, _, _, e, _⟩ := h; exact SqL.of (ext_lst e hq)) (fun l v σ G hv h => ?_) (fun σ G h => ?_)
    · obtain ⟨o4, o5, o6, o7, o8, o9, o10, rfl, eG, tG⟩ := h
      obtain ⟨d, hd, hdv⟩ := dpAll_get' (dp_exts eG _ _ dq) hv
      have isN := nq d (List.mem_of_getElem? hd)
      obtain ⟨cs, as, rfl, nb, bd, blk, dep⟩ := net_bd isN
      have NG := netB_G nb
      obtain ⟨w1, w2, w3⟩ := show12 (bd.mono (by decide) (by decide)) (by omega) (by omega)
      obtain ⟨c1, c2, c3, c4⟩ := codeF_bd NG (codeR_F NG)
      obtain ⟨u1, u2, u3⟩ := show12 c2 (by omega) (by omega)
      refine ⟨small (Nat.zero_le _), fun R hR => ?_⟩
      have sR := same_new hR (.lst [])
      refine ⟨_, rfl, v, _, rfl, dp_same sR hdv, w1, w2, w3, ?_⟩
      refine ⟨_, _, rfl, ?_⟩
      have hdv1 := dp_same sR hdv
      cases hdv1 with
      | @tup na nvs _ nat neach =>
      cases neach with
      | @cons cv _ _ _ h1 r1 =>
      cases r1 with
      | @cons av _ _ _ h2 r2 =>
      cases r2
      cases h2 with
      | @tup aa avs _ aat aeach =>
      have la := dpAll_len aeach
      refine ⟨_, rfl, na, _, 1, _, rfl, rfl, nat, atI_at (by decide) rfl, aa, rfl, ⟨_, aat⟩, ?_⟩
      have hE : ∀ {G' : Hp}, ExtN (upd G R (.lst [])) G' → SqT K G' aa avs ∧ DpAll K G' avs as := fun e => ⟨sqT_ext e aat, dp_exts e _ _ aeach⟩
      have hvG : ∀ {G' : Hp}, ExtN G G' → Dp K G' (.ref na) (.tuple [.tuple cs, .tuple as]) := fun e => dp_ext e _ _ hdv
      have tupA : tupOnlyAll as = true := by
        have := net_tupO isN
        exact (and3 (and3 (show (tupOnlyAll cs && (tupOnlyAll as && true)) = true from this)).2).1
      have tR := tG.same sR
      have eR : ExtN G (upd G R (.lst [])) := ext_same sR
      have hRn : ∀ u, G R = some u → ∃ ps, u = .tbl ps := fun u hu => by rw [hR] at hu; cases hu
      refine for_tup (xs := avs) (fun j σ G' => ∃ (ws : List V) (o7 o10 : Option V), σ = [some (.ref a), some (.int (0 + (i : Int))), some (.ref st), some (.ref p), some (.ref na), some (.ref R), some (.str (PyData.tuple [.tuple cs, .tuple as]).shown), o7, o8, o9, o10] ∧ ExtN G G' ∧ TabsG PT G' ∧ SqT K G' aa avs ∧ DpAll K G' avs as ∧ G' R = some (.lst ws) ∧ ws.length = j ∧ DpAll K G' ws ((as.take j).map fun d => rowsD ((lfN 4 d 0 (-1)).map cpR)))
        ⟨[], _, _, rfl, eR, tR, aat, aeach, upd_same, rfl, .nil⟩ (fun j σ G' _ h => by obtain ⟨_, _, _, _, _, _, e, _⟩ := h; exact e) (fun j bv σ G' hbv h => ?_) (fun σ G' h => ?_)
      · obtain ⟨ws, o7, o10, rfl, e1, t1, at1, ea1, gR, lw, dw⟩ := h
        have jl := (List.getElem?_eq_some_iff.mp hbv).1
        have l4 := NG.l4
        obtain ⟨d, hd, hdb⟩ := dpAll_get' ea1 hbv
        obtain ⟨hb1, hb2⟩ := NG.act j d hd
        have l100 : (cs.map pairD).length ≤ 100 := by
          have := NG.l6
          rw [List.length_map]
          omega
        refine ⟨_, rfl, .inl ⟨rfl, _, SqL.of gR⟩, _, rfl, 1, rfl, bv, d, _, _, 0, -1, rfl, hdb, hb1, hb2, fun Rr rws G1 s1 fR gr dr => ?_⟩
        have lr := dpAll_len dr
        rw [List.length_map, lfN_len hb1] at lr
        refine ⟨Rr, rfl, ⟨rws, SqL.of gr⟩, fun D hD => ?_⟩
        refine lc_list (xs := rws) (fun m X => Same G1 X ∧ ∃ us : List V, X D = some (.lst us) ∧ us.length = m ∧ DpAll K X us ((((lfN 4 d 0 (-1)).take m).map cpR).map rowD)) ⟨same_new hD _, [], upd_same, rfl, .nil⟩ (fun m X _ h => SqL.of (h.1 _ _ gr)) (fun m rv X hrv h => ?_) (fun X h => ?_)
        · obtain ⟨sX, us, gD, lu, du⟩ := h
          have ml := (List.getElem?_eq_some_iff.mp hrv).1
          obtain ⟨e, he, hev⟩ := dpAll_get' (dps_same sX dr) hrv
          rw [List.getElem?_map] at he
          obtain ⟨r, hr', rfl⟩ := Option.map_eq_some_iff.mp he
          have rm := List.mem_of_getElem? hr'
          obtain ⟨z, ds, er, lds⟩ := lfN_row (n := 0) (b := -1) (side_nn l100) (side_nn l100) hb1 r rm
          refine ⟨rfl, yesG ⟨_, rfl, rv, r, z, ds, rfl, hev, er, lds, fun y G2 s2 dy => ?_⟩⟩
          have gD2 := s2 _ _ gD
          refine ⟨us, gD2, Nat.lt_of_lt_of_le (show _ < 1000 by omega) (small (Nat.le_refl _)), same_upd2 (sX.trans s2) hD, us ++ [y], upd_same, by rw [List.length_append, lu]; rfl, ?_⟩
          refine rows_upd ?_ gD2 fun q hq => ?_
          · rw [take_more hr', List.map_append, List.map_append]
            exact dpAll_app (dps_same s2 du) (.cons dy .nil)
          · obtain ⟨q', hq', rfl⟩ := List.mem_map.mp hq
            exact cp_tup (lfN_tup 4 hb1 q' (List.mem_of_mem_take hq'))
        · obtain ⟨sX, us, gD, lu, du⟩ := h
          rw [lr, ← lfN_len (n := 0) (b := -1) hb1, List.take_length] at du
          refine ⟨D, us, rfl, .inl ⟨SqL.of gD, fun p2 q2 => ?_⟩⟩
          have s2 := same_new q2 (.tup us)
          have sX2 := s1.trans (sX.trans s2)
          have gR2 := sX2 _ _ gR
          refine ⟨R, ws, _, rfl, rfl, gR2, Nat.lt_of_lt_of_le (show _ < 1000 by omega) (small (Nat.le_refl _)), ws ++ [.ref p2], _, _, rfl, ext_upd (e1.trans (ext_same sX2)) hRn, tabsG_upd (t1.same sX2) gR2, sqT_kt (kt_updL gR2) (sqT_same sX2 at1), dpAll_kt (kt_updL gR2) _ _ tupA (dps_same sX2 ea1), upd_same, by rw [List.length_append, lw]; rfl, ?_⟩
          refine dpAll_kt (kt_updL gR2) _ _ ?_ ?_
          · refine tup_all fun z hz => ?_
            obtain ⟨d', hd', rfl⟩ := List.mem_map.mp hz
            obtain ⟨i', hi'⟩ := List.getElem?_of_mem (List.mem_of_mem_take hd')
            refine rows_tup fun q hq => ?_
            obtain ⟨q', hq', rfl⟩ := List.mem_map.mp hq
            exact cp_tup (lfN_tup 4 (NG.act i' d' hi').1 q' hq')
          · rw [take_more hd, List.map_append]
            exact dpAll_app (dps_same sX2 dw) (.cons (.tup (SqT.of upd_same) (dps_same s2 du)) .nil)
      · obtain ⟨ws, o7, o10, rfl, e1, t1, at1, ea1, gR, lw, dw⟩ := h
        rw [la, List.take_length, code_rows NG] at dw
        clear lw at1 ea1
        generalize hS : (PyData.tuple [.tuple cs, .tuple as]).shown = S at w3 ⊢
        generalize hC : (codeD (codeR as)).shown = C at u3
        refine ⟨2, rfl, by decide, by decide, ?_⟩
        refine for_range (lo := 0) (n := 2) (fun l' σ G2 => ∃ o8 o9 : Option V, σ = [some (.ref a), some (.int (0 + (i : Int))), some (.ref st), some (.ref p), some (.ref na), some (.ref R), some (.str S), o7, o8, o9, o10] ∧ ExtN G G2 ∧ TabsG PT G2 ∧ G2 R = some (.lst ws) ∧ DpAll K G2 ws ((codeR as).map rowsD) ∧ (0 < l' → ∃ fv, o9 = some fv ∧ Dp K G2 fv (codeD (codeR as))))
          ⟨_, _, rfl, e1, t1, gR, dw, fun h => absurd h (by decide)⟩ (fun l' σ G2 hl' h => ?_) (fun σ G2 h => ?_)
        · obtain ⟨o8, o9, rfl, e2, t2, gR2, dw2, _⟩ := h
          refine ⟨_, rfl, .ref na, cs, as, rfl, hvG e2, nb, t2, fun fv G3 e3 t3 df => ?_⟩
          have gR3 := ext_lst e3 gR2
          have dw3 := dp_exts e3 _ _ dw2
          have e13 := e2.trans e3
          refine ⟨_, rfl, fv, _, rfl, df, u1, u2, hC ▸ u3, _, rfl, R, ws, rfl, .inl ⟨SqL.of gR3, fun p2 q2 => ?_⟩⟩
          have s4 := same_new q2 (.tup ws)
          refine ⟨.ref p2, codeD (codeR as), rfl, .tup (SqT.of upd_same) (dps_same s4 dw3), u1, u2, hC ▸ u3, rfl, _, rfl, ?_⟩
          have e14 := e13.trans (ext_same s4)
          have t4 := t3.same s4
          have df4 := dp_same s4 df
          refine ifF (by rw [decide_eq_true rfl]; rfl) ⟨_, rfl, _, rfl, .ref na, fv, cs, as, codeR as, rfl, hvG e14, nb, df4, codeR_F NG, t4, fun G5 e5 t5 => ⟨_, _, rfl, rfl, _, rfl, ifF rfl ?_⟩⟩
          have e15 := e14.trans e5
          have df5 := dp_ext e5 _ _ df4
          refine ⟨_, rfl, _, rfl, .ref na, fv, cs, as, rfl, hvG e15, nb, df5, t5, fun G6 e6 t6 => ⟨_, _, rfl, rfl, _, rfl, ifF rfl ?_⟩⟩
          exact ⟨_, _, rfl, e15.trans e6, t6, ext_lst e6 (ext_lst e5 (s4 _ _ gR3)), dp_exts e6 _ _ (dp_exts e5 _ _ (dps_same s4 dw3)), fun _ => ⟨fv, rfl, dp_ext e6 _ _ df5⟩⟩
        · obtain ⟨o8, o9, rfl, e2, t2, gR2, dw2, hf⟩ := h
          obtain ⟨fv, rfl, df⟩ := hf (by decide)
          refine ⟨_, rfl, rfl, .ref na, cs, as, rfl, hvG e2, nb, t2, fun fv2 G3 e3 t3 df2 => ?_⟩
          have e13 := e2.trans e3
          refine ⟨fv2, _, rfl, df2, u1, u2, hC ▸ u3, _, rfl, fv, _, rfl, dp_ext e3 _ _ df, u1, u2, hC ▸ u3, rfl, _, rfl, ?_⟩
          refine ifF (by rw [decide_eq_true rfl]; rfl) ⟨_, rfl, .ref na, _, rfl, hvG e13, w1, w2, hS ▸ w3, _, rfl, rfl, _, rfl, ?_⟩
          refine ifF (by rw [hS, decide_eq_true rfl]; rfl) ?_
          exact ⟨_, _, _, _, _, _, _, rfl, eG.trans e13, t3⟩
    · obtain ⟨o4, o5, o6, o7, o8, o9, o10, rfl, eG, tG⟩ := h
      exact ⟨_, _, _, _, _, _, _, _, _, _, rfl, scr_ext sc3 eG, tG⟩
end
/-! what the top's tables hold -/
section
variable {K : PySem.W.Frag} {w : World}
/-- an entry of a table with text keys -/
def Ent (P : Params) (p : Str × Value) (e : DictEntry) : Prop := ∃ t, e = ⟨PyData.keyHash P p.1, .str p.1 t, p.2⟩
theorem ent_lit {P : Params} : ∀ {l : List (Str × Value)} {es : List DictEntry}, Paired (Ent P) l es → PySem.W.KeysLit P es
  | _, _, .nil => trivial
  | _, _, .cons h t => by
    obtain ⟨tk, rfl⟩ := h
    exact ⟨⟨_, tk, rfl, rfl⟩, ent_lit t⟩
theorem ent_find {P : Params} (z : Str) : ∀ {l : List (Str × Value)} {es : List DictEntry}, Paired (Ent P) l es → (es.find? (·.key.isStr z)).map (·.val) = l.lookup z ∧ es.any (·.refKey) = false
  | _, _, .nil => ⟨rfl, rfl⟩
  | (x, v) :: l, _, .cons h t => by
    obtain ⟨tk, rfl⟩ := h
    obtain ⟨i1, i2⟩ := ent_find z t
    refine ⟨?_, ?_⟩
    · rw [List.find?_cons, List.lookup_cons]
      have e : (Value.str x tk).isStr z = (z == x) := by
        show (x == z) = (z == x)
        rw [beq_sd, beq_sd]
        exact decide_eq_decide.mpr eq_comm
      show Option.map _ (match (Value.str x tk).isStr z with | true => some (⟨PyData.keyHash P x, .str x tk, v⟩ : DictEntry) | false => _) = _
      rw [e]
      cases z == x with
      | true => rfl
      | false => exact i1
    · rw [List.any_cons, i2]
      rfl
theorem ent_ns {d : Addr} {es : Array DictEntry} {n : Nat} {l : List (Str × Value)} (lk : K.lookup d = some ⟨.type "dict", none, .dict es n, #[]⟩) (h : Paired (Ent w.params) l es.toList) (z : Str) : PySem.W.nsIn K d z = some (l.lookup z) := by
  obtain ⟨h1, h2⟩ := ent_find z h
  unfold PySem.W.nsIn
  rw [lk]
  show (match es.toList.find? (·.key.isStr z) with | some e => some (some e.val) | none => if es.toList.any (·.refKey) = true then none else some none) = _
  cases hf : es.toList.find? (·.key.isStr z) with
  | some e =>
    rw [hf] at h1
    rw [← h1]
    rfl
  | none =>
    rw [hf] at h1
    rw [← h1, h2]
    rfl
theorem pair_look {α β γ : Type} [BEq α] [LawfulBEq α] {R : β → γ → Prop} (z : α) : ∀ {l : List (α × β)} {m : List (α × γ)}, Paired (fun p q => p.1 = q.1 ∧ R p.2 q.2) l m → (l.lookup z = none → m.lookup z = none) ∧ ∀ b, l.lookup z = some b → ∃ c, m.lookup z = some c ∧ R b c
  | _, _, .nil => ⟨fun _ => rfl, fun b h => by cases h⟩
  | (x, b) :: l, (y, c) :: m, .cons h t => by
    obtain ⟨i1, i2⟩ := pair_look z t
    obtain ⟨e, r⟩ := h
    have e : x = y := e
    subst e
    rw [List.lookup_cons, List.lookup_cons]
    cases z == x with
    | true => exact ⟨(fun q => by cases q), fun b' q => by cases q; exact ⟨c, rfl, r⟩⟩
    | false => exact ⟨i1, i2⟩
theorem deedT_of {d : Addr} {es : Array DictEntry} {n : Nat} {l : List (Str × Value)} (lk : K.lookup d = some ⟨.type "dict", none, .dict es n, #[]⟩) (low : (d == sysModules) = false) (h : Paired (Ent w.params) l es.toList) (hl : Paired (fun (p : Str × List Kd) (q : Str × Value) => p.1 = q.1 ∧ ∃ a, q.2 = .ref a ∧ SqK K a (p.2.map fun k => V.str (kdS k))) deedL l) : DeedT K w d := by
  refine ⟨⟨es, n, lk, ent_lit h, low⟩, fun z hz => ?_, fun z ks hz => ?_⟩
  · rw [ent_ns lk h, (pair_look (R := fun (p : List Kd) (q : Value) => ∃ a, q = .ref a ∧ SqK K a (p.map fun k => V.str (kdS k))) z hl).1 hz]
  · obtain ⟨c, h1, a, h2, h3⟩ := (pair_look (R := fun (p : List Kd) (q : Value) => ∃ a, q = .ref a ∧ SqK K a (p.map fun k => V.str (kdS k))) z hl).2 ks hz
    refine ⟨a, ?_, h3⟩
    rw [ent_ns lk h, h1, h2]
def brLst : List (Str × Nat) := [("if", 2), ("while", 1)]
theorem brK_look (z : Str) : brK z = brLst.lookup z := by
  unfold brK brLst
  rw [List.lookup_cons]
  by_cases e : z = "if"
  · rw [if_pos e, e]
    rfl
  · rw [if_neg e, show (z == ("if" : Str)) = false from beq_eq_false_iff_ne.mpr e]
    show _ = List.lookup z [(("while" : Str), 1)]
    rw [List.lookup_cons]
    by_cases e2 : z = "while"
    · rw [if_pos e2, e2]
      rfl
    · rw [if_neg e2, show (z == ("while" : Str)) = false from beq_eq_false_iff_ne.mpr e2]
      rfl
theorem branchT_of {d : Addr} {es : Array DictEntry} {n : Nat} {l : List (Str × Value)} (lk : K.lookup d = some ⟨.type "dict", none, .dict es n, #[]⟩) (low : (d == sysModules) = false) (h : Paired (Ent w.params) l es.toList) (hl : Paired (fun (p : Str × Nat) (q : Str × Value) => p.1 = q.1 ∧ ∃ t, q.2 = .int (p.2 : Nat) t) brLst l) : BranchT K w d := by
  refine ⟨⟨es, n, lk, ent_lit h, low⟩, fun z hz => ?_, fun z m hz => ?_⟩
  · rw [brK_look] at hz
    rw [ent_ns lk h, (pair_look (R := fun (p : Nat) (q : Value) => ∃ t, q = .int (p : Nat) t) z hl).1 hz]
  · rw [brK_look] at hz
    obtain ⟨c, h1, t, h2⟩ := (pair_look (R := fun (p : Nat) (q : Value) => ∃ t, q = .int (p : Nat) t) z hl).2 m hz
    refine ⟨t, ?_⟩
    rw [ent_ns lk h, h1, h2]
end
/-- a def of the text that stands under its name -/
structure Std0 (K : PySem.W.Frag) (mg : Str → Option Value) (x : Str) (st : Stmt) (f : Addr) (fd : FuncData) : Prop where
  fn : Fun K x x st f fd
  nm : mg x = some (.ref f)
structure Std (K : PySem.W.Frag) (mg : Str → Option Value) (x : Str) (st : Stmt) (ps : List Str) (f : Addr) (fd : FuncData) : Prop where
  fn : Fun K x x st f fd
  nm : mg x = some (.ref f)
  bi : Binds K fd ps []
theorem Std.cal {P : Program} {w : World} {K : PySem.W.Frag} {mg : Str → Option Value} {base : Heap} {x : Str} {st : Stmt} {ps : List Str} {f : Addr} {fd : FuncData} {k j : Nat} {sp : Sp} (D : Std K mg x st ps f fd) (F : FnOk P w K mg base CX0 k f fd ps sp) (h : k ≤ j := by omega) : Cal P w K mg base x j ps sp :=
  ⟨f, fd, F.mono h, D.nm, D.fn.kp, D.bi⟩
section
open PySem.Spec PyProof.Rows LamX
theorem all_cals {P : Program} {w : World} {K : PySem.W.Frag} {mg : Str → Option Value} {base : Heap} {PA1 cA1 PA2 cA2 PA3 cA3 PA4 cA4 PA5 cA5 PA6 cA6 PA7 cA7 PA8 cA8 PA9 cA9 PA10 cA10 PA11 cA11 PA12 cA12 : Addr} {adS adU adH adW dtD dtB : Addr} (T : Free mg) (C : Cst mg) (e0 : mg "all" = none) (e1 : mg "str" = none) (e2 : mg "zip" = none) (e3 : mg "enumerate" = none)
    (mS : mg "SIGNS" = some (.ref adS)) (hS : SqK K adS (signs.map V.str)) (mU : mg "UNLIKE" = some (.ref adU)) (hU : SqK K adU (unlikeL.map V.str)) (mH : mg "HANDING" = some (.ref adH)) (hH : SqK K adH (handL.map V.str)) (mW : mg "WAYS" = some (.ref adW)) (hW : SqK K adW (wayL.map V.str)) (mD : mg "DEEDS" = some (.ref dtD)) (hD : DeedT K w dtD) (mB : mg "BRANCHES" = some (.ref dtB)) (hB : BranchT K w dtB)
    {f0 : Addr} {d0 : FuncData} (D0 : Std K mg "is_whole" sWhole ["thing"] f0 d0) {f1 : Addr} {d1 : FuncData} (D1 : Std K mg "is_within" sWithin ["thing", "least", "most"] f1 d1) {f2 : Addr} {d2 : FuncData} (D2 : Std K mg "is_tuple" sTuple ["thing", "least", "most"] f2 d2) {f3 : Addr} {d3 : FuncData} (D3 : Std K mg "is_number" sNumber ["thing"] f3 d3) {f4 : Addr} {d4 : FuncData} (D4 : Std K mg "is_place" sPlace ["thing"] f4 d4) {f5 : Addr} {d5 : FuncData} (D5 : Std K mg "are_small" sSmall ["text"] f5 d5) {f6 : Addr} {d6 : FuncData} (D6 : Std K mg "is_number_name" sNumName ["thing"] f6 d6) {f7 : Addr} {d7 : FuncData} (D7 : Std K mg "is_graph_name" sGraphName ["thing"] f7 d7) {f8 : Addr} {d8 : FuncData} (D8 : Std K mg "fits" sFits ["kind", "part", "sends", "takes"] f8 d8) {f9 : Addr} {d9 : FuncData} (D9 : Std K mg "word_of" sWordOf ["thing"] f9 d9) {f10 : Addr} {d10 : FuncData} (D10 : Std K mg "is_deed" sIsDeed ["thing", "sends", "takes"] f10 d10) {f11 : Addr} {d11 : FuncData} (D11 : Std K mg "is_branch" sIsBranch ["thing"] f11 d11) {f12 : Addr} {d12 : FuncData} (D12 : Std K mg "statement_size" sStSize ["thing", "level", "sends", "takes"] f12 d12) {f13 : Addr} {d13 : FuncData} (D13 : Std K mg "block_size" sBlSize ["thing", "level", "sends", "takes"] f13 d13) {f14 : Addr} {d14 : FuncData} (D14 : Std K mg "is_channel" sIsChan ["thing", "actors"] f14 d14) {f15 : Addr} {d15 : FuncData} (D15 : Std K mg "sends_of" sSends ["channels", "actor"] f15 d15) {f16 : Addr} {d16 : FuncData} (D16 : Std K mg "takes_of" sTakes ["channels", "actor"] f16 d16) {f17 : Addr} {d17 : FuncData} (D17 : Std K mg "is_net" sIsNet ["thing"] f17 d17) {f18 : Addr} {d18 : FuncData} (D18 : Std K mg "check_net" sCheckNet ["net"] f18 d18) {f19 : Addr} {d19 : FuncData} (D19 : Std K mg "hands_on" sHands ["deed"] f19 d19) {f20 : Addr} {d20 : FuncData} (D20 : Std K mg "is_test" sIsTest ["thing"] f20 d20) {f21 : Addr} {d21 : FuncData} (D21 : Std K mg "is_flat_deed" sFlatDeed ["thing", "sends", "takes"] f21 d21) {f22 : Addr} {d22 : FuncData} (D22 : Std K mg "is_row" sIsRow ["thing", "many", "sends", "takes"] f22 d22) {f23 : Addr} {d23 : FuncData} (D23 : Std K mg "are_rows" sAreRows ["thing", "sends", "takes"] f23 d23) {f24 : Addr} {d24 : FuncData} (D24 : Std K mg "is_code" sIsCode ["net", "thing"] f24 d24) {f25 : Addr} {d25 : FuncData} (D25 : Std K mg "check_code" sCheckCode ["net", "code"] f25 d25) {f26 : Addr} {d26 : FuncData} (D26 : Std K mg "with_way" sWithWay ["row", "way"] f26 d26) {f27 : Addr} {d27 : FuncData} (D27 : Std K mg "copying" sCopying ["rows"] f27 d27) {f28 : Addr} {d28 : FuncData} (D28 : Std K mg "size_of" sSizeOf ["statement"] f28 d28) {f29 : Addr} {d29 : FuncData} (D29 : Std K mg "flat_block" sFlatBl ["block", "first", "behind"] f29 d29) {f30 : Addr} {d30 : FuncData} (D30 : Std K mg "flat_statement" sFlatSt ["statement", "number", "behind"] f30 d30) {f31 : Addr} {d31 : FuncData} (D31 : Std K mg "flat_if" sFlatIf ["statement", "number", "behind"] f31 d31) {f32 : Addr} {d32 : FuncData} (D32 : Std K mg "flat_while" sFlatWh ["statement", "number", "behind"] f32 d32) {f33 : Addr} {d33 : FuncData} (D33 : Std K mg "flat" sFlat ["net"] f33 d33) {f34 : Addr} {d34 : FuncData} (D34 : Std K mg "is_own" sIsOwn ["net", "code"] f34 d34) {f35 : Addr} {d35 : FuncData} (D35 : Std K mg "_law_cell_at" sCell ["_law_script", "_law_k"] f35 d35) {f36 : Addr} {d36 : FuncData} (D36 : Std K mg "_law_state" sState ["_law_script", "_law_k"] f36 d36) {f37 : Addr} {d37 : FuncData} (D37 : Std K mg "_law_choice" sChoice ["_law_state_here", "_law_many_here"] f37 d37) {f38 : Addr} {d38 : FuncData} (D38 : Std K mg "_law_many" sMany ["_law_block_here"] f38 d38) {f39 : Addr} {d39 : FuncData} (D39 : Std K mg "_law_simple" sSimple ["_law_state_here", "_law_sends", "_law_takes"] f39 d39) {f40 : Addr} {d40 : FuncData} (D40 : Std K mg "_law_block" sBlock ["_law_state_here", "_law_sends", "_law_takes", "_law_deep", "_law_most"] f40 d40) {f41 : Addr} {d41 : FuncData} (D41 : Std K mg "_law_ends" sEnds ["_law_channels", "_law_actor", "_law_side"] f41 d41) {f42 : Addr} {d42 : FuncData} (D42 : Std K mg "_law_net" sNet ["_law_state_here", "_law_most", "_law_long"] f42 d42) {f43 : Addr} {d43 : FuncData} (D43 : Std K mg "_law_flat" sLFlat ["_law_block_here", "_law_begin", "_law_behind"] f43 d43) {f44 : Addr} {d44 : FuncData} (D44 : Std K mg "_law_marked" sMarked ["_law_row"] f44 d44) {f45 : Addr} {d45 : FuncData} (D45 : Std K mg "_law_ends_of_blocks" sEob [] f45 d45)
    (cdA1 : d5.code = .ref cA1) (TA1 : LamX.TabB base mg cA1 PA1) (cdA2 : d10.code = .ref cA2) (TA2 : LamX.TabB base mg cA2 PA2) (cdA3 : d14.code = .ref cA3) (TA3 : LamX.TabB base mg cA3 PA3) (cdA4 : d15.code = .ref cA4) (TA4 : LamX.TabB base mg cA4 PA4) (cdA5 : d16.code = .ref cA5) (TA5 : LamX.TabB base mg cA5 PA5) (cdA6 : d17.code = .ref cA6) (TA6 : LamX.TabB base mg cA6 PA6) (cdA7 : d22.code = .ref cA7) (TA7 : LamX.TabB base mg cA7 PA7) (cdA8 : d23.code = .ref cA8) (TA8 : LamX.TabB base mg cA8 PA8) (cdA9 : d24.code = .ref cA9) (TA9 : LamX.TabB base mg cA9 PA9) (cdA10 : d27.code = .ref cA10) (TA10 : LamX.TabB base mg cA10 PA10) (cdA11 : d33.code = .ref cA11) (TA11 : LamX.TabB base mg cA11 PA11) (cdA12 : d34.code = .ref cA12) (TA12 : LamX.TabB base mg cA12 PA12) : Law12 P w K mg base [PA1, PA2, PA3, PA4, PA5, PA6, PA7, PA8, PA9, PA10, PA11, PA12] 24 := by
  have mA1 : PA1 ∈ [PA1, PA2, PA3, PA4, PA5, PA6, PA7, PA8, PA9, PA10, PA11, PA12] := List.mem_cons_self
  have mA2 : PA2 ∈ [PA1, PA2, PA3, PA4, PA5, PA6, PA7, PA8, PA9, PA10, PA11, PA12] := (List.mem_cons_of_mem _ List.mem_cons_self)
  have mA3 : PA3 ∈ [PA1, PA2, PA3, PA4, PA5, PA6, PA7, PA8, PA9, PA10, PA11, PA12] := (List.mem_cons_of_mem _ (List.mem_cons_of_mem _ List.mem_cons_self))
  have mA4 : PA4 ∈ [PA1, PA2, PA3, PA4, PA5, PA6, PA7, PA8, PA9, PA10, PA11, PA12] := (List.mem_cons_of_mem _ (List.mem_cons_of_mem _ (List.mem_cons_of_mem _ List.mem_cons_self)))
  have mA5 : PA5 ∈ [PA1, PA2, PA3, PA4, PA5, PA6, PA7, PA8, PA9, PA10, PA11, PA12] := (List.mem_cons_of_mem _ (List.mem_cons_of_mem _ (List.mem_cons_of_mem _ (List.mem_cons_of_mem _ List.mem_cons_self))))
  have mA6 : PA6 ∈ [PA1, PA2, PA3, PA4, PA5, PA6, PA7, PA8, PA9, PA10, PA11, PA12] := (List.mem_cons_of_mem _ (List.mem_cons_of_mem _ (List.mem_cons_of_mem _ (List.mem_cons_of_mem _ (List.mem_cons_of_mem _ List.mem_cons_self)))))
  have mA7 : PA7 ∈ [PA1, PA2, PA3, PA4, PA5, PA6, PA7, PA8, PA9, PA10, PA11, PA12] := (List.mem_cons_of_mem _ (List.mem_cons_of_mem _ (List.mem_cons_of_mem _ (List.mem_cons_of_mem _ (List.mem_cons_of_mem _ (List.mem_cons_of_mem _ List.mem_cons_self))))))
  have mA8 : PA8 ∈ [PA1, PA2, PA3, PA4, PA5, PA6, PA7, PA8, PA9, PA10, PA11, PA12] := (List.mem_cons_of_mem _ (List.mem_cons_of_mem _ (List.mem_cons_of_mem _ (List.mem_cons_of_mem _ (List.mem_cons_of_mem _ (List.mem_cons_of_mem _ (List.mem_cons_of_mem _ List.mem_cons_self)))))))
  have mA9 : PA9 ∈ [PA1, PA2, PA3, PA4, PA5, PA6, PA7, PA8, PA9, PA10, PA11, PA12] := (List.mem_cons_of_mem _ (List.mem_cons_of_mem _ (List.mem_cons_of_mem _ (List.mem_cons_of_mem _ (List.mem_cons_of_mem _ (List.mem_cons_of_mem _ (List.mem_cons_of_mem _ (List.mem_cons_of_mem _ List.mem_cons_self))))))))
  have mA10 : PA10 ∈ [PA1, PA2, PA3, PA4, PA5, PA6, PA7, PA8, PA9, PA10, PA11, PA12] := (List.mem_cons_of_mem _ (List.mem_cons_of_mem _ (List.mem_cons_of_mem _ (List.mem_cons_of_mem _ (List.mem_cons_of_mem _ (List.mem_cons_of_mem _ (List.mem_cons_of_mem _ (List.mem_cons_of_mem _ (List.mem_cons_of_mem _ List.mem_cons_self)))))))))
  have mA11 : PA11 ∈ [PA1, PA2, PA3, PA4, PA5, PA6, PA7, PA8, PA9, PA10, PA11, PA12] := (List.mem_cons_of_mem _ (List.mem_cons_of_mem _ (List.mem_cons_of_mem _ (List.mem_cons_of_mem _ (List.mem_cons_of_mem _ (List.mem_cons_of_mem _ (List.mem_cons_of_mem _ (List.mem_cons_of_mem _ (List.mem_cons_of_mem _ (List.mem_cons_of_mem _ List.mem_cons_self))))))))))
  have mA12 : PA12 ∈ [PA1, PA2, PA3, PA4, PA5, PA6, PA7, PA8, PA9, PA10, PA11, PA12] := (List.mem_cons_of_mem _ (List.mem_cons_of_mem _ (List.mem_cons_of_mem _ (List.mem_cons_of_mem _ (List.mem_cons_of_mem _ (List.mem_cons_of_mem _ (List.mem_cons_of_mem _ (List.mem_cons_of_mem _ (List.mem_cons_of_mem _ (List.mem_cons_of_mem _ (List.mem_cons_of_mem _ List.mem_cons_self)))))))))))
  have cW := D0.cal (j := 1) (ok_whole (P := P) (w := w) (base := base) (k := 0) D0.fn T)
  have cWi := D1.cal (j := 2) (ok_within D1.fn cW)
  have cTu := D2.cal (j := 1) (ok_tuple (P := P) (w := w) (base := base) (k := 0) D2.fn T)
  have cNu := D3.cal (j := 3) (ok_number D3.fn C cWi)
  have cPl := D4.cal (j := 3) (ok_placeD D4.fn C cWi)
  have cSm := D5.cal (j := 2) (ok_small (P := P) (w := w) (base := base) (k := 0) (PT := [PA1, PA2, PA3, PA4, PA5, PA6, PA7, PA8, PA9, PA10, PA11, PA12]) D5.fn cdA1 TA1 mA1 e0)
  have cNN := D6.cal (j := 3) (ok_numName D6.fn T e1 C cSm)
  have cGN := D7.cal (j := 3) (ok_graphName D7.fn T e1 C cSm)
  have cFi := D8.cal (j := 4) (ok_fits (k := 3) D8.fn mS hS cNN cGN cNu cPl (cW.mono (by omega)))
  have cWo := D9.cal (j := 1) (ok_wordOf (P := P) (w := w) (base := base) (k := 0) D9.fn T e1)
  have cDe := D10.cal (j := 6) (ok_isDeed (k := 4) D10.fn cdA2 TA2 mA2 T e0 e2 mD hD mU hU (cWo.mono (by omega)) cFi)
  have cBr := D11.cal (j := 4) (ok_isBranch (k := 3) D11.fn T mB hB (cWo.mono (by omega)) cNN)
  have cBl := D13.cal (j := 15) (all_blk (k := 6) (PT := [PA1, PA2, PA3, PA4, PA5, PA6, PA7, PA8, PA9, PA10, PA11, PA12]) D13.fn D12.fn D13.nm D12.nm D13.bi D12.bi C (cTu.mono (by omega)) cDe (cBr.mono (by omega)) 4 (by omega))
  have cCn := D14.cal (j := 4) (ok_isChan (k := 2) (PT := [PA1, PA2, PA3, PA4, PA5, PA6, PA7, PA8, PA9, PA10, PA11, PA12]) D14.fn cdA3 TA3 mA3 e0 (cTu.mono (by omega)) cWi)
  have cSd := D15.cal (j := 2) (ok_sSends (P := P) (w := w) (base := base) (k := 0) (PT := [PA1, PA2, PA3, PA4, PA5, PA6, PA7, PA8, PA9, PA10, PA11, PA12]) D15.fn cdA4 TA4 mA4 T)
  have cTk := D16.cal (j := 2) (ok_sTakes (P := P) (w := w) (base := base) (k := 0) (PT := [PA1, PA2, PA3, PA4, PA5, PA6, PA7, PA8, PA9, PA10, PA11, PA12]) D16.fn cdA5 TA5 mA5 T)
  have cIn := D17.cal (j := 17) (ok_isNet (k := 15) D17.fn cdA6 TA6 mA6 T C e0 e3 (cTu.mono (by omega)) (cCn.mono (by omega)) (cSd.mono (by omega)) (cTk.mono (by omega)) cBl)
  have cCk := D18.cal (j := 18) (ok_checkNet (k := 17) D18.fn cIn)
  have cHa := D19.cal (j := 1) (ok_hands (P := P) (w := w) (base := base) (k := 0) D19.fn mH hH)
  have cTe := D20.cal (j := 4) (ok_test (k := 3) D20.fn T (cWo.mono (by omega)) cNN)
  have cFd := D21.cal (j := 7) (ok_flatDeed (k := 6) D21.fn mH hH mW hW (cWo.mono (by omega)) cDe)
  have cRw := D22.cal (j := 9) (ok_isRow (k := 7) D22.fn cdA7 TA7 mA7 C e0 (cTu.mono (by omega)) (cWi.mono (by omega)) (cTe.mono (by omega)) cFd)
  have cAr := D23.cal (j := 11) (ok_areRows (k := 9) D23.fn cdA8 TA8 mA8 T C e0 (cTu.mono (by omega)) cRw)
  have cIc := D24.cal (j := 20) (ok_isCode (k := 18) D24.fn cdA9 TA9 mA9 T e0 e3 cCk (cTu.mono (by omega)) (cSd.mono (by omega)) (cTk.mono (by omega)) (cAr.mono (by omega)))
  have cCc := D25.cal (j := 21) (ok_checkCode (k := 20) D25.fn cIc)
  have cWw := D26.cal (j := 2) (ok_withWay (k := 1) D26.fn cHa)
  have cCp := D27.cal (j := 4) (ok_copying (k := 2) (PT := [PA1, PA2, PA3, PA4, PA5, PA6, PA7, PA8, PA9, PA10, PA11, PA12]) D27.fn cdA10 TA10 mA10 T cWw)
  have cSz : ∀ n, n ≤ 3 → Cal P w K mg base "size_of" 4 ["statement"] (spSizeOf K n) := fun n hn => D28.cal (j := 4) (all_size (P := P) (w := w) (base := base) (k := 0) D28.fn D28.nm D28.bi T n)
  have cFb := D29.cal (j := 16) (all_fb (k := 4) D29.fn D30.fn D31.fn D32.fn D29.nm D30.nm D31.nm D32.nm D29.bi D30.bi D31.bi D32.bi T e3 cSz (cHa.mono (by omega)) 4 (by omega))
  have oF := ok_flat (k := 18) D33.fn cdA11 TA11 mA11 T C cCk (cFb.mono (by omega))
  have cFl := D33.cal (j := 20) oF
  have cCh := D37.cal (j := 1) (ok_choice (P := P) (w := w) (base := base) (mg := mg) (k := 0) D37.fn)
  have cCe := D35.cal (j := 1) (ok_cell (P := P) (w := w) (base := base) (k := 0) D35.fn T)
  have cMa : ∀ n, n ≤ 4 → Cal P w K mg base "_law_many" 4 ["_law_block_here"] (spMany K n) := fun n hn => D38.cal (j := 4) (all_many (P := P) (w := w) (base := base) (k := 0) D38.fn D38.nm D38.bi T n)
  have cSi := D39.cal (j := 2) (ok_simple (k := 1) D39.fn T cCh)
  have cLb := D40.cal (j := 6) (all_block (k := 2) D40.fn D40.nm D40.bi T (cCh.mono (by omega)) cSi 3 (by omega))
  have cEn := D41.cal (j := 1) (ok_ends (P := P) (w := w) (base := base) (k := 0) D41.fn e3)
  exact {
    cSt := D36.cal (ok_state D36.fn T cCe)
    cN := D42.cal (ok_net (k := 6) D42.fn T (cCh.mono (by omega)) (cEn.mono (by omega)) cLb ((cMa 4 (by omega)).mono (by omega)))
    cEb := D45.cal (ok_eob (P := P) (w := w) (base := base) (k := 0) D45.fn T)
    cL := D43.cal (all_lf (k := 4) D43.fn D43.nm D43.bi T e3 cMa 4 (by omega))
    cM := D44.cal (ok_marked (P := P) (w := w) (base := base) (mg := mg) (k := 0) D44.fn)
    cF := cFl.mono (by omega)
    kF := ⟨_, _, oF.mono (by omega), D33.nm, D33.fn.kp, kb_flat D33.fn⟩
    cI := cIc.mono (by omega)
    cO := D34.cal (ok_isOwn (k := 21) D34.fn cdA12 TA12 mA12 T cCc (cCp.mono (by omega)) (cFl.mono (by omega))) }
/-- a def with its code's table -/
def Coded (K : PySem.W.Frag) (mg : Str → Option Value) (x : Str) (st : Stmt) (c Pt : Addr) : Prop := ∃ (f : Addr) (fd : FuncData) (oT : Obj) (vT : Array Value), mg x = some (.ref f) ∧ Fun K x x st f fd ∧ fd.code = .ref c ∧ K.lookup c = some oT ∧ oT.data = .fields vT ∧ vT[11]? = some (.ref Pt) ∧ K.lookup Pt = none
/-- what the top leaves -/
def Left12 (K : PySem.W.Frag) (w : World) (mg : Str → Option Value) (fa : Addr) : Prop := ∃ (fd : FuncData) (cA1 PA1 cA2 PA2 cA3 PA3 cA4 PA4 cA5 PA5 cA6 PA6 cA7 PA7 cA8 PA8 cA9 PA9 cA10 PA10 cA11 PA11 cA12 PA12 : Addr), Fun K "law" "law" sLaw fa fd ∧ (∀ (s : Shared) (v : Value), BindsTo s fd ⟨[v], []⟩ [("_law_script", v)]) ∧ Free mg ∧ mg "all" = none ∧ mg "str" = none ∧ mg "zip" = none ∧ mg "enumerate" = none ∧ 
  Coded K mg "are_small" sSmall cA1 PA1 ∧ Coded K mg "is_deed" sIsDeed cA2 PA2 ∧ Coded K mg "is_channel" sIsChan cA3 PA3 ∧ Coded K mg "sends_of" sSends cA4 PA4 ∧ Coded K mg "takes_of" sTakes cA5 PA5 ∧ Coded K mg "is_net" sIsNet cA6 PA6 ∧ Coded K mg "is_row" sIsRow cA7 PA7 ∧ Coded K mg "are_rows" sAreRows cA8 PA8 ∧ Coded K mg "is_code" sIsCode cA9 PA9 ∧ Coded K mg "copying" sCopying cA10 PA10 ∧ Coded K mg "flat" sFlat cA11 PA11 ∧ Coded K mg "is_own" sIsOwn cA12 PA12 ∧
  ∀ (P : Program) (base : Heap), LamX.TabB base mg cA1 PA1 → LamX.TabB base mg cA2 PA2 → LamX.TabB base mg cA3 PA3 → LamX.TabB base mg cA4 PA4 → LamX.TabB base mg cA5 PA5 → LamX.TabB base mg cA6 PA6 → LamX.TabB base mg cA7 PA7 → LamX.TabB base mg cA8 PA8 → LamX.TabB base mg cA9 PA9 → LamX.TabB base mg cA10 PA10 → LamX.TabB base mg cA11 PA11 → LamX.TabB base mg cA12 PA12 → Law12 P w K mg base [PA1, PA2, PA3, PA4, PA5, PA6, PA7, PA8, PA9, PA10, PA11, PA12] 24
set_option maxHeartbeats 8000000 in
theorem all_mk {K : PySem.W.Frag} {w : World} {h : Heap} {mg : Str → Option Value} {fa : Addr} (X : K.In h) (G : h.Ns mainGlobals mg) (hfa : mg "law" = some (.ref fa))
    {f0 : Addr} {od0 an0 : Option Addr} {sl0 : Array (Option Value)} {oc0 kV0 dc0 pm0 ct0 : Value} {cd0 : Value}
    (a0 : PySem.W.nsIn K mainGlobals "is_whole" = some (some (.ref f0))) (l0 : K.lookup f0 = some ⟨oc0, od0, .func (PySem.W.fnOf "is_whole" "is_whole" (defArgs sWhole) (defBody sWhole) (defScope sWhole) .none kV0 dc0 pm0 an0 cd0 ct0), sl0⟩) (c0 : PySem.W.codeIn K cd0 "is_whole" = true) (k0 : PySem.W.keepIn K (.ref f0) = true)
    {f1 : Addr} {od1 an1 : Option Addr} {sl1 : Array (Option Value)} {oc1 kV1 dc1 pm1 ct1 : Value} {cd1 : Value}
    (a1 : PySem.W.nsIn K mainGlobals "is_within" = some (some (.ref f1))) (l1 : K.lookup f1 = some ⟨oc1, od1, .func (PySem.W.fnOf "is_within" "is_within" (defArgs sWithin) (defBody sWithin) (defScope sWithin) .none kV1 dc1 pm1 an1 cd1 ct1), sl1⟩) (c1 : PySem.W.codeIn K cd1 "is_within" = true) (k1 : PySem.W.keepIn K (.ref f1) = true)
    {f2 : Addr} {od2 an2 : Option Addr} {sl2 : Array (Option Value)} {oc2 kV2 dc2 pm2 ct2 : Value} {cd2 : Value}
    (a2 : PySem.W.nsIn K mainGlobals "is_tuple" = some (some (.ref f2))) (l2 : K.lookup f2 = some ⟨oc2, od2, .func (PySem.W.fnOf "is_tuple" "is_tuple" (defArgs sTuple) (defBody sTuple) (defScope sTuple) .none kV2 dc2 pm2 an2 cd2 ct2), sl2⟩) (c2 : PySem.W.codeIn K cd2 "is_tuple" = true) (k2 : PySem.W.keepIn K (.ref f2) = true)
    {f3 : Addr} {od3 an3 : Option Addr} {sl3 : Array (Option Value)} {oc3 kV3 dc3 pm3 ct3 : Value} {cd3 : Value}
    (a3 : PySem.W.nsIn K mainGlobals "is_number" = some (some (.ref f3))) (l3 : K.lookup f3 = some ⟨oc3, od3, .func (PySem.W.fnOf "is_number" "is_number" (defArgs sNumber) (defBody sNumber) (defScope sNumber) .none kV3 dc3 pm3 an3 cd3 ct3), sl3⟩) (c3 : PySem.W.codeIn K cd3 "is_number" = true) (k3 : PySem.W.keepIn K (.ref f3) = true)
    {f4 : Addr} {od4 an4 : Option Addr} {sl4 : Array (Option Value)} {oc4 kV4 dc4 pm4 ct4 : Value} {cd4 : Value}
    (a4 : PySem.W.nsIn K mainGlobals "is_place" = some (some (.ref f4))) (l4 : K.lookup f4 = some ⟨oc4, od4, .func (PySem.W.fnOf "is_place" "is_place" (defArgs sPlace) (defBody sPlace) (defScope sPlace) .none kV4 dc4 pm4 an4 cd4 ct4), sl4⟩) (c4 : PySem.W.codeIn K cd4 "is_place" = true) (k4 : PySem.W.keepIn K (.ref f4) = true)
    {f5 : Addr} {od5 an5 : Option Addr} {sl5 : Array (Option Value)} {oc5 kV5 dc5 pm5 ct5 : Value} {cc5 : Addr}
    (a5 : PySem.W.nsIn K mainGlobals "are_small" = some (some (.ref f5))) (l5 : K.lookup f5 = some ⟨oc5, od5, .func (PySem.W.fnOf "are_small" "are_small" (defArgs sSmall) (defBody sSmall) (defScope sSmall) .none kV5 dc5 pm5 an5 (.ref cc5) ct5), sl5⟩) (c5 : PySem.W.codeIn K (.ref cc5) "are_small" = true) (k5 : PySem.W.keepIn K (.ref f5) = true)
    {f6 : Addr} {od6 an6 : Option Addr} {sl6 : Array (Option Value)} {oc6 kV6 dc6 pm6 ct6 : Value} {cd6 : Value}
    (a6 : PySem.W.nsIn K mainGlobals "is_number_name" = some (some (.ref f6))) (l6 : K.lookup f6 = some ⟨oc6, od6, .func (PySem.W.fnOf "is_number_name" "is_number_name" (defArgs sNumName) (defBody sNumName) (defScope sNumName) .none kV6 dc6 pm6 an6 cd6 ct6), sl6⟩) (c6 : PySem.W.codeIn K cd6 "is_number_name" = true) (k6 : PySem.W.keepIn K (.ref f6) = true)
    {f7 : Addr} {od7 an7 : Option Addr} {sl7 : Array (Option Value)} {oc7 kV7 dc7 pm7 ct7 : Value} {cd7 : Value}
    (a7 : PySem.W.nsIn K mainGlobals "is_graph_name" = some (some (.ref f7))) (l7 : K.lookup f7 = some ⟨oc7, od7, .func (PySem.W.fnOf "is_graph_name" "is_graph_name" (defArgs sGraphName) (defBody sGraphName) (defScope sGraphName) .none kV7 dc7 pm7 an7 cd7 ct7), sl7⟩) (c7 : PySem.W.codeIn K cd7 "is_graph_name" = true) (k7 : PySem.W.keepIn K (.ref f7) = true)
    {f8 : Addr} {od8 an8 : Option Addr} {sl8 : Array (Option Value)} {oc8 kV8 dc8 pm8 ct8 : Value} {cd8 : Value}
    (a8 : PySem.W.nsIn K mainGlobals "fits" = some (some (.ref f8))) (l8 : K.lookup f8 = some ⟨oc8, od8, .func (PySem.W.fnOf "fits" "fits" (defArgs sFits) (defBody sFits) (defScope sFits) .none kV8 dc8 pm8 an8 cd8 ct8), sl8⟩) (c8 : PySem.W.codeIn K cd8 "fits" = true) (k8 : PySem.W.keepIn K (.ref f8) = true)
    {f9 : Addr} {od9 an9 : Option Addr} {sl9 : Array (Option Value)} {oc9 kV9 dc9 pm9 ct9 : Value} {cd9 : Value}
    (a9 : PySem.W.nsIn K mainGlobals "word_of" = some (some (.ref f9))) (l9 : K.lookup f9 = some ⟨oc9, od9, .func (PySem.W.fnOf "word_of" "word_of" (defArgs sWordOf) (defBody sWordOf) (defScope sWordOf) .none kV9 dc9 pm9 an9 cd9 ct9), sl9⟩) (c9 : PySem.W.codeIn K cd9 "word_of" = true) (k9 : PySem.W.keepIn K (.ref f9) = true)
    {f10 : Addr} {od10 an10 : Option Addr} {sl10 : Array (Option Value)} {oc10 kV10 dc10 pm10 ct10 : Value} {cc10 : Addr}
    (a10 : PySem.W.nsIn K mainGlobals "is_deed" = some (some (.ref f10))) (l10 : K.lookup f10 = some ⟨oc10, od10, .func (PySem.W.fnOf "is_deed" "is_deed" (defArgs sIsDeed) (defBody sIsDeed) (defScope sIsDeed) .none kV10 dc10 pm10 an10 (.ref cc10) ct10), sl10⟩) (c10 : PySem.W.codeIn K (.ref cc10) "is_deed" = true) (k10 : PySem.W.keepIn K (.ref f10) = true)
    {f11 : Addr} {od11 an11 : Option Addr} {sl11 : Array (Option Value)} {oc11 kV11 dc11 pm11 ct11 : Value} {cd11 : Value}
    (a11 : PySem.W.nsIn K mainGlobals "is_branch" = some (some (.ref f11))) (l11 : K.lookup f11 = some ⟨oc11, od11, .func (PySem.W.fnOf "is_branch" "is_branch" (defArgs sIsBranch) (defBody sIsBranch) (defScope sIsBranch) .none kV11 dc11 pm11 an11 cd11 ct11), sl11⟩) (c11 : PySem.W.codeIn K cd11 "is_branch" = true) (k11 : PySem.W.keepIn K (.ref f11) = true)
    {f12 : Addr} {od12 an12 : Option Addr} {sl12 : Array (Option Value)} {oc12 kV12 dc12 pm12 ct12 : Value} {cd12 : Value}
    (a12 : PySem.W.nsIn K mainGlobals "statement_size" = some (some (.ref f12))) (l12 : K.lookup f12 = some ⟨oc12, od12, .func (PySem.W.fnOf "statement_size" "statement_size" (defArgs sStSize) (defBody sStSize) (defScope sStSize) .none kV12 dc12 pm12 an12 cd12 ct12), sl12⟩) (c12 : PySem.W.codeIn K cd12 "statement_size" = true) (k12 : PySem.W.keepIn K (.ref f12) = true)
    {f13 : Addr} {od13 an13 : Option Addr} {sl13 : Array (Option Value)} {oc13 kV13 dc13 pm13 ct13 : Value} {cd13 : Value}
    (a13 : PySem.W.nsIn K mainGlobals "block_size" = some (some (.ref f13))) (l13 : K.lookup f13 = some ⟨oc13, od13, .func (PySem.W.fnOf "block_size" "block_size" (defArgs sBlSize) (defBody sBlSize) (defScope sBlSize) .none kV13 dc13 pm13 an13 cd13 ct13), sl13⟩) (c13 : PySem.W.codeIn K cd13 "block_size" = true) (k13 : PySem.W.keepIn K (.ref f13) = true)
    {f14 : Addr} {od14 an14 : Option Addr} {sl14 : Array (Option Value)} {oc14 kV14 dc14 pm14 ct14 : Value} {cc14 : Addr}
    (a14 : PySem.W.nsIn K mainGlobals "is_channel" = some (some (.ref f14))) (l14 : K.lookup f14 = some ⟨oc14, od14, .func (PySem.W.fnOf "is_channel" "is_channel" (defArgs sIsChan) (defBody sIsChan) (defScope sIsChan) .none kV14 dc14 pm14 an14 (.ref cc14) ct14), sl14⟩) (c14 : PySem.W.codeIn K (.ref cc14) "is_channel" = true) (k14 : PySem.W.keepIn K (.ref f14) = true)
    {f15 : Addr} {od15 an15 : Option Addr} {sl15 : Array (Option Value)} {oc15 kV15 dc15 pm15 ct15 : Value} {cc15 : Addr}
    (a15 : PySem.W.nsIn K mainGlobals "sends_of" = some (some (.ref f15))) (l15 : K.lookup f15 = some ⟨oc15, od15, .func (PySem.W.fnOf "sends_of" "sends_of" (defArgs sSends) (defBody sSends) (defScope sSends) .none kV15 dc15 pm15 an15 (.ref cc15) ct15), sl15⟩) (c15 : PySem.W.codeIn K (.ref cc15) "sends_of" = true) (k15 : PySem.W.keepIn K (.ref f15) = true)
    {f16 : Addr} {od16 an16 : Option Addr} {sl16 : Array (Option Value)} {oc16 kV16 dc16 pm16 ct16 : Value} {cc16 : Addr}
    (a16 : PySem.W.nsIn K mainGlobals "takes_of" = some (some (.ref f16))) (l16 : K.lookup f16 = some ⟨oc16, od16, .func (PySem.W.fnOf "takes_of" "takes_of" (defArgs sTakes) (defBody sTakes) (defScope sTakes) .none kV16 dc16 pm16 an16 (.ref cc16) ct16), sl16⟩) (c16 : PySem.W.codeIn K (.ref cc16) "takes_of" = true) (k16 : PySem.W.keepIn K (.ref f16) = true)
    {f17 : Addr} {od17 an17 : Option Addr} {sl17 : Array (Option Value)} {oc17 kV17 dc17 pm17 ct17 : Value} {cc17 : Addr}
    (a17 : PySem.W.nsIn K mainGlobals "is_net" = some (some (.ref f17))) (l17 : K.lookup f17 = some ⟨oc17, od17, .func (PySem.W.fnOf "is_net" "is_net" (defArgs sIsNet) (defBody sIsNet) (defScope sIsNet) .none kV17 dc17 pm17 an17 (.ref cc17) ct17), sl17⟩) (c17 : PySem.W.codeIn K (.ref cc17) "is_net" = true) (k17 : PySem.W.keepIn K (.ref f17) = true)
    {f18 : Addr} {od18 an18 : Option Addr} {sl18 : Array (Option Value)} {oc18 kV18 dc18 pm18 ct18 : Value} {cd18 : Value}
    (a18 : PySem.W.nsIn K mainGlobals "check_net" = some (some (.ref f18))) (l18 : K.lookup f18 = some ⟨oc18, od18, .func (PySem.W.fnOf "check_net" "check_net" (defArgs sCheckNet) (defBody sCheckNet) (defScope sCheckNet) .none kV18 dc18 pm18 an18 cd18 ct18), sl18⟩) (c18 : PySem.W.codeIn K cd18 "check_net" = true) (k18 : PySem.W.keepIn K (.ref f18) = true)
    {f19 : Addr} {od19 an19 : Option Addr} {sl19 : Array (Option Value)} {oc19 kV19 dc19 pm19 ct19 : Value} {cd19 : Value}
    (a19 : PySem.W.nsIn K mainGlobals "hands_on" = some (some (.ref f19))) (l19 : K.lookup f19 = some ⟨oc19, od19, .func (PySem.W.fnOf "hands_on" "hands_on" (defArgs sHands) (defBody sHands) (defScope sHands) .none kV19 dc19 pm19 an19 cd19 ct19), sl19⟩) (c19 : PySem.W.codeIn K cd19 "hands_on" = true) (k19 : PySem.W.keepIn K (.ref f19) = true)
    {f20 : Addr} {od20 an20 : Option Addr} {sl20 : Array (Option Value)} {oc20 kV20 dc20 pm20 ct20 : Value} {cd20 : Value}
    (a20 : PySem.W.nsIn K mainGlobals "is_test" = some (some (.ref f20))) (l20 : K.lookup f20 = some ⟨oc20, od20, .func (PySem.W.fnOf "is_test" "is_test" (defArgs sIsTest) (defBody sIsTest) (defScope sIsTest) .none kV20 dc20 pm20 an20 cd20 ct20), sl20⟩) (c20 : PySem.W.codeIn K cd20 "is_test" = true) (k20 : PySem.W.keepIn K (.ref f20) = true)
    {f21 : Addr} {od21 an21 : Option Addr} {sl21 : Array (Option Value)} {oc21 kV21 dc21 pm21 ct21 : Value} {cd21 : Value}
    (a21 : PySem.W.nsIn K mainGlobals "is_flat_deed" = some (some (.ref f21))) (l21 : K.lookup f21 = some ⟨oc21, od21, .func (PySem.W.fnOf "is_flat_deed" "is_flat_deed" (defArgs sFlatDeed) (defBody sFlatDeed) (defScope sFlatDeed) .none kV21 dc21 pm21 an21 cd21 ct21), sl21⟩) (c21 : PySem.W.codeIn K cd21 "is_flat_deed" = true) (k21 : PySem.W.keepIn K (.ref f21) = true)
    {f22 : Addr} {od22 an22 : Option Addr} {sl22 : Array (Option Value)} {oc22 kV22 dc22 pm22 ct22 : Value} {cc22 : Addr}
    (a22 : PySem.W.nsIn K mainGlobals "is_row" = some (some (.ref f22))) (l22 : K.lookup f22 = some ⟨oc22, od22, .func (PySem.W.fnOf "is_row" "is_row" (defArgs sIsRow) (defBody sIsRow) (defScope sIsRow) .none kV22 dc22 pm22 an22 (.ref cc22) ct22), sl22⟩) (c22 : PySem.W.codeIn K (.ref cc22) "is_row" = true) (k22 : PySem.W.keepIn K (.ref f22) = true)
    {f23 : Addr} {od23 an23 : Option Addr} {sl23 : Array (Option Value)} {oc23 kV23 dc23 pm23 ct23 : Value} {cc23 : Addr}
    (a23 : PySem.W.nsIn K mainGlobals "are_rows" = some (some (.ref f23))) (l23 : K.lookup f23 = some ⟨oc23, od23, .func (PySem.W.fnOf "are_rows" "are_rows" (defArgs sAreRows) (defBody sAreRows) (defScope sAreRows) .none kV23 dc23 pm23 an23 (.ref cc23) ct23), sl23⟩) (c23 : PySem.W.codeIn K (.ref cc23) "are_rows" = true) (k23 : PySem.W.keepIn K (.ref f23) = true)
    {f24 : Addr} {od24 an24 : Option Addr} {sl24 : Array (Option Value)} {oc24 kV24 dc24 pm24 ct24 : Value} {cc24 : Addr}
    (a24 : PySem.W.nsIn K mainGlobals "is_code" = some (some (.ref f24))) (l24 : K.lookup f24 = some ⟨oc24, od24, .func (PySem.W.fnOf "is_code" "is_code" (defArgs sIsCode) (defBody sIsCode) (defScope sIsCode) .none kV24 dc24 pm24 an24 (.ref cc24) ct24), sl24⟩) (c24 : PySem.W.codeIn K (.ref cc24) "is_code" = true) (k24 : PySem.W.keepIn K (.ref f24) = true)
    {f25 : Addr} {od25 an25 : Option Addr} {sl25 : Array (Option Value)} {oc25 kV25 dc25 pm25 ct25 : Value} {cd25 : Value}
    (a25 : PySem.W.nsIn K mainGlobals "check_code" = some (some (.ref f25))) (l25 : K.lookup f25 = some ⟨oc25, od25, .func (PySem.W.fnOf "check_code" "check_code" (defArgs sCheckCode) (defBody sCheckCode) (defScope sCheckCode) .none kV25 dc25 pm25 an25 cd25 ct25), sl25⟩) (c25 : PySem.W.codeIn K cd25 "check_code" = true) (k25 : PySem.W.keepIn K (.ref f25) = true)
    {f26 : Addr} {od26 an26 : Option Addr} {sl26 : Array (Option Value)} {oc26 kV26 dc26 pm26 ct26 : Value} {cd26 : Value}
    (a26 : PySem.W.nsIn K mainGlobals "with_way" = some (some (.ref f26))) (l26 : K.lookup f26 = some ⟨oc26, od26, .func (PySem.W.fnOf "with_way" "with_way" (defArgs sWithWay) (defBody sWithWay) (defScope sWithWay) .none kV26 dc26 pm26 an26 cd26 ct26), sl26⟩) (c26 : PySem.W.codeIn K cd26 "with_way" = true) (k26 : PySem.W.keepIn K (.ref f26) = true)
    {f27 : Addr} {od27 an27 : Option Addr} {sl27 : Array (Option Value)} {oc27 kV27 dc27 pm27 ct27 : Value} {cc27 : Addr}
    (a27 : PySem.W.nsIn K mainGlobals "copying" = some (some (.ref f27))) (l27 : K.lookup f27 = some ⟨oc27, od27, .func (PySem.W.fnOf "copying" "copying" (defArgs sCopying) (defBody sCopying) (defScope sCopying) .none kV27 dc27 pm27 an27 (.ref cc27) ct27), sl27⟩) (c27 : PySem.W.codeIn K (.ref cc27) "copying" = true) (k27 : PySem.W.keepIn K (.ref f27) = true)
    {f28 : Addr} {od28 an28 : Option Addr} {sl28 : Array (Option Value)} {oc28 kV28 dc28 pm28 ct28 : Value} {cd28 : Value}
    (a28 : PySem.W.nsIn K mainGlobals "size_of" = some (some (.ref f28))) (l28 : K.lookup f28 = some ⟨oc28, od28, .func (PySem.W.fnOf "size_of" "size_of" (defArgs sSizeOf) (defBody sSizeOf) (defScope sSizeOf) .none kV28 dc28 pm28 an28 cd28 ct28), sl28⟩) (c28 : PySem.W.codeIn K cd28 "size_of" = true) (k28 : PySem.W.keepIn K (.ref f28) = true)
    {f29 : Addr} {od29 an29 : Option Addr} {sl29 : Array (Option Value)} {oc29 kV29 dc29 pm29 ct29 : Value} {cd29 : Value}
    (a29 : PySem.W.nsIn K mainGlobals "flat_block" = some (some (.ref f29))) (l29 : K.lookup f29 = some ⟨oc29, od29, .func (PySem.W.fnOf "flat_block" "flat_block" (defArgs sFlatBl) (defBody sFlatBl) (defScope sFlatBl) .none kV29 dc29 pm29 an29 cd29 ct29), sl29⟩) (c29 : PySem.W.codeIn K cd29 "flat_block" = true) (k29 : PySem.W.keepIn K (.ref f29) = true)
    {f30 : Addr} {od30 an30 : Option Addr} {sl30 : Array (Option Value)} {oc30 kV30 dc30 pm30 ct30 : Value} {cd30 : Value}
    (a30 : PySem.W.nsIn K mainGlobals "flat_statement" = some (some (.ref f30))) (l30 : K.lookup f30 = some ⟨oc30, od30, .func (PySem.W.fnOf "flat_statement" "flat_statement" (defArgs sFlatSt) (defBody sFlatSt) (defScope sFlatSt) .none kV30 dc30 pm30 an30 cd30 ct30), sl30⟩) (c30 : PySem.W.codeIn K cd30 "flat_statement" = true) (k30 : PySem.W.keepIn K (.ref f30) = true)
    {f31 : Addr} {od31 an31 : Option Addr} {sl31 : Array (Option Value)} {oc31 kV31 dc31 pm31 ct31 : Value} {cd31 : Value}
    (a31 : PySem.W.nsIn K mainGlobals "flat_if" = some (some (.ref f31))) (l31 : K.lookup f31 = some ⟨oc31, od31, .func (PySem.W.fnOf "flat_if" "flat_if" (defArgs sFlatIf) (defBody sFlatIf) (defScope sFlatIf) .none kV31 dc31 pm31 an31 cd31 ct31), sl31⟩) (c31 : PySem.W.codeIn K cd31 "flat_if" = true) (k31 : PySem.W.keepIn K (.ref f31) = true)
    {f32 : Addr} {od32 an32 : Option Addr} {sl32 : Array (Option Value)} {oc32 kV32 dc32 pm32 ct32 : Value} {cd32 : Value}
    (a32 : PySem.W.nsIn K mainGlobals "flat_while" = some (some (.ref f32))) (l32 : K.lookup f32 = some ⟨oc32, od32, .func (PySem.W.fnOf "flat_while" "flat_while" (defArgs sFlatWh) (defBody sFlatWh) (defScope sFlatWh) .none kV32 dc32 pm32 an32 cd32 ct32), sl32⟩) (c32 : PySem.W.codeIn K cd32 "flat_while" = true) (k32 : PySem.W.keepIn K (.ref f32) = true)
    {f33 : Addr} {od33 an33 : Option Addr} {sl33 : Array (Option Value)} {oc33 kV33 dc33 pm33 ct33 : Value} {cc33 : Addr}
    (a33 : PySem.W.nsIn K mainGlobals "flat" = some (some (.ref f33))) (l33 : K.lookup f33 = some ⟨oc33, od33, .func (PySem.W.fnOf "flat" "flat" (defArgs sFlat) (defBody sFlat) (defScope sFlat) .none kV33 dc33 pm33 an33 (.ref cc33) ct33), sl33⟩) (c33 : PySem.W.codeIn K (.ref cc33) "flat" = true) (k33 : PySem.W.keepIn K (.ref f33) = true)
    {f34 : Addr} {od34 an34 : Option Addr} {sl34 : Array (Option Value)} {oc34 kV34 dc34 pm34 ct34 : Value} {cc34 : Addr}
    (a34 : PySem.W.nsIn K mainGlobals "is_own" = some (some (.ref f34))) (l34 : K.lookup f34 = some ⟨oc34, od34, .func (PySem.W.fnOf "is_own" "is_own" (defArgs sIsOwn) (defBody sIsOwn) (defScope sIsOwn) .none kV34 dc34 pm34 an34 (.ref cc34) ct34), sl34⟩) (c34 : PySem.W.codeIn K (.ref cc34) "is_own" = true) (k34 : PySem.W.keepIn K (.ref f34) = true)
    {f35 : Addr} {od35 an35 : Option Addr} {sl35 : Array (Option Value)} {oc35 kV35 dc35 pm35 ct35 : Value} {cd35 : Value}
    (a35 : PySem.W.nsIn K mainGlobals "_law_cell_at" = some (some (.ref f35))) (l35 : K.lookup f35 = some ⟨oc35, od35, .func (PySem.W.fnOf "_law_cell_at" "_law_cell_at" (defArgs sCell) (defBody sCell) (defScope sCell) .none kV35 dc35 pm35 an35 cd35 ct35), sl35⟩) (c35 : PySem.W.codeIn K cd35 "_law_cell_at" = true) (k35 : PySem.W.keepIn K (.ref f35) = true)
    {f36 : Addr} {od36 an36 : Option Addr} {sl36 : Array (Option Value)} {oc36 kV36 dc36 pm36 ct36 : Value} {cd36 : Value}
    (a36 : PySem.W.nsIn K mainGlobals "_law_state" = some (some (.ref f36))) (l36 : K.lookup f36 = some ⟨oc36, od36, .func (PySem.W.fnOf "_law_state" "_law_state" (defArgs sState) (defBody sState) (defScope sState) .none kV36 dc36 pm36 an36 cd36 ct36), sl36⟩) (c36 : PySem.W.codeIn K cd36 "_law_state" = true) (k36 : PySem.W.keepIn K (.ref f36) = true)
    {f37 : Addr} {od37 an37 : Option Addr} {sl37 : Array (Option Value)} {oc37 kV37 dc37 pm37 ct37 : Value} {cd37 : Value}
    (a37 : PySem.W.nsIn K mainGlobals "_law_choice" = some (some (.ref f37))) (l37 : K.lookup f37 = some ⟨oc37, od37, .func (PySem.W.fnOf "_law_choice" "_law_choice" (defArgs sChoice) (defBody sChoice) (defScope sChoice) .none kV37 dc37 pm37 an37 cd37 ct37), sl37⟩) (c37 : PySem.W.codeIn K cd37 "_law_choice" = true) (k37 : PySem.W.keepIn K (.ref f37) = true)
    {f38 : Addr} {od38 an38 : Option Addr} {sl38 : Array (Option Value)} {oc38 kV38 dc38 pm38 ct38 : Value} {cd38 : Value}
    (a38 : PySem.W.nsIn K mainGlobals "_law_many" = some (some (.ref f38))) (l38 : K.lookup f38 = some ⟨oc38, od38, .func (PySem.W.fnOf "_law_many" "_law_many" (defArgs sMany) (defBody sMany) (defScope sMany) .none kV38 dc38 pm38 an38 cd38 ct38), sl38⟩) (c38 : PySem.W.codeIn K cd38 "_law_many" = true) (k38 : PySem.W.keepIn K (.ref f38) = true)
    {f39 : Addr} {od39 an39 : Option Addr} {sl39 : Array (Option Value)} {oc39 kV39 dc39 pm39 ct39 : Value} {cd39 : Value}
    (a39 : PySem.W.nsIn K mainGlobals "_law_simple" = some (some (.ref f39))) (l39 : K.lookup f39 = some ⟨oc39, od39, .func (PySem.W.fnOf "_law_simple" "_law_simple" (defArgs sSimple) (defBody sSimple) (defScope sSimple) .none kV39 dc39 pm39 an39 cd39 ct39), sl39⟩) (c39 : PySem.W.codeIn K cd39 "_law_simple" = true) (k39 : PySem.W.keepIn K (.ref f39) = true)
    {f40 : Addr} {od40 an40 : Option Addr} {sl40 : Array (Option Value)} {oc40 kV40 dc40 pm40 ct40 : Value} {cd40 : Value}
    (a40 : PySem.W.nsIn K mainGlobals "_law_block" = some (some (.ref f40))) (l40 : K.lookup f40 = some ⟨oc40, od40, .func (PySem.W.fnOf "_law_block" "_law_block" (defArgs sBlock) (defBody sBlock) (defScope sBlock) .none kV40 dc40 pm40 an40 cd40 ct40), sl40⟩) (c40 : PySem.W.codeIn K cd40 "_law_block" = true) (k40 : PySem.W.keepIn K (.ref f40) = true)
    {f41 : Addr} {od41 an41 : Option Addr} {sl41 : Array (Option Value)} {oc41 kV41 dc41 pm41 ct41 : Value} {cd41 : Value}
    (a41 : PySem.W.nsIn K mainGlobals "_law_ends" = some (some (.ref f41))) (l41 : K.lookup f41 = some ⟨oc41, od41, .func (PySem.W.fnOf "_law_ends" "_law_ends" (defArgs sEnds) (defBody sEnds) (defScope sEnds) .none kV41 dc41 pm41 an41 cd41 ct41), sl41⟩) (c41 : PySem.W.codeIn K cd41 "_law_ends" = true) (k41 : PySem.W.keepIn K (.ref f41) = true)
    {f42 : Addr} {od42 an42 : Option Addr} {sl42 : Array (Option Value)} {oc42 kV42 dc42 pm42 ct42 : Value} {cd42 : Value}
    (a42 : PySem.W.nsIn K mainGlobals "_law_net" = some (some (.ref f42))) (l42 : K.lookup f42 = some ⟨oc42, od42, .func (PySem.W.fnOf "_law_net" "_law_net" (defArgs sNet) (defBody sNet) (defScope sNet) .none kV42 dc42 pm42 an42 cd42 ct42), sl42⟩) (c42 : PySem.W.codeIn K cd42 "_law_net" = true) (k42 : PySem.W.keepIn K (.ref f42) = true)
    {f43 : Addr} {od43 an43 : Option Addr} {sl43 : Array (Option Value)} {oc43 kV43 dc43 pm43 ct43 : Value} {cd43 : Value}
    (a43 : PySem.W.nsIn K mainGlobals "_law_flat" = some (some (.ref f43))) (l43 : K.lookup f43 = some ⟨oc43, od43, .func (PySem.W.fnOf "_law_flat" "_law_flat" (defArgs sLFlat) (defBody sLFlat) (defScope sLFlat) .none kV43 dc43 pm43 an43 cd43 ct43), sl43⟩) (c43 : PySem.W.codeIn K cd43 "_law_flat" = true) (k43 : PySem.W.keepIn K (.ref f43) = true)
    {f44 : Addr} {od44 an44 : Option Addr} {sl44 : Array (Option Value)} {oc44 kV44 dc44 pm44 ct44 : Value} {cd44 : Value}
    (a44 : PySem.W.nsIn K mainGlobals "_law_marked" = some (some (.ref f44))) (l44 : K.lookup f44 = some ⟨oc44, od44, .func (PySem.W.fnOf "_law_marked" "_law_marked" (defArgs sMarked) (defBody sMarked) (defScope sMarked) .none kV44 dc44 pm44 an44 cd44 ct44), sl44⟩) (c44 : PySem.W.codeIn K cd44 "_law_marked" = true) (k44 : PySem.W.keepIn K (.ref f44) = true)
    {f45 : Addr} {od45 an45 : Option Addr} {sl45 : Array (Option Value)} {oc45 kV45 dc45 pm45 ct45 : Value} {cd45 : Value}
    (a45 : PySem.W.nsIn K mainGlobals "_law_ends_of_blocks" = some (some (.ref f45))) (l45 : K.lookup f45 = some ⟨oc45, od45, .func (PySem.W.fnOf "_law_ends_of_blocks" "_law_ends_of_blocks" (defArgs sEob) (defBody sEob) (defScope sEob) .none kV45 dc45 pm45 an45 cd45 ct45), sl45⟩) (c45 : PySem.W.codeIn K cd45 "_law_ends_of_blocks" = true) (k45 : PySem.W.keepIn K (.ref f45) = true)
    {f46 : Addr} {od46 an46 : Option Addr} {sl46 : Array (Option Value)} {oc46 kV46 dc46 pm46 ct46 : Value} {cd46 : Value}
    (a46 : PySem.W.nsIn K mainGlobals "law" = some (some (.ref f46))) (l46 : K.lookup f46 = some ⟨oc46, od46, .func (PySem.W.fnOf "law" "law" (defArgs sLaw) (defBody sLaw) (defScope sLaw) .none kV46 dc46 pm46 an46 cd46 ct46), sl46⟩) (c46 : PySem.W.codeIn K cd46 "law" = true) (k46 : PySem.W.keepIn K (.ref f46) = true)
    {t0 : Tok} (n0 : PySem.W.nsIn K mainGlobals "MOST_SIGNS" = some (some (.int (6) t0)))
    {t1 : Tok} (n1 : PySem.W.nsIn K mainGlobals "MOST_IN_BLOCK" = some (some (.int (12) t1)))
    {t2 : Tok} (n2 : PySem.W.nsIn K mainGlobals "MOST_WITHIN" = some (some (.int (4) t2)))
    {t3 : Tok} (n3 : PySem.W.nsIn K mainGlobals "MOST_STATEMENTS" = some (some (.int (40) t3)))
    {t4 : Tok} (n4 : PySem.W.nsIn K mainGlobals "MOST_CHANNELS" = some (some (.int (6) t4)))
    {t5 : Tok} (n5 : PySem.W.nsIn K mainGlobals "MOST_ACTORS" = some (some (.int (4) t5)))
    {t6 : Tok} (n6 : PySem.W.nsIn K mainGlobals "PLACES" = some (some (.int (3) t6)))
    {t7 : Tok} (n7 : PySem.W.nsIn K mainGlobals "GREATEST" = some (some (.int (9999) t7)))
    {t8 : Tok} (n8 : PySem.W.nsIn K mainGlobals "MOST_ROWS" = some (some (.int (40) t8)))
    {t9 : Tok} (n9 : PySem.W.nsIn K mainGlobals "END" = some (some (.int (-1) t9)))
    (z0 : PySem.W.nsIn K mainGlobals "isinstance" = some none)
    (z1 : PySem.W.nsIn K mainGlobals "int" = some none)
    (z2 : PySem.W.nsIn K mainGlobals "bool" = some none)
    (z3 : PySem.W.nsIn K mainGlobals "tuple" = some none)
    (z4 : PySem.W.nsIn K mainGlobals "len" = some none)
    (z5 : PySem.W.nsIn K mainGlobals "range" = some none)
    (z6 : PySem.W.nsIn K mainGlobals "min" = some none)
    (z7 : PySem.W.nsIn K mainGlobals "max" = some none)
    (z8 : PySem.W.nsIn K mainGlobals "sum" = some none)
    (z9 : PySem.W.nsIn K mainGlobals "list" = some none)
    (z10 : PySem.W.nsIn K mainGlobals "repr" = some none)
    (z11 : PySem.W.nsIn K mainGlobals "all" = some none)
    (z12 : PySem.W.nsIn K mainGlobals "str" = some none)
    (z13 : PySem.W.nsIn K mainGlobals "zip" = some none)
    (z14 : PySem.W.nsIn K mainGlobals "enumerate" = some none)
    {oTA1 : Option Addr} {vTA1 : Array Value} {sTA1 : Array (Option Value)} {PA1 : Addr} (lkA1 : K.lookup cc5 = some ⟨.type "code", oTA1, .fields vTA1, sTA1⟩) (pA1 : vTA1[11]? = some (.ref PA1)) (noA1 : K.lookup PA1 = none)
    {oTA2 : Option Addr} {vTA2 : Array Value} {sTA2 : Array (Option Value)} {PA2 : Addr} (lkA2 : K.lookup cc10 = some ⟨.type "code", oTA2, .fields vTA2, sTA2⟩) (pA2 : vTA2[11]? = some (.ref PA2)) (noA2 : K.lookup PA2 = none)
    {oTA3 : Option Addr} {vTA3 : Array Value} {sTA3 : Array (Option Value)} {PA3 : Addr} (lkA3 : K.lookup cc14 = some ⟨.type "code", oTA3, .fields vTA3, sTA3⟩) (pA3 : vTA3[11]? = some (.ref PA3)) (noA3 : K.lookup PA3 = none)
    {oTA4 : Option Addr} {vTA4 : Array Value} {sTA4 : Array (Option Value)} {PA4 : Addr} (lkA4 : K.lookup cc15 = some ⟨.type "code", oTA4, .fields vTA4, sTA4⟩) (pA4 : vTA4[11]? = some (.ref PA4)) (noA4 : K.lookup PA4 = none)
    {oTA5 : Option Addr} {vTA5 : Array Value} {sTA5 : Array (Option Value)} {PA5 : Addr} (lkA5 : K.lookup cc16 = some ⟨.type "code", oTA5, .fields vTA5, sTA5⟩) (pA5 : vTA5[11]? = some (.ref PA5)) (noA5 : K.lookup PA5 = none)
    {oTA6 : Option Addr} {vTA6 : Array Value} {sTA6 : Array (Option Value)} {PA6 : Addr} (lkA6 : K.lookup cc17 = some ⟨.type "code", oTA6, .fields vTA6, sTA6⟩) (pA6 : vTA6[11]? = some (.ref PA6)) (noA6 : K.lookup PA6 = none)
    {oTA7 : Option Addr} {vTA7 : Array Value} {sTA7 : Array (Option Value)} {PA7 : Addr} (lkA7 : K.lookup cc22 = some ⟨.type "code", oTA7, .fields vTA7, sTA7⟩) (pA7 : vTA7[11]? = some (.ref PA7)) (noA7 : K.lookup PA7 = none)
    {oTA8 : Option Addr} {vTA8 : Array Value} {sTA8 : Array (Option Value)} {PA8 : Addr} (lkA8 : K.lookup cc23 = some ⟨.type "code", oTA8, .fields vTA8, sTA8⟩) (pA8 : vTA8[11]? = some (.ref PA8)) (noA8 : K.lookup PA8 = none)
    {oTA9 : Option Addr} {vTA9 : Array Value} {sTA9 : Array (Option Value)} {PA9 : Addr} (lkA9 : K.lookup cc24 = some ⟨.type "code", oTA9, .fields vTA9, sTA9⟩) (pA9 : vTA9[11]? = some (.ref PA9)) (noA9 : K.lookup PA9 = none)
    {oTA10 : Option Addr} {vTA10 : Array Value} {sTA10 : Array (Option Value)} {PA10 : Addr} (lkA10 : K.lookup cc27 = some ⟨.type "code", oTA10, .fields vTA10, sTA10⟩) (pA10 : vTA10[11]? = some (.ref PA10)) (noA10 : K.lookup PA10 = none)
    {oTA11 : Option Addr} {vTA11 : Array Value} {sTA11 : Array (Option Value)} {PA11 : Addr} (lkA11 : K.lookup cc33 = some ⟨.type "code", oTA11, .fields vTA11, sTA11⟩) (pA11 : vTA11[11]? = some (.ref PA11)) (noA11 : K.lookup PA11 = none)
    {oTA12 : Option Addr} {vTA12 : Array Value} {sTA12 : Array (Option Value)} {PA12 : Addr} (lkA12 : K.lookup cc34 = some ⟨.type "code", oTA12, .fields vTA12, sTA12⟩) (pA12 : vTA12[11]? = some (.ref PA12)) (noA12 : K.lookup PA12 = none)
    {adS : Addr} {oS : Option Addr} {mS : Nat} {slS : Array (Option Value)} {xS_0 xS_1 xS_2 xS_3 xS_4 : Tok} (aS : PySem.W.nsIn K mainGlobals "SIGNS" = some (some (.ref adS))) (qS : K.lookup adS = some ⟨.type "tuple", oS, .seq #[.str "+" xS_0, .str "-" xS_1, .str "*" xS_2, .str "<" xS_3, .str "=" xS_4] mS, slS⟩)
    {adU : Addr} {oU : Option Addr} {mU : Nat} {slU : Array (Option Value)} {xU_0 xU_1 : Tok} (aU : PySem.W.nsIn K mainGlobals "UNLIKE" = some (some (.ref adU))) (qU : K.lookup adU = some ⟨.type "tuple", oU, .seq #[.str "let" xU_0, .str "hang" xU_1] mU, slU⟩)
    {adH : Addr} {oH : Option Addr} {mH : Nat} {slH : Array (Option Value)} {xH_0 xH_1 xH_2 xH_3 : Tok} (aH : PySem.W.nsIn K mainGlobals "HANDING" = some (some (.ref adH))) (qH : K.lookup adH = some ⟨.type "tuple", oH, .seq #[.str "let" xH_0, .str "hang" xH_1, .str "pick" xH_2, .str "send" xH_3] mH, slH⟩)
    {adW : Addr} {oW : Option Addr} {mW : Nat} {slW : Array (Option Value)} {xW_0 xW_1 : Tok} (aW : PySem.W.nsIn K mainGlobals "WAYS" = some (some (.ref adW))) (qW : K.lookup adW = some ⟨.type "tuple", oW, .seq #[.str "copy" xW_0, .str "give" xW_1] mW, slW⟩)
    {dtD : Addr} {esD : Array DictEntry} {nnD : Nat} {uD0 uD1 uD2 uD3 uD4 uD5 uD6 uD7 uD8 uD9 uD10 uD11 uD12 uD13 uD14 : Tok} {rD0 rD1 rD2 rD3 rD4 rD5 rD6 rD7 rD8 rD9 rD10 rD11 rD12 rD13 rD14 : Addr} (aDD : PySem.W.nsIn K mainGlobals "DEEDS" = some (some (.ref dtD))) (lDD : K.lookup dtD = some ⟨.type "dict", none, .dict esD nnD, #[]⟩) (lowDD : (dtD == sysModules) = false) (eDD : esD.toList = [⟨PyData.keyHash w.params "num", .str "num" uD0, .ref rD0⟩, ⟨PyData.keyHash w.params "sum", .str "sum" uD1, .ref rD1⟩, ⟨PyData.keyHash w.params "new", .str "new" uD2, .ref rD2⟩, ⟨PyData.keyHash w.params "let", .str "let" uD3, .ref rD3⟩, ⟨PyData.keyHash w.params "add", .str "add" uD4, .ref rD4⟩, ⟨PyData.keyHash w.params "put", .str "put" uD5, .ref rD5⟩, ⟨PyData.keyHash w.params "tie", .str "tie" uD6, .ref rD6⟩, ⟨PyData.keyHash w.params "hang", .str "hang" uD7, .ref rD7⟩, ⟨PyData.keyHash w.params "get", .str "get" uD8, .ref rD8⟩, ⟨PyData.keyHash w.params "sort", .str "sort" uD9, .ref rD9⟩, ⟨PyData.keyHash w.params "pick", .str "pick" uD10, .ref rD10⟩, ⟨PyData.keyHash w.params "send", .str "send" uD11, .ref rD11⟩, ⟨PyData.keyHash w.params "take", .str "take" uD12, .ref rD12⟩, ⟨PyData.keyHash w.params "tell", .str "tell" uD13, .ref rD13⟩, ⟨PyData.keyHash w.params "show", .str "show" uD14, .ref rD14⟩])
    {oTD0 : Option Addr} {mTD0 : Nat} {slTD0 : Array (Option Value)} {xTD0_0 xTD0_1 : Tok} (qTD0 : K.lookup rD0 = some ⟨.type "tuple", oTD0, .seq #[.str "name" xTD0_0, .str "number" xTD0_1] mTD0, slTD0⟩)
    {oTD1 : Option Addr} {mTD1 : Nat} {slTD1 : Array (Option Value)} {xTD1_0 xTD1_1 xTD1_2 xTD1_3 : Tok} (qTD1 : K.lookup rD1 = some ⟨.type "tuple", oTD1, .seq #[.str "name" xTD1_0, .str "name" xTD1_1, .str "sign" xTD1_2, .str "name" xTD1_3] mTD1, slTD1⟩)
    {oTD2 : Option Addr} {mTD2 : Nat} {slTD2 : Array (Option Value)} {xTD2_0 : Tok} (qTD2 : K.lookup rD2 = some ⟨.type "tuple", oTD2, .seq #[.str "graph" xTD2_0] mTD2, slTD2⟩)
    {oTD3 : Option Addr} {mTD3 : Nat} {slTD3 : Array (Option Value)} {xTD3_0 xTD3_1 : Tok} (qTD3 : K.lookup rD3 = some ⟨.type "tuple", oTD3, .seq #[.str "graph" xTD3_0, .str "graph" xTD3_1] mTD3, slTD3⟩)
    {oTD4 : Option Addr} {mTD4 : Nat} {slTD4 : Array (Option Value)} {xTD4_0 xTD4_1 : Tok} (qTD4 : K.lookup rD4 = some ⟨.type "tuple", oTD4, .seq #[.str "graph" xTD4_0, .str "name" xTD4_1] mTD4, slTD4⟩)
    {oTD5 : Option Addr} {mTD5 : Nat} {slTD5 : Array (Option Value)} {xTD5_0 xTD5_1 xTD5_2 xTD5_3 : Tok} (qTD5 : K.lookup rD5 = some ⟨.type "tuple", oTD5, .seq #[.str "graph" xTD5_0, .str "name" xTD5_1, .str "place" xTD5_2, .str "name" xTD5_3] mTD5, slTD5⟩)
    {oTD6 : Option Addr} {mTD6 : Nat} {slTD6 : Array (Option Value)} {xTD6_0 xTD6_1 xTD6_2 xTD6_3 : Tok} (qTD6 : K.lookup rD6 = some ⟨.type "tuple", oTD6, .seq #[.str "graph" xTD6_0, .str "name" xTD6_1, .str "place" xTD6_2, .str "name" xTD6_3] mTD6, slTD6⟩)
    {oTD7 : Option Addr} {mTD7 : Nat} {slTD7 : Array (Option Value)} {xTD7_0 xTD7_1 xTD7_2 xTD7_3 : Tok} (qTD7 : K.lookup rD7 = some ⟨.type "tuple", oTD7, .seq #[.str "graph" xTD7_0, .str "name" xTD7_1, .str "place" xTD7_2, .str "graph" xTD7_3] mTD7, slTD7⟩)
    {oTD8 : Option Addr} {mTD8 : Nat} {slTD8 : Array (Option Value)} {xTD8_0 xTD8_1 xTD8_2 xTD8_3 : Tok} (qTD8 : K.lookup rD8 = some ⟨.type "tuple", oTD8, .seq #[.str "name" xTD8_0, .str "graph" xTD8_1, .str "name" xTD8_2, .str "place" xTD8_3] mTD8, slTD8⟩)
    {oTD9 : Option Addr} {mTD9 : Nat} {slTD9 : Array (Option Value)} {xTD9_0 xTD9_1 xTD9_2 xTD9_3 : Tok} (qTD9 : K.lookup rD9 = some ⟨.type "tuple", oTD9, .seq #[.str "name" xTD9_0, .str "graph" xTD9_1, .str "name" xTD9_2, .str "place" xTD9_3] mTD9, slTD9⟩)
    {oTD10 : Option Addr} {mTD10 : Nat} {slTD10 : Array (Option Value)} {xTD10_0 xTD10_1 xTD10_2 xTD10_3 : Tok} (qTD10 : K.lookup rD10 = some ⟨.type "tuple", oTD10, .seq #[.str "graph" xTD10_0, .str "graph" xTD10_1, .str "name" xTD10_2, .str "place" xTD10_3] mTD10, slTD10⟩)
    {oTD11 : Option Addr} {mTD11 : Nat} {slTD11 : Array (Option Value)} {xTD11_0 xTD11_1 : Tok} (qTD11 : K.lookup rD11 = some ⟨.type "tuple", oTD11, .seq #[.str "into" xTD11_0, .str "graph" xTD11_1] mTD11, slTD11⟩)
    {oTD12 : Option Addr} {mTD12 : Nat} {slTD12 : Array (Option Value)} {xTD12_0 xTD12_1 : Tok} (qTD12 : K.lookup rD12 = some ⟨.type "tuple", oTD12, .seq #[.str "graph" xTD12_0, .str "from" xTD12_1] mTD12, slTD12⟩)
    {oTD13 : Option Addr} {mTD13 : Nat} {slTD13 : Array (Option Value)} {xTD13_0 : Tok} (qTD13 : K.lookup rD13 = some ⟨.type "tuple", oTD13, .seq #[.str "name" xTD13_0] mTD13, slTD13⟩)
    {oTD14 : Option Addr} {mTD14 : Nat} {slTD14 : Array (Option Value)} {xTD14_0 : Tok} (qTD14 : K.lookup rD14 = some ⟨.type "tuple", oTD14, .seq #[.str "graph" xTD14_0] mTD14, slTD14⟩)
    {dtB : Addr} {esB : Array DictEntry} {nnB : Nat} {uB0 uB1 : Tok} {vB0 vB1 : Tok} (aDB : PySem.W.nsIn K mainGlobals "BRANCHES" = some (some (.ref dtB))) (lDB : K.lookup dtB = some ⟨.type "dict", none, .dict esB nnB, #[]⟩) (lowDB : (dtB == sysModules) = false) (eDB : esB.toList = [⟨PyData.keyHash w.params "if", .str "if" uB0, .int 2 vB0⟩, ⟨PyData.keyHash w.params "while", .str "while" uB1, .int 1 vB1⟩]) :
    Left12 K w mg fa := by
  have e := hfa.symm.trans (PySem.W.mg_of X G a46)
  cases e
  have T : Free mg := ⟨PySem.W.mg_none_of X G z0, PySem.W.mg_none_of X G z1, PySem.W.mg_none_of X G z2, PySem.W.mg_none_of X G z3, PySem.W.mg_none_of X G z4, PySem.W.mg_none_of X G z5, PySem.W.mg_none_of X G z6, PySem.W.mg_none_of X G z7, PySem.W.mg_none_of X G z8, PySem.W.mg_none_of X G z9, PySem.W.mg_none_of X G z10⟩
  have C : Cst mg := ⟨⟨_, PySem.W.mg_of X G n0⟩, ⟨_, PySem.W.mg_of X G n1⟩, ⟨_, PySem.W.mg_of X G n2⟩, ⟨_, PySem.W.mg_of X G n3⟩, ⟨_, PySem.W.mg_of X G n4⟩, ⟨_, PySem.W.mg_of X G n5⟩, ⟨_, PySem.W.mg_of X G n6⟩, ⟨_, PySem.W.mg_of X G n7⟩, ⟨_, PySem.W.mg_of X G n8⟩, ⟨_, PySem.W.mg_of X G n9⟩⟩
  have F0 := fun_mk (st := sWhole) l0 c0 k0
  have S0 : Std K mg "is_whole" sWhole ["thing"] f0 _ := ⟨F0, PySem.W.mg_of X G a0, F0.binds (ps := ["thing"]) fun _ _ _ _ _ _ us hl => match us, hl with | [_], _ => rfl⟩
  have F1 := fun_mk (st := sWithin) l1 c1 k1
  have S1 : Std K mg "is_within" sWithin ["thing", "least", "most"] f1 _ := ⟨F1, PySem.W.mg_of X G a1, F1.binds (ps := ["thing", "least", "most"]) fun _ _ _ _ _ _ us hl => match us, hl with | [_, _, _], _ => rfl⟩
  have F2 := fun_mk (st := sTuple) l2 c2 k2
  have S2 : Std K mg "is_tuple" sTuple ["thing", "least", "most"] f2 _ := ⟨F2, PySem.W.mg_of X G a2, F2.binds (ps := ["thing", "least", "most"]) fun _ _ _ _ _ _ us hl => match us, hl with | [_, _, _], _ => rfl⟩
  have F3 := fun_mk (st := sNumber) l3 c3 k3
  have S3 : Std K mg "is_number" sNumber ["thing"] f3 _ := ⟨F3, PySem.W.mg_of X G a3, F3.binds (ps := ["thing"]) fun _ _ _ _ _ _ us hl => match us, hl with | [_], _ => rfl⟩
  have F4 := fun_mk (st := sPlace) l4 c4 k4
  have S4 : Std K mg "is_place" sPlace ["thing"] f4 _ := ⟨F4, PySem.W.mg_of X G a4, F4.binds (ps := ["thing"]) fun _ _ _ _ _ _ us hl => match us, hl with | [_], _ => rfl⟩
  have F5 := fun_mk (st := sSmall) l5 c5 k5
  have S5 : Std K mg "are_small" sSmall ["text"] f5 _ := ⟨F5, PySem.W.mg_of X G a5, F5.binds (ps := ["text"]) fun _ _ _ _ _ _ us hl => match us, hl with | [_], _ => rfl⟩
  have F6 := fun_mk (st := sNumName) l6 c6 k6
  have S6 : Std K mg "is_number_name" sNumName ["thing"] f6 _ := ⟨F6, PySem.W.mg_of X G a6, F6.binds (ps := ["thing"]) fun _ _ _ _ _ _ us hl => match us, hl with | [_], _ => rfl⟩
  have F7 := fun_mk (st := sGraphName) l7 c7 k7
  have S7 : Std K mg "is_graph_name" sGraphName ["thing"] f7 _ := ⟨F7, PySem.W.mg_of X G a7, F7.binds (ps := ["thing"]) fun _ _ _ _ _ _ us hl => match us, hl with | [_], _ => rfl⟩
  have F8 := fun_mk (st := sFits) l8 c8 k8
  have S8 : Std K mg "fits" sFits ["kind", "part", "sends", "takes"] f8 _ := ⟨F8, PySem.W.mg_of X G a8, F8.binds (ps := ["kind", "part", "sends", "takes"]) fun _ _ _ _ _ _ us hl => match us, hl with | [_, _, _, _], _ => rfl⟩
  have F9 := fun_mk (st := sWordOf) l9 c9 k9
  have S9 : Std K mg "word_of" sWordOf ["thing"] f9 _ := ⟨F9, PySem.W.mg_of X G a9, F9.binds (ps := ["thing"]) fun _ _ _ _ _ _ us hl => match us, hl with | [_], _ => rfl⟩
  have F10 := fun_mk (st := sIsDeed) l10 c10 k10
  have S10 : Std K mg "is_deed" sIsDeed ["thing", "sends", "takes"] f10 _ := ⟨F10, PySem.W.mg_of X G a10, F10.binds (ps := ["thing", "sends", "takes"]) fun _ _ _ _ _ _ us hl => match us, hl with | [_, _, _], _ => rfl⟩
  have F11 := fun_mk (st := sIsBranch) l11 c11 k11
  have S11 : Std K mg "is_branch" sIsBranch ["thing"] f11 _ := ⟨F11, PySem.W.mg_of X G a11, F11.binds (ps := ["thing"]) fun _ _ _ _ _ _ us hl => match us, hl with | [_], _ => rfl⟩
  have F12 := fun_mk (st := sStSize) l12 c12 k12
  have S12 : Std K mg "statement_size" sStSize ["thing", "level", "sends", "takes"] f12 _ := ⟨F12, PySem.W.mg_of X G a12, F12.binds (ps := ["thing", "level", "sends", "takes"]) fun _ _ _ _ _ _ us hl => match us, hl with | [_, _, _, _], _ => rfl⟩
  have F13 := fun_mk (st := sBlSize) l13 c13 k13
  have S13 : Std K mg "block_size" sBlSize ["thing", "level", "sends", "takes"] f13 _ := ⟨F13, PySem.W.mg_of X G a13, F13.binds (ps := ["thing", "level", "sends", "takes"]) fun _ _ _ _ _ _ us hl => match us, hl with | [_, _, _, _], _ => rfl⟩
  have F14 := fun_mk (st := sIsChan) l14 c14 k14
  have S14 : Std K mg "is_channel" sIsChan ["thing", "actors"] f14 _ := ⟨F14, PySem.W.mg_of X G a14, F14.binds (ps := ["thing", "actors"]) fun _ _ _ _ _ _ us hl => match us, hl with | [_, _], _ => rfl⟩
  have F15 := fun_mk (st := sSends) l15 c15 k15
  have S15 : Std K mg "sends_of" sSends ["channels", "actor"] f15 _ := ⟨F15, PySem.W.mg_of X G a15, F15.binds (ps := ["channels", "actor"]) fun _ _ _ _ _ _ us hl => match us, hl with | [_, _], _ => rfl⟩
  have F16 := fun_mk (st := sTakes) l16 c16 k16
  have S16 : Std K mg "takes_of" sTakes ["channels", "actor"] f16 _ := ⟨F16, PySem.W.mg_of X G a16, F16.binds (ps := ["channels", "actor"]) fun _ _ _ _ _ _ us hl => match us, hl with | [_, _], _ => rfl⟩
  have F17 := fun_mk (st := sIsNet) l17 c17 k17
  have S17 : Std K mg "is_net" sIsNet ["thing"] f17 _ := ⟨F17, PySem.W.mg_of X G a17, F17.binds (ps := ["thing"]) fun _ _ _ _ _ _ us hl => match us, hl with | [_], _ => rfl⟩
  have F18 := fun_mk (st := sCheckNet) l18 c18 k18
  have S18 : Std K mg "check_net" sCheckNet ["net"] f18 _ := ⟨F18, PySem.W.mg_of X G a18, F18.binds (ps := ["net"]) fun _ _ _ _ _ _ us hl => match us, hl with | [_], _ => rfl⟩
  have F19 := fun_mk (st := sHands) l19 c19 k19
  have S19 : Std K mg "hands_on" sHands ["deed"] f19 _ := ⟨F19, PySem.W.mg_of X G a19, F19.binds (ps := ["deed"]) fun _ _ _ _ _ _ us hl => match us, hl with | [_], _ => rfl⟩
  have F20 := fun_mk (st := sIsTest) l20 c20 k20
  have S20 : Std K mg "is_test" sIsTest ["thing"] f20 _ := ⟨F20, PySem.W.mg_of X G a20, F20.binds (ps := ["thing"]) fun _ _ _ _ _ _ us hl => match us, hl with | [_], _ => rfl⟩
  have F21 := fun_mk (st := sFlatDeed) l21 c21 k21
  have S21 : Std K mg "is_flat_deed" sFlatDeed ["thing", "sends", "takes"] f21 _ := ⟨F21, PySem.W.mg_of X G a21, F21.binds (ps := ["thing", "sends", "takes"]) fun _ _ _ _ _ _ us hl => match us, hl with | [_, _, _], _ => rfl⟩
  have F22 := fun_mk (st := sIsRow) l22 c22 k22
  have S22 : Std K mg "is_row" sIsRow ["thing", "many", "sends", "takes"] f22 _ := ⟨F22, PySem.W.mg_of X G a22, F22.binds (ps := ["thing", "many", "sends", "takes"]) fun _ _ _ _ _ _ us hl => match us, hl with | [_, _, _, _], _ => rfl⟩
  have F23 := fun_mk (st := sAreRows) l23 c23 k23
  have S23 : Std K mg "are_rows" sAreRows ["thing", "sends", "takes"] f23 _ := ⟨F23, PySem.W.mg_of X G a23, F23.binds (ps := ["thing", "sends", "takes"]) fun _ _ _ _ _ _ us hl => match us, hl with | [_, _, _], _ => rfl⟩
  have F24 := fun_mk (st := sIsCode) l24 c24 k24
  have S24 : Std K mg "is_code" sIsCode ["net", "thing"] f24 _ := ⟨F24, PySem.W.mg_of X G a24, F24.binds (ps := ["net", "thing"]) fun _ _ _ _ _ _ us hl => match us, hl with | [_, _], _ => rfl⟩
  have F25 := fun_mk (st := sCheckCode) l25 c25 k25
  have S25 : Std K mg "check_code" sCheckCode ["net", "code"] f25 _ := ⟨F25, PySem.W.mg_of X G a25, F25.binds (ps := ["net", "code"]) fun _ _ _ _ _ _ us hl => match us, hl with | [_, _], _ => rfl⟩
  have F26 := fun_mk (st := sWithWay) l26 c26 k26
  have S26 : Std K mg "with_way" sWithWay ["row", "way"] f26 _ := ⟨F26, PySem.W.mg_of X G a26, F26.binds (ps := ["row", "way"]) fun _ _ _ _ _ _ us hl => match us, hl with | [_, _], _ => rfl⟩
  have F27 := fun_mk (st := sCopying) l27 c27 k27
  have S27 : Std K mg "copying" sCopying ["rows"] f27 _ := ⟨F27, PySem.W.mg_of X G a27, F27.binds (ps := ["rows"]) fun _ _ _ _ _ _ us hl => match us, hl with | [_], _ => rfl⟩
  have F28 := fun_mk (st := sSizeOf) l28 c28 k28
  have S28 : Std K mg "size_of" sSizeOf ["statement"] f28 _ := ⟨F28, PySem.W.mg_of X G a28, F28.binds (ps := ["statement"]) fun _ _ _ _ _ _ us hl => match us, hl with | [_], _ => rfl⟩
  have F29 := fun_mk (st := sFlatBl) l29 c29 k29
  have S29 : Std K mg "flat_block" sFlatBl ["block", "first", "behind"] f29 _ := ⟨F29, PySem.W.mg_of X G a29, F29.binds (ps := ["block", "first", "behind"]) fun _ _ _ _ _ _ us hl => match us, hl with | [_, _, _], _ => rfl⟩
  have F30 := fun_mk (st := sFlatSt) l30 c30 k30
  have S30 : Std K mg "flat_statement" sFlatSt ["statement", "number", "behind"] f30 _ := ⟨F30, PySem.W.mg_of X G a30, F30.binds (ps := ["statement", "number", "behind"]) fun _ _ _ _ _ _ us hl => match us, hl with | [_, _, _], _ => rfl⟩
  have F31 := fun_mk (st := sFlatIf) l31 c31 k31
  have S31 : Std K mg "flat_if" sFlatIf ["statement", "number", "behind"] f31 _ := ⟨F31, PySem.W.mg_of X G a31, F31.binds (ps := ["statement", "number", "behind"]) fun _ _ _ _ _ _ us hl => match us, hl with | [_, _, _], _ => rfl⟩
  have F32 := fun_mk (st := sFlatWh) l32 c32 k32
  have S32 : Std K mg "flat_while" sFlatWh ["statement", "number", "behind"] f32 _ := ⟨F32, PySem.W.mg_of X G a32, F32.binds (ps := ["statement", "number", "behind"]) fun _ _ _ _ _ _ us hl => match us, hl with | [_, _, _], _ => rfl⟩
  have F33 := fun_mk (st := sFlat) l33 c33 k33
  have S33 : Std K mg "flat" sFlat ["net"] f33 _ := ⟨F33, PySem.W.mg_of X G a33, F33.binds (ps := ["net"]) fun _ _ _ _ _ _ us hl => match us, hl with | [_], _ => rfl⟩
  have F34 := fun_mk (st := sIsOwn) l34 c34 k34
  have S34 : Std K mg "is_own" sIsOwn ["net", "code"] f34 _ := ⟨F34, PySem.W.mg_of X G a34, F34.binds (ps := ["net", "code"]) fun _ _ _ _ _ _ us hl => match us, hl with | [_, _], _ => rfl⟩
  have F35 := fun_mk (st := sCell) l35 c35 k35
  have S35 : Std K mg "_law_cell_at" sCell ["_law_script", "_law_k"] f35 _ := ⟨F35, PySem.W.mg_of X G a35, F35.binds (ps := ["_law_script", "_law_k"]) fun _ _ _ _ _ _ us hl => match us, hl with | [_, _], _ => rfl⟩
  have F36 := fun_mk (st := sState) l36 c36 k36
  have S36 : Std K mg "_law_state" sState ["_law_script", "_law_k"] f36 _ := ⟨F36, PySem.W.mg_of X G a36, F36.binds (ps := ["_law_script", "_law_k"]) fun _ _ _ _ _ _ us hl => match us, hl with | [_, _], _ => rfl⟩
  have F37 := fun_mk (st := sChoice) l37 c37 k37
  have S37 : Std K mg "_law_choice" sChoice ["_law_state_here", "_law_many_here"] f37 _ := ⟨F37, PySem.W.mg_of X G a37, F37.binds (ps := ["_law_state_here", "_law_many_here"]) fun _ _ _ _ _ _ us hl => match us, hl with | [_, _], _ => rfl⟩
  have F38 := fun_mk (st := sMany) l38 c38 k38
  have S38 : Std K mg "_law_many" sMany ["_law_block_here"] f38 _ := ⟨F38, PySem.W.mg_of X G a38, F38.binds (ps := ["_law_block_here"]) fun _ _ _ _ _ _ us hl => match us, hl with | [_], _ => rfl⟩
  have F39 := fun_mk (st := sSimple) l39 c39 k39
  have S39 : Std K mg "_law_simple" sSimple ["_law_state_here", "_law_sends", "_law_takes"] f39 _ := ⟨F39, PySem.W.mg_of X G a39, F39.binds (ps := ["_law_state_here", "_law_sends", "_law_takes"]) fun _ _ _ _ _ _ us hl => match us, hl with | [_, _, _], _ => rfl⟩
  have F40 := fun_mk (st := sBlock) l40 c40 k40
  have S40 : Std K mg "_law_block" sBlock ["_law_state_here", "_law_sends", "_law_takes", "_law_deep", "_law_most"] f40 _ := ⟨F40, PySem.W.mg_of X G a40, F40.binds (ps := ["_law_state_here", "_law_sends", "_law_takes", "_law_deep", "_law_most"]) fun _ _ _ _ _ _ us hl => match us, hl with | [_, _, _, _, _], _ => rfl⟩
  have F41 := fun_mk (st := sEnds) l41 c41 k41
  have S41 : Std K mg "_law_ends" sEnds ["_law_channels", "_law_actor", "_law_side"] f41 _ := ⟨F41, PySem.W.mg_of X G a41, F41.binds (ps := ["_law_channels", "_law_actor", "_law_side"]) fun _ _ _ _ _ _ us hl => match us, hl with | [_, _, _], _ => rfl⟩
  have F42 := fun_mk (st := sNet) l42 c42 k42
  have S42 : Std K mg "_law_net" sNet ["_law_state_here", "_law_most", "_law_long"] f42 _ := ⟨F42, PySem.W.mg_of X G a42, F42.binds (ps := ["_law_state_here", "_law_most", "_law_long"]) fun _ _ _ _ _ _ us hl => match us, hl with | [_, _, _], _ => rfl⟩
  have F43 := fun_mk (st := sLFlat) l43 c43 k43
  have S43 : Std K mg "_law_flat" sLFlat ["_law_block_here", "_law_begin", "_law_behind"] f43 _ := ⟨F43, PySem.W.mg_of X G a43, F43.binds (ps := ["_law_block_here", "_law_begin", "_law_behind"]) fun _ _ _ _ _ _ us hl => match us, hl with | [_, _, _], _ => rfl⟩
  have F44 := fun_mk (st := sMarked) l44 c44 k44
  have S44 : Std K mg "_law_marked" sMarked ["_law_row"] f44 _ := ⟨F44, PySem.W.mg_of X G a44, F44.binds (ps := ["_law_row"]) fun _ _ _ _ _ _ us hl => match us, hl with | [_], _ => rfl⟩
  have F45 := fun_mk (st := sEob) l45 c45 k45
  have S45 : Std K mg "_law_ends_of_blocks" sEob [] f45 _ := ⟨F45, PySem.W.mg_of X G a45, F45.binds (ps := []) fun _ _ _ _ _ _ us hl => match us, hl with | [], _ => rfl⟩
  have F46 := fun_mk (st := sLaw) l46 c46 k46
  have hS : SqK K adS (signs.map V.str) := ⟨_, _, _, qS, rfl, rfl, by show 5 ≤ sizeLine; decide, (.cons ⟨_, rfl⟩ (.cons ⟨_, rfl⟩ (.cons ⟨_, rfl⟩ (.cons ⟨_, rfl⟩ (.cons ⟨_, rfl⟩ .nil)))))⟩
  have hU : SqK K adU (unlikeL.map V.str) := ⟨_, _, _, qU, rfl, rfl, by show 2 ≤ sizeLine; decide, (.cons ⟨_, rfl⟩ (.cons ⟨_, rfl⟩ .nil))⟩
  have hH : SqK K adH (handL.map V.str) := ⟨_, _, _, qH, rfl, rfl, by show 4 ≤ sizeLine; decide, (.cons ⟨_, rfl⟩ (.cons ⟨_, rfl⟩ (.cons ⟨_, rfl⟩ (.cons ⟨_, rfl⟩ .nil))))⟩
  have hW : SqK K adW (wayL.map V.str) := ⟨_, _, _, qW, rfl, rfl, by show 2 ≤ sizeLine; decide, (.cons ⟨_, rfl⟩ (.cons ⟨_, rfl⟩ .nil))⟩
  have hD : DeedT K w dtD := deedT_of (l := [("num", .ref rD0), ("sum", .ref rD1), ("new", .ref rD2), ("let", .ref rD3), ("add", .ref rD4), ("put", .ref rD5), ("tie", .ref rD6), ("hang", .ref rD7), ("get", .ref rD8), ("sort", .ref rD9), ("pick", .ref rD10), ("send", .ref rD11), ("take", .ref rD12), ("tell", .ref rD13), ("show", .ref rD14)]) lDD lowDD (by rw [eDD]; exact (.cons ⟨_, rfl⟩ (.cons ⟨_, rfl⟩ (.cons ⟨_, rfl⟩ (.cons ⟨_, rfl⟩ (.cons ⟨_, rfl⟩ (.cons ⟨_, rfl⟩ (.cons ⟨_, rfl⟩ (.cons ⟨_, rfl⟩ (.cons ⟨_, rfl⟩ (.cons ⟨_, rfl⟩ (.cons ⟨_, rfl⟩ (.cons ⟨_, rfl⟩ (.cons ⟨_, rfl⟩ (.cons ⟨_, rfl⟩ (.cons ⟨_, rfl⟩ .nil)))))))))))))))) (.cons ⟨rfl, rD0, rfl, ⟨_, _, _, qTD0, rfl, rfl, by show 2 ≤ sizeLine; decide, (.cons ⟨_, rfl⟩ (.cons ⟨_, rfl⟩ .nil))⟩⟩ (.cons ⟨rfl, rD1, rfl, ⟨_, _, _, qTD1, rfl, rfl, by show 4 ≤ sizeLine; decide, (.cons ⟨_, rfl⟩ (.cons ⟨_, rfl⟩ (.cons ⟨_, rfl⟩ (.cons ⟨_, rfl⟩ .nil))))⟩⟩ (.cons ⟨rfl, rD2, rfl, ⟨_, _, _, qTD2, rfl, rfl, by show 1 ≤ sizeLine; decide, (.cons ⟨_, rfl⟩ .nil)⟩⟩ (.cons ⟨rfl, rD3, rfl, ⟨_, _, _, qTD3, rfl, rfl, by show 2 ≤ sizeLine; decide, (.cons ⟨_, rfl⟩ (.cons ⟨_, rfl⟩ .nil))⟩⟩ (.cons ⟨rfl, rD4, rfl, ⟨_, _, _, qTD4, rfl, rfl, by show 2 ≤ sizeLine; decide, (.cons ⟨_, rfl⟩ (.cons ⟨_, rfl⟩ .nil))⟩⟩ (.cons ⟨rfl, rD5, rfl, ⟨_, _, _, qTD5, rfl, rfl, by show 4 ≤ sizeLine; decide, (.cons ⟨_, rfl⟩ (.cons ⟨_, rfl⟩ (.cons ⟨_, rfl⟩ (.cons ⟨_, rfl⟩ .nil))))⟩⟩ (.cons ⟨rfl, rD6, rfl, ⟨_, _, _, qTD6, rfl, rfl, by show 4 ≤ sizeLine; decide, (.cons ⟨_, rfl⟩ (.cons ⟨_, rfl⟩ (.cons ⟨_, rfl⟩ (.cons ⟨_, rfl⟩ .nil))))⟩⟩ (.cons ⟨rfl, rD7, rfl, ⟨_, _, _, qTD7, rfl, rfl, by show 4 ≤ sizeLine; decide, (.cons ⟨_, rfl⟩ (.cons ⟨_, rfl⟩ (.cons ⟨_, rfl⟩ (.cons ⟨_, rfl⟩ .nil))))⟩⟩ (.cons ⟨rfl, rD8, rfl, ⟨_, _, _, qTD8, rfl, rfl, by show 4 ≤ sizeLine; decide, (.cons ⟨_, rfl⟩ (.cons ⟨_, rfl⟩ (.cons ⟨_, rfl⟩ (.cons ⟨_, rfl⟩ .nil))))⟩⟩ (.cons ⟨rfl, rD9, rfl, ⟨_, _, _, qTD9, rfl, rfl, by show 4 ≤ sizeLine; decide, (.cons ⟨_, rfl⟩ (.cons ⟨_, rfl⟩ (.cons ⟨_, rfl⟩ (.cons ⟨_, rfl⟩ .nil))))⟩⟩ (.cons ⟨rfl, rD10, rfl, ⟨_, _, _, qTD10, rfl, rfl, by show 4 ≤ sizeLine; decide, (.cons ⟨_, rfl⟩ (.cons ⟨_, rfl⟩ (.cons ⟨_, rfl⟩ (.cons ⟨_, rfl⟩ .nil))))⟩⟩ (.cons ⟨rfl, rD11, rfl, ⟨_, _, _, qTD11, rfl, rfl, by show 2 ≤ sizeLine; decide, (.cons ⟨_, rfl⟩ (.cons ⟨_, rfl⟩ .nil))⟩⟩ (.cons ⟨rfl, rD12, rfl, ⟨_, _, _, qTD12, rfl, rfl, by show 2 ≤ sizeLine; decide, (.cons ⟨_, rfl⟩ (.cons ⟨_, rfl⟩ .nil))⟩⟩ (.cons ⟨rfl, rD13, rfl, ⟨_, _, _, qTD13, rfl, rfl, by show 1 ≤ sizeLine; decide, (.cons ⟨_, rfl⟩ .nil)⟩⟩ (.cons ⟨rfl, rD14, rfl, ⟨_, _, _, qTD14, rfl, rfl, by show 1 ≤ sizeLine; decide, (.cons ⟨_, rfl⟩ .nil)⟩⟩ .nil)))))))))))))))
  have hB : BranchT K w dtB := branchT_of (l := [("if", .int 2 vB0), ("while", .int 1 vB1)]) lDB lowDB (by rw [eDB]; exact (.cons ⟨_, rfl⟩ (.cons ⟨_, rfl⟩ .nil))) (.cons ⟨rfl, _, rfl⟩ (.cons ⟨rfl, _, rfl⟩ .nil))
  exact ⟨_, _, _, _, _, _, _, _, _, _, _, _, _, _, _, _, _, _, _, _, _, _, _, _, _, F46, fun s v => .of_eq rfl, T, (PySem.W.mg_none_of X G z11), (PySem.W.mg_none_of X G z12), (PySem.W.mg_none_of X G z13), (PySem.W.mg_none_of X G z14), ⟨_, _, _, _, PySem.W.mg_of X G a5, F5, rfl, lkA1, rfl, pA1, noA1⟩, ⟨_, _, _, _, PySem.W.mg_of X G a10, F10, rfl, lkA2, rfl, pA2, noA2⟩, ⟨_, _, _, _, PySem.W.mg_of X G a14, F14, rfl, lkA3, rfl, pA3, noA3⟩, ⟨_, _, _, _, PySem.W.mg_of X G a15, F15, rfl, lkA4, rfl, pA4, noA4⟩, ⟨_, _, _, _, PySem.W.mg_of X G a16, F16, rfl, lkA5, rfl, pA5, noA5⟩, ⟨_, _, _, _, PySem.W.mg_of X G a17, F17, rfl, lkA6, rfl, pA6, noA6⟩, ⟨_, _, _, _, PySem.W.mg_of X G a22, F22, rfl, lkA7, rfl, pA7, noA7⟩, ⟨_, _, _, _, PySem.W.mg_of X G a23, F23, rfl, lkA8, rfl, pA8, noA8⟩, ⟨_, _, _, _, PySem.W.mg_of X G a24, F24, rfl, lkA9, rfl, pA9, noA9⟩, ⟨_, _, _, _, PySem.W.mg_of X G a27, F27, rfl, lkA10, rfl, pA10, noA10⟩, ⟨_, _, _, _, PySem.W.mg_of X G a33, F33, rfl, lkA11, rfl, pA11, noA11⟩, ⟨_, _, _, _, PySem.W.mg_of X G a34, F34, rfl, lkA12, rfl, pA12, noA12⟩, fun P base TA1 TA2 TA3 TA4 TA5 TA6 TA7 TA8 TA9 TA10 TA11 TA12 =>
    all_cals T C (PySem.W.mg_none_of X G z11) (PySem.W.mg_none_of X G z12) (PySem.W.mg_none_of X G z13) (PySem.W.mg_none_of X G z14) (PySem.W.mg_of X G aS) hS (PySem.W.mg_of X G aU) hU (PySem.W.mg_of X G aH) hH (PySem.W.mg_of X G aW) hW (PySem.W.mg_of X G aDD) hD (PySem.W.mg_of X G aDB) hB S0 S1 S2 S3 S4 S5 S6 S7 S8 S9 S10 S11 S12 S13 S14 S15 S16 S17 S18 S19 S20 S21 S22 S23 S24 S25 S26 S27 S28 S29 S30 S31 S32 S33 S34 S35 S36 S37 S38 S39 S40 S41 S42 S43 S44 S45 rfl TA1 rfl TA2 rfl TA3 rfl TA4 rfl TA5 rfl TA6 rfl TA7 rfl TA8 rfl TA9 rfl TA10 rfl TA11 rfl TA12⟩
theorem tab_of {q : Program} {loose : List Str} {mean : ExcName → Option Value} {mg mb : Str → Option Value} {h : Heap} (T : Top q loose mean mg mb h) {x : Str} (hx : (recsOf q).any (fun d => d.name == x) = true) {K : PySem.W.Frag} (KX : K.In h) {st : Stmt} {f c Pt : Addr} {fd : FuncData} (F : Fun K x x st f fd) (hm : mg x = some (.ref f)) (hc : fd.code = .ref c)
    {oT : Obj} {vT : Array Value} (lk : K.lookup c = some oT) (hd : oT.data = .fields vT) (hp : vT[11]? = some (.ref Pt)) : h.get? Pt = some { cls := .none, data := .fields #[] } ∧ PySem.W.CodeHd h c Pt := by
  obtain ⟨d, hdm, e⟩ := List.any_eq_true.mp hx
  have e : d.name = x := eq_of_beq e
  obtain ⟨a, o, fd', c', P', m1, g1, d1, c1, isC, tab⟩ := T.tab d hdm
  rw [e, hm] at m1
  cases m1
  obtain ⟨oc, od, kV, doc, pm, an, cdv, ct, osl, rfl, found, code⟩ := F.ex
  have g2 := KX _ _ found
  rw [g1] at g2
  cases g2
  cases d1
  have hc : cdv = .ref c := hc
  have c1 : cdv = .ref c' := c1
  rw [hc] at c1
  cases c1
  obtain ⟨⟨o2, vs2, e1, e2, e3, e4⟩, e5⟩ := id tab
  have g3 := KX _ _ lk
  rw [e1] at g3
  cases g3
  rw [e3] at hd
  cases hd
  rw [e4] at hp
  cases hp
  exact ⟨e5, PySem.W.CodeHd.of isC tab⟩
theorem walk {l : PySem.W.OpenLaw} {q : Program} {loose : List Str} {XP : (Str → Option Value) → Heap → Prop} {YP : World → Heap → Prop} {d : DefRec} {K : Params → PySem.W.Frag} (hn : l.most = some 63) (hdf : d.params.defaults = []) (hnm : d.name = "law") (hi : importsNone q = true) (hA1 : (recsOf q).any (fun d => d.name == ("are_small" : Str)) = true) (hA2 : (recsOf q).any (fun d => d.name == ("is_deed" : Str)) = true) (hA3 : (recsOf q).any (fun d => d.name == ("is_channel" : Str)) = true) (hA4 : (recsOf q).any (fun d => d.name == ("sends_of" : Str)) = true) (hA5 : (recsOf q).any (fun d => d.name == ("takes_of" : Str)) = true) (hA6 : (recsOf q).any (fun d => d.name == ("is_net" : Str)) = true) (hA7 : (recsOf q).any (fun d => d.name == ("is_row" : Str)) = true) (hA8 : (recsOf q).any (fun d => d.name == ("are_rows" : Str)) = true) (hA9 : (recsOf q).any (fun d => d.name == ("is_code" : Str)) = true) (hA10 : (recsOf q).any (fun d => d.name == ("copying" : Str)) = true) (hA11 : (recsOf q).any (fun d => d.name == ("flat" : Str)) = true) (hA12 : (recsOf q).any (fun d => d.name == ("is_own" : Str)) = true)
    (hY : ∀ (w : World) (h : Heap), YP w h → (K w.params).In h)
    (F : ∀ (w : World) (mg : Str → Option Value) (fa : Addr) (h : Heap), (K w.params).In h → h.Ns mainGlobals mg → mg d.name = some (.ref fa) → Left12 (K w.params) w mg fa) :
    PySem.W.WalkO q loose XP YP l.row.toRowW d [] (fun f vs => PySem.call f vs) := by
  refine Att.attach_call hn hdf fun w s0 s1 mg mb fa o pm cd doc a vs ns G Y ho hd hcd hmg hobj hints hlen hg => ?_
  have KX := hY w _ Y
  obtain ⟨fd, cA1, PA1, cA2, PA2, cA3, PA3, cA4, PA4, cA5, PA5, cA6, PA6, cA7, PA7, cA8, PA8, cA9, PA9, cA10, PA10, cA11, PA11, cA12, PA12, FL, bd, T, ex0, ex1, ex2, ex3, ⟨_, _, _, _, mA1, FA1, codeA1, lkA1, dA1, pA1, nA1⟩, ⟨_, _, _, _, mA2, FA2, codeA2, lkA2, dA2, pA2, nA2⟩, ⟨_, _, _, _, mA3, FA3, codeA3, lkA3, dA3, pA3, nA3⟩, ⟨_, _, _, _, mA4, FA4, codeA4, lkA4, dA4, pA4, nA4⟩, ⟨_, _, _, _, mA5, FA5, codeA5, lkA5, dA5, pA5, nA5⟩, ⟨_, _, _, _, mA6, FA6, codeA6, lkA6, dA6, pA6, nA6⟩, ⟨_, _, _, _, mA7, FA7, codeA7, lkA7, dA7, pA7, nA7⟩, ⟨_, _, _, _, mA8, FA8, codeA8, lkA8, dA8, pA8, nA8⟩, ⟨_, _, _, _, mA9, FA9, codeA9, lkA9, dA9, pA9, nA9⟩, ⟨_, _, _, _, mA10, FA10, codeA10, lkA10, dA10, pA10, nA10⟩, ⟨_, _, _, _, mA11, FA11, codeA11, lkA11, dA11, pA11, nA11⟩, ⟨_, _, _, _, mA12, FA12, codeA12, lkA12, dA12, pA12, nA12⟩, cals⟩ := F w mg fa _ KX G.T.g hmg
  obtain ⟨tA1, uA1⟩ := tab_of G.T hA1 KX FA1 mA1 codeA1 lkA1 dA1 pA1
  obtain ⟨tA2, uA2⟩ := tab_of G.T hA2 KX FA2 mA2 codeA2 lkA2 dA2 pA2
  obtain ⟨tA3, uA3⟩ := tab_of G.T hA3 KX FA3 mA3 codeA3 lkA3 dA3 pA3
  obtain ⟨tA4, uA4⟩ := tab_of G.T hA4 KX FA4 mA4 codeA4 lkA4 dA4 pA4
  obtain ⟨tA5, uA5⟩ := tab_of G.T hA5 KX FA5 mA5 codeA5 lkA5 dA5 pA5
  obtain ⟨tA6, uA6⟩ := tab_of G.T hA6 KX FA6 mA6 codeA6 lkA6 dA6 pA6
  obtain ⟨tA7, uA7⟩ := tab_of G.T hA7 KX FA7 mA7 codeA7 lkA7 dA7 pA7
  obtain ⟨tA8, uA8⟩ := tab_of G.T hA8 KX FA8 mA8 codeA8 lkA8 dA8 pA8
  obtain ⟨tA9, uA9⟩ := tab_of G.T hA9 KX FA9 mA9 codeA9 lkA9 dA9 pA9
  obtain ⟨tA10, uA10⟩ := tab_of G.T hA10 KX FA10 mA10 codeA10 lkA10 dA10 pA10
  obtain ⟨tA11, uA11⟩ := tab_of G.T hA11 KX FA11 mA11 codeA11 lkA11 dA11 pA11
  obtain ⟨tA12, uA12⟩ := tab_of G.T hA12 KX FA12 mA12 codeA12 lkA12 dA12 pA12
  obtain ⟨mm, sy, _⟩ := (G.T.seer hi).mods
  have each : ∀ {Pr : Addr × Addr → Prop}, Pr (cA1, PA1) → Pr (cA2, PA2) → Pr (cA3, PA3) → Pr (cA4, PA4) → Pr (cA5, PA5) → Pr (cA6, PA6) → Pr (cA7, PA7) → Pr (cA8, PA8) → Pr (cA9, PA9) → Pr (cA10, PA10) → Pr (cA11, PA11) → Pr (cA12, PA12) → ∀ p ∈ [(cA1, PA1), (cA2, PA2), (cA3, PA3), (cA4, PA4), (cA5, PA5), (cA6, PA6), (cA7, PA7), (cA8, PA8), (cA9, PA9), (cA10, PA10), (cA11, PA11), (cA12, PA12)], Pr p := fun h0 h1 h2 h3 h4 h5 h6 h7 h8 h9 h10 h11 p hp => by
    simp only [List.mem_cons, List.not_mem_nil, or_false] at hp
    rcases hp with rfl | rfl | rfl | rfl | rfl | rfl | rfl | rfl | rfl | rfl | rfl | rfl
    · exact h0
    · exact h1
    · exact h2
    · exact h3
    · exact h4
    · exact h5
    · exact h6
    · exact h7
    · exact h8
    · exact h9
    · exact h10
    · exact h11
  refine law_endT (k := 24) (cs := [(cA1, PA1), (cA2, PA2), (cA3, PA3), (cA4, PA4), (cA5, PA5), (cA6, PA6), (cA7, PA7), (cA8, PA8), (cA9, PA9), (cA10, PA10), (cA11, PA11), (cA12, PA12)]) KX G.T.g G.T.b G.T.builtins G.T.nolimit hg ⟨each tA1 tA2 tA3 tA4 tA5 tA6 tA7 tA8 tA9 tA10 tA11 tA12, each nA1 nA2 nA3 nA4 nA5 nA6 nA7 nA8 nA9 nA10 nA11 nA12, each uA1 uA2 uA3 uA4 uA5 uA6 uA7 uA8 uA9 uA10 uA11 uA12, ⟨mm, sy⟩, G.T.bmain⟩ hobj hints (small (by omega)) ⟨rfl, by decide, by decide⟩ FL scLaw bd fun base _ _ sb TB H cdv hc tabs scr hr => ?_
  refine law_body (k := 24) T  sb scr hlen (fun p hp => ?_) hr (cals l.prog base (TB _ List.mem_cons_self) (TB _ (List.mem_cons_of_mem _ List.mem_cons_self)) (TB _ (List.mem_cons_of_mem _ (List.mem_cons_of_mem _ List.mem_cons_self))) (TB _ (List.mem_cons_of_mem _ (List.mem_cons_of_mem _ (List.mem_cons_of_mem _ List.mem_cons_self)))) (TB _ (List.mem_cons_of_mem _ (List.mem_cons_of_mem _ (List.mem_cons_of_mem _ (List.mem_cons_of_mem _ List.mem_cons_self))))) (TB _ (List.mem_cons_of_mem _ (List.mem_cons_of_mem _ (List.mem_cons_of_mem _ (List.mem_cons_of_mem _ (List.mem_cons_of_mem _ List.mem_cons_self)))))) (TB _ (List.mem_cons_of_mem _ (List.mem_cons_of_mem _ (List.mem_cons_of_mem _ (List.mem_cons_of_mem _ (List.mem_cons_of_mem _ (List.mem_cons_of_mem _ List.mem_cons_self))))))) (TB _ (List.mem_cons_of_mem _ (List.mem_cons_of_mem _ (List.mem_cons_of_mem _ (List.mem_cons_of_mem _ (List.mem_cons_of_mem _ (List.mem_cons_of_mem _ (List.mem_cons_of_mem _ List.mem_cons_self)))))))) (TB _ (List.mem_cons_of_mem _ (List.mem_cons_of_mem _ (List.mem_cons_of_mem _ (List.mem_cons_of_mem _ (List.mem_cons_of_mem _ (List.mem_cons_of_mem _ (List.mem_cons_of_mem _ (List.mem_cons_of_mem _ List.mem_cons_self))))))))) (TB _ (List.mem_cons_of_mem _ (List.mem_cons_of_mem _ (List.mem_cons_of_mem _ (List.mem_cons_of_mem _ (List.mem_cons_of_mem _ (List.mem_cons_of_mem _ (List.mem_cons_of_mem _ (List.mem_cons_of_mem _ (List.mem_cons_of_mem _ List.mem_cons_self)))))))))) (TB _ (List.mem_cons_of_mem _ (List.mem_cons_of_mem _ (List.mem_cons_of_mem _ (List.mem_cons_of_mem _ (List.mem_cons_of_mem _ (List.mem_cons_of_mem _ (List.mem_cons_of_mem _ (List.mem_cons_of_mem _ (List.mem_cons_of_mem _ (List.mem_cons_of_mem _ List.mem_cons_self))))))))))) (TB _ (List.mem_cons_of_mem _ (List.mem_cons_of_mem _ (List.mem_cons_of_mem _ (List.mem_cons_of_mem _ (List.mem_cons_of_mem _ (List.mem_cons_of_mem _ (List.mem_cons_of_mem _ (List.mem_cons_of_mem _ (List.mem_cons_of_mem _ (List.mem_cons_of_mem _ (List.mem_cons_of_mem _ List.mem_cons_self)))))))))))))
  simp only [List.mem_cons, List.not_mem_nil, or_false] at hp
  rcases hp with rfl | rfl | rfl | rfl | rfl | rfl | rfl | rfl | rfl | rfl | rfl | rfl
  · exact ⟨#[], tabs _ List.mem_cons_self, trivial⟩
  · exact ⟨#[], tabs _ (List.mem_cons_of_mem _ List.mem_cons_self), trivial⟩
  · exact ⟨#[], tabs _ (List.mem_cons_of_mem _ (List.mem_cons_of_mem _ List.mem_cons_self)), trivial⟩
  · exact ⟨#[], tabs _ (List.mem_cons_of_mem _ (List.mem_cons_of_mem _ (List.mem_cons_of_mem _ List.mem_cons_self))), trivial⟩
  · exact ⟨#[], tabs _ (List.mem_cons_of_mem _ (List.mem_cons_of_mem _ (List.mem_cons_of_mem _ (List.mem_cons_of_mem _ List.mem_cons_self)))), trivial⟩
  · exact ⟨#[], tabs _ (List.mem_cons_of_mem _ (List.mem_cons_of_mem _ (List.mem_cons_of_mem _ (List.mem_cons_of_mem _ (List.mem_cons_of_mem _ List.mem_cons_self))))), trivial⟩
  · exact ⟨#[], tabs _ (List.mem_cons_of_mem _ (List.mem_cons_of_mem _ (List.mem_cons_of_mem _ (List.mem_cons_of_mem _ (List.mem_cons_of_mem _ (List.mem_cons_of_mem _ List.mem_cons_self)))))), trivial⟩
  · exact ⟨#[], tabs _ (List.mem_cons_of_mem _ (List.mem_cons_of_mem _ (List.mem_cons_of_mem _ (List.mem_cons_of_mem _ (List.mem_cons_of_mem _ (List.mem_cons_of_mem _ (List.mem_cons_of_mem _ List.mem_cons_self))))))), trivial⟩
  · exact ⟨#[], tabs _ (List.mem_cons_of_mem _ (List.mem_cons_of_mem _ (List.mem_cons_of_mem _ (List.mem_cons_of_mem _ (List.mem_cons_of_mem _ (List.mem_cons_of_mem _ (List.mem_cons_of_mem _ (List.mem_cons_of_mem _ List.mem_cons_self)))))))), trivial⟩
  · exact ⟨#[], tabs _ (List.mem_cons_of_mem _ (List.mem_cons_of_mem _ (List.mem_cons_of_mem _ (List.mem_cons_of_mem _ (List.mem_cons_of_mem _ (List.mem_cons_of_mem _ (List.mem_cons_of_mem _ (List.mem_cons_of_mem _ (List.mem_cons_of_mem _ List.mem_cons_self))))))))), trivial⟩
  · exact ⟨#[], tabs _ (List.mem_cons_of_mem _ (List.mem_cons_of_mem _ (List.mem_cons_of_mem _ (List.mem_cons_of_mem _ (List.mem_cons_of_mem _ (List.mem_cons_of_mem _ (List.mem_cons_of_mem _ (List.mem_cons_of_mem _ (List.mem_cons_of_mem _ (List.mem_cons_of_mem _ List.mem_cons_self)))))))))), trivial⟩
  · exact ⟨#[], tabs _ (List.mem_cons_of_mem _ (List.mem_cons_of_mem _ (List.mem_cons_of_mem _ (List.mem_cons_of_mem _ (List.mem_cons_of_mem _ (List.mem_cons_of_mem _ (List.mem_cons_of_mem _ (List.mem_cons_of_mem _ (List.mem_cons_of_mem _ (List.mem_cons_of_mem _ (List.mem_cons_of_mem _ List.mem_cons_self))))))))))), trivial⟩
end
end Gw
open PySem PySem.W PyProof.Rows
set_option maxRecDepth 100000 in
set_option maxHeartbeats 0 in
theorem PySem.Challenge.cw_giveway_k12_flat_code_holds : PySem.Challenge.rw_giveway_k12_flat_code.Holds := by
  w_on; o_law; k_head; (case hw => w_witness2)
  k_fill
  refine Gw.walk (l := PySem.Challenge.rw_giveway_k12_flat_code) rfl rfl rfl (by decide +kernel) (by decide +kernel) (by decide +kernel) (by decide +kernel) (by decide +kernel) (by decide +kernel) (by decide +kernel) (by decide +kernel) (by decide +kernel) (by decide +kernel) (by decide +kernel) (by decide +kernel) (by decide +kernel) (fun w h Y => PySem.W.kIn_of Y) ?F
  case F =>
    intro w mg fa h KX G hmg
    refine' Gw.all_mk KX G hmg ?a0 ?l0 ?c0 ?k0 ?a1 ?l1 ?c1 ?k1 ?a2 ?l2 ?c2 ?k2 ?a3 ?l3 ?c3 ?k3 ?a4 ?l4 ?c4 ?k4 ?a5 ?l5 ?c5 ?k5 ?a6 ?l6 ?c6 ?k6 ?a7 ?l7 ?c7 ?k7 ?a8 ?l8 ?c8 ?k8 ?a9 ?l9 ?c9 ?k9 ?a10 ?l10 ?c10 ?k10 ?a11 ?l11 ?c11 ?k11 ?a12 ?l12 ?c12 ?k12 ?a13 ?l13 ?c13 ?k13 ?a14 ?l14 ?c14 ?k14 ?a15 ?l15 ?c15 ?k15 ?a16 ?l16 ?c16 ?k16 ?a17 ?l17 ?c17 ?k17 ?a18 ?l18 ?c18 ?k18 ?a19 ?l19 ?c19 ?k19 ?a20 ?l20 ?c20 ?k20 ?a21 ?l21 ?c21 ?k21 ?a22 ?l22 ?c22 ?k22 ?a23 ?l23 ?c23 ?k23 ?a24 ?l24 ?c24 ?k24 ?a25 ?l25 ?c25 ?k25 ?a26 ?l26 ?c26 ?k26 ?a27 ?l27 ?c27 ?k27 ?a28 ?l28 ?c28 ?k28 ?a29 ?l29 ?c29 ?k29 ?a30 ?l30 ?c30 ?k30 ?a31 ?l31 ?c31 ?k31 ?a32 ?l32 ?c32 ?k32 ?a33 ?l33 ?c33 ?k33 ?a34 ?l34 ?c34 ?k34 ?a35 ?l35 ?c35 ?k35 ?a36 ?l36 ?c36 ?k36 ?a37 ?l37 ?c37 ?k37 ?a38 ?l38 ?c38 ?k38 ?a39 ?l39 ?c39 ?k39 ?a40 ?l40 ?c40 ?k40 ?a41 ?l41 ?c41 ?k41 ?a42 ?l42 ?c42 ?k42 ?a43 ?l43 ?c43 ?k43 ?a44 ?l44 ?c44 ?k44 ?a45 ?l45 ?c45 ?k45 ?a46 ?l46 ?c46 ?k46 ?n0 ?n1 ?n2 ?n3 ?n4 ?n5 ?n6 ?n7 ?n8 ?n9 ?z0 ?z1 ?z2 ?z3 ?z4 ?z5 ?z6 ?z7 ?z8 ?z9 ?z10 ?z11 ?z12 ?z13 ?z14 ?lkA1 ?pA1 ?noA1 ?lkA2 ?pA2 ?noA2 ?lkA3 ?pA3 ?noA3 ?lkA4 ?pA4 ?noA4 ?lkA5 ?pA5 ?noA5 ?lkA6 ?pA6 ?noA6 ?lkA7 ?pA7 ?noA7 ?lkA8 ?pA8 ?noA8 ?lkA9 ?pA9 ?noA9 ?lkA10 ?pA10 ?noA10 ?lkA11 ?pA11 ?noA11 ?lkA12 ?pA12 ?noA12 ?aS ?qS ?aU ?qU ?aH ?qH ?aW ?qW ?aDD ?lDD ?lowDD ?eDD ?qTD0 ?qTD1 ?qTD2 ?qTD3 ?qTD4 ?qTD5 ?qTD6 ?qTD7 ?qTD8 ?qTD9 ?qTD10 ?qTD11 ?qTD12 ?qTD13 ?qTD14 ?aDB ?lDB ?lowDB ?eDB
    (case a0 => k_is)
    (case l0 => k_is)
    (case c0 => k_is)
    (case k0 => k_is)
    (case a1 => k_is)
    (case l1 => k_is)
    (case c1 => k_is)
    (case k1 => k_is)
    (case a2 => k_is)
    (case l2 => k_is)
    (case c2 => k_is)
    (case k2 => k_is)
    (case a3 => k_is)
    (case l3 => k_is)
    (case c3 => k_is)
    (case k3 => k_is)
    (case a4 => k_is)
    (case l4 => k_is)
    (case c4 => k_is)
    (case k4 => k_is)
    (case a5 => k_is)
    (case l5 => k_is)
    (case c5 => k_is)
    (case k5 => k_is)
    (case a6 => k_is)
    (case l6 => k_is)
    (case c6 => k_is)
    (case k6 => k_is)
    (case a7 => k_is)
    (case l7 => k_is)
    (case c7 => k_is)
    (case k7 => k_is)
    (case a8 => k_is)
    (case l8 => k_is)
    (case c8 => k_is)
    (case k8 => k_is)
    (case a9 => k_is)
    (case l9 => k_is)
    (case c9 => k_is)
    (case k9 => k_is)
    (case a10 => k_is)
    (case l10 => k_is)
    (case c10 => k_is)
    (case k10 => k_is)
    (case a11 => k_is)
    (case l11 => k_is)
    (case c11 => k_is)
    (case k11 => k_is)
    (case a12 => k_is)
    (case l12 => k_is)
    (case c12 => k_is)
    (case k12 => k_is)
    (case a13 => k_is)
    (case l13 => k_is)
    (case c13 => k_is)
    (case k13 => k_is)
    (case a14 => k_is)
    (case l14 => k_is)
    (case c14 => k_is)
    (case k14 => k_is)
    (case a15 => k_is)
    (case l15 => k_is)
    (case c15 => k_is)
    (case k15 => k_is)
    (case a16 => k_is)
    (case l16 => k_is)
    (case c16 => k_is)
    (case k16 => k_is)
    (case a17 => k_is)
    (case l17 => k_is)
    (case c17 => k_is)
    (case k17 => k_is)
    (case a18 => k_is)
    (case l18 => k_is)
    (case c18 => k_is)
    (case k18 => k_is)
    (case a19 => k_is)
    (case l19 => k_is)
    (case c19 => k_is)
    (case k19 => k_is)
    (case a20 => k_is)
    (case l20 => k_is)
    (case c20 => k_is)
    (case k20 => k_is)
    (case a21 => k_is)
    (case l21 => k_is)
    (case c21 => k_is)
    (case k21 => k_is)
    (case a22 => k_is)
    (case l22 => k_is)
    (case c22 => k_is)
    (case k22 => k_is)
    (case a23 => k_is)
    (case l23 => k_is)
    (case c23 => k_is)
    (case k23 => k_is)
    (case a24 => k_is)
    (case l24 => k_is)
    (case c24 => k_is)
    (case k24 => k_is)
    (case a25 => k_is)
    (case l25 => k_is)
    (case c25 => k_is)
    (case k25 => k_is)
    (case a26 => k_is)
    (case l26 => k_is)
    (case c26 => k_is)
    (case k26 => k_is)
    (case a27 => k_is)
    (case l27 => k_is)
    (case c27 => k_is)
    (case k27 => k_is)
    (case a28 => k_is)
    (case l28 => k_is)
    (case c28 => k_is)
    (case k28 => k_is)
    (case a29 => k_is)
    (case l29 => k_is)
    (case c29 => k_is)
    (case k29 => k_is)
    (case a30 => k_is)
    (case l30 => k_is)
    (case c30 => k_is)
    (case k30 => k_is)
    (case a31 => k_is)
    (case l31 => k_is)
    (case c31 => k_is)
    (case k31 => k_is)
    (case a32 => k_is)
    (case l32 => k_is)
    (case c32 => k_is)
    (case k32 => k_is)
    (case a33 => k_is)
    (case l33 => k_is)
    (case c33 => k_is)
    (case k33 => k_is)
    (case a34 => k_is)
    (case l34 => k_is)
    (case c34 => k_is)
    (case k34 => k_is)
    (case a35 => k_is)
    (case l35 => k_is)
    (case c35 => k_is)
    (case k35 => k_is)
    (case a36 => k_is)
    (case l36 => k_is)
    (case c36 => k_is)
    (case k36 => k_is)
    (case a37 => k_is)
    (case l37 => k_is)
    (case c37 => k_is)
    (case k37 => k_is)
    (case a38 => k_is)
    (case l38 => k_is)
    (case c38 => k_is)
    (case k38 => k_is)
    (case a39 => k_is)
    (case l39 => k_is)
    (case c39 => k_is)
    (case k39 => k_is)
    (case a40 => k_is)
    (case l40 => k_is)
    (case c40 => k_is)
    (case k40 => k_is)
    (case a41 => k_is)
    (case l41 => k_is)
    (case c41 => k_is)
    (case k41 => k_is)
    (case a42 => k_is)
    (case l42 => k_is)
    (case c42 => k_is)
    (case k42 => k_is)
    (case a43 => k_is)
    (case l43 => k_is)
    (case c43 => k_is)
    (case k43 => k_is)
    (case a44 => k_is)
    (case l44 => k_is)
    (case c44 => k_is)
    (case k44 => k_is)
    (case a45 => k_is)
    (case l45 => k_is)
    (case c45 => k_is)
    (case k45 => k_is)
    (case a46 => k_is)
    (case l46 => k_is)
    (case c46 => k_is)
    (case k46 => k_is)
    (case n0 => k_is)
    (case n1 => k_is)
    (case n2 => k_is)
    (case n3 => k_is)
    (case n4 => k_is)
    (case n5 => k_is)
    (case n6 => k_is)
    (case n7 => k_is)
    (case n8 => k_is)
    (case n9 => k_is)
    (case z0 => k_is)
    (case z1 => k_is)
    (case z2 => k_is)
    (case z3 => k_is)
    (case z4 => k_is)
    (case z5 => k_is)
    (case z6 => k_is)
    (case z7 => k_is)
    (case z8 => k_is)
    (case z9 => k_is)
    (case z10 => k_is)
    (case z11 => k_is)
    (case z12 => k_is)
    (case z13 => k_is)
    (case z14 => k_is)
    (case lkA1 => k_is)
    (case pA1 => rfl)
    (case noA1 => first | rfl | k_is)
    (case lkA2 => k_is)
    (case pA2 => rfl)
    (case noA2 => first | rfl | k_is)
    (case lkA3 => k_is)
    (case pA3 => rfl)
    (case noA3 => first | rfl | k_is)
    (case lkA4 => k_is)
    (case pA4 => rfl)
    (case noA4 => first | rfl | k_is)
    (case lkA5 => k_is)
    (case pA5 => rfl)
    (case noA5 => first | rfl | k_is)
    (case lkA6 => k_is)
    (case pA6 => rfl)
    (case noA6 => first | rfl | k_is)
    (case lkA7 => k_is)
    (case pA7 => rfl)
    (case noA7 => first | rfl | k_is)
    (case lkA8 => k_is)
    (case pA8 => rfl)
    (case noA8 => first | rfl | k_is)
    (case lkA9 => k_is)
    (case pA9 => rfl)
    (case noA9 => first | rfl | k_is)
    (case lkA10 => k_is)
    (case pA10 => rfl)
    (case noA10 => first | rfl | k_is)
    (case lkA11 => k_is)
    (case pA11 => rfl)
    (case noA11 => first | rfl | k_is)
    (case lkA12 => k_is)
    (case pA12 => rfl)
    (case noA12 => first | rfl | k_is)
    (case aS => k_is)
    (case qS => k_is)
    (case aU => k_is)
    (case qU => k_is)
    (case aH => k_is)
    (case qH => k_is)
    (case aW => k_is)
    (case qW => k_is)
    (case aDD => k_is)
    (case lDD => k_is)
    (case lowDD => rfl)
    (case eDD => rfl)
    (case qTD0 => k_is)
    (case qTD1 => k_is)
    (case qTD2 => k_is)
    (case qTD3 => k_is)
    (case qTD4 => k_is)
    (case qTD5 => k_is)
    (case qTD6 => k_is)
    (case qTD7 => k_is)
    (case qTD8 => k_is)
    (case qTD9 => k_is)
    (case qTD10 => k_is)
    (case qTD11 => k_is)
    (case qTD12 => k_is)
    (case qTD13 => k_is)
    (case qTD14 => k_is)
    (case aDB => k_is)
    (case lDB => k_is)
    (case lowDB => rfl)
    (case eDB => rfl)
