import PyProof.Rows.All
import Wide.All
import OpenK.AllK
import Wide.FinOn
import HandS.ForMost
import HandS.IsInst
import HandS.Defaults
import HandS.Conv
import HandS.TupAny
import KE.DataMinMax
import HandS.ForExc
import HandS.Lambda
import HandS.ExcIs
import HandS.Dict
import HandS.EndTab
import PyProof.FactsAll.dict
import HandS.GenList
import HandS.AnyAll
import HandS.RaiseMore
import HandS.Iter
import HandS.Steps
import HandS.Text
import HandS.Zip
import PyProof.TupleOfGen
import HandS.DictEq
import KE.KEqNest
import HandS.More
import KE.GoesMore
import HandS.DictComp
import HandS.List
import HandS.Codes
import HandS.NoneIn
import HandS.SetFor
import HandS.DictTup
import HandS.Strs
import HandS.SetBool
import HandS.Walk
import HandS.TupLe
import HandS.Style
import KE.SortData
import HandS.SortKw
import HandS.TupSets
import KE.DatumOrd
import PySem.Challenge.RW_giveway_k60_who_takes_from_whom
set_option Elab.async false
set_option linter.all false
set_option maxRecDepth 100000
namespace Gw
open PySem L2
def top (i : Nat) : Stmt := PySem.Challenge.pw_giveway_k60_who_takes_from_whom.main.body.getD i (.Pass ⟨0, 0, 0, 0⟩)
abbrev sWhole : Stmt := top 5
abbrev sWithin : Stmt := top 6
abbrev sTuple : Stmt := top 7
abbrev sPoints : Stmt := top 9
abbrev sIsChart : Stmt := top 10
abbrev sCheckCh : Stmt := top 11
abbrev sBefores : Stmt := top 12
abbrev sDist : Stmt := top 13
abbrev sNear : Stmt := top 14
abbrev sShort : Stmt := top 15
abbrev sRanks : Stmt := top 16
abbrev sLring : Stmt := top 17
abbrev sRounds : Stmt := top 18
abbrev sNumber : Stmt := top 22
abbrev sPlace : Stmt := top 23
abbrev sSmall : Stmt := top 35
abbrev sNumName : Stmt := top 36
abbrev sGraphName : Stmt := top 37
abbrev sFits : Stmt := top 38
abbrev sWordOf : Stmt := top 39
abbrev sIsDeed : Stmt := top 40
abbrev sIsBranch : Stmt := top 41
abbrev sStSize : Stmt := top 42
abbrev sBlSize : Stmt := top 43
abbrev sIsChan : Stmt := top 44
abbrev sSends : Stmt := top 45
abbrev sTakes : Stmt := top 46
abbrev sIsNet : Stmt := top 47
abbrev sCheckNet : Stmt := top 48
abbrev sHands : Stmt := top 52
abbrev sSizeOf : Stmt := top 53
abbrev sFlatBl : Stmt := top 54
abbrev sFlatSt : Stmt := top 55
abbrev sFlatIf : Stmt := top 56
abbrev sFlatWh : Stmt := top 57
abbrev sFlat : Stmt := top 58
abbrev sSendersTo : Stmt := top 60
abbrev sWaiting : Stmt := top 61
abbrev sRoundsOf : Stmt := top 62
abbrev sCell : Stmt := top 64
abbrev sState : Stmt := top 65
abbrev sChoice : Stmt := top 66
abbrev sMany : Stmt := top 67
abbrev sSimple : Stmt := top 68
abbrev sBlock : Stmt := top 69
abbrev sEnds : Stmt := top 70
abbrev sNet : Stmt := top 71
abbrev sLTakes : Stmt := top 72
abbrev sLRounds : Stmt := top 73
abbrev sLaw : Stmt := top 74
/-! data, dicts of whole numbers among it -/
def dictK (ms : List (Int × Int)) : List (Key × V) := ms.map fun m => (Sum.inl m.1, V.int m.2)
def dictD (ms : List (Int × Int)) : List (PyData × PyData) := ms.map fun m => (PyData.int m.1, PyData.int m.2)
mutual
inductive Dp (K : PySem.W.Frag) (Hh : Hp) : V → PyData → Prop
  | non : Dp K Hh .non .none
  | bl (t : Bool) : Dp K Hh (.bl t) (.bool t)
  | int (n : Int) : Dp K Hh (.int n) (.int n)
  | str (t : Str) : Dp K Hh (.str t) (.str t)
  | lst {r : Addr} {us : List V} {es : List PyData} (at_ : SqL K Hh r us) (each : DpAll K Hh us es) : Dp K Hh (.ref r) (.list es)
  | tup {r : Addr} {us : List V} {es : List PyData} (at_ : SqT K Hh r us) (each : DpAll K Hh us es) : Dp K Hh (.ref r) (.tuple es)
  | dct {r : Addr} {ms : List (Int × Int)} (at_ : Hh r = some (.dK (dictK ms))) : Dp K Hh (.ref r) (.dict (dictD ms))
inductive DpAll (K : PySem.W.Frag) (Hh : Hp) : List V → List PyData → Prop
  | nil : DpAll K Hh [] []
  | cons {u : V} {us : List V} {e : PyData} {es : List PyData} (one : Dp K Hh u e) (more : DpAll K Hh us es) : DpAll K Hh (u :: us) (e :: es)
end
/-! no list is in it -/
mutual
def noL : PyData → Bool
  | .list _ => false
  | .tuple es => noLs es
  | _ => true
def noLs : List PyData → Bool
  | [] => true
  | e :: es => noL e && noLs es
end
theorem reads_dict {Pg : Program} {wd : World} {h : Heap} : ∀ (ms : List (Int × Int)) (vs : List (Key × Value)) (es : List DictEntry), KV (dictK ms) vs → Pairs (mixKind Pg wd) es vs →
    ReadsAll h (es.map fun e => e.key) ((dictD ms).map fun p => p.1) [] ∧ ReadsAll h (es.map fun e => e.val) ((dictD ms).map fun p => p.2) []
  | [], vs, es, kv, pr => by
    cases kv
    cases pr
    exact ⟨.nil, .nil⟩
  | m :: ms, vs, es, kv, pr => by
    cases kv with
    | cons h1 h2 =>
      cases pr with
      | cons p1 p2 p3 =>
        obtain ⟨q1, q2⟩ := reads_dict (h := h) ms _ _ h2 p3
        obtain ⟨e1, e2⟩ := h1
        rw [← e1] at p1
        have p1 : keyIs (Sum.inl m.1) _ = true := p1
        rcases keyIs_shape p1 with ⟨i, t, z1, z2⟩ | ⟨x, t, z1, z2⟩
        · cases z1
          obtain ⟨t2, e2⟩ := e2
          refine ⟨?_, ?_⟩
          · refine (show ReadsAll h (_ :: _) (PyData.int m.1 :: _) ([] ++ []) from ?_)
            dsimp only
            rw [z2]
            exact .cons (.int _ _) q1
          · refine (show ReadsAll h (_ :: _) (PyData.int m.2 :: _) ([] ++ []) from ?_)
            dsimp only
            rw [p2, e2]
            exact .cons (.int _ _) q2
        · cases z1
section
variable {X : Cx} {pins : List (Addr × Obj)} {σ : L2.St} {H : Hp} {s : Shared}
theorem dct_reads (I : Inv X pins σ H s) {r : Addr} {ms : List (Int × Int)} (h : H r = some (.dK (dictK ms))) : ∃ o es n, s.heap.get? r = some o ∧ o.ExactDict ∧ o.data = .dict es n ∧ r ≠ sysModules ∧ Reads s.heap (.ref r) (.dict (dictD ms)) (r :: [] ++ []) := by
  obtain ⟨_, ns, vs, kv, o, es, ep, g, ex, dd, _, pr, _⟩ := I.hok r _ h
  obtain ⟨q1, q2⟩ := reads_dict ms vs es.toList kv pr
  exact ⟨o, es, ep, g, ex, dd, beq_eq_false_iff_ne.mp ns, .dict g ex.1 dd q1 q2⟩
mutual
theorem Dp.rd (I : Inv X pins σ H s) : ∀ (d : PyData) (v : V) (u : Value), Dp X.K H v d → RelV v u → ∃ as, Reads s.heap u d as ∧ (noL d = true → sysModules ∉ as)
  | .none, v, u, h, r => by cases h; cases r; exact ⟨_, .none, fun _ z => nomatch z⟩
  | .bool b, v, u, h, r => by cases h; cases r; exact ⟨_, .bool b, fun _ z => nomatch z⟩
  | .int i, v, u, h, r => by cases h; obtain ⟨t, rfl⟩ := r; exact ⟨_, .int i t, fun _ z => nomatch z⟩
  | .str x, v, u, h, r => by cases h; obtain ⟨t, rfl⟩ := r; exact ⟨_, .str x t, fun _ z => nomatch z⟩
  | .list es, v, u, h, r => by
    cases h with
    | lst at_ each =>
      cases r
      obtain ⟨its, rv, ⟨o, n, ho, hc, _, hd⟩, _⟩ := I.list at_
      obtain ⟨as, hr, _⟩ := Dp.rds I es _ its each rv
      exact ⟨_, .list ho hc hd hr, fun z => by simp [noL] at z⟩
  | .tuple es, v, u, h, r => by
    cases h with
    | tup at_ each =>
      cases r
      obtain ⟨its, rv, ⟨o, ho, hc, n, hd⟩, _⟩ := I.tuple at_
      obtain ⟨as, hr, hn⟩ := Dp.rds I es _ its each rv
      exact ⟨_, .tuple ho hc hd hr, fun z => hn (by simpa only [noL] using z)⟩
  | .dict kvs, v, u, h, r => by
    cases h with
    | dct at_ =>
      cases r
      obtain ⟨_, _, _, _, _, _, ns, rd⟩ := dct_reads I at_
      exact ⟨_, rd, fun _ z => by
        have z : sysModules ∈ [_] := z
        exact ns (List.mem_singleton.mp z).symm⟩
theorem Dp.rds (I : Inv X pins σ H s) : ∀ (ds : List PyData) (vs : List V) (us : List Value), DpAll X.K H vs ds → Vals vs us → ∃ as, ReadsAll s.heap us ds as ∧ (noLs ds = true → sysModules ∉ as)
  | [], vs, us, h, r => by cases h; cases r; exact ⟨_, .nil, fun _ z => nomatch z⟩
  | d :: ds, vs, us, h, r => by
    cases h with
    | cons one more =>
      cases r with
      | cons r1 r2 =>
        obtain ⟨as, q1, n1⟩ := Dp.rd I d _ _ one r1
        obtain ⟨bs, q2, n2⟩ := Dp.rds I ds _ _ more r2
        refine ⟨_, .cons q1 q2, fun z => ?_⟩
        have z' : noL d = true ∧ noLs ds = true := by simpa [noLs] using z
        intro hm
        rcases List.mem_append.mp hm with hm | hm
        · exact n1 z'.1 hm
        · exact n2 z'.2 hm
end
end
/-! a dict against a text -/
section
open PySem.SeqAt
theorem dict_declines (l : Addr) (es : Array DictEntry) (n : Nat) (b : Str) (u : Tok) :
    Meets (Builtin.«dict.__eq__» ⟨[.ref l, .str b u], []⟩) (fun _ R s => s.heap.get? l = some { cls := .type "dict", data := .dict es n } ∧ R (.ok (.ret .notImplemented)) s) :=
  .of_wp fun prog w A R s h => by obtain ⟨hp, g, d, tk, os⟩ := s; obtain ⟨hl, h⟩ := h; have f1 := F.sub_str_dict; wp_walk using AutoSeq1.wpAny_loadPart' hl; exact ⟨_, rfl, h⟩
theorem str_declines_dict (b : Str) (u : Tok) (l : Addr) (es : Array DictEntry) (n : Nat) :
    Meets (Builtin.«str.__eq__» ⟨[.str b u, .ref l], []⟩) (fun _ R s => s.heap.get? l = some { cls := .type "dict", data := .dict es n } ∧ R (.ok (.ret .notImplemented)) s) :=
  .of_wp fun prog w A R s h => by obtain ⟨hp, g, d, tk, os⟩ := s; obtain ⟨hl, h⟩ := h; wp_walk using AutoSeq1.wpAny_loadPart' hl, wpAny_load hl; exact ⟨_, rfl, h⟩
theorem rc_dict_str {A : Around} {s : Shared} {l : Addr} {es : Array DictEntry} {n : Nat} (b : Str) (u : Tok) (ho : s.heap.get? l = some { cls := .type "dict", data := .dict es n }) (hu : A.units < cLine) : RcAt A s (.ref l) (.str b u) false := fun prog w E Q h =>
  rc_eq_decline_or (k := false) ⟨_, ho, rfl⟩ (typeIs_str s b u) (by decide) F.sub_str_dict F.slot_dict_eq F.slot_str_eq_refl
    (fun _ hq => call_meets F.slot_dict_eq ⟨_, ho, rfl⟩ F.entry_dict_eq (F.args_dict_eq_2 _ _) (dict_declines l es n b u) ⟨ho, hq⟩)
    (fun _ hq => call_meets F.slot_str_eq_refl (typeIs_str s b u) F.entry_str_eq (F.args_str_eq_2 _ _) (str_declines_dict b u l es n) ⟨ho, hq⟩)
    (fun _ hq => wpAny_of_eq (rfl : isSame (.ref l) (.str b u) = pure false) hq) (.inr hu) h
end
def OkL (_ : PyData) : Prop := True
def OkR (e : PyData) : Prop := ∃ t, e = .str t
theorem okL_mem {ds : List PyData} {d : PyData} (h : OkL (.tuple ds)) (hm : d ∈ ds) : OkL d := trivial
theorem okR_tie : OkR (.str "tie") := ⟨_, rfl⟩
/-- whatever it is against a text -/
def rEqT (K : PySem.W.Frag) : R2 := fun x y H Q => ∃ d e, Dp K H x d ∧ Dp K H y e ∧ OkL d ∧ OkR e ∧ Q (.bl (PyData.eqv d e)) H
theorem op_eqT {X : Cx} (hu : X.A.units + 64 < cLine) : OpR X (compareOp .Eq) (rEqT X.K) := by
  intro pins s σ H x y v u Q I rx ry h
  obtain ⟨d, e, hd, he, _, ⟨t, rfl⟩, q⟩ := h
  cases he
  obtain ⟨tk, rfl⟩ := ry
  have fin : ∀ b, PyData.eqv d (.str t) = b → SeqAt.RcAt X.A s v (.str t tk) b → wpAny (model X.prog X.w) X.A (compareOp .Eq v (.str t tk)) (EP X pins σ Q) X.xe s := fun b e rc => by
    refine rc X.prog X.w _ _ ⟨.bl b, H, I, rfl, ?_⟩
    rw [← e]
    exact q
  have hu' : X.A.units < cLine := by omega
  cases hd with
  | non => cases rx; exact fin false (by simp [PyData.eqv]) (SeqAt.RcAt.none_str _ _)
  | bl b => cases rx; exact fin false (by simp [PyData.eqv]) (SeqAt.RcAt.bool_str _ _ _)
  | int i => obtain ⟨k, rfl⟩ := rx; exact fin false (by simp [PyData.eqv]) (SeqAt.RcAt.int_str _ _ _ _)
  | str z => obtain ⟨k, rfl⟩ := rx; exact fin (z == t) (by simp [PyData.eqv]) (SeqAt.RcAt.str_str _ _ _ _)
  | lst at_ each =>
    cases rx
    obtain ⟨its, rv, ⟨o, n, ho, hc, _, hd⟩, _⟩ := I.list at_
    exact fin false (by simp [PyData.eqv]) (SeqAt.RcAt.list_str _ _ ⟨o, ho, hc, n, hd⟩ hu')
  | tup at_ each =>
    cases rx
    obtain ⟨its, rv, ⟨o, ho, hc, n, hd⟩, _⟩ := I.tuple at_
    exact fin false (by simp [PyData.eqv]) (SeqAt.RcAt.tuple_str _ _ ⟨o, ho, hc, n, hd⟩ hu')
  | dct at_ =>
    cases rx
    obtain ⟨⟨oc, od, oda, osl⟩, es, n, g, ⟨e1, e2, e3⟩, e4, _, _⟩ := dct_reads I at_
    dsimp only at e1 e2 e3 e4
    subst e1 e2 e3 e4
    exact fin false (by simp [PyData.eqv]) (rc_dict_str _ _ g hu')
/-- data without dicts against such -/
def rNeD (K : PySem.W.Frag) : R2 := fun x y Hh Q => ∃ d e, Dp K Hh x d ∧ Dp K Hh y e ∧ SeqAt.shaped d = true ∧ SeqAt.shaped e = true ∧ Q (.bl (!PyData.eqv d e)) Hh
theorem op_neD {X : Cx} (hu : X.A.units + 64 < cLine) : OpR X (compareOp .NotEq) (rNeD X.K) := by
  intro pins s σ Hh x y v u Q I rx ry h
  obtain ⟨d, e, hd, he, sd, se, q⟩ := h
  obtain ⟨as, r1, _⟩ := Dp.rd I d x v hd rx
  obtain ⟨bs, r2, _⟩ := Dp.rd I e y u he ry
  exact SeqAt.compareNe_shaped r1 r2 sd se hu ⟨.bl _, Hh, I, rfl, q⟩
/-! repr -/
theorem call_reprD {X : Cx} (hg : X.A.guards = some []) (hu : X.A.units + 80 < cLine) : CallR X (.builtin "repr") (fun xs H Q => ∃ (a : Addr) (d : PyData), xs = [.ref a] ∧ Dp X.K H (.ref a) d ∧ d.showable = true ∧ (d.hasDict = true → noL d = true) ∧ d.depth ≤ 64 ∧ d.shown.length ≤ sizeLine ∧ Q (.str d.shown) H) := by
  intro pins s σ H xs us Q I r h
  obtain ⟨a, d, rfl, hd, h1, h2, h3, h4, q⟩ := h
  obtain ⟨u, rfl, ru⟩ := vals1 r
  cases ru
  obtain ⟨as, hr, hn⟩ := Dp.rd I d (.ref a) (.ref a) hd rfl
  exact repr_of_reads' hr h1 (fun z => hn (h2 z)) hg (by omega) (fun _ _ e => e) (fun h' u tk hk => ⟨.str d.shown, H, I.kept hk, ⟨u, rfl⟩, q⟩) h4
/-- the names that the module leaves to the built-ins -/
structure Free (mg : Str → Option Value) : Prop where
  isi : mg "isinstance" = none
  int : mg "int" = none
  bool : mg "bool" = none
  tuple : mg "tuple" = none
  len : mg "len" = none
  range : mg "range" = none
  min : mg "min" = none
  max : mg "max" = none
  sum : mg "sum" = none
  list : mg "list" = none
  repr : mg "repr" = none
/-- a def that stands under its name and keeps a promise -/
def Cal (P : Program) (w : World) (K : PySem.W.Frag) (mg : Str → Option Value) (base : Heap) (x : Str) (k : Nat) (ps : List Str) (sp : Sp) : Prop :=
  ∃ (f : Addr) (fd : FuncData), FnOk P w K mg base CX0 k f fd ps sp ∧ mg x = some (.ref f) ∧ PySem.W.keepIn K (.ref f) = true ∧ Binds K fd ps []
theorem Cal.mono {P : Program} {w : World} {K : PySem.W.Frag} {mg : Str → Option Value} {base : Heap} {x : Str} {j k : Nat} {ps : List Str} {sp : Sp} (C : Cal P w K mg base x j ps sp) (h : j ≤ k) : Cal P w K mg base x k ps sp := by
  obtain ⟨f, fd, F, r⟩ := C
  exact ⟨f, fd, F.mono h, r⟩
theorem pe_cal {X : Cx} {x : Str} {p pos : Pos} {e : Expr} {es : List Expr} {t : TA} {k : Nat} {ps : List Str} {sp : Sp} (C : Cal X.prog X.w X.K X.mg X.base x k ps sp) (hr : Room k X.A) (hg : Gl X x) (ha : PA X (e :: es) t)
    (hdb : (x == ("__debug__" : Str)) = false := by decide) (he : starEach (e :: es) X.env = (false, eval e X.env) :: starEach es X.env := by rfl) (hpl : ((backTo pos (starEach es X.env)).any fun x => x.fst) = false := by rfl) :
    PE X (.Call (.Name x p) (e :: es) [] pos) (tCall sp [] E0 t) := by
  obtain ⟨f, fd, F, hm, hk, hb⟩ := C
  exact pe_call F hr hg hm hk hb .nil pass0 ha hdb he hpl
/-! the kinds of data -/
def kindD : PyData → String
  | .none => "NoneType"
  | .bool _ => "bool"
  | .int _ => "int"
  | .str _ => "str"
  | .list _ => "list"
  | .tuple _ => "tuple"
  | .dict _ => "dict"
theorem ty_lst {K : PySem.W.Frag} {H : Hp} {a : Addr} {xs : List V} (h : SqL K H a xs) : TyX K H (.ref a) (.type "list") := by
  rcases h with (h | ⟨o, h⟩) | ⟨o, its, n, hk, hc, _⟩
  · exact .base (.lst h)
  · exact .base (.frz h)
  · exact .kList hk hc
theorem ty_tup {K : PySem.W.Frag} {H : Hp} {a : Addr} {xs : List V} (h : SqT K H a xs) : TyX K H (.ref a) (.type "tuple") := by
  rcases h with (h | ⟨o, h⟩) | ⟨o, its, n, hk, hc, _⟩
  · exact .base (.tup h)
  · exact .fTuple h
  · exact .kTuple hk hc
theorem ty_of {K : PySem.W.Frag} {H : Hp} {x : V} {d : PyData} (h : Dp K H x d) : TyX K H x (.type (kindD d)) := by
  cases h with
  | non => exact .base .non
  | bl b => exact .base (.bl b)
  | int i => exact .base (.int i)
  | str s => exact .base (.str s)
  | lst h _ => exact ty_lst h
  | dct h => exact .base (.dK h)
  | tup h _ => exact ty_tup h
def intD : PyData → Bool
  | .int _ => true
  | .bool _ => true
  | _ => false
def boolD : PyData → Bool
  | .bool _ => true
  | _ => false
def tupleD : PyData → Bool
  | .tuple _ => true
  | _ => false
theorem kit_int {K : PySem.W.Frag} (d : PyData) : PySem.W.kitOne K (.type (kindD d)) (.type "int") = some (intD d) := by
  cases d with
  | none => exact kit_ty (show kitB "NoneType" "int" = some false by decide +kernel)
  | bool _ => exact kit_ty (show kitB "bool" "int" = some true by decide +kernel)
  | int _ => exact kit_ty (show kitB "int" "int" = some true by decide +kernel)
  | str _ => exact kit_ty (show kitB "str" "int" = some false by decide +kernel)
  | list _ => exact kit_ty (show kitB "list" "int" = some false by decide +kernel)
  | tuple _ => exact kit_ty (show kitB "tuple" "int" = some false by decide +kernel)
  | dict _ => exact kit_ty (show kitB "dict" "int" = some false by decide +kernel)
theorem kit_bool {K : PySem.W.Frag} (d : PyData) : PySem.W.kitOne K (.type (kindD d)) (.type "bool") = some (boolD d) := by
  cases d with
  | none => exact kit_ty (show kitB "NoneType" "bool" = some false by decide +kernel)
  | bool _ => exact kit_ty (show kitB "bool" "bool" = some true by decide +kernel)
  | int _ => exact kit_ty (show kitB "int" "bool" = some false by decide +kernel)
  | str _ => exact kit_ty (show kitB "str" "bool" = some false by decide +kernel)
  | list _ => exact kit_ty (show kitB "list" "bool" = some false by decide +kernel)
  | tuple _ => exact kit_ty (show kitB "tuple" "bool" = some false by decide +kernel)
  | dict _ => exact kit_ty (show kitB "dict" "bool" = some false by decide +kernel)
theorem kit_tuple {K : PySem.W.Frag} (d : PyData) : PySem.W.kitOne K (.type (kindD d)) (.type "tuple") = some (tupleD d) := by
  cases d with
  | none => exact kit_ty (show kitB "NoneType" "tuple" = some false by decide +kernel)
  | bool _ => exact kit_ty (show kitB "bool" "tuple" = some false by decide +kernel)
  | int _ => exact kit_ty (show kitB "int" "tuple" = some false by decide +kernel)
  | str _ => exact kit_ty (show kitB "str" "tuple" = some false by decide +kernel)
  | list _ => exact kit_ty (show kitB "list" "tuple" = some false by decide +kernel)
  | tuple _ => exact kit_ty (show kitB "tuple" "tuple" = some true by decide +kernel)
  | dict _ => exact kit_ty (show kitB "dict" "tuple" = some false by decide +kernel)
theorem ifT {c : Bool} {A B : Prop} (e : c = true) (h : A) : if c = true then A else B := by rw [if_pos e]; exact h
theorem ifF {c : Bool} {A B : Prop} (e : c = false) (h : B) : if c = true then A else B := by rw [if_neg (by rw [e]; decide)]; exact h
def wholeD : PyData → Bool
  | .int _ => true
  | _ => false
def withinD (lo hi : Int) : PyData → Bool
  | .int i => decide (lo ≤ i) && decide (i ≤ hi)
  | _ => false
def tupD (lo hi : Int) : PyData → Bool
  | .tuple xs => decide (lo ≤ (xs.length : Int)) && decide ((xs.length : Int) ≤ hi)
  | _ => false
theorem dpAll_len {K : PySem.W.Frag} {H : Hp} : ∀ {xs : List V} {ds : List PyData}, DpAll K H xs ds → xs.length = ds.length
  | _, _, .nil => rfl
  | _, _, .cons _ t => by rw [List.length_cons, List.length_cons, dpAll_len t]
theorem dpAll_get {K : PySem.W.Frag} {H : Hp} : ∀ {xs : List V} {ds : List PyData} {i : Nat} {d : PyData}, DpAll K H xs ds → ds[i]? = some d → ∃ x, xs[i]? = some x ∧ Dp K H x d
  | _, _, 0, _, .cons h _, e => by cases e; exact ⟨_, rfl, h⟩
  | _, _, i + 1, _, .cons _ t, e => dpAll_get (i := i) t e
  | _, _, _, _, .nil, e => by cases e
theorem dpAll_get' {K : PySem.W.Frag} {H : Hp} : ∀ {xs : List V} {ds : List PyData} {i : Nat} {x : V}, DpAll K H xs ds → xs[i]? = some x → ∃ d, ds[i]? = some d ∧ Dp K H x d
  | _, _, 0, _, .cons h _, e => by cases e; exact ⟨_, rfl, h⟩
  | _, _, i + 1, _, .cons _ t, e => dpAll_get' (i := i) t e
  | _, _, _, _, .nil, e => by cases e
section
variable {P : Program} {w : World} {K : PySem.W.Frag} {mg : Str → Option Value} {base : Heap} {f : Addr} {fd : FuncData}
def spWhole (K : PySem.W.Frag) : Sp := fun vs H Q _ => ∃ (x : V) (d : PyData), vs = [x] ∧ Dp K H x d ∧ Q (.bl (wholeD d)) H
theorem scWhole : FnScope ["thing"] ["thing"] (defScope sWhole) := ⟨rfl, rfl, rfl, by decide +kernel, rfl, by decide +kernel, by decide +kernel⟩
theorem ok_whole {k : Nat} (F : Fun K "is_whole" "is_whole" sWhole f fd) (T : Free mg) : FnOk P w K mg base CX0 (k + 1) f fd ["thing"] (spWhole K) := by
  refine F.ok scWhole (fun vs H Q E h => ?_) (fun cdv A outer s H vs Q E hr h => ?_)
  · obtain ⟨x, d, rfl, _⟩ := h
    rfl
  obtain ⟨x, d, rfl, hx, q⟩ := h
  refine ⟨_, pss_one (ps_ret (pe_and (pe_callB call_isi rfl T.isi (by decide +kernel) (pa_cons (pv 0) (pa_cons (pe_bltn (v := .ty "int") rfl T.int (by decide +kernel) rfl) pa_nil)))
    (pe_one (pe_not (pe_callB call_isi rfl T.isi (by decide +kernel) (pa_cons (pv 0) (pa_cons (pe_bltn (v := .ty "bool") rfl T.bool (by decide +kernel) rfl) pa_nil))))))), ?_⟩
  have ht := ty_of hx
  refine ⟨_, rfl, x, _, _, _, _, rfl, .ty "int", ht, kit_int d, _, rfl, ?_⟩
  cases d with
  | int i => exact ifT rfl ⟨_, rfl, _, _, _, _, _, rfl, .ty "bool", ht, kit_bool _, _, rfl, q⟩
  | bool b => exact ifT rfl ⟨_, rfl, _, _, _, _, _, rfl, .ty "bool", ht, kit_bool _, _, rfl, q⟩
  | none => exact ifF rfl q
  | str _ => exact ifF rfl q
  | list _ => exact ifF rfl q
  | tuple _ => exact ifF rfl q
  | dict _ => exact ifF rfl q
/-! is_within -/
def spWithin (K : PySem.W.Frag) : Sp := fun vs H Q _ => ∃ (x : V) (d : PyData) (lo hi : Int), vs = [x, .int lo, .int hi] ∧ Dp K H x d ∧ Q (.bl (withinD lo hi d)) H
theorem scWithin : FnScope ["thing", "least", "most"] ["thing", "least", "most"] (defScope sWithin) := ⟨rfl, rfl, rfl, by decide +kernel, rfl, by decide +kernel, by decide +kernel⟩
theorem ok_within {k : Nat} (F : Fun K "is_within" "is_within" sWithin f fd) (cW : Cal P w K mg base "is_whole" k ["thing"] (spWhole K)) : FnOk P w K mg base CX0 (k + 1) f fd ["thing", "least", "most"] (spWithin K) := by
  refine F.ok scWithin (fun vs H Q E h => ?_) (fun cdv A outer s H vs Q E hr h => ?_)
  · obtain ⟨x, d, lo, hi, rfl, _⟩ := h
    rfl
  obtain ⟨x, d, lo, hi, rfl, hx, q⟩ := h
  refine ⟨_, pss_one (ps_ret (pe_and (pe_cal cW hr rfl (pa_cons (pv 0) pa_nil)) (pe_one (pe_chain op_le op_le (pv 1) (pv 0) (pv 2))))), ?_⟩
  refine ⟨_, rfl, x, d, rfl, hx, _, rfl, ?_⟩
  cases d with
  | int i =>
    cases hx
    refine ifT rfl ⟨_, rfl, _, rfl, _, _, rfl, rfl, _, rfl, ?_⟩
    have e : withinD lo hi (.int i) = (decide (lo ≤ i) && decide (i ≤ hi)) := rfl
    rw [e] at q
    by_cases c : lo ≤ i
    · refine ifT (decide_eq_true c) ⟨_, rfl, _, _, rfl, rfl, ?_⟩
      rw [decide_eq_true c, Bool.true_and] at q
      exact q
    · refine ifF (decide_eq_false c) ?_
      rw [decide_eq_false c, Bool.false_and] at q
      exact q
  | bool b => exact ifF rfl q
  | none => exact ifF rfl q
  | str _ => exact ifF rfl q
  | list _ => exact ifF rfl q
  | tuple _ => exact ifF rfl q
  | dict _ => exact ifF rfl q
/-! is_tuple -/
end
theorem atI_at {α : Type} {xs : List α} {i : Int} {v : α} (h0 : 0 ≤ i) (h : xs[i.toNat]? = some v) : atI xs i = some v := by
  have q := atI_nat h
  rw [show ((i.toNat : Nat) : Int) = i by omega] at q
  exact q
/-! heaps: what stands, but for the state's list -/
def StOk (x y z : Int) : Prop := 0 ≤ x ∧ 0 ≤ y ∧ y < 4294967296
def StAt (H : Hp) (st : Addr) : Prop := ∃ x y z, H st = some (.lst [.int x, .int y, .int z]) ∧ StOk x y z
def Kp (st : Addr) (H H' : Hp) : Prop := ∀ b u, b ≠ st → H b = some u → H' b = some u
structure Mv (st : Addr) (H H' : Hp) : Prop where
  kp : Kp st H H'
  sa : StAt H' st
/-- what is no list stands -/
def KT (H H' : Hp) : Prop := ∀ b u, H b = some u → (∀ l, u ≠ .lst l) → H' b = some u
theorem Kp.refl (st : Addr) (H : Hp) : Kp st H H := fun _ _ _ h => h
theorem Kp.trans {st : Addr} {H H1 H2 : Hp} (a : Kp st H H1) (b : Kp st H1 H2) : Kp st H H2 := fun c u n h => b c u n (a c u n h)
theorem Kp.of_same {st : Addr} {H H' : Hp} (a : Same H H') : Kp st H H' := fun c u _ h => a c u h
theorem KT.refl (H : Hp) : KT H H := fun _ _ h _ => h
theorem KT.trans {H H1 H2 : Hp} (a : KT H H1) (b : KT H1 H2) : KT H H2 := fun c u h n => b c u (a c u h n) n
theorem KT.of_same {H H' : Hp} (a : Same H H') : KT H H' := fun c u h _ => a c u h
theorem Kp.kt {st : Addr} {H H' : Hp} (k : Kp st H H') (s : StAt H st) : KT H H' := fun b u h n => k b u (fun e => by
  obtain ⟨x, y, z, hs, _⟩ := s
  rw [e, hs] at h
  cases h
  exact n _ rfl) h
theorem KT.upd {H : Hp} {p : Addr} {l l' : List V} (h : H p = some (.lst l)) : KT H (upd H p (.lst l')) := fun b u hb n => by
  by_cases e : b = p
  · subst e
    rw [h] at hb
    cases hb
    exact absurd rfl (n l)
  · rw [upd_ne e]
    exact hb
theorem same_new {H : Hp} {p : Addr} (h : H p = none) (o : HO) : Same H (upd H p o) := fun b u q => by rw [upd_ne (ne_of_none q h)]; exact q
theorem Kp.upd {st : Addr} {H0 H : Hp} {p : Addr} {o : HO} (k : Kp st H0 H) (h : H0 p = none) : Kp st H0 (upd H p o) := fun b u n hb => by
  rw [upd_ne (ne_of_none hb h)]
  exact k b u n hb
theorem Kp.free {st : Addr} {H H' : Hp} (k : Kp st H H') {p : Addr} (n : p ≠ st) (h : H' p = none) : H p = none := by
  cases e : H p with
  | none => rfl
  | some u =>
    rw [k p u n e] at h
    cases h
theorem StAt.some {H : Hp} {st : Addr} (s : StAt H st) : ∃ l, H st = some (.lst l) := by
  obtain ⟨x, y, z, h, _⟩ := s
  exact ⟨_, h⟩
theorem StAt.ne {H : Hp} {st p : Addr} (s : StAt H st) (h : H p = none) : p ≠ st := fun e => by
  obtain ⟨l, hs⟩ := s.some
  rw [e, hs] at h
  cases h
theorem StAt.same {H H' : Hp} {st : Addr} (s : StAt H st) (k : Same H H') : StAt H' st := by
  obtain ⟨x, y, z, h, ok⟩ := s
  exact ⟨x, y, z, k _ _ h, ok⟩
theorem StAt.upd {H : Hp} {st p : Addr} {o : HO} (s : StAt H st) (n : p ≠ st) : StAt (upd H p o) st := by
  obtain ⟨x, y, z, h, ok⟩ := s
  exact ⟨x, y, z, by rw [upd_ne n.symm]; exact h, ok⟩
/-! data that is tuples, ints and texts alone -/
mutual
def tupOnly : PyData → Bool
  | .int _ | .str _ => true
  | .tuple xs => tupOnlyAll xs
  | _ => false
def tupOnlyAll : List PyData → Bool
  | [] => true
  | x :: r => tupOnly x && tupOnlyAll r
end
theorem sqT_kt {K : PySem.W.Frag} {H H' : Hp} {a : Addr} {xs : List V} (k : KT H H') (h : SqT K H a xs) : SqT K H' a xs := by
  rcases h with (h | ⟨o, h⟩) | h
  · exact .inl (.inl (k _ _ h (fun l z => by cases z)))
  · exact .inl (.inr ⟨o, k _ _ h (fun l z => by cases z)⟩)
  · exact .inr h
mutual
theorem dp_kt {K : PySem.W.Frag} {H H' : Hp} (k : KT H H') : ∀ (d : PyData) (v : V), tupOnly d = true → Dp K H v d → Dp K H' v d
  | .int i, v, _, h => by cases h; exact .int i
  | .str x, v, _, h => by cases h; exact .str x
  | .tuple ds, v, t, h => by
    cases h with
    | tup hs ha => exact .tup (sqT_kt k hs) (dpAll_kt k ds _ (by simpa only [tupOnly] using t) ha)
  | .none, v, t, h => by simp [tupOnly] at t
  | .bool _, v, t, h => by simp [tupOnly] at t
  | .list _, v, t, h => by simp [tupOnly] at t
  | .dict _, v, t, h => by simp [tupOnly] at t
theorem dpAll_kt {K : PySem.W.Frag} {H H' : Hp} (k : KT H H') : ∀ (ds : List PyData) (vs : List V), tupOnlyAll ds = true → DpAll K H vs ds → DpAll K H' vs ds
  | [], vs, _, h => by cases h; exact .nil
  | d :: ds, vs, t, h => by
    simp only [tupOnlyAll, Bool.and_eq_true] at t
    cases h with
    | cons h1 h2 => exact .cons (dp_kt k d _ t.1 h1) (dpAll_kt k ds _ t.2 h2)
end
theorem dpAll_snoc {K : PySem.W.Frag} {H : Hp} {v : V} {d : PyData} (h : Dp K H v d) : ∀ {vs : List V} {ds : List PyData}, DpAll K H vs ds → DpAll K H (vs ++ [v]) (ds ++ [d])
  | _, _, .nil => .cons h .nil
  | _, _, .cons a t => .cons a (dpAll_snoc h t)
theorem dpAll_append {K : PySem.W.Frag} {H : Hp} {ws : List V} {es : List PyData} (h : DpAll K H ws es) : ∀ {vs : List V} {ds : List PyData}, DpAll K H vs ds → DpAll K H (vs ++ ws) (ds ++ es)
  | _, _, .nil => h
  | _, _, .cons a t => .cons a (dpAll_append h t)
theorem tupOnly_snoc : ∀ {ds : List PyData} {d : PyData}, tupOnlyAll ds = true → tupOnly d = true → tupOnlyAll (ds ++ [d]) = true
  | [], d, _, h => by simp [tupOnlyAll, h]
  | x :: r, d, t, h => by
    simp only [tupOnlyAll, Bool.and_eq_true, List.cons_append] at *
    exact ⟨t.1, tupOnly_snoc t.2 h⟩
theorem small {n : Nat} (h : n ≤ 1000) : n ≤ sizeLine := Nat.le_of_lt (small1000 h)
section
variable {P : Program} {w : World} {K : PySem.W.Frag} {mg : Str → Option Value} {base : Heap} {f : Addr} {fd : FuncData}
/-! _law_cell_at -/
def spCell (K : PySem.W.Frag) : Sp := fun vs H Q _ => ∃ (a : Addr) (ns : List Int) (i : Int), vs = [.ref a, .int i] ∧ SqL K H a (ns.map V.int) ∧ 0 ≤ i ∧ ∀ n : Int, Q (.int n) H
theorem scCell : FnScope ["_law_script", "_law_k"] ["_law_script", "_law_k"] (defScope sCell) := ⟨rfl, rfl, rfl, by decide +kernel, rfl, by decide +kernel, by decide +kernel⟩
theorem ok_cell {k : Nat} (F : Fun K "_law_cell_at" "_law_cell_at" sCell f fd) (T : Free mg) : FnOk P w K mg base CX0 (k + 1) f fd ["_law_script", "_law_k"] (spCell K) := by
  refine F.ok scCell (fun vs H Q E h => ?_) (fun cdv A outer s H vs Q E hr h => ?_)
  · obtain ⟨a, ns, i, rfl, _⟩ := h
    rfl
  obtain ⟨a, ns, i, rfl, hs, h0, q⟩ := h
  refine ⟨_, pss_cons (ps_if (pt_cmpR op_lt (pv 1) (pe_callB call_len_seq rfl T.len PySem.boot_len (pa_cons (pv 0) pa_nil)) (nomark _)) (pss_one (ps_ret (pe_ix ix_list (pv 0) (pv 1) (fun _ _ => rfl)))) pss_nil) (pss_one (ps_ret pe_int)), ?_⟩
  refine ⟨_, rfl, _, rfl, a, _, rfl, .inl hs, _, _, rfl, rfl, _, rfl, ?_⟩
  refine ite2 (fun c => ?_) (fun c => q 0)
  have c : i < (((ns.map V.int).length : Nat) : Int) := of_decide_eq_true c
  have hk : i.toNat < ns.length := by rw [List.length_map] at c; omega
  exact ⟨_, rfl, _, rfl, a, _, i, .int ns[i.toNat], rfl, rfl, hs, atI_at h0 (by rw [List.getElem?_map, List.getElem?_eq_getElem hk] <;> rfl), q _⟩
/-! _law_state -/
def spState (K : PySem.W.Frag) : Sp := fun vs H Q _ => ∃ (a : Addr) (ns : List Int) (i : Int), vs = [.ref a, .int i] ∧ SqL K H a (ns.map V.int) ∧ 0 ≤ i ∧ ∀ p x y z, H p = none → StOk x y z → Q (.ref p) (upd H p (.lst [.int x, .int y, .int z]))
theorem scState : FnScope ["_law_script", "_law_k", "_law_cell"] ["_law_script", "_law_k"] (defScope sState) := ⟨rfl, rfl, rfl, by decide +kernel, rfl, by decide +kernel, by decide +kernel⟩
theorem ok_state {k : Nat} (F : Fun K "_law_state" "_law_state" sState f fd) (T : Free mg) (cC : Cal P w K mg base "_law_cell_at" k ["_law_script", "_law_k"] (spCell K)) : FnOk P w K mg base CX0 (k + 1) f fd ["_law_script", "_law_k"] (spState K) := by
  refine F.ok scState (fun vs H Q E h => ?_) (fun cdv A outer s H vs Q E hr h => ?_)
  · obtain ⟨a, ns, i, rfl, _⟩ := h
    rfl
  obtain ⟨a, ns, i, rfl, hs, h0, q⟩ := h
  refine ⟨_, pss_cons (ps_set (i := 2) scState.nd rfl (.inl rfl) (pe_cal cC hr rfl (pa_cons (pv 0) (pa_cons (pv 1) pa_nil))))
    (pss_one (ps_ret (pe_lst (pa_cons (pe_callB (call_max2 rfl) rfl T.max (by decide +kernel) (pa_cons pe_int (pa_cons (pe_op op_sub (pv 2) (pe_op op_pow pe_int pe_int)) pa_nil)))
      (pa_cons (pe_op op_add (pe_op op_mod (pv 2) pe_int) pe_int) (pa_cons pe_int pa_nil)))))), ?_⟩
  refine ⟨_, rfl, _, rfl, a, ns, i, rfl, hs, h0, fun n => ?_⟩
  refine ⟨_, rfl, _, _, rfl, rfl, ⟨by decide, by decide, by decide⟩, _, _, rfl, rfl, _, _, rfl, ?_⟩
  refine ⟨_, rfl, _, _, rfl, rfl, (by show (0 : Int) < 2147483629; decide), _, _, rfl, rfl, small (by show 3 ≤ 1000; decide), fun p hp => ?_⟩
  refine q p _ _ _ hp ⟨?_, ?_, ?_⟩
  · split <;> omega
  · have := Int.emod_nonneg n (show (2147483629 : Int) ≠ 0 by decide)
    omega
  · have := Int.emod_lt_of_pos n (show (0 : Int) < 2147483629 by decide)
    omega
/-! _law_choice -/
def spChoice : Sp := fun vs H Q _ => ∃ (st : Addr) (many : Int), vs = [.ref st, .int many] ∧ StAt H st ∧ 0 < many ∧ many < 1000000 ∧ ∀ r H', 0 ≤ r → r < many → Mv st H H' → Q (.int r) H'
theorem scChoice : FnScope ["_law_state_here", "_law_many_here", "_law_found", "_law_mixed"] ["_law_state_here", "_law_many_here"] (defScope sChoice) := ⟨rfl, rfl, rfl, by decide +kernel, rfl, by decide +kernel, by decide +kernel⟩
theorem mv_upd {H : Hp} {st : Addr} {x y z : Int} (ok : StOk x y z) : Mv st H (upd H st (.lst [.int x, .int y, .int z])) :=
  ⟨fun b u n h => by rw [upd_ne n]; exact h, ⟨x, y, z, upd_same, ok⟩⟩
theorem ok_choice {k : Nat} (F : Fun K "_law_choice" "_law_choice" sChoice f fd) : FnOk P w K mg base CX0 (k + 1) f fd ["_law_state_here", "_law_many_here"] spChoice := by
  refine F.ok scChoice (fun vs H Q E h => ?_) (fun cdv A outer s H vs Q E hr h => ?_)
  · obtain ⟨st, many, rfl, _⟩ := h
    rfl
  obtain ⟨st, many, rfl, ⟨x, y, z, hst, hx, hy, hy2⟩, h0, hm, q⟩ := h
  refine ⟨_, pss_cons (ps_if (pt_cmpR op_gt (pe_ix ix_list (pv 0) pe_int (fun _ _ => rfl)) pe_int (nomark _))
      (pss_cons (ps_set (i := 2) scChoice.nd rfl (.inl rfl) (pe_op op_mod (pe_ix ix_list (pv 0) pe_int (fun _ _ => rfl)) (pv 1)))
      (pss_cons (ps_asg (pe_op op_fdiv (pe_ix ix_list (pv 0) pe_int (fun _ _ => rfl)) (pv 1)) (pg_sub (pv 0) pe_int set_list))
      (pss_one (ps_ret (pv 2))))) pss_nil)
    (pss_cons (ps_asg (pe_op op_add (pe_ix ix_list (pv 0) pe_int (fun _ _ => rfl)) pe_int) (pg_sub (pv 0) pe_int set_list))
    (pss_cons (ps_asg (pe_op op_mod (pe_op op_add (pe_op op_add (pe_op op_mul (pe_ix ix_list (pv 0) pe_int (fun _ _ => rfl)) pe_int) pe_int) (pe_ix ix_list (pv 0) pe_int (fun _ _ => rfl))) pe_int) (pg_sub (pv 0) pe_int set_list))
    (pss_cons (ps_set (i := 3) scChoice.nd rfl (.inl rfl) (pe_op op_mod (pe_op op_add (pe_op op_add (pe_op op_mul (pe_ix ix_list (pv 0) pe_int (fun _ _ => rfl)) (pe_ix ix_list (pv 0) pe_int (fun _ _ => rfl))) (pe_op op_mul pe_int (pe_ix ix_list (pv 0) pe_int (fun _ _ => rfl)))) pe_int) pe_int))
    (pss_cons (ps_set (i := 3) scChoice.nd rfl (.inl rfl) (pe_op op_mod (pe_op op_add (pe_op op_mul (pv 3) (pv 3)) (pe_op op_mul pe_int (pv 3))) pe_int))
    (pss_one (ps_ret (pe_op op_mod (pe_op op_fdiv (pv 3) pe_int) (pv 1)))))))), ?_⟩
  have rd : ∀ {H : Hp} {x y z : Int}, H st = some (.lst [.int x, .int y, .int z]) → SqL K H st [.int x, .int y, .int z] := fun h => SqL.of h
  refine ⟨_, rfl, st, _, 0, _, rfl, rfl, rd hst, rfl, _, _, rfl, rfl, _, rfl, ?_⟩
  refine ite2 (fun c => ?_) (fun c => ?_)
  · refine ⟨_, rfl, st, _, 0, _, rfl, rfl, rd hst, rfl, _, rfl, _, _, rfl, rfl, h0, ?_⟩
    refine ⟨_, rfl, st, _, 0, _, rfl, rfl, rd hst, rfl, _, rfl, _, _, rfl, rfl, ⟨h0, by omega⟩, ?_⟩
    refine ⟨_, rfl, st, _, 0, 0, rfl, rfl, hst, rfl, ?_⟩
    refine ⟨_, rfl, q _ _ (Int.emod_nonneg x (by omega)) (Int.emod_lt_of_pos x h0) (mv_upd (x := x / many) (y := y) (z := z) ⟨Int.ediv_nonneg hx (by omega), hy, hy2⟩)⟩
  · refine ⟨_, rfl, st, _, 2, _, rfl, rfl, rd hst, rfl, _, _, rfl, rfl, ?_⟩
    refine ⟨_, rfl, st, _, 2, 2, rfl, rfl, hst, rfl, ?_⟩
    refine ⟨_, rfl, st, _, 1, _, rfl, rfl, rd upd_same, rfl, _, _, rfl, rfl, .inl ⟨by omega, by omega⟩, _, _, rfl, rfl, _, rfl, st, _, 2, _, rfl, rfl, rd upd_same, rfl, _, _, rfl, rfl, _, _, rfl, rfl, (by show (0 : Int) < 2147483647; decide), ?_⟩
    refine ⟨_, rfl, st, _, 1, 1, rfl, rfl, upd_same, rfl, ?_⟩
    rw [upd_upd]
    have b1 := Int.emod_nonneg (y * 48271 + 29 + (z + 1)) (show (2147483647 : Int) ≠ 0 by decide)
    have b2 := Int.emod_lt_of_pos (y * 48271 + 29 + (z + 1)) (show (0 : Int) < 2147483647 by decide)
    generalize hv : (y * 48271 + 29 + (z + 1)) % 2147483647 = v at b1 b2
    show tSeq _ _ _ _ (upd H st (.lst [.int x, .int ((y * 48271 + 29 + (z + 1)) % 2147483647), .int (z + 1)]))
    rw [hv]
    refine ⟨_, rfl, st, _, 1, _, rfl, rfl, rd upd_same, rfl, _, rfl, st, _, 1, _, rfl, rfl, rd upd_same, rfl, _, _, rfl, rfl, .inl ⟨by omega, by omega⟩, _, rfl, st, _, 1, _, rfl, rfl, rd upd_same, rfl, _, _, rfl, rfl, .inl ⟨by decide, by decide⟩, _, _, rfl, rfl, _, _, rfl, rfl, _, _, rfl, rfl, (by show (0 : Int) < 2147483629; decide), ?_⟩
    have c1 := Int.emod_nonneg (v * v + 39373 * v + 7) (show (2147483629 : Int) ≠ 0 by decide)
    have c2 := Int.emod_lt_of_pos (v * v + 39373 * v + 7) (show (0 : Int) < 2147483629 by decide)
    refine ⟨_, rfl, _, rfl, _, _, rfl, rfl, .inl ⟨by omega, by omega⟩, _, rfl, _, _, rfl, rfl, .inl ⟨by decide, by decide⟩, _, _, rfl, rfl, _, _, rfl, rfl, (by show (0 : Int) < 2147483587; decide), ?_⟩
    refine ⟨_, rfl, _, _, rfl, rfl, ⟨by decide, by decide⟩, _, rfl, _, _, rfl, rfl, h0, ?_⟩
    exact q _ _ (Int.emod_nonneg _ (by omega)) (Int.emod_lt_of_pos _ h0) (mv_upd ⟨hx, b1, by omega⟩)
end
section
open PySem.Spec PyProof.Rows LamX
theorem okC {P : Program} {w : World} {K : PySem.W.Frag} {mg : Str → Option Value} {base : Heap} {x qual : Str} {st : Stmt} {f c : Addr} {fd : FuncData} {N ps : List Str} {k : Nat} {sp : Sp} (F : Fun K x qual st f fd) (hc : fd.code = .ref c) (S : FnScope N ps (defScope st)) (len : ∀ vs H Q E, sp vs H Q E → vs.length = ps.length)
    (hbody : ∀ (A : Around) (outer : List Env) (s : Shared) (H : Hp) (vs : List V) (Q : VK) (E : XK), Room k (A.deeper (envOfC qual (defScope st) s.heap.objs.size f (.ref c))) → sp vs H Q E →
      ∃ t, PSs (cxOf CX0 P w K mg base N qual (defScope st) f (.ref c) A outer s H E).nox (defBody st) t ∧ t { nx := fun _ H' => Q .non H', rt := Q } (L2.start N vs) H) : FnOk P w K mg base CX0 (k + 1) f fd ps sp := by
  obtain ⟨oc, od, kV, doc, pm, an, cdv, ct, osl, rfl, lk, hcd⟩ := F.ex
  obtain rfl : cdv = .ref c := hc
  refine fn_of lk hcd S len fun A outer s H vs Q E hr hsp => ?_
  obtain ⟨t, h, q⟩ := hbody A outer s H vs Q E hr hsp
  exact ⟨t, h.nox, q⟩
mutual
theorem dp_ext {K : PySem.W.Frag} {H H' : Hp} (e : ExtN H H') : ∀ (d : PyData) (v : V), Dp K H v d → Dp K H' v d
  | .none, v, h => by cases h; exact .non
  | .bool b, v, h => by cases h; exact .bl b
  | .int i, v, h => by cases h; exact .int i
  | .str x, v, h => by cases h; exact .str x
  | .list es, v, h => by
    cases h with
    | lst at_ each =>
      refine .lst ?_ (dp_exts e es _ each)
      rcases at_ with (z | ⟨o, z⟩) | z
      · exact .inl (.inl (e _ _ z fun ps q => by cases q))
      · exact .inl (.inr ⟨o, e _ _ z fun ps q => by cases q⟩)
      · exact .inr z
  | .tuple es, v, h => by
    cases h with
    | tup at_ each =>
      refine .tup ?_ (dp_exts e es _ each)
      rcases at_ with (z | ⟨o, z⟩) | z
      · exact .inl (.inl (e _ _ z fun ps q => by cases q))
      · exact .inl (.inr ⟨o, e _ _ z fun ps q => by cases q⟩)
      · exact .inr z
  | .dict kvs, v, h => by
    cases h with
    | dct at_ => exact .dct (e _ _ at_ fun ps q => by cases q)
theorem dp_exts {K : PySem.W.Frag} {H H' : Hp} (e : ExtN H H') : ∀ (ds : List PyData) (vs : List V), DpAll K H vs ds → DpAll K H' vs ds
  | [], vs, h => by cases h; exact .nil
  | d :: ds, vs, h => by
    cases h with
    | cons one more => exact .cons (dp_ext e d _ one) (dp_exts e ds _ more)
end
theorem tabs_upd {T : List (Addr × Str)} {H : Hp} {fa : Addr} {l l' : List V} (t : Tabs T H) (h : H fa = some (.lst l)) : Tabs T (upd H fa (.lst l')) := by
  intro p hp
  obtain ⟨ps, h1, h2, h3⟩ := t p hp
  refine ⟨ps, ?_, h2, fun pos cv hc => ?_⟩
  · rw [upd_ne (show p.1 ≠ fa from fun z => by rw [z, h] at h1; cases h1)]
    exact h1
  · obtain ⟨c, e1, e2⟩ := h3 pos cv hc
    refine ⟨c, e1, ?_⟩
    rw [upd_ne (show c ≠ fa from fun z => by rw [z, h] at e2; cases e2)]
    exact e2
theorem ext_upd {H0 H : Hp} {fa : Addr} {o : HO} (e : ExtN H0 H) (h : ∀ u, H0 fa = some u → ∃ ps, u = .tbl ps) : ExtN H0 (upd H fa o) := fun b u hb n => by
  have nb : b ≠ fa := fun z => by
    rw [z] at hb
    obtain ⟨ps, q⟩ := h u hb
    exact n ps q
  rw [upd_ne nb]
  exact e b u hb n
theorem ext_lst {H H' : Hp} {p : Addr} {l : List V} (e : ExtN H H') (h : H p = some (.lst l)) : H' p = some (.lst l) := e _ _ h fun ps q => by cases q
theorem ext_same {H H' : Hp} (s : Same H H') : ExtN H H' := fun b o h _ => s b o h
end
/-! all(.. for ..) and any(.. for ..), whatever is walked, the element may call defs -/
section
open PySem.Spec PyProof.Rows
/-- the generator expression's own frame, woken from the frames of X -/
def gxCx (X : Cx) (A : Around) (s : Shared) (H : Hp) (ce : Env) (fp : List Addr) (pn : List (Addr × Obj)) : Cx where
  prog := X.prog
  w := X.w
  K := X.K
  mg := X.mg
  base := X.base
  A := A
  N := X.N
  s_0 := s
  H_0 := H
  env := ce
  outer := X.stack
  stack := ce :: X.stack
  ex := fp
  fn := fun _ => false
  calm := true
  pn := pn
  xe := fun _ _ => False
theorem inv_sh {X : Cx} {pins : List (Addr × Obj)} {σ : L2.St} {H : Hp} {s s' : Shared} (I : Inv X pins σ H s) (h1 : s'.heap = s.heap) (h2 : s'.os = s.os) (h3 : AllBare s'.gens) : Inv X pins σ H s' :=
  ⟨I.ok, h2.trans I.os, h3, by rw [h1]; exact I.base, by rw [h1]; exact I.loc, by rw [h1]; exact I.cell, I.free, I.freeC, by rw [h1]; exact I.pin, by rw [h1]; exact I.hok, I.len⟩
section
variable {X : Cx} {pins : List (Addr × Obj)} {σ : L2.St} {H : Hp} {s : Shared}
theorem gx_start {A : Around} {scope : Scope} {own : List (Str × Nat)} {fp : List Addr} {code : Value} {a : Addr} {go : Obj} {h5 : Heap} {g5 : Array GenState} {t5 : Nat} {m0 : Str → Option Value}
    (I : Inv X pins σ H s) (hN : X.N.Nodup) (ok : BlkOk X.N X.env.scope scope own) (nocell : ∀ y ∈ scope.names, y.2 ≠ .cell) (hA : A.handled = none)
    (hfr : A.frames = some (genEnv scope (cloFrom X.env.cells scope.names []) s.heap.objs.size code builtinsNs X.env :: X.stack)) (hfp : ∀ b ∈ fp, FpOk X pins H b ∧ b < s.heap.objs.size)
    (hns : h5.Ns s.heap.objs.size m0) (kp : ∀ b o, s.heap.get? b = some o → h5.get? b = some o) (hgo : h5.get? a = some go) (ha : s.heap.objs.size < a) (hgd : ∀ v, go.data ≠ .cell v) (hg : AllBare g5) :
    Inv (gxCx X A s H (genEnv scope (cloFrom X.env.cells scope.names []) s.heap.objs.size code builtinsNs X.env) fp [(a, go)]) [] (wipe σ (own.map (·.2))) H { s with heap := h5, gens := g5, toks := t5 } := by
  have cm : ∀ {y c}, (cloFrom X.env.cells scope.names []).lookup y = some c → X.env.cells.lookup y = some c := fun {y c} e => by
    rcases cloFrom_mem (PySem.mem_of_lookup e) with hm | ⟨h1, h2⟩
    · cases hm
    · have hy : ∃ c1, X.env.cells.lookup y = some c1 := by
        rcases ok.free _ h1 rfl with k | k
        · exact I.ok.has _ (.inl k)
        · exact I.ok.has _ (.inr k)
      obtain ⟨c1, hc⟩ := hy
      have e2 : c = c1 := by
        rw [h2, hc] <;> rfl
      rw [e2]
      exact hc
  have look : ∀ {y}, scope.names.lookup y = some .free → ∃ c, (cloFrom X.env.cells scope.names []).lookup y = some c := fun {y} hl =>
    mem_lookup (cloFrom_has (cells := X.env.cells) (acc := []) (PySem.mem_of_lookup hl : (y, NameKind.free) ∈ scope.names))
  have cellK : ∀ {c : Addr} {v : Option Value}, s.heap.IsCell c v → h5.IsCell c v := fun {c v} ⟨o, ho, hd⟩ => ⟨o, kp _ _ ho, hd⟩
  refine ⟨⟨I.ok.mod, ok.kind, I.ok.glob, rfl, Nat.le_refl _, fun y z c e1 e2 => I.ok.inj y z c (cm e1) (cm e2), fun y hy => ?_, fun y c z _ => ?_, fun _ => hA, hfr, .inr ⟨rfl, rfl⟩, fun b hb => ⟨?_, fun y c e => ?_⟩, I.bs, Nat.le_trans I.ok.bsz I.sz, fun b o e hb => ?_, fun b hb z => ?_, I.stack, I.stkFree⟩,
    rfl, hg, Un.kept kp, ⟨m0, hns, fun i y v e1 e2 e3 => ?_⟩, fun y c e => ?_, I.hok.fresh (Nat.le_refl _), fun y c e => I.freeC y c (cm e), fun p hp => ?_, I.hok.kept kp, ?_⟩
  · have hy : scope.names.lookup y = some .cell ∨ scope.names.lookup y = some .free := hy
    rcases hy with hy | hy
    · exact absurd rfl (nocell _ (PySem.mem_of_lookup hy))
    · exact look hy
  · have z : false = true := z
    cases z
  · exact Nat.ne_of_lt (hfp b hb).2
  · exact (hfp b hb).1.2.2.2.2.1 y c (cm e)
  · rcases (hfp b hb).1.2.2.2.1 with z | z
    · exact I.ok.noex b o e z
    · have h1 : b < X.base.objs.size := Heap.lt_size e
      exact absurd (Nat.lt_of_lt_of_le h1 (Nat.le_trans I.ok.bsz z)) (Nat.lt_irrefl _)
  · rcases List.mem_cons.mp (I.stkSub b z) with z | z
    · exact (hfp b hb).1.2.1 z
    · exact (hfp b hb).1.2.2.1 z
  · obtain ⟨e2, nv⟩ := wipe_some e2
    have e3 : Vis scope y := e3
    rcases e3 with k | k | k
    · rcases ok.own _ (PySem.mem_of_lookup k) (.inl rfl) with z | z
      · obtain ⟨p, hp, ep⟩ := List.mem_map.mp z
        have e4 := ok.ix p hp
        rw [show p.1 = y from ep] at e4
        exact absurd (List.mem_map.mpr ⟨p, hp, nodup_ix hN e4 e1⟩) nv
      · exact absurd (List.mem_of_getElem? e1) z
    · exact absurd rfl (nocell _ (PySem.mem_of_lookup k))
    · obtain ⟨m, hn, hl⟩ := I.loc
      have hvis : Vis X.env.scope y := (ok.free _ (PySem.mem_of_lookup k) rfl).elim (fun k => .inr (.inl k)) (fun k => .inr (.inr k))
      obtain ⟨u, r, q⟩ := hl i y v e1 e2 hvis
      obtain ⟨c2, h2⟩ := look k
      refine ⟨u, r, .inr ⟨.inr k, c2, h2, ?_⟩⟩
      have c1 := cm h2
      rcases q with ⟨k', _⟩ | ⟨_, c3, e', z⟩
      · have k' : X.env.scope.names.lookup y = some .local := k'
        rcases ok.free _ (PySem.mem_of_lookup k) rfl with k2 | k2 <;> rw [show X.env.scope.names.lookup y = _ from k2] at k' <;> cases k'
      · rw [c1] at e'
        cases e'
        exact cellK z
  · obtain ⟨u, z⟩ := I.cell y c (cm e)
    exact ⟨u, cellK z⟩
  · have hp : p ∈ [(a, go)] ++ [] := hp
    rw [List.append_nil] at hp
    rw [List.mem_singleton.mp hp]
    refine ⟨hgo, I.hok.fresh (Nat.le_of_lt ha), Nat.ne_of_gt ha, fun z => ?_, hgd⟩
    rcases List.mem_cons.mp (I.stkSub a z) with z | z
    · have h1 := I.lt
      rw [z] at ha
      exact absurd (Nat.lt_trans ha h1) (Nat.lt_irrefl _)
    · exact I.nofs (Nat.le_of_lt ha) z
  · rw [wipe_length]
    exact I.len
end
/-- what stands where the generator ends, and where it hands out a truth -/
def GxE (Z : Cx) (σ0 : L2.St) (Qe : Hp → Prop) : Nat → Shared → Shared → Prop := fun _ _ s1 => ∃ H, Inv Z [] σ0 H s1 ∧ Qe H
def GxY (Z : Cx) (e : Bool) (Qn : Hp → Prop) : Protocol := fun _ _ v s kap => ∃ (c : Bool) (H : Hp) (σ' : L2.St), v = .bool c ∧ Inv Z [] σ' H s ∧ (c = e → ∀ s' : Shared, s'.heap = s.heap → s'.os = s.os → AllBare s'.gens → kap (.send .none) s') ∧ (c ≠ e → Qn H)
abbrev gxTurn (J : It) (g : TG) (tt : TT) (te : TE) (vs : List Nat) (σ0 : L2.St) (e : Bool) (Qe Qn : Hp → Prop) (W : Nat → Nat → Hp → Prop) : Prop :=
  ∀ i m H, W i m H → (J.stop i H ∧ Qe H) ∨ (J.go i H ∧ ∃ Nx : Hp → Prop, (∀ H', Nx H' → ∃ m', m' < m ∧ W (i + 1) m' H') ∧ ∀ x H', J.yld i H x H' → g x σ0 H' fun σ2 H2 => wipe σ2 vs = σ0 ∧ tt σ2 H2 fun b H3 =>
    if b = true then te σ2 H3 fun y H4 => ∃ c, y = .bl c ∧ (c = e → Nx H4) ∧ (c ≠ e → Qn H4) else Nx H3)
section
variable {X : Cx} {A0 : Around} {s1 : Shared} {H1 : Hp} {ce : Env} {fp : List Addr} {pn : List (Addr × Obj)} {elt tg iter : Expr} {ifs : List Expr} {scope : Scope} {gpos : Pos} {it : Addr} {tn : Nat → Heap → Prop} {J : It} {g : TG} {tt : TT} {te : TE} {vs : List Nat} {σ0 : L2.St} {e : Bool} {Qe Qn : Hp → Prop} {W : Nat → Nat → Hp → Prop}
abbrev gxCode (elt tg iter : Expr) (ifs : List Expr) (scope : Scope) (gpos : Pos) (it : Addr) (ce : Env) : Code := .compLoop (.GeneratorExp elt [⟨tg, iter, ifs, 0⟩] scope gpos) 0 (.ref it) .none ce
abbrev gxZ (X : Cx) (A0 : Around) (s1 : Shared) (H1 : Hp) (ce : Env) (fp : List Addr) (pn : List (Addr × Obj)) (elt tg iter : Expr) (ifs : List Expr) (scope : Scope) (gpos : Pos) (it : Addr) : Cx := gxCx X (A0.over (gxCode elt tg iter ifs scope gpos it ce) []) s1 H1 ce fp pn
theorem gx_fp {Z : Cx} (hZ : Z = gxZ X A0 s1 H1 ce fp pn elt tg iter ifs scope gpos it) (hpn : ∀ p ∈ pn, p.1 ∉ fp) {σ' : L2.St} {H' : Hp} {s' : Shared} (I : Inv Z [] σ' H' s') (hn : ∀ b ∈ fp, H' b = none) : ∀ b ∈ fp, FpOk Z [] H' b := by
  subst hZ
  intro b hb
  refine ⟨hn b hb, (I.ok.exf b hb).1, I.ok.exfs b hb, .inl hb, fun x c e => (I.ok.exf b hb).2 x c e, fun p hp z => ?_⟩
  have hp : p ∈ pn := by
    rcases List.mem_append.mp hp with hp | hp
    · exact hp
    · cases hp
  exact hpn p hp (by rw [z]; exact hb)
theorem seg_gx {Z : Cx} (hZ : Z = gxZ X A0 s1 H1 ce fp pn elt tg iter ifs scope gpos it) (hpn : ∀ p ∈ pn, p.1 ∉ fp) (hco : ce.scope.isCoroutine = false) (T : Turn X.prog X.w X.K tg J fp it tn) (pg : PG Z tg g) (pt : PTs Z ifs tt) (pe : PE Z elt te) (turn : gxTurn J g tt te vs σ0 e Qe Qn W) :
    ∀ (m i n : Nat) (s₀ s : Shared) (H : Hp), m < n → W i m H → Inv Z [] σ0 H s → tn i s.heap → (∀ b ∈ fp, H b = none) →
      Seg (model X.prog X.w) A0 (fun n s₀ r s1 => r = .ok .next ∧ GxE Z σ0 Qe n s₀ s1) (GxY Z e Qn) n s₀ (gxCode elt tg iter ifs scope gpos it ce) ((model X.prog X.w).den (gxCode elt tg iter ifs scope gpos it ce)) [] s := by
  intro m
  induction m using Nat.strongRecOn with
  | ind m ih =>
    intro i n s₀ s H hmn w0 I st nf
    have fpo := gx_fp hZ hpn I nf
    show Seg _ A0 _ _ _ s₀ _ ((compTurn (.GeneratorExp elt [⟨tg, iter, ifs, 0⟩] scope gpos) 0 (.ref it) .none ce).onRaise (leaving ce)) [] s
    rw [compTurn_gen, Sem.onRaise_eq_wrap]
    refine seg_bind_wrap (wpAny_standAt ?_)
    rcases turn i m H w0 with ⟨stop, qe⟩ | ⟨go, Nx, hNx, step⟩
    · have td := T.done Z (by rw [hZ]; rfl) (by rw [hZ]; rfl) (by rw [hZ]; rfl) (by rw [hZ]; rfl) i [] s σ0 H (fun _ _ => False) I fpo st stop
      have hA : Z.A = A0.over (gxCode elt tg iter ifs scope gpos it ce) [] := by rw [hZ]; rfl
      rw [hA] at td
      refine seg_bind_wrap (wpAny_mono td (fun r s2 hr => ?_) fun _ _ z => z.elim)
      obtain ⟨rfl, I2⟩ := hr
      exact seg_end (.ok .next) ⟨rfl, H, I2, qe⟩
    · have hA : Z.A = A0.over (gxCode elt tg iter ifs scope gpos it ce) [] := by rw [hZ]; rfl
      have hE : Z.env = ce := by rw [hZ]; rfl
      have hPr : Z.prog = X.prog := by rw [hZ]; rfl
      have hWd : Z.w = X.w := by rw [hZ]; rfl
      have hXe : Z.xe = fun _ _ => False := by rw [hZ]; rfl
      have ti := T.item Z hPr hWd (by rw [hZ]; rfl) (by rw [hZ]; rfl) i [] s σ0 H (fun _ _ => False) I fpo st go
      rw [hA] at ti
      refine seg_bind_wrap (wpAny_mono ti (fun r s2 hr => ?_) fun _ _ z => z.elim)
      obtain ⟨u, rfl, ti⟩ := hr
      refine seg_bind_wrap (wpAny_mono ti (fun _ s7 h7 => ?_) fun _ _ z => z.elim)
      obtain ⟨x, H7, I7, r7, y7, st7, n7⟩ := h7
      have I7' := I7.pinned (gx_fp hZ hpn I7 n7) (T.obj _ _ st7)
      have ta := pg.run _ s7 _ H7 x u _ I7' r7 (step x H7 y7)
      rw [hPr, hWd, hA, hE, hXe] at ta
      refine seg_bind_wrap (wpAny_mono ta (fun _ s8 h8 => ?_) fun _ _ z => z.elim)
      obtain ⟨σ8, H8, I8, hw8, q8⟩ := h8
      have tt' := pt.run _ s8 σ8 H8 _ I8 q8
      rw [hPr, hWd, hA, hE, hXe] at tt'
      refine seg_bind_wrap (wpAny_mono tt' (fun b s9 h9 => ?_) fun _ _ z => z.elim)
      obtain ⟨H9, I9, q9⟩ := h9
      -- what stands at the next turn
      have next : ∀ {sn s' : Shared} {H' : Hp}, Inv Z ([] ++ pinsAt fp s7.heap) σ8 H' sn → s'.heap = sn.heap → s'.os = sn.os → AllBare s'.gens → Inv Z [] σ0 H' s' ∧ tn (i + 1) s'.heap ∧ ∀ b ∈ fp, H' b = none := fun {sn s' H'} I' e1 e2 e3 => by
        have pin' : ∀ b ∈ fp, ∀ o, s7.heap.get? b = some o → sn.heap.get? b = some o ∧ H' b = none := fun b hb o eo =>
          let z := I'.pin (b, o) (List.mem_append_right _ (List.mem_append_right _ (mem_pinsAt hb eo)))
          ⟨z.1, z.2.1⟩
        have hl : σ0.length = σ8.length := by rw [← hw8, wipe_length]
        have I'' : Inv Z [] σ0 H' sn := (I'.unpinned (pins := [])).weak hl fun j v ev => by
          rw [← hw8] at ev
          exact (wipe_some ev).1
        refine ⟨inv_sh I'' e1 e2 e3, ?_, fun b hb => ?_⟩
        · rw [e1]
          exact T.keep _ _ _ st7 fun b hb o eo => (pin' b hb o eo).1
        · obtain ⟨o, eo, _⟩ := T.obj _ _ st7 b hb
          exact (pin' b hb o eo).2
      cases b with
      | false =>
        simp only [Bool.false_eq_true, if_false] at q9 ⊢
        obtain ⟨m', hm, w'⟩ := hNx _ q9
        obtain ⟨J1, J2, J3⟩ := next I9 rfl rfl I9.bare
        exact seg_again rfl (ih m' hm (i + 1) n s₀ s9 H9 (by omega) w' J1 J2 J3)
      | true =>
        simp only [if_true] at q9 ⊢
        have out : ∀ v, yieldOut ce v = yieldValue v := fun v => by simp only [yieldOut, hco, Bool.false_eq_true, if_false]
        simp only [out]
        rw [Sem.bind_eq_wrap', Sem.bind_eq_wrap']; rw [Sem.wrap_wrap, Sem.wrap_wrap]
        have tel := pe.run _ s9 σ8 H9 _ I9 q9
        rw [hPr, hWd, hA, hE, hXe] at tel
        refine seg_wrap (wpAny_mono tel (fun y s10 h10 => ?_) fun _ _ z => z.elim)
        obtain ⟨yv, H10, I10, r10, cb, rfl, qn, qx⟩ := h10
        obtain rfl : y = Value.bool cb := r10
        obtain ⟨n', rfl⟩ : ∃ n', n = n' + 1 := ⟨n - 1, by omega⟩
        refine seg_at (seg_yield rfl rfl rfl ⟨cb, H10, σ8, rfl, I10.unpinned, fun hc s' e1 e2 e3 => ?_, qx⟩)
        obtain ⟨m', hm, w'⟩ := hNx _ (qn hc)
        obtain ⟨J1, J2, J3⟩ := next I10 e1 e2 e3
        exact seg_again rfl (ih m' hm (i + 1) n' s' s' H10 (by omega) w' J1 J2 J3)
/-- its begin -/
theorem seg_gx0 {Z : Cx} (hZ : Z = gxZ X A0 s1 H1 ce fp pn elt tg iter ifs scope gpos it) (hpn : ∀ p ∈ pn, p.1 ∉ fp) (hco : ce.scope.isCoroutine = false) (T : Turn X.prog X.w X.K tg J fp it tn) (pg : PG Z tg g) (pt : PTs Z ifs tt) (pe : PE Z elt te) (turn : gxTurn J g tt te vs σ0 e Qe Qn W)
    {m n : Nat} {s₀ s : Shared} {H : Hp} (hmn : m < n) (w0 : W 0 m H) (I : Inv Z [] σ0 H s) (st : tn 0 s.heap) (nf : ∀ b ∈ fp, H b = none) :
    Seg (model X.prog X.w) A0 (fun n s₀ r s1 => r = .ok .next ∧ GxE Z σ0 Qe n s₀ s1) (GxY Z e Qn) n s₀ (.compStart (.GeneratorExp elt [⟨tg, iter, ifs, 0⟩] scope gpos) 0 (.ref it) .none ce) ((model X.prog X.w).den (.compStart (.GeneratorExp elt [⟨tg, iter, ifs, 0⟩] scope gpos) 0 (.ref it) .none ce)) [] s := by
  have loop := seg_gx hZ hpn hco T pg pt pe turn m 0 n s₀ s H hmn w0 I st nf
  show Seg _ A0 _ _ _ s₀ _ ((compStart (.GeneratorExp elt [⟨tg, iter, ifs, 0⟩] scope gpos) 0 (.ref it) .none ce).onRaise (leaving ce)) [] s
  unfold compStart
  rw [Sem.onRaise_eq_wrap]
  show Seg _ A0 _ _ _ s₀ _ ((ask >>= _).wrap _ _ _ _) [] s
  refine seg_bind_wrap (wpAny_askSetting ?_)
  split
  · exact seg_again rfl loop
  · refine seg_bind_wrap (wpAny_rule ?_)
    show Seg _ A0 _ _ _ s₀ _ ((standAt iter.pos >>= _).wrap _ _ _ _) [] s
    exact seg_bind_wrap (wpAny_standAt (seg_bind_wrap (T.self _ 0 s _ _ st (seg_again rfl loop))))
end
theorem un_kept {fs ex : List Addr} {H H' : Hp} {h h1 h2 : Heap} (u : Un fs ex H H' h h1) (k : ∀ b o, h1.get? b = some o → h2.get? b = some o) : Un fs ex H H' h h2 := u.trans (Un.kept k)
/-- all, over it -/
theorem gx_all {Z : Cx} {A : Around} {a : Addr} {g : Nat} {σ0 : L2.St} {Qe Qn : Hp → Prop} {R : Result → Shared → Prop} (hh : A.handled = none) (hd : A.depth < recursionLimit) (isG : ∀ {σ' : L2.St} {H' : Hp} {s' : Shared}, Inv Z [] σ' H' s' → s'.heap.IsGen a g)
    (hE : ∀ (s' : Shared) (H' : Hp), s'.os = Z.s_0.os → AllBare s'.gens → Un Z.fs Z.ex Z.H_0 H' Z.s_0.heap s'.heap → HOk Z.prog Z.w H' s'.heap → Qe H' → R (.ok (.ret (.bool true))) s')
    (hN : ∀ (s' : Shared) (H' : Hp), s'.os = Z.s_0.os → AllBare s'.gens → Un Z.fs Z.ex Z.H_0 H' Z.s_0.heap s'.heap → HOk Z.prog Z.w H' s'.heap → Qn H' → R (.ok (.ret (.bool false))) s') :
    ∀ (m : Nat) (s : Shared), s.heap.IsGen a g → s.heap.NoLimit → (∃ gs, s.gens[g]? = some gs ∧ gs.Goes (model Z.prog Z.w) A.in1.in1 (fun n s₀ r s1 => r = .ok .next ∧ GxE Z σ0 Qe n s₀ s1) (GxY Z true Qn) m (.send .none) (s.setGen g .running)) →
      codeAny (model Z.prog Z.w) A (.builtin "all.loop" ⟨[.ref a], []⟩) R s := by
  intro m
  induction m with
  | zero =>
    intro s hg hl ⟨gs, hgs, goes⟩
    refine codeAny_builtin F.entry_all_loop ?_
    rw [Around.under_plainId F.plain_all_loop _]
    show wpAny _ A.in1 (pyNext (.ref a) >>= _) _ _ s
    refine wpAny_bind (wpAny_pyNext_genexpQ (A := A.in1) hh hl hd hg hgs goes (fun v s1 gs' hbare hv => ?_) (fun s1 hp h' hk => ?_))
    · obtain ⟨c, H', σ', rfl, I, more, last⟩ := hv
      have b1 := allBare_setGen (g := g) I.bare hbare
      refine wpAny_bind (wpAny_holding (wpAny_truthy_bool (wpAny_bind (wpAny_letGo ?_))))
      cases c with
      | true => exact False.elim (more rfl s1 rfl rfl I.bare)
      | false =>
        simp only [Bool.false_eq_true, if_false]
        exact wpAny_bind (wpAny_rule (wpAny_pure (hN _ H' I.os b1 I.base I.hok (last (by decide)))))
    · obtain ⟨H', I, q⟩ := hp
      exact wpAny_bind (wpAny_rule (wpAny_pure (hE _ H' I.os (allBare_setGen I.bare rfl) (un_kept I.base hk) (I.hok.kept hk) q)))
  | succ m ih =>
    intro s hg hl ⟨gs, hgs, goes⟩
    have hgl : g < s.gens.size := (Array.getElem?_eq_some_iff.mp hgs).1
    refine codeAny_builtin F.entry_all_loop ?_
    rw [Around.under_plainId F.plain_all_loop _]
    show wpAny _ A.in1 (pyNext (.ref a) >>= _) _ _ s
    refine wpAny_bind (GenW.wpAny_gsz (n := g + 1) hgl (wpAny_pyNext_genexpQ (A := A.in1) hh hl hd hg hgs goes (fun v s1 gs' hbare hv => ?_) (fun s1 hp h' hk => ?_)))
    · intro hsz
      obtain ⟨c, H', σ', rfl, I, more, last⟩ := hv
      have b1 := allBare_setGen (g := g) I.bare hbare
      refine wpAny_bind (wpAny_holding (wpAny_truthy_bool (wpAny_bind (wpAny_letGo ?_))))
      cases c with
      | true =>
        simp only [if_true]
        have hsz1 : g < s1.gens.size := by
          have q : (s1.setGen g gs').gens.size = s1.gens.size := GenW.setGen_size _ _ _
          have hsz' : g + 1 ≤ (s1.setGen g gs').gens.size := hsz
          omega
        refine wpAny_pure ⟨plainId_quiet F.plain_all_loop _, ih (s1.setGen g gs') (isG (s' := s1) I) I.nolimit ⟨gs', setGen_at hsz1, ?_⟩⟩
        exact more rfl _ rfl rfl (allBare_setGen (s := s1.setGen g gs') b1 rfl)
      | false =>
        simp only [Bool.false_eq_true, if_false]
        exact wpAny_bind (wpAny_rule (wpAny_pure (hN _ H' I.os b1 I.base I.hok (last (by decide)))))
    · intro hsz
      obtain ⟨H', I, q⟩ := hp
      exact wpAny_bind (wpAny_rule (wpAny_pure (hE _ H' I.os (allBare_setGen I.bare rfl) (un_kept I.base hk) (I.hok.kept hk) q)))
/-- any, over it -/
theorem gx_any {Z : Cx} {A : Around} {a : Addr} {g : Nat} {σ0 : L2.St} {Qe Qn : Hp → Prop} {R : Result → Shared → Prop} (hh : A.handled = none) (hd : A.depth < recursionLimit) (isG : ∀ {σ' : L2.St} {H' : Hp} {s' : Shared}, Inv Z [] σ' H' s' → s'.heap.IsGen a g)
    (hE : ∀ (s' : Shared) (H' : Hp), s'.os = Z.s_0.os → AllBare s'.gens → Un Z.fs Z.ex Z.H_0 H' Z.s_0.heap s'.heap → HOk Z.prog Z.w H' s'.heap → Qe H' → R (.ok (.ret (.bool false))) s')
    (hN : ∀ (s' : Shared) (H' : Hp), s'.os = Z.s_0.os → AllBare s'.gens → Un Z.fs Z.ex Z.H_0 H' Z.s_0.heap s'.heap → HOk Z.prog Z.w H' s'.heap → Qn H' → R (.ok (.ret (.bool true))) s') :
    ∀ (m : Nat) (s : Shared), s.heap.IsGen a g → s.heap.NoLimit → (∃ gs, s.gens[g]? = some gs ∧ gs.Goes (model Z.prog Z.w) A.in1.in1 (fun n s₀ r s1 => r = .ok .next ∧ GxE Z σ0 Qe n s₀ s1) (GxY Z false Qn) m (.send .none) (s.setGen g .running)) →
      codeAny (model Z.prog Z.w) A (.builtin "any.loop" ⟨[.ref a], []⟩) R s := by
  intro m
  induction m with
  | zero =>
    intro s hg hl ⟨gs, hgs, goes⟩
    refine codeAny_builtin F.entry_any_loop ?_
    rw [Around.under_plainId F.plain_any_loop _]
    show wpAny _ A.in1 (pyNext (.ref a) >>= _) _ _ s
    refine wpAny_bind (wpAny_pyNext_genexpQ (A := A.in1) hh hl hd hg hgs goes (fun v s1 gs' hbare hv => ?_) (fun s1 hp h' hk => ?_))
    · obtain ⟨c, H', σ', rfl, I, more, last⟩ := hv
      have b1 := allBare_setGen (g := g) I.bare hbare
      refine wpAny_bind (wpAny_holding (wpAny_truthy_bool (wpAny_bind (wpAny_letGo ?_))))
      cases c with
      | false => exact False.elim (more rfl s1 rfl rfl I.bare)
      | true =>
        simp only [if_true]
        exact wpAny_bind (wpAny_rule (wpAny_pure (hN _ H' I.os b1 I.base I.hok (last (by decide)))))
    · obtain ⟨H', I, q⟩ := hp
      exact wpAny_bind (wpAny_rule (wpAny_pure (hE _ H' I.os (allBare_setGen I.bare rfl) (un_kept I.base hk) (I.hok.kept hk) q)))
  | succ m ih =>
    intro s hg hl ⟨gs, hgs, goes⟩
    have hgl : g < s.gens.size := (Array.getElem?_eq_some_iff.mp hgs).1
    refine codeAny_builtin F.entry_any_loop ?_
    rw [Around.under_plainId F.plain_any_loop _]
    show wpAny _ A.in1 (pyNext (.ref a) >>= _) _ _ s
    refine wpAny_bind (GenW.wpAny_gsz (n := g + 1) hgl (wpAny_pyNext_genexpQ (A := A.in1) hh hl hd hg hgs goes (fun v s1 gs' hbare hv => ?_) (fun s1 hp h' hk => ?_)))
    · intro hsz
      obtain ⟨c, H', σ', rfl, I, more, last⟩ := hv
      have b1 := allBare_setGen (g := g) I.bare hbare
      refine wpAny_bind (wpAny_holding (wpAny_truthy_bool (wpAny_bind (wpAny_letGo ?_))))
      cases c with
      | false =>
        simp only [Bool.false_eq_true, if_false]
        have hsz1 : g < s1.gens.size := by
          have q : (s1.setGen g gs').gens.size = s1.gens.size := GenW.setGen_size _ _ _
          have hsz' : g + 1 ≤ (s1.setGen g gs').gens.size := hsz
          omega
        refine wpAny_pure ⟨plainId_quiet F.plain_any_loop _, ih (s1.setGen g gs') (isG (s' := s1) I) I.nolimit ⟨gs', setGen_at hsz1, ?_⟩⟩
        exact more rfl _ rfl rfl (allBare_setGen (s := s1.setGen g gs') b1 rfl)
      | true =>
        simp only [if_true]
        exact wpAny_bind (wpAny_rule (wpAny_pure (hN _ H' I.os b1 I.base I.hok (last (by decide)))))
    · intro hsz
      obtain ⟨H', I, q⟩ := hp
      exact wpAny_bind (wpAny_rule (wpAny_pure (hE _ H' I.os (allBare_setGen I.bare rfl) (un_kept I.base hk) (I.hok.kept hk) q)))
/-- the generator stands ready to be walked -/
def GxReady (X : Cx) (pins : List (Addr × Obj)) (σ : L2.St) (e : Bool) (Qe Qn : Hp → Prop) (a : Addr) (s5 : Shared) : Prop :=
  ∃ (g m : Nat) (Z : Cx) (σ0 : L2.St), Z.prog = X.prog ∧ Z.w = X.w ∧ s5.heap.IsGen a g ∧ s5.heap.NoLimit ∧ (∀ {σ' : L2.St} {H' : Hp} {s' : Shared}, Inv Z [] σ' H' s' → s'.heap.IsGen a g) ∧
    (∃ gs, s5.gens[g]? = some gs ∧ gs.Goes (model Z.prog Z.w) X.A.in1.in1 (fun n s₀ r s1 => r = .ok .next ∧ GxE Z σ0 Qe n s₀ s1) (GxY Z e Qn) m (.send .none) (s5.setGen g .running)) ∧
    ∀ (s' : Shared) (H' : Hp), s'.os = Z.s_0.os → AllBare s'.gens → Un Z.fs Z.ex Z.H_0 H' Z.s_0.heap s'.heap → HOk Z.prog Z.w H' s'.heap → Inv X pins σ H' s'
theorem gx_room {A : Around} {k : Nat} {elt tg iter : Expr} {ifs : List Expr} {scope : Scope} {gpos : Pos} {it : Addr} {ce : Env} (r : Room (k + 1) A) : Room k (A.in1.in1.over (gxCode elt tg iter ifs scope gpos it ce) []) :=
  ⟨r.hd, by have := r.dp; show A.depth + 1 + 3 * k + 5 < _; omega, by have := r.un; show A.units + 1 + 1 + 3 + 16 * k + 200 < _; omega⟩
theorem gx_frames {A : Around} {st : List Env} {elt tg iter : Expr} {ifs : List Expr} {scope : Scope} {gpos : Pos} {it : Addr} {ce : Env} (h : A.frames = some st) : (A.in1.in1.over (gxCode elt tg iter ifs scope gpos it ce) []).frames = some (ce :: st) := by
  obtain ⟨hd, d, fr, gs, u⟩ := A
  obtain rfl : fr = some st := h
  rfl
abbrev tQuant (P : Addr) (wi : TI) (g : TG) (tt : TT) (te : TE) (vs : List Nat) (e : Bool) : TE := fun σ H Q => wi σ H fun J H1 => GxR.TabG H1 P ∧ ∀ H2, GxR.Tabbed P H1 H2 → ∃ W : Nat → Nat → Hp → Prop, (∃ m, W 0 m H2) ∧ gxTurn J g tt te vs (wipe σ vs) e (fun H => Q (.bl e) H) (fun H => Q (.bl (!e)) H) W
theorem gx_eval {X : Cx} {pins : List (Addr × Obj)} {σ : L2.St} {H : Hp} {s : Shared} {c P : Addr} {elt tg iter : Expr} {ifs : List Expr} {scope : Scope} {own : List (Str × Nat)} {gpos : Pos} {wi : TI} {g : TG} {tt : TT} {te : TE} {e : Bool} {k : Nat} {Q : VK} {Q' : Value → Shared → Prop}
    (hN : X.N.Nodup) (hr : Room (k + 1) X.A) (TB : LamX.TabB X.base X.mg c P) (hcode : X.env.code = .ref c) (ok : BlkOk X.N X.env.scope scope own) (nocell : ∀ y ∈ scope.names, y.2 ≠ .cell) (hco : scope.isCoroutine = false) (dot : scope.names.lookup (".0" : Str) = some NameKind.local)
    (hi : PI X tg iter wi)
    (hg : ∀ (A : Around) (s : Shared) (H : Hp) (cl : List (Str × Addr)) (C : Addr) (code : Value) (bi : Addr) (fp : List Addr) (pn : List (Addr × Obj)), Room k A → PG (gxCx X A s H (genEnv scope cl C code bi X.env) fp pn) tg g)
    (ht : ∀ (A : Around) (s : Shared) (H : Hp) (cl : List (Str × Addr)) (C : Addr) (code : Value) (bi : Addr) (fp : List Addr) (pn : List (Addr × Obj)), Room k A → PTs (gxCx X A s H (genEnv scope cl C code bi X.env) fp pn) ifs tt)
    (he : ∀ (A : Around) (s : Shared) (H : Hp) (cl : List (Str × Addr)) (C : Addr) (code : Value) (bi : Addr) (fp : List Addr) (pn : List (Addr × Obj)), Room k A → PE (gxCx X A s H (genEnv scope cl C code bi X.env) fp pn) elt te)
    (hs : ∀ v, genFold iter X.env v = pure v) (I : Inv X pins σ H s) (h : tQuant P wi g tt te (own.map (·.2)) e σ H Q)
    (hQ : ∀ a s5, GxReady X pins σ e (fun H => Q (.bl e) H) (fun H => Q (.bl (!e)) H) a s5 → Q' (.ref a) s5) :
    wpAny (model X.prog X.w) X.A (eval (.GeneratorExp elt [⟨tg, iter, ifs, 0⟩] scope gpos) X.env) Q' X.xe s := by
  have hfree : ∀ y ∈ scope.names, y.2 = .free → ∃ c, X.env.cells.lookup y.1 = some c := fun y hy ey => by
    rcases ok.free y hy ey with z | z
    · exact I.ok.has _ (.inl z)
    · exact I.ok.has _ (.inr z)
  refine wpAny_GeneratorExp_make hco (closure_ok hfree) nocell dot ok.kind hr.depth ?_ hs
  refine thn (hi.run pins s σ H _ I h) fun xv s1 hx => thn hx fun itv s2 h2 => ?_
  obtain ⟨it, fp, tn, J, H2, rfl, I2, T, st2, f2, ⟨ps, hP, tro⟩, q⟩ := h2
  refine ⟨I2.nolimit, ?_⟩
  have hPs : s2.heap.get? P = some { cls := .none, data := .fields ps } := I2.hok P _ hP
  have cd : PySem.W.CodeHd s2.heap c P := TB.code.keeps fun b u z => I2.bk b u z
  have szf : ∀ b ∈ fp, b < s2.heap.objs.size := fun b hb => by
    obtain ⟨o, eo, _⟩ := T.obj _ _ st2 b hb
    exact Heap.lt_size eo
  -- behind the code object
  have cont : ∀ (code : Value) (h3 : Heap) (tk : Nat) (ps' : Array Value), Heap.ExtBut P s2.heap h3 → s2.heap.objs.size ≤ h3.objs.size → h3.get? P = some { cls := .none, data := .fields ps' } → (∃ more, ps' = ps ++ more) → TriplesOk ps'.toList →
      wpAny (model X.prog X.w) X.A (builtinsFor X.env.globals X.env.builtins) (fun bi s4 => ∀ h', h'.Ns s4.heap.objs.size (fun y => if y = ".0" then some (.ref it) else none) → Heap.SameBut s4.heap.objs.size (s4.heap.push { cls := .type "frame", data := .dict #[] }) h' →
        Q' (.ref h'.objs.size) { s4 with
          gens := s4.gens.push (.fresh (.compStart (.GeneratorExp elt [⟨tg, iter, ifs, 0⟩] scope gpos) 0 (.ref it) .none (genEnv scope (cloFrom X.env.cells scope.names []) s4.heap.objs.size code bi X.env)))
          toks := s4.toks + 1 + 1 + 1
          heap := h'.push { cls := .type "generator", data := .fields #[.int s4.gens.size 0, .str "<genexpr>" (s4.toks + 1), .str (X.env.qual ++ "<genexpr>") (s4.toks + 1 + 1)] } }) X.xe { s2 with heap := h3, toks := tk } := by
    intro code h3 tk ps' hx hsz hP3 ⟨more, em⟩ tro'
    obtain ⟨bm, ob, e1, e2, e3, e4, e5, e6, e7, e8⟩ := TB.bm
    have keep3 : ∀ b u, b ≠ P → s2.heap.get? b = some u → h3.get? b = some u := fun b u hb z => hx b u hb z
    refine wpAny_builtinsFor (m := X.mg) (by rw [I2.ok.glob]; exact (I2.mod.glob.keeps I2.bk).extBut hx TB.gP) e1 e2 (keep3 _ _ e4 (I2.bk _ _ e5)) e6 e7 e8 ?_
    intro h' hns hsame
    have J4 := GxR.inv_tab (more := more) (h' := h3) (g' := s2.gens) (d' := s2.drawn) (t' := tk) I2 hP keep3 (by rw [← em]; exact hP3) I2.bare
    have tabbed : GxR.Tabbed P H2 (upd H2 P (.tbl (ps ++ more))) := ⟨⟨ps ++ more, upd_same, by rw [← em]; exact tro'⟩, fun b hb => upd_ne hb⟩
    obtain ⟨W, ⟨m0, w0⟩, turn⟩ := q _ tabbed
    have hsz' : h'.objs.size = h3.objs.size + 1 := by rw [hsame.1, Heap.size_push]
    have kp5 : ∀ (go : Obj) b o, h3.get? b = some o → (h'.push go).get? b = some o := fun go b o eo => Heap.get?_push_of_some _ (hsame.extBut b o (Nat.ne_of_lt (Heap.lt_size eo)) (Heap.get?_push_of_some _ eo))
    have fpP : ∀ b ∈ fp, b ≠ P := fun b hb z => by
      have := (f2 b hb).1
      rw [z, hP] at this
      cases this
    have nf : ∀ b ∈ fp, upd H2 P (.tbl (ps ++ more)) b = none := fun b hb => by rw [upd_ne (fpP b hb)]; exact (f2 b hb).1
    have f3 : ∀ b ∈ fp, FpOk X pins (upd H2 P (.tbl (ps ++ more))) b ∧ b < h3.objs.size := fun b hb => ⟨⟨nf b hb, (f2 b hb).2⟩, Nat.lt_of_lt_of_le (szf b hb) hsz⟩
    refine hQ _ _ ?_
    show GxReady X pins σ e _ _ h'.objs.size { s2 with
      gens := s2.gens.push (.fresh (.compStart (.GeneratorExp elt [⟨tg, iter, ifs, 0⟩] scope gpos) 0 (.ref it) .none (genEnv scope (cloFrom X.env.cells scope.names []) h3.objs.size code builtinsNs X.env)))
      toks := tk + 1 + 1 + 1
      heap := h'.push { cls := .type "generator", data := .fields #[.int s2.gens.size 0, .str "<genexpr>" (tk + 1), .str (X.env.qual ++ "<genexpr>") (tk + 1 + 1)] } }
    generalize hgo : ({ cls := .type "generator", data := .fields #[.int s2.gens.size 0, .str "<genexpr>" (tk + 1), .str (X.env.qual ++ "<genexpr>") (tk + 1 + 1)] } : Obj) = go
    have goC : go.cls = .type "generator" := by rw [← hgo]
    have goD : go.data = .fields #[.int s2.gens.size 0, .str "<genexpr>" (tk + 1), .str (X.env.qual ++ "<genexpr>") (tk + 1 + 1)] := by rw [← hgo]
    have goS : go.slots = #[] := by rw [← hgo]
    have at5 : (h'.push go).get? h'.objs.size = some go := by rw [← hgo]; exact Heap.get?_push_size _ rfl
    have isG : ∀ h : Heap, h.get? h'.objs.size = some go → h.IsGen h'.objs.size s2.gens.size := fun h eo => ⟨go, _, _, eo, goC, goD, goS⟩
    generalize hst : GenState.fresh (.compStart (.GeneratorExp elt [⟨tg, iter, ifs, 0⟩] scope gpos) 0 (.ref it) .none (genEnv scope (cloFrom X.env.cells scope.names []) h3.objs.size code builtinsNs X.env)) = fr
    have bare5 : AllBare (s2.gens.push fr) := I2.bare.push (by rw [← hst]; rfl)
    have rm := gx_room (elt := elt) (tg := tg) (iter := iter) (ifs := ifs) (scope := scope) (gpos := gpos) (it := it) (ce := genEnv scope (cloFrom X.env.cells scope.names []) h3.objs.size code builtinsNs X.env) hr
    obtain ⟨ce, hce⟩ : ∃ ce, ce = genEnv scope (cloFrom X.env.cells scope.names []) h3.objs.size code builtinsNs X.env := ⟨_, rfl⟩
    obtain ⟨s4, hs4⟩ : ∃ s4 : Shared, s4 = { s2 with heap := h3, gens := s2.gens, drawn := s2.drawn, toks := tk } := ⟨_, rfl⟩
    obtain ⟨H4, hH4⟩ : ∃ H4, H4 = upd H2 P (.tbl (ps ++ more)) := ⟨_, rfl⟩
    obtain ⟨Z, hZ⟩ : ∃ Z, Z = gxZ X X.A.in1.in1 s4 H4 ce fp [(h'.objs.size, go)] elt tg iter ifs scope gpos it := ⟨_, rfl⟩
    have J4' : Inv X pins σ H4 s4 := by rw [hs4, hH4]; exact J4
    have Z0 : Inv Z [] (wipe σ (own.map (·.2))) H4 { s2 with heap := h'.push go, gens := s2.gens.push fr, toks := tk + 1 + 1 + 1 } := by
      rw [hZ, hs4, hH4, hce]
      exact gx_start (A := X.A.in1.in1.over (gxCode elt tg iter ifs scope gpos it (genEnv scope (cloFrom X.env.cells scope.names []) h3.objs.size code builtinsNs X.env)) []) (a := h'.objs.size) (go := go) (h5 := h'.push go) (g5 := s2.gens.push fr) (t5 := tk + 1 + 1 + 1) (code := code) J4 hN ok nocell rm.hd (gx_frames J4.ok.frames) f3 (hns.push _) (kp5 go) at5 (by show h3.objs.size < _; omega) (fun v z => by rw [goD] at z; cases z) bare5
    rw [← hH4] at w0
    refine ⟨s2.gens.size, m0 + 1, Z, wipe σ (own.map (·.2)), by rw [hZ]; rfl, by rw [hZ]; rfl, isG _ at5, Z0.nolimit, fun {σ' H' s'} IZ => ?_, ⟨fr, Array.getElem?_push_size .., ?_⟩, fun s' H' os bare un hok => ?_⟩
    · refine isG _ (IZ.pin (h'.objs.size, go) (List.mem_append_left _ ?_)).1
      rw [hZ]
      exact List.mem_cons_self
    · rw [← hst, show Z.prog = X.prog by rw [hZ]; rfl, show Z.w = X.w by rw [hZ]; rfl, ← hce]
      refine ⟨rfl, seg_gx0 (H := H4) hZ (fun p hp z => ?_) (by rw [hce]; exact hco) T (by rw [hZ, hce]; exact hg _ _ _ _ _ _ _ _ _ rm) (by rw [hZ, hce]; exact ht _ _ _ _ _ _ _ _ _ rm) (by rw [hZ, hce]; exact he _ _ _ _ _ _ _ _ _ rm) turn (Nat.lt_succ_self _) w0 (inv_sh Z0 rfl rfl (allBare_setGen (by show AllBare (s2.gens.push _); rw [hce, hst]; exact bare5) rfl)) ?_ fun b hb => by rw [hH4]; exact nf b hb⟩
      · rw [List.mem_singleton.mp hp] at z
        have z1 := (f3 _ z).2
        have z2 : h'.objs.size < h3.objs.size := z1
        omega
      · exact T.keep _ _ _ st2 fun b hb o eo => kp5 go b o (keep3 b o (fpP b hb) eo)
    · refine J4'.call' (ch := fp) ?_ ?_ ?_ bare fun b hb => ?_
      · rw [os, hZ]
        rfl
      · rw [hZ] at un
        exact un
      · rw [hZ] at hok
        exact hok
      · have z := (f3 b hb).1
        exact ⟨z.2.2.2.1, z.2.1, z.2.2.2.2.1, z.2.2.2.2.2⟩
  cases hf : codeAmong gpos ps.toList with
  | none =>
    refine wpAny_genexprCodeX hcode (cd.code hPs tro) (cd.tab hPs) hf fun c' h' tk hx hge hlt hco' _ htab' _ => ?_
    obtain ⟨o1, us, y1, y2, y3, y4, y5, y6, y7, y8, _, _, _, _, _, _, _, _, _, htr, _⟩ := hco'
    exact cont _ h' tk _ hx (Nat.le_trans hge (Nat.le_of_lt hlt)) htab'.2 ⟨_, rfl⟩ htr
  | some cv =>
    refine wpAny_genexprCode_hit hcode (cd.code hPs tro) hf ?_
    exact cont cv s2.heap s2.toks ps (Heap.ExtBut.refl _ _) (Nat.le_refl _) hPs ⟨#[], by simp⟩ tro
end
section
variable {X : Cx} {c P : Addr} {elt tg iter : Expr} {ifs : List Expr} {scope : Scope} {own : List (Str × Nat)} {p pos gpos : Pos} {wi : TI} {g : TG} {tt : TT} {te : TE} {k : Nat}
theorem pe_allG (hN : X.N.Nodup) (hr : Room (k + 1) X.A) (hg : Gl X "all") (hm : X.mg "all" = none) (hb : bootBuiltins "all" = some (.builtin "all")) (TB : LamX.TabB X.base X.mg c P) (hcode : X.env.code = .ref c) (ok : BlkOk X.N X.env.scope scope own) (nocell : ∀ y ∈ scope.names, y.2 ≠ .cell) (hco : scope.isCoroutine = false) (dot : scope.names.lookup (".0" : Str) = some NameKind.local)
    (hi : PI X tg iter wi)
    (pg : ∀ (A : Around) (s : Shared) (H : Hp) (cl : List (Str × Addr)) (C : Addr) (code : Value) (bi : Addr) (fp : List Addr) (pn : List (Addr × Obj)), Room k A → PG (gxCx X A s H (genEnv scope cl C code bi X.env) fp pn) tg g)
    (pt : ∀ (A : Around) (s : Shared) (H : Hp) (cl : List (Str × Addr)) (C : Addr) (code : Value) (bi : Addr) (fp : List Addr) (pn : List (Addr × Obj)), Room k A → PTs (gxCx X A s H (genEnv scope cl C code bi X.env) fp pn) ifs tt)
    (pe : ∀ (A : Around) (s : Shared) (H : Hp) (cl : List (Str × Addr)) (C : Addr) (code : Value) (bi : Addr) (fp : List Addr) (pn : List (Addr × Obj)), Room k A → PE (gxCx X A s H (genEnv scope cl C code bi X.env) fp pn) elt te)
    (hs : ∀ v, genFold iter X.env v = pure v)
    (he : starEach [.GeneratorExp elt [⟨tg, iter, ifs, 0⟩] scope gpos] X.env = (false, eval (.GeneratorExp elt [⟨tg, iter, ifs, 0⟩] scope gpos) X.env) :: starEach [] X.env := by rfl) :
    PE X (.Call (.Name "all" p) [.GeneratorExp elt [⟨tg, iter, ifs, 0⟩] scope gpos] [] pos) (tQuant P wi g tt te (own.map (·.2)) true) := by
  refine ⟨fun pins s σ H Q I h => ?_⟩
  refine wpAny_Call_Name_kw (ld_blt I hg hm hb ?_)
  refine PyProof.Rows.callWith_builtin1 ?_ he (by rfl)
  rw [he]
  show wpAny _ _ (spliced ((false, eval (.GeneratorExp elt [⟨tg, iter, ifs, 0⟩] scope gpos) X.env) :: backTo pos (starEach [] X.env))) _ _ s
  refine Calls.spliced_cons (gx_eval hN hr TB hcode ok nocell hco dot hi pg pt pe hs I h fun a s5 hR => ?_)
  obtain ⟨gi, m, Z, σ0, e1, e2, isG, nl, isG', goes, back⟩ := hR
  refine Calls.spliced_nil ?_
  refine call_function_tree F.kind_all F.plain_all F.entry_all (F.args_all1 _) ?_
  unfold Builtin.«all»
  refine wpAny_bind ?_
  show wpAny _ _ (pure (Value.ref a)) _ _ s5
  refine wpAny_pure (wpAny_bind (wpAny_pyIter_gen isG (wpAny_pure ⟨plainId_quiet F.plain_all_loop _, ?_⟩)))
  rw [← e1, ← e2]
  exact gx_all hr.hd (by have := hr.dp; omega) isG' (fun s' H' o1 o2 o3 o4 q => ⟨.bl true, H', back s' H' o1 o2 o3 o4, rfl, q⟩) (fun s' H' o1 o2 o3 o4 q => ⟨.bl false, H', back s' H' o1 o2 o3 o4, rfl, q⟩) m s5 isG nl goes
theorem pe_anyG (hN : X.N.Nodup) (hr : Room (k + 1) X.A) (hg : Gl X "any") (hm : X.mg "any" = none) (hb : bootBuiltins "any" = some (.builtin "any")) (TB : LamX.TabB X.base X.mg c P) (hcode : X.env.code = .ref c) (ok : BlkOk X.N X.env.scope scope own) (nocell : ∀ y ∈ scope.names, y.2 ≠ .cell) (hco : scope.isCoroutine = false) (dot : scope.names.lookup (".0" : Str) = some NameKind.local)
    (hi : PI X tg iter wi)
    (pg : ∀ (A : Around) (s : Shared) (H : Hp) (cl : List (Str × Addr)) (C : Addr) (code : Value) (bi : Addr) (fp : List Addr) (pn : List (Addr × Obj)), Room k A → PG (gxCx X A s H (genEnv scope cl C code bi X.env) fp pn) tg g)
    (pt : ∀ (A : Around) (s : Shared) (H : Hp) (cl : List (Str × Addr)) (C : Addr) (code : Value) (bi : Addr) (fp : List Addr) (pn : List (Addr × Obj)), Room k A → PTs (gxCx X A s H (genEnv scope cl C code bi X.env) fp pn) ifs tt)
    (pe : ∀ (A : Around) (s : Shared) (H : Hp) (cl : List (Str × Addr)) (C : Addr) (code : Value) (bi : Addr) (fp : List Addr) (pn : List (Addr × Obj)), Room k A → PE (gxCx X A s H (genEnv scope cl C code bi X.env) fp pn) elt te)
    (hs : ∀ v, genFold iter X.env v = pure v)
    (he : starEach [.GeneratorExp elt [⟨tg, iter, ifs, 0⟩] scope gpos] X.env = (false, eval (.GeneratorExp elt [⟨tg, iter, ifs, 0⟩] scope gpos) X.env) :: starEach [] X.env := by rfl) :
    PE X (.Call (.Name "any" p) [.GeneratorExp elt [⟨tg, iter, ifs, 0⟩] scope gpos] [] pos) (tQuant P wi g tt te (own.map (·.2)) false) := by
  refine ⟨fun pins s σ H Q I h => ?_⟩
  refine wpAny_Call_Name_kw (ld_blt I hg hm hb ?_)
  refine PyProof.Rows.callWith_builtin1 ?_ he (by rfl)
  rw [he]
  show wpAny _ _ (spliced ((false, eval (.GeneratorExp elt [⟨tg, iter, ifs, 0⟩] scope gpos) X.env) :: backTo pos (starEach [] X.env))) _ _ s
  refine Calls.spliced_cons (gx_eval hN hr TB hcode ok nocell hco dot hi pg pt pe hs I h fun a s5 hR => ?_)
  obtain ⟨gi, m, Z, σ0, e1, e2, isG, nl, isG', goes, back⟩ := hR
  refine Calls.spliced_nil ?_
  refine call_function_tree F.kind_any F.plain_any F.entry_any (F.args_any1 _) ?_
  unfold Builtin.«any»
  refine wpAny_bind ?_
  show wpAny _ _ (pure (Value.ref a)) _ _ s5
  refine wpAny_pure (wpAny_bind (wpAny_pyIter_gen isG (wpAny_pure ⟨plainId_quiet F.plain_any_loop _, ?_⟩)))
  rw [← e1, ← e2]
  exact gx_any hr.hd (by have := hr.dp; omega) isG' (fun s' H' o1 o2 o3 o4 q => ⟨.bl false, H', back s' H' o1 o2 o3 o4, rfl, q⟩) (fun s' H' o1 o2 o3 o4 q => ⟨.bl true, H', back s' H' o1 o2 o3 o4, rfl, q⟩) m s5 isG nl goes
end
def TabsG (PT : List Addr) (H : Hp) : Prop := ∀ P ∈ PT, GxR.TabG H P
theorem TabsG.same {PT : List Addr} {H H' : Hp} (t : TabsG PT H) (s : Same H H') : TabsG PT H' := fun P hP => by
  obtain ⟨ps, h, ok⟩ := t P hP
  exact ⟨ps, s _ _ h, ok⟩
theorem tabbed_ext {P : Addr} {H H' : Hp} (t : GxR.TabG H P) (b : GxR.Tabbed P H H') : LamX.ExtN H H' := fun c o h n => by
  by_cases e : c = P
  · subst e
    obtain ⟨ps, h', _⟩ := t
    rw [h] at h'
    cases h'
    exact absurd rfl (n ps)
  · rw [b.2 c e]
    exact h
theorem TabsG.tabbed {PT : List Addr} {P : Addr} {H H' : Hp} (t : TabsG PT H) (b : GxR.Tabbed P H H') : TabsG PT H' := fun Q hQ => by
  by_cases e : Q = P
  · rw [e]
    exact b.1
  · obtain ⟨ps, h, ok⟩ := t Q hQ
    exact ⟨ps, by rw [b.2 Q e]; exact h, ok⟩
theorem gx_tup {K : PySem.W.Frag} {a : Addr} {xs : List V} {g : TG} {tt : TT} {te : TE} {vs : List Nat} {σ0 : L2.St} {e : Bool} {Qe Qn : Hp → Prop} {H : Hp} (Pv : Nat → Hp → Prop) (h0 : Pv 0 H) (hl : ∀ i H, i ≤ xs.length → Pv i H → SqT K H a xs)
    (hs : ∀ i x H, xs[i]? = some x → Pv i H → g x σ0 H fun σ2 H2 => wipe σ2 vs = σ0 ∧ tt σ2 H2 fun b H3 => if b = true then te σ2 H3 fun y H4 => ∃ c, y = .bl c ∧ (c = e → Pv (i + 1) H4) ∧ (c ≠ e → Qn H4) else Pv (i + 1) H3) (hd : ∀ H, Pv xs.length H → Qe H) :
    ∃ W : Nat → Nat → Hp → Prop, (∃ m, W 0 m H) ∧ gxTurn (Itt K a) g tt te vs σ0 e Qe Qn W := by
  refine ⟨fun i m H => m = xs.length - i ∧ i ≤ xs.length ∧ Pv i H, ⟨xs.length, by simp, Nat.zero_le _, h0⟩, ?_⟩
  rintro i m H ⟨rfl, hi, p⟩
  have q := hl i H hi p
  by_cases hlt : i < xs.length
  · refine .inr ⟨⟨xs, xs[i], q, by simp [hlt]⟩, Pv (i + 1), fun H' p' => ⟨xs.length - (i + 1), by omega, rfl, hlt, p'⟩, fun x H' y => ?_⟩
    obtain ⟨e, y⟩ := y
    subst e
    exact hs i x _ (y xs q) p
  · have e : i = xs.length := by omega
    subst e
    exact .inl ⟨⟨xs, q, Nat.le_refl _⟩, hd H p⟩
theorem sqT_ext {K : PySem.W.Frag} {H H' : Hp} (e : LamX.ExtN H H') {a : Addr} {xs : List V} (h : SqT K H a xs) : SqT K H' a xs := by
  rcases h with (z | ⟨o, z⟩) | z
  · exact .inl (.inl (e _ _ z fun ps q => by cases q))
  · exact .inl (.inr ⟨o, e _ _ z fun ps q => by cases q⟩)
  · exact .inr z
theorem yesG {σ : L2.St} {H : Hp} {R : Bool → Hp → Prop} (h : R true H) : tYes σ H R := h
theorem all_take {α : Type} {p : α → Bool} {l : List α} {i : Nat} {x : α} (h : l[i]? = some x) : (l.take (i + 1)).all p = ((l.take i).all p && p x) := by
  have hi : i < l.length := by
    obtain ⟨q, _⟩ := List.getElem?_eq_some_iff.mp h
    exact q
  rw [List.take_add_one, h]
  simp [List.all_append]
abbrev rLen (K : PySem.W.Frag) : List V → Hp → VK → Prop := fun xs H Q => ∃ p ys, xs = [.ref p] ∧ (SqL K H p ys ∨ SqT K H p ys) ∧ Q (.int ys.length) H
theorem bulk_mem : ∀ {l : List PyData} {x : PyData}, x ∈ l → x.bulk + 1 ≤ PyData.bulkAll l
  | u :: v, x, h => by
    simp only [PyData.bulkAll]
    rcases List.mem_cons.mp h with rfl | h
    · omega
    · have := bulk_mem h
      omega
def strD : PyData → Bool
  | .str _ => true
  | _ => false
theorem kit_str {K : PySem.W.Frag} (d : PyData) : PySem.W.kitOne K (.type (kindD d)) (.type "str") = some (strD d) := by
  cases d with
  | none => exact kit_ty (show kitB "NoneType" "str" = some false by decide +kernel)
  | bool _ => exact kit_ty (show kitB "bool" "str" = some false by decide +kernel)
  | int _ => exact kit_ty (show kitB "int" "str" = some false by decide +kernel)
  | str _ => exact kit_ty (show kitB "str" "str" = some true by decide +kernel)
  | list _ => exact kit_ty (show kitB "list" "str" = some false by decide +kernel)
  | tuple _ => exact kit_ty (show kitB "tuple" "str" = some false by decide +kernel)
  | dict _ => exact kit_ty (show kitB "dict" "str" = some false by decide +kernel)
theorem pe_globI {X : Cx} {x : Str} {n : Int} {pos : Pos} (hg : Gl X x) (h : ∃ t, X.mg x = some (.int n t)) (hd : (x == ("__debug__" : Str)) = false := by decide) : PE X (.Name x pos) (tC (.int n)) := by
  obtain ⟨t, h⟩ := h
  exact pe_glob hg h ⟨t, rfl⟩ hd
def optV : Option Nat → V
  | none => .non
  | some n => .int n
def sumO (f : PyData → Option Nat) : List PyData → Option Nat
  | [] => some 0
  | x :: r => match f x with
    | none => none
    | some a => match sumO f r with
      | none => none
      | some b => some (a + b)
theorem sumO_none {f : PyData → Option Nat} : ∀ {l : List PyData} {x : PyData}, x ∈ l → f x = none → sumO f l = none
  | y :: r, x, hm, h => by
    rcases List.mem_cons.mp hm with rfl | hm
    · simp only [sumO, h]
    · have ih := sumO_none hm h
      simp only [sumO, ih]
      cases f y <;> rfl
theorem sumO_snoc {f : PyData → Option Nat} : ∀ {l : List PyData} {x : PyData} {s a : Nat}, sumO f l = some s → f x = some a → sumO f (l ++ [x]) = some (s + a)
  | [], x, s, a, h, hx => by
    simp only [sumO, Option.some.injEq] at h
    subst h
    simp [sumO, hx]
  | y :: r, x, s, a, h, hx => by
    simp only [sumO] at h
    cases hy : f y with
    | none => rw [hy] at h; cases h
    | some b =>
      rw [hy] at h
      cases hr : sumO f r with
      | none => rw [hr] at h; cases h
      | some c =>
        rw [hr] at h
        have ih := sumO_snoc hr hx
        simp only [Option.some.injEq] at h
        subst h
        show sumO f (y :: (r ++ [x])) = _
        simp only [sumO, hy, ih]
        congr 1
        omega
theorem sumO_mem {f : PyData → Option Nat} {l : List PyData} {x : PyData} {s : Nat} (h : sumO f l = some s) (hm : x ∈ l) : ∃ a, f x = some a := by
  cases e : f x with
  | none => rw [sumO_none hm e] at h; cases h
  | some a => exact ⟨a, rfl⟩
theorem take_more {α : Type} {l : List α} {i : Nat} {x : α} (h : l[i]? = some x) : l.take (i + 1) = l.take i ++ [x] := by
  rw [List.take_add_one, h]
  rfl
section
variable {P : Program} {w : World} {K : PySem.W.Frag} {mg : Str → Option Value} {base : Heap} {f : Addr} {fd : FuncData}
def spTuple (K : PySem.W.Frag) : Sp := fun vs H Q _ => ∃ (x : V) (d : PyData) (lo hi : Int), vs = [x, .int lo, .int hi] ∧ Dp K H x d ∧ Q (.bl (tupD lo hi d)) H
theorem scTuple : FnScope ["thing", "least", "most"] ["thing", "least", "most"] (defScope sTuple) := ⟨rfl, rfl, rfl, by decide +kernel, rfl, by decide +kernel, by decide +kernel⟩
theorem ok_tuple {k : Nat} (F : Fun K "is_tuple" "is_tuple" sTuple f fd) (T : Free mg) : FnOk P w K mg base CX0 (k + 1) f fd ["thing", "least", "most"] (spTuple K) := by
  refine F.ok scTuple (fun vs H Q E h => ?_) (fun cdv A outer s H vs Q E hr h => ?_)
  · obtain ⟨x, d, lo, hi, rfl, _⟩ := h
    rfl
  obtain ⟨x, d, lo, hi, rfl, hx, q⟩ := h
  refine ⟨_, pss_one (ps_ret (pe_and (pe_callB call_isi rfl T.isi (by decide +kernel) (pa_cons (pv 0) (pa_cons (pe_bltn (v := .ty "tuple") rfl T.tuple (by decide +kernel) rfl) pa_nil)))
    (pe_one (pe_chain op_le op_le (pv 1) (pe_callB call_len_seq rfl T.len PySem.boot_len (pa_cons (pv 0) pa_nil)) (pv 2))))), ?_⟩
  have ht := ty_of hx
  refine ⟨_, rfl, x, _, _, _, _, rfl, .ty "tuple", ht, kit_tuple d, _, rfl, ?_⟩
  cases d with
  | tuple ds =>
    cases hx with
    | tup hs ha =>
      refine ifT rfl ⟨_, rfl, _, rfl, _, _, rfl, .inr hs, _, _, rfl, rfl, _, rfl, ?_⟩
      rw [dpAll_len ha]
      have e : tupD lo hi (.tuple ds) = (decide (lo ≤ (ds.length : Int)) && decide ((ds.length : Int) ≤ hi)) := rfl
      rw [e] at q
      by_cases c : lo ≤ (ds.length : Int)
      · refine ifT (decide_eq_true c) ⟨_, rfl, _, _, rfl, rfl, ?_⟩
        rw [decide_eq_true c, Bool.true_and] at q
        exact q
      · refine ifF (decide_eq_false c) ?_
        rw [decide_eq_false c, Bool.false_and] at q
        exact q
  | int _ => exact ifF rfl q
  | bool b => exact ifF rfl q
  | none => exact ifF rfl q
  | str _ => exact ifF rfl q
  | list _ => exact ifF rfl q
  | dict _ => exact ifF rfl q
end
/-! names -/
def smallB (c : Nat) : Bool := decide (97 ≤ c) && decide (c ≤ 122)
theorem gx_str {x : Str} {g : TG} {tt : TT} {te : TE} {vs : List Nat} {σ0 : L2.St} {e : Bool} {Qe Qn : Hp → Prop} {H : Hp} (Pv : Nat → Hp → Prop) (h0 : Pv 0 H)
    (hs : ∀ i c H, x.cps[i]? = some c → Pv i H → g (.str ⟨#[c]⟩) σ0 H fun σ2 H2 => wipe σ2 vs = σ0 ∧ tt σ2 H2 fun b H3 => if b = true then te σ2 H3 fun y H4 => ∃ c, y = .bl c ∧ (c = e → Pv (i + 1) H4) ∧ (c ≠ e → Qn H4) else Pv (i + 1) H3) (hd : ∀ H, Pv x.cps.size H → Qe H) :
    ∃ W : Nat → Nat → Hp → Prop, (∃ m, W 0 m H) ∧ gxTurn (Its x) g tt te vs σ0 e Qe Qn W := by
  refine ⟨fun i m H => m = x.cps.size - i ∧ i ≤ x.cps.size ∧ Pv i H, ⟨x.cps.size, rfl, Nat.zero_le _, h0⟩, ?_⟩
  rintro i m H ⟨rfl, hi, p⟩
  by_cases hlt : i < x.cps.size
  · refine .inr ⟨hlt, Pv (i + 1), fun H' p' => ⟨x.cps.size - (i + 1), by omega, rfl, hlt, p'⟩, fun v H' y => ?_⟩
    obtain ⟨rfl, c, hc, rfl⟩ := y
    exact hs i c _ hc p
  · have e : i = x.cps.size := by omega
    exact .inl ⟨by show x.cps.size ≤ i; omega, hd H (by rw [← e]; exact p)⟩
def areSmall (x : Str) : Bool := x.cps.toList.all smallB
theorem lt_one (a b : Nat) : decide (([a] : List Nat) < [b]) = decide (a < b) := by
  rw [Bool.eq_iff_iff, decide_eq_true_eq, decide_eq_true_eq]
  constructor
  · intro h
    cases h with
    | rel h => exact h
    | cons h => cases h
  · intro h
    exact List.Lex.rel h
section
open PySem.Spec PyProof.Rows LamX
variable {P : Program} {w : World} {K : PySem.W.Frag} {mg : Str → Option Value} {base : Heap} {f : Addr} {fd : FuncData}
def spSmall (K : PySem.W.Frag) (PT : List Addr) : Sp := fun vs H Q _ => ∃ x : Str, vs = [.str x] ∧ TabsG PT H ∧ ∀ H', ExtN H H' → TabsG PT H' → Q (.bl (areSmall x)) H'
theorem scSmall : FnScope ["text", "sign"] ["text"] (defScope sSmall) := ⟨rfl, rfl, rfl, by decide +kernel, rfl, by decide +kernel, by decide +kernel⟩
theorem ok_small {k : Nat} {c Pc : Addr} {PT : List Addr} (F : Fun K "are_small" "are_small" sSmall f fd) (hc : fd.code = .ref c) (TB : LamX.TabB base mg c Pc) (hPT : Pc ∈ PT) (hA : mg "all" = none) : FnOk P w K mg base CX0 (k + 2) f fd ["text"] (spSmall K PT) := by
  refine okC F hc scSmall (fun vs H Q E h => ?_) (fun A outer s H vs Q E hr h => ?_)
  · obtain ⟨x, rfl, _⟩ := h
    rfl
  obtain ⟨x, rfl, tb, q⟩ := h
  refine ⟨_, pss_one (ps_ret (pe_allG (own := [("sign", 1)]) (wi := iStr (tVar 0)) (g := gName 1) (tt := tYes) (te := tChain (fun x y H Q => ∃ i j, x = .str i ∧ y = .str j ∧ Q (.bl (!decide (j.cps.toList < i.cps.toList))) H) (fun x y H Q => ∃ i j, x = .str i ∧ y = .str j ∧ Q (.bl (!decide (j.cps.toList < i.cps.toList))) H) (tC (.str "a")) (tVar 1) (tC (.str "z"))) scSmall.nd hr rfl hA (by decide +kernel) TB rfl
      (blkOk_by (own := [("sign", 1)]) (N := ["text", "sign"]) (sc := defScope sSmall) (by decide +kernel)) (by decide +kernel) rfl rfl (pi_str (pv 0))
      (fun _ _ _ _ _ _ _ _ _ _ => pg_name (i := 1) scSmall.nd rfl (Or.inl rfl)) (fun _ _ _ _ _ _ _ _ _ _ => pts_nil)
      (fun _ _ _ _ _ _ _ _ _ hr' => pe_chain op_le_str op_le_str pe_str (pv 1) pe_str) (fun _ => rfl))), ?_⟩
  refine ⟨_, rfl, x, rfl, tb Pc hPT, fun H2 b2 => ?_⟩
  have e2 := tabbed_ext (tb Pc hPT) b2
  have t2 := tb.tabbed b2
  refine gx_str (x := x) (fun i G => G = H2 ∧ (x.cps.toList.take i).all smallB = true) ⟨rfl, rfl⟩ (fun i c G hc h => ?_) (fun G h => ?_)
  · obtain ⟨rfl, all⟩ := h
    have hc' : x.cps.toList[i]? = some c := by rw [← hc]; simp
    have no : smallB c = false → Q (.bl false) G := fun z => by
      have r := q G e2 t2
      have e : areSmall x = false := by
        cases y : areSmall x with
        | false => rfl
        | true =>
          have := List.all_eq_true.mp y c (List.mem_of_getElem? hc')
          rw [z] at this
          cases this
      rw [e] at r
      exact r
    refine ⟨rfl, yesG ⟨_, rfl, _, _, rfl, rfl, _, rfl, ?_⟩⟩
    have e1 : (!decide (([c] : List Nat) < [97])) = decide (97 ≤ c) := by rw [lt_one]; by_cases z : 97 ≤ c <;> simp [z] <;> omega
    have e3 : (!decide (([122] : List Nat) < [c])) = decide (c ≤ 122) := by rw [lt_one]; by_cases z : c ≤ 122 <;> simp [z] <;> omega
    show if (!decide (([c] : List Nat) < [97])) = true then _ else _
    rw [e1]
    by_cases c1 : 97 ≤ c
    · refine ifT (decide_eq_true c1) ⟨_, _, rfl, rfl, ?_⟩
      refine ⟨decide (c ≤ 122), congrArg V.bl e3, fun z => ⟨rfl, ?_⟩, fun z => no ?_⟩
      · rw [all_take hc', all]
        unfold smallB
        rw [decide_eq_true c1, z]
        rfl
      · unfold smallB
        rw [decide_eq_true c1, Bool.true_and]
        exact Bool.eq_false_iff.mpr z
    · refine ifF (decide_eq_false c1) ⟨false, rfl, (fun z => by cases z), (fun _ => no ?_)⟩
      unfold smallB
      rw [decide_eq_false c1, Bool.false_and]
  · obtain ⟨rfl, all⟩ := h
    have e : areSmall x = true := by
      rw [show x.cps.size = x.cps.toList.length by simp, List.take_length] at all
      exact all
    have r := q G e2 t2
    rw [e] at r
    exact r
/-! is_number_name -/
structure Cst (mg : Str → Option Value) : Prop where
  mostSigns : ∃ t, mg "MOST_SIGNS" = some (.int 6 t)
  mostInBlock : ∃ t, mg "MOST_IN_BLOCK" = some (.int 12 t)
  mostWithin : ∃ t, mg "MOST_WITHIN" = some (.int 4 t)
  mostStatements : ∃ t, mg "MOST_STATEMENTS" = some (.int 40 t)
  mostChannels : ∃ t, mg "MOST_CHANNELS" = some (.int 6 t)
  mostActors : ∃ t, mg "MOST_ACTORS" = some (.int 4 t)
  places : ∃ t, mg "PLACES" = some (.int 3 t)
  greatest : ∃ t, mg "GREATEST" = some (.int 9999 t)
  fin : ∃ t, mg "END" = some (.int (-1) t)
/-- texts of it are no longer than a line -/
def TxtOk (d : PyData) : Prop := ∀ x, d = .str x → x.length ≤ sizeLine
def numNameD : PyData → Bool
  | .str x => decide (1 ≤ x.length) && decide (x.length ≤ 6) && areSmall x
  | _ => false
def spName (K : PySem.W.Frag) (PT : List Addr) (fn : PyData → Bool) : Sp := fun vs H Q _ => ∃ (x : V) (d : PyData), vs = [x] ∧ Dp K H x d ∧ TxtOk d ∧ TabsG PT H ∧ ∀ H', ExtN H H' → TabsG PT H' → Q (.bl (fn d)) H'
theorem scNumName : FnScope ["thing"] ["thing"] (defScope sNumName) := ⟨rfl, rfl, rfl, by decide +kernel, rfl, by decide +kernel, by decide +kernel⟩
theorem ok_numName {k : Nat} {PT : List Addr} (F : Fun K "is_number_name" "is_number_name" sNumName f fd) (T : Free mg) (hS : mg "str" = none) (C : Cst mg) (cS : Cal P w K mg base "are_small" k ["text"] (spSmall K PT)) : FnOk P w K mg base CX0 (k + 1) f fd ["thing"] (spName K PT numNameD) := by
  refine F.ok scNumName (fun vs H Q E h => ?_) (fun cdv A outer s H vs Q E hr h => ?_)
  · obtain ⟨x, d, rfl, _⟩ := h
    rfl
  obtain ⟨x, d, rfl, hx, ht, tb, q⟩ := h
  refine ⟨_, pss_one (ps_ret (pe_and (pe_callB call_isi rfl T.isi (by decide +kernel) (pa_cons (pv 0) (pa_cons (pe_bltn (v := .ty "str") rfl hS (by decide +kernel) rfl) pa_nil)))
    (pe_and (pe_chain op_le op_le pe_int (pe_callB call_len_str rfl T.len PySem.boot_len (pa_cons (pv 0) pa_nil)) (pe_globI rfl C.mostSigns)) (pe_one (pe_cal cS hr rfl (pa_cons (pv 0) pa_nil)))))), ?_⟩
  refine ⟨_, rfl, x, _, _, _, _, rfl, .ty "str", ty_of hx, kit_str d, _, rfl, ?_⟩
  cases hs : strD d with
  | false =>
    have e : numNameD d = false := by cases d <;> first | rfl | cases hs
    rw [e] at q
    exact ifF rfl (q H (ExtN.refl _) tb)
  | true =>
    obtain ⟨z, rfl⟩ : ∃ z, d = .str z := by cases d <;> first | exact ⟨_, rfl⟩ | cases hs
    have q : ∀ H', ExtN H H' → TabsG PT H' → Q (.bl (decide (1 ≤ z.length) && decide (z.length ≤ 6) && areSmall z)) H' := q
    cases hx
    refine ifT rfl ⟨_, rfl, z, rfl, ht z rfl, _, _, rfl, rfl, _, rfl, ?_⟩
    by_cases c1 : 1 ≤ z.length
    · refine ifT (decide_eq_true (by omega)) ⟨_, _, rfl, rfl, _, rfl, ?_⟩
      by_cases c2 : z.length ≤ 6
      · refine ifT (decide_eq_true (by omega)) ⟨_, rfl, z, rfl, tb, fun H' e t => ?_⟩
        have r := q H' e t
        rw [decide_eq_true c1, decide_eq_true c2] at r
        exact r
      · refine ifF (decide_eq_false (by omega)) ?_
        have r := q H (ExtN.refl _) tb
        rw [decide_eq_false c2, Bool.and_false, Bool.false_and] at r
        exact r
    · refine ifF (decide_eq_false (by omega)) ⟨_, rfl, ifF rfl ?_⟩
      have r := q H (ExtN.refl _) tb
      rw [decide_eq_false c1, Bool.false_and, Bool.false_and] at r
      exact r
/-! is_graph_name -/
def bigB (c : Nat) : Bool := decide (65 ≤ c) && decide (c ≤ 90)
def graphNameD : PyData → Bool
  | .str x => decide (1 ≤ x.length) && decide (x.length ≤ 6) && (bigB (x.cps.toList.headD 0) && areSmall (cutS x (some 1) none))
  | _ => false
theorem scGraphName : FnScope ["thing"] ["thing"] (defScope sGraphName) := ⟨rfl, rfl, rfl, by decide +kernel, rfl, by decide +kernel, by decide +kernel⟩
theorem ok_graphName {k : Nat} {PT : List Addr} (F : Fun K "is_graph_name" "is_graph_name" sGraphName f fd) (T : Free mg) (hS : mg "str" = none) (C : Cst mg) (cS : Cal P w K mg base "are_small" k ["text"] (spSmall K PT)) : FnOk P w K mg base CX0 (k + 1) f fd ["thing"] (spName K PT graphNameD) := by
  refine F.ok scGraphName (fun vs H Q E h => ?_) (fun cdv A outer s H vs Q E hr h => ?_)
  · obtain ⟨x, d, rfl, _⟩ := h
    rfl
  obtain ⟨x, d, rfl, hx, ht, tb, q⟩ := h
  refine ⟨_, pss_cons (ps_if (PW.pt (pw_or (pt_not (pt_val (pe_callB call_isi rfl T.isi (by decide +kernel) (pa_cons (pv 0) (pa_cons (pe_bltn (v := .ty "str") rfl hS (by decide +kernel) rfl) pa_nil))))) (pw_or1 (pt_not (pt_chain op_le op_le pe_int (pe_callB call_len_str rfl T.len PySem.boot_len (pa_cons (pv 0) pa_nil)) (pe_globI rfl C.mostSigns)))))) (pss_one (ps_ret pe_bl)) pss_nil)
    (pss_one (ps_ret (pe_and (pe_chain op_le_str op_le_str pe_str (pe_ix ix_str (pv 0) pe_int (fun _ _ => rfl)) pe_str) (pe_one (pe_cal cS hr rfl (pa_cons (pe_slice sl_str (pv 0) (po_some pe_int) po_none) pa_nil)))))), ?_⟩
  have q0 : graphNameD d = false → Q (.bl false) H := fun e => by
    have r := q H (ExtN.refl _) tb
    rw [e] at r
    exact r
  refine ⟨_, rfl, x, _, _, _, _, rfl, .ty "str", ty_of hx, kit_str d, _, rfl, ?_⟩
  cases hs : strD d with
  | false => exact ifT rfl (ifT rfl (q0 (by cases d <;> first | rfl | cases hs)))
  | true =>
    obtain ⟨z, rfl⟩ : ∃ z, d = .str z := by cases d <;> first | exact ⟨_, rfl⟩ | cases hs
    have q : ∀ H', ExtN H H' → TabsG PT H' → Q (.bl (decide (1 ≤ z.length) && decide (z.length ≤ 6) && (bigB (z.cps.toList.headD 0) && areSmall (cutS z (some 1) none)))) H' := q
    have q0 : (decide (1 ≤ z.length) && decide (z.length ≤ 6) && (bigB (z.cps.toList.headD 0) && areSmall (cutS z (some 1) none))) = false → Q (.bl false) H := q0
    cases hx
    refine ifF rfl ⟨_, rfl, z, rfl, ht z rfl, _, _, rfl, rfl, _, rfl, ?_⟩
    by_cases c1 : 1 ≤ z.length
    · refine ifT (decide_eq_true (by omega)) ⟨_, _, rfl, rfl, _, rfl, ?_⟩
      by_cases c2 : z.length ≤ 6
      · rw [decide_eq_true c1, decide_eq_true c2] at q q0
        refine ifF (by rw [decide_eq_true (show (z.length : Int) ≤ 6 by omega)]; rfl) ?_
        have l0 : 0 < z.cps.toList.length := by
          have : z.cps.toList.length = z.length := by simp [Str.length]
          omega
        obtain ⟨c, r, e⟩ : ∃ c r, z.cps.toList = c :: r := by
          cases h : z.cps.toList with
          | nil => rw [h] at l0; cases l0
          | cons c r => exact ⟨c, r, rfl⟩
        rw [e] at q q0
        have e1 : (!decide (([c] : List Nat) < [65])) = decide (65 ≤ c) := by rw [lt_one]; by_cases z : 65 ≤ c <;> simp [z] <;> omega
        have e3 : (!decide (([90] : List Nat) < [c])) = decide (c ≤ 90) := by rw [lt_one]; by_cases z : c ≤ 90 <;> simp [z] <;> omega
        refine ⟨_, rfl, z, 0, c, rfl, rfl, ht z rfl, by rw [e]; exact atI_at (by decide) rfl, _, _, rfl, rfl, _, rfl, ?_⟩
        show if (!decide (([c] : List Nat) < [65])) = true then _ else _
        rw [e1]
        by_cases c3 : 65 ≤ c
        · refine ifT (decide_eq_true c3) ⟨_, _, rfl, rfl, decide (c ≤ 90), congrArg V.bl e3, ?_⟩
          by_cases c4 : c ≤ 90
          · have hb : bigB ((c :: r).headD 0) = true := by
              show (decide (65 ≤ c) && decide (c ≤ 90)) = true
              rw [decide_eq_true c3, decide_eq_true c4]; rfl
            rw [hb] at q
            exact ifT (decide_eq_true c4) ⟨_, rfl, _, rfl, z, rfl, ht z rfl, _, rfl, tb, fun H' e t => q H' e t⟩
          · refine ifF (decide_eq_false c4) (q0 ?_)
            show (true && true && ((decide (65 ≤ c) && decide (c ≤ 90)) && _)) = false
            rw [decide_eq_false c4, Bool.and_false, Bool.false_and, Bool.and_false]
        · refine ifF (decide_eq_false c3) ⟨false, rfl, ifF rfl (q0 ?_)⟩
          show (true && true && ((decide (65 ≤ c) && decide (c ≤ 90)) && _)) = false
          rw [decide_eq_false c3, Bool.false_and, Bool.false_and, Bool.and_false]
      · refine ifT (by rw [decide_eq_false (show ¬ (z.length : Int) ≤ 6 by omega)]; rfl) (q0 ?_)
        rw [decide_eq_false c2, Bool.and_false, Bool.false_and]
    · refine ifF (decide_eq_false (by omega)) ⟨_, rfl, ifT rfl (q0 ?_)⟩
      rw [decide_eq_false c1, Bool.false_and, Bool.false_and]
end
/-! word_of, is_number, is_place -/
def wordD : PyData → Str
  | .tuple (.str x :: _) => x
  | _ => ""
section
variable {P : Program} {w : World} {K : PySem.W.Frag} {mg : Str → Option Value} {base : Heap} {f : Addr} {fd : FuncData}
def spWordOf (K : PySem.W.Frag) : Sp := fun vs H Q _ => ∃ (x : V) (d : PyData), vs = [x] ∧ Dp K H x d ∧ Q (.str (wordD d)) H
theorem scWordOf : FnScope ["thing"] ["thing"] (defScope sWordOf) := ⟨rfl, rfl, rfl, by decide +kernel, rfl, by decide +kernel, by decide +kernel⟩
theorem ok_wordOf {k : Nat} (F : Fun K "word_of" "word_of" sWordOf f fd) (T : Free mg) (hS : mg "str" = none) : FnOk P w K mg base CX0 (k + 1) f fd ["thing"] (spWordOf K) := by
  refine F.ok scWordOf (fun vs H Q E h => ?_) (fun cdv A outer s H vs Q E hr h => ?_)
  · obtain ⟨x, d, rfl, _⟩ := h
    rfl
  obtain ⟨x, d, rfl, hx, q⟩ := h
  refine ⟨_, pss_cons (ps_if (PW.pt (pw_and (pt_val (pe_callB call_isi rfl T.isi (by decide +kernel) (pa_cons (pv 0) (pa_cons (pe_bltn (v := .ty "tuple") rfl T.tuple (by decide +kernel) rfl) pa_nil)))) (pw_and (pt_cmpR op_gt (pe_callB call_len_seq rfl T.len PySem.boot_len (pa_cons (pv 0) pa_nil)) pe_int (nomark _)) (pw_and1 (pt_val (pe_callB call_isi rfl T.isi (by decide +kernel) (pa_cons (pe_ix ix_tup (pv 0) pe_int (fun _ _ => rfl)) (pa_cons (pe_bltn (v := .ty "str") rfl hS (by decide +kernel) rfl) pa_nil))))))))
      (pss_one (ps_ret (pe_ix ix_tup (pv 0) pe_int (fun _ _ => rfl)))) pss_nil)
    (pss_one (ps_ret pe_str)), ?_⟩
  refine ⟨_, rfl, x, _, _, _, _, rfl, .ty "tuple", ty_of hx, kit_tuple d, _, rfl, ?_⟩
  cases ht : tupleD d with
  | false =>
    have e : wordD d = "" := by cases d <;> first | rfl | cases ht
    rw [e] at q
    exact ifF rfl (ifF rfl q)
  | true =>
    obtain ⟨es, rfl⟩ : ∃ es, d = .tuple es := by cases d <;> first | exact ⟨_, rfl⟩ | cases ht
    cases hx with
    | @tup a xs _ at_ each =>
      refine ifT rfl ⟨_, rfl, a, xs, rfl, .inr at_, _, _, rfl, rfl, _, rfl, ?_⟩
      cases each with
      | nil => exact ifF rfl (ifF rfl q)
      | @cons y ys e es h1 h2 =>
        refine ifT (decide_eq_true (by show (0 : Int) < ((y :: ys).length : Nat); rw [List.length_cons]; omega)) ⟨_, rfl, a, y :: ys, 0, y, rfl, rfl, at_, atI_at (by decide) rfl, y, _, _, _, _, rfl, .ty "str", ty_of h1, kit_str e, _, rfl, ?_⟩
        cases hs : strD e with
        | false =>
          have e' : wordD (.tuple (e :: es)) = "" := by cases e <;> first | rfl | cases hs
          rw [e'] at q
          exact ifF rfl q
        | true =>
          obtain ⟨z, rfl⟩ : ∃ z, e = .str z := by cases e <;> first | exact ⟨_, rfl⟩ | cases hs
          cases h1
          exact ifT rfl ⟨_, rfl, a, _, 0, _, rfl, rfl, at_, atI_at (by decide) rfl, q⟩
def spNumber (K : PySem.W.Frag) : Sp := fun vs H Q _ => ∃ (x : V) (d : PyData), vs = [x] ∧ Dp K H x d ∧ Q (.bl (withinD (-9999) 9999 d)) H
theorem scNumber : FnScope ["thing"] ["thing"] (defScope sNumber) := ⟨rfl, rfl, rfl, by decide +kernel, rfl, by decide +kernel, by decide +kernel⟩
theorem ok_number {k : Nat} (F : Fun K "is_number" "is_number" sNumber f fd) (C : Cst mg) (cW : Cal P w K mg base "is_within" k ["thing", "least", "most"] (spWithin K)) : FnOk P w K mg base CX0 (k + 1) f fd ["thing"] (spNumber K) := by
  refine F.ok scNumber (fun vs H Q E h => ?_) (fun cdv A outer s H vs Q E hr h => ?_)
  · obtain ⟨x, d, rfl, _⟩ := h
    rfl
  obtain ⟨x, d, rfl, hx, q⟩ := h
  refine ⟨_, pss_one (ps_ret (pe_cal cW hr rfl (pa_cons (pv 0) (pa_cons (pe_un un_neg (pe_globI rfl C.greatest)) (pa_cons (pe_globI rfl C.greatest) pa_nil))))), ?_⟩
  exact ⟨_, rfl, _, rfl, x, d, -9999, 9999, rfl, hx, q⟩
def spPlaceD (K : PySem.W.Frag) : Sp := fun vs H Q _ => ∃ (x : V) (d : PyData), vs = [x] ∧ Dp K H x d ∧ Q (.bl (withinD 0 2 d)) H
theorem scPlace : FnScope ["thing"] ["thing"] (defScope sPlace) := ⟨rfl, rfl, rfl, by decide +kernel, rfl, by decide +kernel, by decide +kernel⟩
theorem ok_placeD {k : Nat} (F : Fun K "is_place" "is_place" sPlace f fd) (C : Cst mg) (cW : Cal P w K mg base "is_within" k ["thing", "least", "most"] (spWithin K)) : FnOk P w K mg base CX0 (k + 1) f fd ["thing"] (spPlaceD K) := by
  refine F.ok scPlace (fun vs H Q E h => ?_) (fun cdv A outer s H vs Q E hr h => ?_)
  · obtain ⟨x, d, rfl, _⟩ := h
    rfl
  obtain ⟨x, d, rfl, hx, q⟩ := h
  refine ⟨_, pss_one (ps_ret (pe_cal cW hr rfl (pa_cons (pv 0) (pa_cons pe_int (pa_cons (pe_op op_sub (pe_globI rfl C.places) pe_int) pa_nil))))), ?_⟩
  exact ⟨_, rfl, _, _, rfl, rfl, x, d, 0, 2, rfl, hx, q⟩
end
/-! tuple(.. for ..), whatever is walked; the items go to the list at D -/
section
open PySem.Spec PyProof.Rows
def GtE (Z : Cx) (σ0 : L2.St) (Qe : Hp → Prop) : Nat → Shared → Shared → Prop := fun _ _ s1 => ∃ H, Inv Z [] σ0 H s1 ∧ Qe H
def GtY (Z : Cx) (D : Addr) : Protocol := fun _ _ v s kap => ∃ (y : V) (xs : List V) (H : Hp) (σ' : L2.St), RelV y v ∧ Inv Z [] σ' H s ∧ H D = some (.lst xs) ∧ xs.length < sizeLine ∧ ∀ s' : Shared, (∀ b o, b ≠ D → s.heap.get? b = some o → s'.heap.get? b = some o) → Inv Z [] σ' (upd H D (.lst (xs ++ [y]))) s' → kap (.send .none) s'
abbrev gtTurn (J : It) (g : TG) (tt : TT) (te : TE) (vs : List Nat) (σ0 : L2.St) (D : Addr) (Qe : Hp → Prop) (W : Nat → Nat → Hp → Prop) : Prop :=
  ∀ i m H, W i m H → (J.stop i H ∧ Qe H) ∨ (J.go i H ∧ ∃ Nx : Hp → Prop, (∀ H', Nx H' → ∃ m', m' < m ∧ W (i + 1) m' H') ∧ ∀ x H', J.yld i H x H' → g x σ0 H' fun σ2 H2 => wipe σ2 vs = σ0 ∧ tt σ2 H2 fun b H3 =>
    if b = true then te σ2 H3 fun y H4 => ∃ acc, H4 D = some (.lst acc) ∧ acc.length < sizeLine ∧ Nx (upd H4 D (.lst (acc ++ [y]))) else Nx H3)
section
variable {X : Cx} {A0 : Around} {s1 : Shared} {H1 : Hp} {ce : Env} {fp : List Addr} {pn : List (Addr × Obj)} {elt tg iter : Expr} {ifs : List Expr} {scope : Scope} {gpos : Pos} {it : Addr} {tn : Nat → Heap → Prop} {J : It} {g : TG} {tt : TT} {te : TE} {vs : List Nat} {σ0 : L2.St} {D : Addr} {Qe : Hp → Prop} {W : Nat → Nat → Hp → Prop}
theorem seg_gt {Z : Cx} (hZ : Z = gxZ X A0 s1 H1 ce fp pn elt tg iter ifs scope gpos it) (hpn : ∀ p ∈ pn, p.1 ∉ fp) (hco : ce.scope.isCoroutine = false) (T : Turn X.prog X.w X.K tg J fp it tn) (pg : PG Z tg g) (pt : PTs Z ifs tt) (pe : PE Z elt te) (turn : gtTurn J g tt te vs σ0 D Qe W) :
    ∀ (m i n : Nat) (s₀ s : Shared) (H : Hp), m < n → W i m H → Inv Z [] σ0 H s → tn i s.heap → (∀ b ∈ fp, H b = none) →
      Seg (model X.prog X.w) A0 (fun n s₀ r s1 => r = .ok .next ∧ GtE Z σ0 Qe n s₀ s1) (GtY Z D) n s₀ (gxCode elt tg iter ifs scope gpos it ce) ((model X.prog X.w).den (gxCode elt tg iter ifs scope gpos it ce)) [] s := by
  intro m
  induction m using Nat.strongRecOn with
  | ind m ih =>
    intro i n s₀ s H hmn w0 I st nf
    have fpo := gx_fp hZ hpn I nf
    show Seg _ A0 _ _ _ s₀ _ ((compTurn (.GeneratorExp elt [⟨tg, iter, ifs, 0⟩] scope gpos) 0 (.ref it) .none ce).onRaise (leaving ce)) [] s
    rw [compTurn_gen, Sem.onRaise_eq_wrap]
    refine seg_bind_wrap (wpAny_standAt ?_)
    rcases turn i m H w0 with ⟨stop, qe⟩ | ⟨go, Nx, hNx, step⟩
    · have td := T.done Z (by rw [hZ]; rfl) (by rw [hZ]; rfl) (by rw [hZ]; rfl) (by rw [hZ]; rfl) i [] s σ0 H (fun _ _ => False) I fpo st stop
      have hA : Z.A = A0.over (gxCode elt tg iter ifs scope gpos it ce) [] := by rw [hZ]; rfl
      rw [hA] at td
      refine seg_bind_wrap (wpAny_mono td (fun r s2 hr => ?_) fun _ _ z => z.elim)
      obtain ⟨rfl, I2⟩ := hr
      exact seg_end (.ok .next) ⟨rfl, H, I2, qe⟩
    · have hA : Z.A = A0.over (gxCode elt tg iter ifs scope gpos it ce) [] := by rw [hZ]; rfl
      have hE : Z.env = ce := by rw [hZ]; rfl
      have hPr : Z.prog = X.prog := by rw [hZ]; rfl
      have hWd : Z.w = X.w := by rw [hZ]; rfl
      have hXe : Z.xe = fun _ _ => False := by rw [hZ]; rfl
      have ti := T.item Z hPr hWd (by rw [hZ]; rfl) (by rw [hZ]; rfl) i [] s σ0 H (fun _ _ => False) I fpo st go
      rw [hA] at ti
      refine seg_bind_wrap (wpAny_mono ti (fun r s2 hr => ?_) fun _ _ z => z.elim)
      obtain ⟨u, rfl, ti⟩ := hr
      refine seg_bind_wrap (wpAny_mono ti (fun _ s7 h7 => ?_) fun _ _ z => z.elim)
      obtain ⟨x, H7, I7, r7, y7, st7, n7⟩ := h7
      have I7' := I7.pinned (gx_fp hZ hpn I7 n7) (T.obj _ _ st7)
      have ta := pg.run _ s7 _ H7 x u _ I7' r7 (step x H7 y7)
      rw [hPr, hWd, hA, hE, hXe] at ta
      refine seg_bind_wrap (wpAny_mono ta (fun _ s8 h8 => ?_) fun _ _ z => z.elim)
      obtain ⟨σ8, H8, I8, hw8, q8⟩ := h8
      have tt' := pt.run _ s8 σ8 H8 _ I8 q8
      rw [hPr, hWd, hA, hE, hXe] at tt'
      refine seg_bind_wrap (wpAny_mono tt' (fun b s9 h9 => ?_) fun _ _ z => z.elim)
      obtain ⟨H9, I9, q9⟩ := h9
      -- what stands at the next turn
      have next : ∀ {sn s' : Shared} {H' : Hp}, Inv Z ([] ++ pinsAt fp s7.heap) σ8 H' sn → s'.heap = sn.heap → s'.os = sn.os → AllBare s'.gens → Inv Z [] σ0 H' s' ∧ tn (i + 1) s'.heap ∧ ∀ b ∈ fp, H' b = none := fun {sn s' H'} I' e1 e2 e3 => by
        have pin' : ∀ b ∈ fp, ∀ o, s7.heap.get? b = some o → sn.heap.get? b = some o ∧ H' b = none := fun b hb o eo =>
          let z := I'.pin (b, o) (List.mem_append_right _ (List.mem_append_right _ (mem_pinsAt hb eo)))
          ⟨z.1, z.2.1⟩
        have hl : σ0.length = σ8.length := by rw [← hw8, wipe_length]
        have I'' : Inv Z [] σ0 H' sn := (I'.unpinned (pins := [])).weak hl fun j v ev => by
          rw [← hw8] at ev
          exact (wipe_some ev).1
        refine ⟨inv_sh I'' e1 e2 e3, ?_, fun b hb => ?_⟩
        · rw [e1]
          exact T.keep _ _ _ st7 fun b hb o eo => (pin' b hb o eo).1
        · obtain ⟨o, eo, _⟩ := T.obj _ _ st7 b hb
          exact (pin' b hb o eo).2
      cases b with
      | false =>
        simp only [Bool.false_eq_true, if_false] at q9 ⊢
        obtain ⟨m', hm, w'⟩ := hNx _ q9
        obtain ⟨J1, J2, J3⟩ := next I9 rfl rfl I9.bare
        exact seg_again rfl (ih m' hm (i + 1) n s₀ s9 H9 (by omega) w' J1 J2 J3)
      | true =>
        simp only [if_true] at q9 ⊢
        have out : ∀ v, yieldOut ce v = yieldValue v := fun v => by simp only [yieldOut, hco, Bool.false_eq_true, if_false]
        simp only [out]
        rw [Sem.bind_eq_wrap', Sem.bind_eq_wrap']; rw [Sem.wrap_wrap, Sem.wrap_wrap]
        have tel := pe.run _ s9 σ8 H9 _ I9 q9
        rw [hPr, hWd, hA, hE, hXe] at tel
        refine seg_wrap (wpAny_mono tel (fun y s10 h10 => ?_) fun _ _ z => z.elim)
        obtain ⟨yv, H10, I10, r10, acc, hD, hz, nx⟩ := h10
        obtain ⟨n', rfl⟩ : ∃ n', n = n' + 1 := ⟨n - 1, by omega⟩
        refine seg_at (seg_yield rfl rfl rfl ⟨yv, acc, H10, σ8, r10, I10.unpinned, hD, hz, fun s' e1 I' => ?_⟩)
        obtain ⟨m', hm, w'⟩ := hNx _ nx
        have pin' : ∀ b ∈ fp, ∀ o, s7.heap.get? b = some o → b ≠ D ∧ s'.heap.get? b = some o ∧ H10 b = none := fun b hb o eo => by
          have z := I10.pin (b, o) (List.mem_append_right _ (List.mem_append_right _ (mem_pinsAt hb eo)))
          have nb : b ≠ D := fun q => by
            have := z.2.1
            rw [show (b, o).1 = D from q, hD] at this
            cases this
          exact ⟨nb, e1 b o nb z.1, z.2.1⟩
        have hl : σ0.length = σ8.length := by rw [← hw8, wipe_length]
        have J1 : Inv Z [] σ0 (upd H10 D (.lst (acc ++ [yv]))) s' := I'.weak hl fun j v ev => by
          rw [← hw8] at ev
          exact (wipe_some ev).1
        refine seg_again rfl (ih m' hm (i + 1) n' s' s' _ (by omega) w' J1 (T.keep _ _ _ st7 fun b hb o eo => (pin' b hb o eo).2.1) fun b hb => ?_)
        obtain ⟨o, eo, _⟩ := T.obj _ _ st7 b hb
        rw [upd_ne (pin' b hb o eo).1]
        exact (pin' b hb o eo).2.2
theorem seg_gt0 {Z : Cx} (hZ : Z = gxZ X A0 s1 H1 ce fp pn elt tg iter ifs scope gpos it) (hpn : ∀ p ∈ pn, p.1 ∉ fp) (hco : ce.scope.isCoroutine = false) (T : Turn X.prog X.w X.K tg J fp it tn) (pg : PG Z tg g) (pt : PTs Z ifs tt) (pe : PE Z elt te) (turn : gtTurn J g tt te vs σ0 D Qe W)
    {m n : Nat} {s₀ s : Shared} {H : Hp} (hmn : m < n) (w0 : W 0 m H) (I : Inv Z [] σ0 H s) (st : tn 0 s.heap) (nf : ∀ b ∈ fp, H b = none) :
    Seg (model X.prog X.w) A0 (fun n s₀ r s1 => r = .ok .next ∧ GtE Z σ0 Qe n s₀ s1) (GtY Z D) n s₀ (.compStart (.GeneratorExp elt [⟨tg, iter, ifs, 0⟩] scope gpos) 0 (.ref it) .none ce) ((model X.prog X.w).den (.compStart (.GeneratorExp elt [⟨tg, iter, ifs, 0⟩] scope gpos) 0 (.ref it) .none ce)) [] s := by
  have loop := seg_gt hZ hpn hco T pg pt pe turn m 0 n s₀ s H hmn w0 I st nf
  show Seg _ A0 _ _ _ s₀ _ ((compStart (.GeneratorExp elt [⟨tg, iter, ifs, 0⟩] scope gpos) 0 (.ref it) .none ce).onRaise (leaving ce)) [] s
  unfold compStart
  rw [Sem.onRaise_eq_wrap]
  show Seg _ A0 _ _ _ s₀ _ ((ask >>= _).wrap _ _ _ _) [] s
  refine seg_bind_wrap (wpAny_askSetting ?_)
  split
  · exact seg_again rfl loop
  · refine seg_bind_wrap (wpAny_rule ?_)
    show Seg _ A0 _ _ _ s₀ _ ((standAt iter.pos >>= _).wrap _ _ _ _) [] s
    exact seg_bind_wrap (wpAny_standAt (seg_bind_wrap (T.self _ 0 s _ _ st (seg_again rfl loop))))
end
/-- list.extend.loop over it -/
theorem gt_loop {Z : Cx} {A : Around} {a D : Addr} {g : Nat} {σ0 : L2.St} {Qe : Hp → Prop} {res : Value} {R : Result → Shared → Prop} (hh : A.handled = none) (hd : A.depth < recursionLimit) (isG : ∀ {σ' : L2.St} {H' : Hp} {s' : Shared}, Inv Z [] σ' H' s' → s'.heap.IsGen a g)
    (hE : ∀ (s' : Shared) (H' : Hp), s'.os = Z.s_0.os → AllBare s'.gens → Un Z.fs Z.ex Z.H_0 H' Z.s_0.heap s'.heap → HOk Z.prog Z.w H' s'.heap → Qe H' → R (.ok (.ret res)) s') :
    ∀ (m : Nat) (s : Shared), s.heap.IsGen a g → s.heap.NoLimit → (∃ gs, s.gens[g]? = some gs ∧ gs.Goes (model Z.prog Z.w) A.in1.in1 (fun n s₀ r s1 => r = .ok .next ∧ GtE Z σ0 Qe n s₀ s1) (GtY Z D) m (.send .none) (s.setGen g .running)) →
      codeAny (model Z.prog Z.w) A (.builtin "list.extend.loop" ⟨[.ref D, .ref a, res], []⟩) R s := by
  intro m
  induction m with
  | zero =>
    intro s hg hl ⟨gs, hgs, goes⟩
    refine codeAny_builtin F.entry_extend_loop ?_
    rw [Around.under_plainId F.plain_extend_loop _]
    show wpAny _ A.in1 (pyNext (.ref a) >>= _) _ _ s
    refine wpAny_bind (wpAny_pyNext_genexpQ (A := A.in1) hh hl hd hg hgs goes (fun v s1 gs' hbare hv => ?_) (fun s1 hp h' hk => ?_))
    · obtain ⟨y, xs, H', σ', ry, I, hD, hz, more⟩ := hv
      obtain ⟨_, its, n, rv, _, e⟩ := I.lstM hD
      refine False.elim (more _ ?_ (I.lset (t' := s1.toks) (f := (·.push v)) (its' := its ++ [v]) hD e (by simp) (rv.append (.cons ry .nil)) (by rw [List.length_append, List.length_singleton]; omega)))
      exact fun b o hb q => (Heap.get?_update_other _ _ (Ne.symm hb)).trans q
    · obtain ⟨H', I, q⟩ := hp
      exact wpAny_pure (hE _ H' I.os (allBare_setGen I.bare rfl) (un_kept I.base hk) (I.hok.kept hk) q)
  | succ m ih =>
    intro s hg hl ⟨gs, hgs, goes⟩
    have hgl : g < s.gens.size := (Array.getElem?_eq_some_iff.mp hgs).1
    refine codeAny_builtin F.entry_extend_loop ?_
    rw [Around.under_plainId F.plain_extend_loop _]
    show wpAny _ A.in1 (pyNext (.ref a) >>= _) _ _ s
    refine wpAny_bind (GenW.wpAny_gsz (n := g + 1) hgl (wpAny_pyNext_genexpQ (A := A.in1) hh hl hd hg hgs goes (fun v s1 gs' hbare hv => ?_) (fun s1 hp h' hk => ?_)))
    · intro hsz
      obtain ⟨y, xs, H', σ', ry, I, hD, hz, more⟩ := hv
      obtain ⟨_, its, n, rv, hlen, e⟩ := I.lstM hD
      have b1 := allBare_setGen (g := g) I.bare hbare
      have I2 := I.lset (t' := s1.toks) (f := (·.push v)) (its' := its ++ [v]) hD e (by simp) (rv.append (.cons ry .nil)) (by rw [List.length_append, List.length_singleton]; omega)
      show wpAny _ A.in1 (updateSeq D (·.push v) >>= _) _ _ _
      refine wpAny_bind ?_
      refine wpAny_updateSeq e rfl (wpAny_pure ⟨plainId_quiet F.plain_extend_loop _, ?_⟩) (by rw [List.size_toArray]; omega) (by show (its.toArray.push v).size ≤ sizeLine + 1; rw [Array.size_push, List.size_toArray]; omega)
      have hsz1 : g < s1.gens.size := by
        have q : (s1.setGen g gs').gens.size = s1.gens.size := GenW.setGen_size _ _ _
        have hsz' : g + 1 ≤ (s1.setGen g gs').gens.size := hsz
        omega
      have g2 := isG I2
      have n2 := I2.nolimit
      refine ih { s1.setGen g gs' with heap := s1.heap.update D (Obj.mapSeq (·.push v)) } g2 n2 ⟨gs', setGen_at hsz1, ?_⟩
      exact more _ (fun b o hb q => (Heap.get?_update_other _ _ (Ne.symm hb)).trans q) (inv_sh I2 rfl rfl (allBare_setGen (s := { s1.setGen g gs' with heap := s1.heap.update D (Obj.mapSeq (·.push v)) }) b1 rfl))
    · intro hsz
      obtain ⟨H', I, q⟩ := hp
      exact wpAny_pure (hE _ H' I.os (allBare_setGen I.bare rfl) (un_kept I.base hk) (I.hok.kept hk) q)
abbrev gtEnd (D : Addr) (Q : VK) : Hp → Prop := fun H => ∃ acc, H D = some (.lst acc) ∧ ∀ p, H p = none → Q (.ref p) (upd H p (.tup acc))
/-- the generator stands ready to be walked -/
def GtReady (X : Cx) (B : Around) (pins : List (Addr × Obj)) (σ : L2.St) (Q : VK) (a : Addr) (s5 : Shared) : Prop :=
  ∃ (g : Nat) (Z : Cx) (σ0 : L2.St) (H4 : Hp) (gs : GenState), Z.prog = X.prog ∧ Z.w = X.w ∧ s5.heap.IsGen a g ∧ s5.gens[g]? = some gs ∧ Inv Z [] σ0 H4 s5 ∧ (∀ {σ' : L2.St} {H' : Hp} {s' : Shared}, Inv Z [] σ' H' s' → s'.heap.IsGen a g) ∧
    (∀ D, H4 D = none → ∃ m, ∀ s', Inv Z [] σ0 (upd H4 D (.lst [])) s' → (∀ b o, s5.heap.get? b = some o → s'.heap.get? b = some o) → D ≥ s5.heap.objs.size →
      gs.Goes (model Z.prog Z.w) B (fun n s₀ r s1 => r = .ok .next ∧ GtE Z σ0 (gtEnd D Q) n s₀ s1) (GtY Z D) m (.send .none) s') ∧
    ∀ (s' : Shared) (H' : Hp), s'.os = Z.s_0.os → AllBare s'.gens → Un Z.fs Z.ex Z.H_0 H' Z.s_0.heap s'.heap → HOk Z.prog Z.w H' s'.heap → Inv X pins σ H' s'
theorem gt_room {A : Around} {k : Nat} {elt tg iter : Expr} {ifs : List Expr} {scope : Scope} {gpos : Pos} {it : Addr} {ce : Env} (r : Room (k + 1) A) : Room k (A.in1.in1.in1.in1.over (gxCode elt tg iter ifs scope gpos it ce) []) :=
  ⟨r.hd, by have := r.dp; show A.depth + 1 + 3 * k + 5 < _; omega, by have := r.un; show A.units + 1 + 1 + 1 + 1 + 3 + 16 * k + 200 < _; omega⟩
theorem gt_frames {A : Around} {st : List Env} {elt tg iter : Expr} {ifs : List Expr} {scope : Scope} {gpos : Pos} {it : Addr} {ce : Env} (h : A.frames = some st) : (A.in1.in1.in1.in1.over (gxCode elt tg iter ifs scope gpos it ce) []).frames = some (ce :: st) := by
  obtain ⟨hd, d, fr, gs, u⟩ := A
  obtain rfl : fr = some st := h
  rfl
abbrev tTupG (P : Addr) (wi : TI) (g : TG) (tt : TT) (te : TE) (vs : List Nat) : TE := fun σ H Q => wi σ H fun J H1 => GxR.TabG H1 P ∧ ∀ H2, GxR.Tabbed P H1 H2 → ∀ D, H2 D = none → ∃ W : Nat → Nat → Hp → Prop, (∃ m, W 0 m (upd H2 D (.lst []))) ∧ gtTurn J g tt te vs (wipe σ vs) D (gtEnd D Q) W
theorem gt_eval {X : Cx} {pins : List (Addr × Obj)} {σ : L2.St} {H : Hp} {s : Shared} {c P : Addr} {elt tg iter : Expr} {ifs : List Expr} {scope : Scope} {own : List (Str × Nat)} {gpos : Pos} {wi : TI} {g : TG} {tt : TT} {te : TE} {k : Nat} {Q : VK} {Q' : Value → Shared → Prop}
    (hN : X.N.Nodup) (hr : Room (k + 1) X.A) (TB : LamX.TabB X.base X.mg c P) (hcode : X.env.code = .ref c) (ok : BlkOk X.N X.env.scope scope own) (nocell : ∀ y ∈ scope.names, y.2 ≠ .cell) (hco : scope.isCoroutine = false) (dot : scope.names.lookup (".0" : Str) = some NameKind.local)
    (hi : PI X tg iter wi)
    (hg : ∀ (A : Around) (s : Shared) (H : Hp) (cl : List (Str × Addr)) (C : Addr) (code : Value) (bi : Addr) (fp : List Addr) (pn : List (Addr × Obj)), Room k A → PG (gxCx X A s H (genEnv scope cl C code bi X.env) fp pn) tg g)
    (ht : ∀ (A : Around) (s : Shared) (H : Hp) (cl : List (Str × Addr)) (C : Addr) (code : Value) (bi : Addr) (fp : List Addr) (pn : List (Addr × Obj)), Room k A → PTs (gxCx X A s H (genEnv scope cl C code bi X.env) fp pn) ifs tt)
    (he : ∀ (A : Around) (s : Shared) (H : Hp) (cl : List (Str × Addr)) (C : Addr) (code : Value) (bi : Addr) (fp : List Addr) (pn : List (Addr × Obj)), Room k A → PE (gxCx X A s H (genEnv scope cl C code bi X.env) fp pn) elt te)
    (hs : ∀ v, genFold iter X.env v = pure v) (I : Inv X pins σ H s) (h : tTupG P wi g tt te (own.map (·.2)) σ H Q)
    (hQ : ∀ a s5, GtReady X X.A.in1.in1.in1.in1 pins σ Q a s5 → Q' (.ref a) s5) :
    wpAny (model X.prog X.w) X.A (eval (.GeneratorExp elt [⟨tg, iter, ifs, 0⟩] scope gpos) X.env) Q' X.xe s := by
  have hfree : ∀ y ∈ scope.names, y.2 = .free → ∃ c, X.env.cells.lookup y.1 = some c := fun y hy ey => by
    rcases ok.free y hy ey with z | z
    · exact I.ok.has _ (.inl z)
    · exact I.ok.has _ (.inr z)
  refine wpAny_GeneratorExp_make hco (closure_ok hfree) nocell dot ok.kind hr.depth ?_ hs
  refine thn (hi.run pins s σ H _ I h) fun xv s1 hx => thn hx fun itv s2 h2 => ?_
  obtain ⟨it, fp, tn, J, H2, rfl, I2, T, st2, f2, ⟨ps, hP, tro⟩, q⟩ := h2
  refine ⟨I2.nolimit, ?_⟩
  have hPs : s2.heap.get? P = some { cls := .none, data := .fields ps } := I2.hok P _ hP
  have cd : PySem.W.CodeHd s2.heap c P := TB.code.keeps fun b u z => I2.bk b u z
  have szf : ∀ b ∈ fp, b < s2.heap.objs.size := fun b hb => by
    obtain ⟨o, eo, _⟩ := T.obj _ _ st2 b hb
    exact Heap.lt_size eo
  -- behind the code object
  have cont : ∀ (code : Value) (h3 : Heap) (tk : Nat) (ps' : Array Value), Heap.ExtBut P s2.heap h3 → s2.heap.objs.size ≤ h3.objs.size → h3.get? P = some { cls := .none, data := .fields ps' } → (∃ more, ps' = ps ++ more) → TriplesOk ps'.toList →
      wpAny (model X.prog X.w) X.A (builtinsFor X.env.globals X.env.builtins) (fun bi s4 => ∀ h', h'.Ns s4.heap.objs.size (fun y => if y = ".0" then some (.ref it) else none) → Heap.SameBut s4.heap.objs.size (s4.heap.push { cls := .type "frame", data := .dict #[] }) h' →
        Q' (.ref h'.objs.size) { s4 with
          gens := s4.gens.push (.fresh (.compStart (.GeneratorExp elt [⟨tg, iter, ifs, 0⟩] scope gpos) 0 (.ref it) .none (genEnv scope (cloFrom X.env.cells scope.names []) s4.heap.objs.size code bi X.env)))
          toks := s4.toks + 1 + 1 + 1
          heap := h'.push { cls := .type "generator", data := .fields #[.int s4.gens.size 0, .str "<genexpr>" (s4.toks + 1), .str (X.env.qual ++ "<genexpr>") (s4.toks + 1 + 1)] } }) X.xe { s2 with heap := h3, toks := tk } := by
    intro code h3 tk ps' hx hsz hP3 ⟨more, em⟩ tro'
    obtain ⟨bm, ob, e1, e2, e3, e4, e5, e6, e7, e8⟩ := TB.bm
    have keep3 : ∀ b u, b ≠ P → s2.heap.get? b = some u → h3.get? b = some u := fun b u hb z => hx b u hb z
    refine wpAny_builtinsFor (m := X.mg) (by rw [I2.ok.glob]; exact (I2.mod.glob.keeps I2.bk).extBut hx TB.gP) e1 e2 (keep3 _ _ e4 (I2.bk _ _ e5)) e6 e7 e8 ?_
    intro h' hns hsame
    have J4 := GxR.inv_tab (more := more) (h' := h3) (g' := s2.gens) (d' := s2.drawn) (t' := tk) I2 hP keep3 (by rw [← em]; exact hP3) I2.bare
    have tabbed : GxR.Tabbed P H2 (upd H2 P (.tbl (ps ++ more))) := ⟨⟨ps ++ more, upd_same, by rw [← em]; exact tro'⟩, fun b hb => upd_ne hb⟩
    have q := q _ tabbed
    have hsz' : h'.objs.size = h3.objs.size + 1 := by rw [hsame.1, Heap.size_push]
    have kp5 : ∀ (go : Obj) b o, h3.get? b = some o → (h'.push go).get? b = some o := fun go b o eo => Heap.get?_push_of_some _ (hsame.extBut b o (Nat.ne_of_lt (Heap.lt_size eo)) (Heap.get?_push_of_some _ eo))
    have fpP : ∀ b ∈ fp, b ≠ P := fun b hb z => by
      have := (f2 b hb).1
      rw [z, hP] at this
      cases this
    have nf : ∀ b ∈ fp, upd H2 P (.tbl (ps ++ more)) b = none := fun b hb => by rw [upd_ne (fpP b hb)]; exact (f2 b hb).1
    have f3 : ∀ b ∈ fp, FpOk X pins (upd H2 P (.tbl (ps ++ more))) b ∧ b < h3.objs.size := fun b hb => ⟨⟨nf b hb, (f2 b hb).2⟩, Nat.lt_of_lt_of_le (szf b hb) hsz⟩
    refine hQ _ _ ?_
    show GtReady X X.A.in1.in1.in1.in1 pins σ Q h'.objs.size { s2 with
      gens := s2.gens.push (.fresh (.compStart (.GeneratorExp elt [⟨tg, iter, ifs, 0⟩] scope gpos) 0 (.ref it) .none (genEnv scope (cloFrom X.env.cells scope.names []) h3.objs.size code builtinsNs X.env)))
      toks := tk + 1 + 1 + 1
      heap := h'.push { cls := .type "generator", data := .fields #[.int s2.gens.size 0, .str "<genexpr>" (tk + 1), .str (X.env.qual ++ "<genexpr>") (tk + 1 + 1)] } }
    generalize hgo : ({ cls := .type "generator", data := .fields #[.int s2.gens.size 0, .str "<genexpr>" (tk + 1), .str (X.env.qual ++ "<genexpr>") (tk + 1 + 1)] } : Obj) = go
    have goC : go.cls = .type "generator" := by rw [← hgo]
    have goD : go.data = .fields #[.int s2.gens.size 0, .str "<genexpr>" (tk + 1), .str (X.env.qual ++ "<genexpr>") (tk + 1 + 1)] := by rw [← hgo]
    have goS : go.slots = #[] := by rw [← hgo]
    have at5 : (h'.push go).get? h'.objs.size = some go := by rw [← hgo]; exact Heap.get?_push_size _ rfl
    have isG : ∀ h : Heap, h.get? h'.objs.size = some go → h.IsGen h'.objs.size s2.gens.size := fun h eo => ⟨go, _, _, eo, goC, goD, goS⟩
    generalize hst : GenState.fresh (.compStart (.GeneratorExp elt [⟨tg, iter, ifs, 0⟩] scope gpos) 0 (.ref it) .none (genEnv scope (cloFrom X.env.cells scope.names []) h3.objs.size code builtinsNs X.env)) = fr
    have bare5 : AllBare (s2.gens.push fr) := I2.bare.push (by rw [← hst]; rfl)
    have rm := gt_room (elt := elt) (tg := tg) (iter := iter) (ifs := ifs) (scope := scope) (gpos := gpos) (it := it) (ce := genEnv scope (cloFrom X.env.cells scope.names []) h3.objs.size code builtinsNs X.env) hr
    obtain ⟨ce, hce⟩ : ∃ ce, ce = genEnv scope (cloFrom X.env.cells scope.names []) h3.objs.size code builtinsNs X.env := ⟨_, rfl⟩
    obtain ⟨s4, hs4⟩ : ∃ s4 : Shared, s4 = { s2 with heap := h3, gens := s2.gens, drawn := s2.drawn, toks := tk } := ⟨_, rfl⟩
    obtain ⟨H4, hH4⟩ : ∃ H4, H4 = upd H2 P (.tbl (ps ++ more)) := ⟨_, rfl⟩
    obtain ⟨Z, hZ⟩ : ∃ Z, Z = gxZ X X.A.in1.in1.in1.in1 s4 H4 ce fp [(h'.objs.size, go)] elt tg iter ifs scope gpos it := ⟨_, rfl⟩
    have J4' : Inv X pins σ H4 s4 := by rw [hs4, hH4]; exact J4
    have Z0 : Inv Z [] (wipe σ (own.map (·.2))) H4 { s2 with heap := h'.push go, gens := s2.gens.push fr, toks := tk + 1 + 1 + 1 } := by
      rw [hZ, hs4, hH4, hce]
      exact gx_start (A := X.A.in1.in1.in1.in1.over (gxCode elt tg iter ifs scope gpos it (genEnv scope (cloFrom X.env.cells scope.names []) h3.objs.size code builtinsNs X.env)) []) (a := h'.objs.size) (go := go) (h5 := h'.push go) (g5 := s2.gens.push fr) (t5 := tk + 1 + 1 + 1) (code := code) J4 hN ok nocell rm.hd (gt_frames J4.ok.frames) f3 (hns.push _) (kp5 go) at5 (by show h3.objs.size < _; omega) (fun v z => by rw [goD] at z; cases z) bare5
    rw [← hH4] at q
    have nf4 : ∀ b ∈ fp, H4 b = none := fun b hb => by rw [hH4]; exact nf b hb
    refine ⟨s2.gens.size, Z, wipe σ (own.map (·.2)), H4, fr, by rw [hZ]; rfl, by rw [hZ]; rfl, isG _ at5, Array.getElem?_push_size .., Z0, fun {σ' H' s'} IZ => ?_, fun D hD => ?_, fun s' H' os bare un hok => ?_⟩
    · refine isG _ (IZ.pin (h'.objs.size, go) (List.mem_append_left _ ?_)).1
      rw [hZ]
      exact List.mem_cons_self
    · obtain ⟨W, ⟨m0, w0⟩, turn⟩ := q D hD
      refine ⟨m0 + 1, fun s' IZ kp' hge => ?_⟩
      have hge : h'.objs.size + 1 ≤ D := by
        have z : (h'.push go).objs.size ≤ D := hge
        rw [Heap.size_push] at z
        exact z
      have nD : ∀ b ∈ fp, b ≠ D := fun b hb z => by
        have z1 := (f3 b hb).2
        have z2 : b < h3.objs.size := z1
        rw [z] at z2
        have z3 : D < h3.objs.size := z2
        have z4 : h'.objs.size + 1 ≤ D := hge
        rw [hsz'] at z4
        exact absurd (Nat.lt_of_lt_of_le z3 (Nat.le_trans (Nat.le_succ _) (Nat.le_trans (Nat.le_succ _) z4))) (Nat.lt_irrefl _)
      rw [← hst, show Z.prog = X.prog by rw [hZ]; rfl, show Z.w = X.w by rw [hZ]; rfl, ← hce]
      refine ⟨rfl, seg_gt0 (H := upd H4 D (.lst [])) hZ (fun p hp z => ?_) (by rw [hce]; exact hco) T (by rw [hZ, hce]; exact hg _ _ _ _ _ _ _ _ _ rm) (by rw [hZ, hce]; exact ht _ _ _ _ _ _ _ _ _ rm) (by rw [hZ, hce]; exact he _ _ _ _ _ _ _ _ _ rm) turn (Nat.lt_succ_self _) w0 IZ ?_ fun b hb => by rw [upd_ne (nD b hb)]; exact nf4 b hb⟩
      · rw [List.mem_singleton.mp hp] at z
        have z1 := (f3 _ z).2
        have z2 : h'.objs.size < h3.objs.size := z1
        omega
      · exact T.keep _ _ _ st2 fun b hb o eo => kp' b o (kp5 go b o (keep3 b o (fpP b hb) eo))
    · refine J4'.call' (ch := fp) ?_ ?_ ?_ bare fun b hb => ?_
      · rw [os, hZ]
        rfl
      · rw [hZ] at un
        exact un
      · rw [hZ] at hok
        exact hok
      · have z := (f3 b hb).1
        exact ⟨z.2.2.2.1, z.2.1, z.2.2.2.2.1, z.2.2.2.2.2⟩
  cases hf : codeAmong gpos ps.toList with
  | none =>
    refine wpAny_genexprCodeX hcode (cd.code hPs tro) (cd.tab hPs) hf fun c' h' tk hx hge hlt hco' _ htab' _ => ?_
    obtain ⟨o1, us, y1, y2, y3, y4, y5, y6, y7, y8, _, _, _, _, _, _, _, _, _, htr, _⟩ := hco'
    exact cont _ h' tk _ hx (Nat.le_trans hge (Nat.le_of_lt hlt)) htab'.2 ⟨_, rfl⟩ htr
  | some cv =>
    refine wpAny_genexprCode_hit hcode (cd.code hPs tro) hf ?_
    exact cont cv s2.heap s2.toks ps (Heap.ExtBut.refl _ _) (Nat.le_refl _) hPs ⟨#[], by simp⟩ tro
end
section
variable {X : Cx} {c P : Addr} {elt tg iter : Expr} {ifs : List Expr} {scope : Scope} {own : List (Str × Nat)} {p pos gpos : Pos} {wi : TI} {g : TG} {tt : TT} {te : TE} {k : Nat}
/-- the items of it, as a list -/
theorem gt_collect {X : Cx} {A : Around} {pins : List (Addr × Obj)} {σ : L2.St} {Q : VK} {a : Addr} {s5 : Shared} {Q' : List Value → Shared → Prop} {E : Value → Shared → Prop} (hh : A.handled = none) (hd : A.depth < recursionLimit) (hR : GtReady X A.in1.in1 pins σ Q a s5)
    (hQ : ∀ s' H' xs us, Inv X pins σ H' s' → Vals xs us → xs.length ≤ sizeLine → (∀ p, H' p = none → Q (.ref p) (upd H' p (.tup xs))) → Q' us s') : wpAny (model X.prog X.w) A (collect (.ref a)) Q' E s5 := by
  obtain ⟨gi, Z, σ0, H4, gs, e1, e2, isG, hgs, Z0, isG', goes, back⟩ := hR
  rw [← e1, ← e2]
  have hlt : a < s5.heap.objs.size := let ⟨o, _, _, ho, _⟩ := isG; Heap.lt_size ho
  have hSa : s5.heap.objs.size ≠ a := Nat.ne_of_gt hlt
  obtain ⟨m, goes⟩ := goes s5.heap.objs.size (Z0.hok.fresh (Nat.le_refl _))
  unfold collect
  refine wpAny_bind (wpAny_runValue (codeAny_builtin F.entry_proto_collect ?_))
  rw [Around.under_plainId F.plain_proto_collect _]
  show wpAny _ A.in1 (newList [] >>= fun l => again (.builtin "list.__iadd__" ⟨[l, .ref a], []⟩)) _ _ s5
  refine wpAny_bind (wpAny_newObj_type ?_)
  refine wpAny_pure ⟨plainId_quiet F.plain_list_iadd _, codeAny_builtin F.entry_list_iadd ?_⟩
  rw [Around.under_plainId F.plain_list_iadd _]
  show wpAny _ A.in1 (Builtin.List.listExtendWith (.ref s5.heap.objs.size) (.ref a) (.ref s5.heap.objs.size)) _ _ _
  unfold Builtin.List.listExtendWith
  have k1 : ∀ b o, s5.heap.get? b = some o → (s5.heap.push { cls := .type "list", data := .seq ([] : List Value).toArray }).get? b = some o := fun b o e => Heap.get?_push_of_some _ e
  have gty : ∀ {h : Heap}, (∀ b o, s5.heap.get? b = some o → h.get? b = some o) → h.IsGen a gi := fun {h} q => isG.keeps q
  refine wpAny_bind (wpAny_typeOf (Heap.IsGen.typeIs (s := { s5 with heap := _ }) (gty k1)) ?_)
  have h1 : Builtin.List.listSameRef (.ref s5.heap.objs.size) (.ref a) = false := by simp [Builtin.List.listSameRef, hSa]
  have h2 : (Value.type "generator" == Value.type "list") = false := by decide
  have h3 : (Value.type "generator" == Value.type "tuple") = false := by decide
  simp only [h1, h2, h3, Bool.or_false, Bool.false_eq_true, if_false]
  refine wpAny_bind (wpAny_pyIter_gen (s := { s5 with heap := _ }) (gty k1) ?_)
  refine wpAny_bind (wpAny_holding ?_)
  unfold Builtin.List.listLengthHint
  refine wpAny_bind (wpAny_specialOf (Heap.IsGen.typeIs (s := { s5 with heap := _ }) (gty k1)) F.gen_no_len ?_)
  show wpAny _ A.in1 (specialOf (Value.ref a) (Str.ofString "__length_hint__") >>= _) _ _ _
  refine wpAny_bind (wpAny_specialOf (Heap.IsGen.typeIs (s := { s5 with heap := _ }) (gty k1)) F.gen_no_hint ?_)
  refine wpAny_pure ?_
  show wpAny _ A.in1 (rule "list.extend.makes-room" >>= fun _ => Builtin.List.listTouch (.ref s5.heap.objs.size) >>= fun _ =>
    again (.builtin "list.extend.loop" ⟨[.ref s5.heap.objs.size, .ref a, .ref s5.heap.objs.size], []⟩)) _ _ _
  refine wpAny_bind (wpAny_rule ?_)
  have hS₁ : (s5.heap.push { cls := .type "list", data := .seq ([] : List Value).toArray }).get? s5.heap.objs.size = some { cls := .type "list", data := .seq ([] : List Value).toArray } := Heap.get?_push_size _ rfl
  refine wpAny_bind ?_
  show wpAny _ A.in1 (updateSeq s5.heap.objs.size (·.push .none) >>= fun _ => updateSeq s5.heap.objs.size (·.pop)) _ _ _
  refine wpAny_bind (wpAny_updateSeq hS₁ rfl ?_)
  have hS₂ := Heap.get?_update_self (Obj.mapSeq (·.push Value.none)) hS₁ rfl
  refine wpAny_updateSeq hS₂ rfl ?_
  have hS₃ := Heap.get?_update_self (Obj.mapSeq (·.pop)) hS₂ rfl
  have up : ∀ (h : Heap) (f : Obj → Obj), (∀ b o, s5.heap.get? b = some o → h.get? b = some o) → ∀ b o, s5.heap.get? b = some o → (h.update s5.heap.objs.size f).get? b = some o := fun h f q b o e =>
    (Heap.get?_update_other _ _ (Ne.symm (Nat.ne_of_lt (Heap.lt_size e)))).trans (q b o e)
  have k3 := up _ (Obj.mapSeq (·.pop)) (up _ (Obj.mapSeq (·.push Value.none)) k1)
  have I3 : Inv Z [] σ0 (upd H4 s5.heap.objs.size (.lst [])) { s5 with heap := _ } := Z0.laid (t' := s5.toks) k3 (Nat.le_refl _) ⟨Nat.zero_le _, [], _, .nil, hS₃⟩
  refine wpAny_pure ⟨plainId_quiet F.plain_extend_loop _, gt_loop (Z := Z) (D := s5.heap.objs.size) (σ0 := σ0) (Qe := gtEnd s5.heap.objs.size Q) (g := gi) hh hd isG' (fun s' H' o1 o2 o3 o4 q => ?_) m _ (gty k3) I3.nolimit ⟨gs, hgs, ?_⟩⟩
  · obtain ⟨acc, hD, q⟩ := q
    have I4 := back s' H' o1 o2 o3 o4
    obtain ⟨z, its, n, rv, hl, e⟩ := I4.lstM hD
    show wpAny _ A (load s5.heap.objs.size >>= _) _ _ s'
    refine wpAny_bind (wpAny_load e (wpAny_pure ?_))
    exact hQ s' H' acc _ I4 (by simpa using rv) z q
  · exact goes _ (inv_sh I3 rfl rfl (allBare_setGen (s := { s5 with heap := _ }) I3.bare rfl)) k3 (Nat.le_refl _)
theorem pe_tupG (hN : X.N.Nodup) (hr : Room (k + 1) X.A) (hg : Gl X "tuple") (hm : X.mg "tuple" = none) (hb : bootBuiltins "tuple" = some (.type "tuple")) (TB : LamX.TabB X.base X.mg c P) (hcode : X.env.code = .ref c) (ok : BlkOk X.N X.env.scope scope own) (nocell : ∀ y ∈ scope.names, y.2 ≠ .cell) (hco : scope.isCoroutine = false) (dot : scope.names.lookup (".0" : Str) = some NameKind.local)
    (hi : PI X tg iter wi)
    (pg : ∀ (A : Around) (s : Shared) (H : Hp) (cl : List (Str × Addr)) (C : Addr) (code : Value) (bi : Addr) (fp : List Addr) (pn : List (Addr × Obj)), Room k A → PG (gxCx X A s H (genEnv scope cl C code bi X.env) fp pn) tg g)
    (pt : ∀ (A : Around) (s : Shared) (H : Hp) (cl : List (Str × Addr)) (C : Addr) (code : Value) (bi : Addr) (fp : List Addr) (pn : List (Addr × Obj)), Room k A → PTs (gxCx X A s H (genEnv scope cl C code bi X.env) fp pn) ifs tt)
    (pe : ∀ (A : Around) (s : Shared) (H : Hp) (cl : List (Str × Addr)) (C : Addr) (code : Value) (bi : Addr) (fp : List Addr) (pn : List (Addr × Obj)), Room k A → PE (gxCx X A s H (genEnv scope cl C code bi X.env) fp pn) elt te)
    (hs : ∀ v, genFold iter X.env v = pure v)
    (he : starEach [.GeneratorExp elt [⟨tg, iter, ifs, 0⟩] scope gpos] X.env = (false, eval (.GeneratorExp elt [⟨tg, iter, ifs, 0⟩] scope gpos) X.env) :: starEach [] X.env := by rfl) :
    PE X (.Call (.Name "tuple" p) [.GeneratorExp elt [⟨tg, iter, ifs, 0⟩] scope gpos] [] pos) (tTupG P wi g tt te (own.map (·.2))) := by
  refine ⟨fun pins s σ H Q I h => ?_⟩
  refine wpAny_Call_Name_kw (ld_blt I hg hm hb ?_)
  refine PyProof.Rows.callWith_type1 ?_ he (by rfl)
  rw [he]
  show wpAny _ _ (spliced ((false, eval (.GeneratorExp elt [⟨tg, iter, ifs, 0⟩] scope gpos) X.env) :: backTo pos (starEach [] X.env))) _ _ s
  refine Calls.spliced_cons (gt_eval hN hr TB hcode ok nocell hco dot hi pg pt pe hs I h fun a s5 hR => ?_)
  refine Calls.spliced_nil ?_
  have hT : s5.TypeIs (.ref a) "generator" := by
    obtain ⟨gi, Z, σ0, H4, gs, e1, e2, isG, _⟩ := hR
    exact Heap.IsGen.typeIs isG
  refine callType_codes (Q₁ := fun obj s₁ => s₁.TypeIs obj "tuple" ∧ EP X pins σ Q obj s₁) F.called_tuple (F.typeCall_tuple_1 _) F.entry_object_init ?_ fun obj s₁ h₁ => ?_
  · refine codeAny_of_tree ?_
    show wpAny _ X.A.in1.in1 (do checkBuiltinCall "tuple.__new__" ⟨[.type "tuple", .ref a], []⟩; again (.builtin "tuple.__new__" ⟨[.type "tuple", .ref a], []⟩)) _ _ s5
    refine wpAny_bind (wpAny_of_eq (F.newCall_tuple_1 _) (wpAny_pure ⟨plainId_quiet F.plain_tuple_new _, codeAny_builtin F.entry_tuple_new ?_⟩))
    rw [Around.under_plainId F.plain_tuple_new _]
    have hsub := sub_tuple_self
    have hinit := init_tuple_lookup
    have hmh := madeHere_tuple
    wp_walk using wpAny_typeOf hT, gt_collect (A := X.A.in1.in1) hr.hd (by have := hr.dp; show X.A.depth < _; omega) hR
    intro s' H' xs us I' rv hz q
    show wpAny _ _ (Builtin.Tuple.tupleExact us.toArray >>= fun v => ret v) _ _ _
    unfold Builtin.Tuple.tupleExact
    have hl := rv.length
    refine wpAny_bind (wpAny_newObj_type ?_ (by show us.toArray.size ≤ sizeLine; rw [List.size_toArray]; omega))
    refine wpAny_pure ?_
    have new : ObjOk X.prog X.w (upd H' s'.heap.objs.size (.tup xs)) (s'.heap.push { cls := .type "tuple", data := .seq us.toArray }) s'.heap.objs.size (.tup xs) :=
      ⟨hz, us, rv, ⟨_, Heap.get?_push_size _ rfl, rfl, _, rfl⟩⟩
    exact ⟨⟨_, Heap.get?_push_size _ rfl, rfl⟩, .ref s'.heap.objs.size, _, I'.laid (t' := s'.toks) (fun b o e => Heap.get?_push_of_some _ e) (Nat.le_refl _) new, rfl, q _ (I'.hok.fresh (Nat.le_refl _))⟩
  · exact ⟨h₁.1, F.args_object_init_2 obj _, object_init_meets F.called_tuple.init.lookup F.called_tuple.made (by decide) X.prog X.w X.A.in1 _ s₁ ⟨h₁.1, rfl, h₁.2⟩⟩
end
/-! any data against any data: some truth comes -/
section
open PySem.SeqAt PySem.W
open AutoSeq1 (wpAny_loadPart')
theorem dd_none (l : Addr) (es : Array DictEntry) (n : Nat)  :
    Meets (Builtin.«dict.__eq__» ⟨[.ref l, .none], []⟩) (fun _ R s => s.heap.get? l = some { cls := .type "dict", data := .dict es n } ∧ R (.ok (.ret .notImplemented)) s) :=
  .of_wp fun prog w A R s h => by obtain ⟨hp, g, d, tk, os⟩ := s; obtain ⟨hl, h⟩ := h; have f1 := F.sub_NoneType_dict; wp_walk using wpAny_loadPart' hl; exact ⟨_, rfl, h⟩
theorem rc_dict_none' {A : Around} {s : Shared} {l : Addr} {es : Array DictEntry} {n : Nat}  (ho : s.heap.get? l = some { cls := .type "dict", data := .dict es n }) (hu : A.units < cLine) : RcAt A s (.ref l) .none false := fun prog w E Q h =>
  rc_eq_decline_or (k := false) ⟨_, ho, rfl⟩ rfl (by decide) F.sub_NoneType_dict F.slot_dict_eq F.slot_NoneType_eq_refl
    (fun _ hq => call_meets F.slot_dict_eq ⟨_, ho, rfl⟩ F.entry_dict_eq (F.args_dict_eq_2 _ _) (dd_none l es n ) ⟨ho, hq⟩)
    (fun _ hq => call_gives F.slot_NoneType_eq_refl rfl F.entry_NoneType_eq (F.args_NoneType_eq_2 _ _) (NoneType___eq___none_ref_0 l) hq)
    (fun _ hq => wpAny_of_eq (rfl : isSame (.ref l) .none = pure false) hq) (.inr hu) h
theorem rc_none_dict' {A : Around} {s : Shared} {l : Addr} {es : Array DictEntry} {n : Nat}  (ho : s.heap.get? l = some { cls := .type "dict", data := .dict es n }) (hu : A.units < cLine) : RcAt A s .none (.ref l) false := fun prog w E Q h =>
  rc_eq_decline_or (k := false) rfl ⟨_, ho, rfl⟩ (by decide) F.sub_dict_NoneType F.slot_NoneType_eq F.slot_dict_eq_refl
    (fun _ hq => call_gives F.slot_NoneType_eq rfl F.entry_NoneType_eq (F.args_NoneType_eq_2 _ _) (NoneType___eq___none_ref_0 l) hq)
    (fun _ hq => call_meets F.slot_dict_eq_refl ⟨_, ho, rfl⟩ F.entry_dict_eq (F.args_dict_eq_2 _ _) (dd_none l es n ) ⟨ho, hq⟩)
    (fun _ hq => wpAny_of_eq (rfl : isSame .none (.ref l) = pure false) hq) (.inr hu) h
theorem dd_bool (l : Addr) (es : Array DictEntry) (n : Nat) (b : Bool) :
    Meets (Builtin.«dict.__eq__» ⟨[.ref l, .bool b], []⟩) (fun _ R s => s.heap.get? l = some { cls := .type "dict", data := .dict es n } ∧ R (.ok (.ret .notImplemented)) s) :=
  .of_wp fun prog w A R s h => by obtain ⟨hp, g, d, tk, os⟩ := s; obtain ⟨hl, h⟩ := h; have f1 := F.sub_bool_dict; wp_walk using wpAny_loadPart' hl; exact ⟨_, rfl, h⟩
theorem bool_dd (l : Addr) (es : Array DictEntry) (n : Nat) (b : Bool) :
    Meets (Builtin.«int.__eq__» ⟨[.bool b, .ref l], []⟩) (fun _ R s => s.heap.get? l = some { cls := .type "dict", data := .dict es n } ∧ R (.ok (.ret .notImplemented)) s) :=
  .of_wp fun prog w A R s h => by obtain ⟨hp, g, d, tk, os⟩ := s; obtain ⟨hl, h⟩ := h; wp_walk using wpAny_loadPart' hl, wpAny_load hl; exact ⟨_, rfl, h⟩
theorem rc_dict_bool' {A : Around} {s : Shared} {l : Addr} {es : Array DictEntry} {n : Nat} (b : Bool) (ho : s.heap.get? l = some { cls := .type "dict", data := .dict es n }) (hu : A.units < cLine) : RcAt A s (.ref l) (.bool b) false := fun prog w E Q h =>
  rc_eq_decline_or (k := false) ⟨_, ho, rfl⟩ rfl (by decide) F.sub_bool_dict F.slot_dict_eq F.slot_bool_eq_refl
    (fun _ hq => call_meets F.slot_dict_eq ⟨_, ho, rfl⟩ F.entry_dict_eq (F.args_dict_eq_2 _ _) (dd_bool l es n b) ⟨ho, hq⟩)
    (fun _ hq => call_meets F.slot_bool_eq_refl rfl F.entry_int_eq (F.args_int_eq_2 _ _) (bool_dd l es n b) ⟨ho, hq⟩)
    (fun _ hq => wpAny_of_eq (rfl : isSame (.ref l) (.bool b) = pure false) hq) (.inr hu) h
theorem rc_bool_dict' {A : Around} {s : Shared} {l : Addr} {es : Array DictEntry} {n : Nat} (b : Bool) (ho : s.heap.get? l = some { cls := .type "dict", data := .dict es n }) (hu : A.units < cLine) : RcAt A s (.bool b) (.ref l) false := fun prog w E Q h =>
  rc_eq_decline_or (k := false) rfl ⟨_, ho, rfl⟩ (by decide) F.sub_dict_bool F.slot_bool_eq F.slot_dict_eq_refl
    (fun _ hq => call_meets F.slot_bool_eq rfl F.entry_int_eq (F.args_int_eq_2 _ _) (bool_dd l es n b) ⟨ho, hq⟩)
    (fun _ hq => call_meets F.slot_dict_eq_refl ⟨_, ho, rfl⟩ F.entry_dict_eq (F.args_dict_eq_2 _ _) (dd_bool l es n b) ⟨ho, hq⟩)
    (fun _ hq => wpAny_of_eq (rfl : isSame (.bool b) (.ref l) = pure false) hq) (.inr hu) h
theorem dd_int (l : Addr) (es : Array DictEntry) (n : Nat) (b : Int) (u : Tok) :
    Meets (Builtin.«dict.__eq__» ⟨[.ref l, .int b u], []⟩) (fun _ R s => s.heap.get? l = some { cls := .type "dict", data := .dict es n } ∧ R (.ok (.ret .notImplemented)) s) :=
  .of_wp fun prog w A R s h => by obtain ⟨hp, g, d, tk, os⟩ := s; obtain ⟨hl, h⟩ := h; have f1 := F.sub_int_dict; wp_walk using wpAny_loadPart' hl; exact ⟨_, rfl, h⟩
theorem int_dd (l : Addr) (es : Array DictEntry) (n : Nat) (b : Int) (u : Tok) :
    Meets (Builtin.«int.__eq__» ⟨[.int b u, .ref l], []⟩) (fun _ R s => s.heap.get? l = some { cls := .type "dict", data := .dict es n } ∧ R (.ok (.ret .notImplemented)) s) :=
  .of_wp fun prog w A R s h => by obtain ⟨hp, g, d, tk, os⟩ := s; obtain ⟨hl, h⟩ := h; wp_walk using wpAny_loadPart' hl, wpAny_load hl; exact ⟨_, rfl, h⟩
theorem rc_dict_int' {A : Around} {s : Shared} {l : Addr} {es : Array DictEntry} {n : Nat} (b : Int) (u : Tok) (ho : s.heap.get? l = some { cls := .type "dict", data := .dict es n }) (hu : A.units < cLine) : RcAt A s (.ref l) (.int b u) false := fun prog w E Q h =>
  rc_eq_decline_or (k := false) ⟨_, ho, rfl⟩ (typeIs_int s b u) (by decide) F.sub_int_dict F.slot_dict_eq F.slot_int_eq_refl
    (fun _ hq => call_meets F.slot_dict_eq ⟨_, ho, rfl⟩ F.entry_dict_eq (F.args_dict_eq_2 _ _) (dd_int l es n b u) ⟨ho, hq⟩)
    (fun _ hq => call_meets F.slot_int_eq_refl (typeIs_int s b u) F.entry_int_eq (F.args_int_eq_2 _ _) (int_dd l es n b u) ⟨ho, hq⟩)
    (fun _ hq => wpAny_of_eq (rfl : isSame (.ref l) (.int b u) = pure false) hq) (.inr hu) h
theorem rc_int_dict' {A : Around} {s : Shared} {l : Addr} {es : Array DictEntry} {n : Nat} (b : Int) (u : Tok) (ho : s.heap.get? l = some { cls := .type "dict", data := .dict es n }) (hu : A.units < cLine) : RcAt A s (.int b u) (.ref l) false := fun prog w E Q h =>
  rc_eq_decline_or (k := false) (typeIs_int s b u) ⟨_, ho, rfl⟩ (by decide) F.sub_dict_int F.slot_int_eq F.slot_dict_eq_refl
    (fun _ hq => call_meets F.slot_int_eq (typeIs_int s b u) F.entry_int_eq (F.args_int_eq_2 _ _) (int_dd l es n b u) ⟨ho, hq⟩)
    (fun _ hq => call_meets F.slot_dict_eq_refl ⟨_, ho, rfl⟩ F.entry_dict_eq (F.args_dict_eq_2 _ _) (dd_int l es n b u) ⟨ho, hq⟩)
    (fun _ hq => wpAny_of_eq (rfl : isSame (.int b u) (.ref l) = pure false) hq) (.inr hu) h
theorem dd_str (l : Addr) (es : Array DictEntry) (n : Nat) (b : Str) (u : Tok) :
    Meets (Builtin.«dict.__eq__» ⟨[.ref l, .str b u], []⟩) (fun _ R s => s.heap.get? l = some { cls := .type "dict", data := .dict es n } ∧ R (.ok (.ret .notImplemented)) s) :=
  .of_wp fun prog w A R s h => by obtain ⟨hp, g, d, tk, os⟩ := s; obtain ⟨hl, h⟩ := h; have f1 := F.sub_str_dict; wp_walk using wpAny_loadPart' hl; exact ⟨_, rfl, h⟩
theorem str_dd (l : Addr) (es : Array DictEntry) (n : Nat) (b : Str) (u : Tok) :
    Meets (Builtin.«str.__eq__» ⟨[.str b u, .ref l], []⟩) (fun _ R s => s.heap.get? l = some { cls := .type "dict", data := .dict es n } ∧ R (.ok (.ret .notImplemented)) s) :=
  .of_wp fun prog w A R s h => by obtain ⟨hp, g, d, tk, os⟩ := s; obtain ⟨hl, h⟩ := h; wp_walk using wpAny_loadPart' hl, wpAny_load hl; exact ⟨_, rfl, h⟩
theorem rc_dict_str' {A : Around} {s : Shared} {l : Addr} {es : Array DictEntry} {n : Nat} (b : Str) (u : Tok) (ho : s.heap.get? l = some { cls := .type "dict", data := .dict es n }) (hu : A.units < cLine) : RcAt A s (.ref l) (.str b u) false := fun prog w E Q h =>
  rc_eq_decline_or (k := false) ⟨_, ho, rfl⟩ (typeIs_str s b u) (by decide) F.sub_str_dict F.slot_dict_eq F.slot_str_eq_refl
    (fun _ hq => call_meets F.slot_dict_eq ⟨_, ho, rfl⟩ F.entry_dict_eq (F.args_dict_eq_2 _ _) (dd_str l es n b u) ⟨ho, hq⟩)
    (fun _ hq => call_meets F.slot_str_eq_refl (typeIs_str s b u) F.entry_str_eq (F.args_str_eq_2 _ _) (str_dd l es n b u) ⟨ho, hq⟩)
    (fun _ hq => wpAny_of_eq (rfl : isSame (.ref l) (.str b u) = pure false) hq) (.inr hu) h
theorem rc_str_dict' {A : Around} {s : Shared} {l : Addr} {es : Array DictEntry} {n : Nat} (b : Str) (u : Tok) (ho : s.heap.get? l = some { cls := .type "dict", data := .dict es n }) (hu : A.units < cLine) : RcAt A s (.str b u) (.ref l) false := fun prog w E Q h =>
  rc_eq_decline_or (k := false) (typeIs_str s b u) ⟨_, ho, rfl⟩ (by decide) F.sub_dict_str F.slot_str_eq F.slot_dict_eq_refl
    (fun _ hq => call_meets F.slot_str_eq (typeIs_str s b u) F.entry_str_eq (F.args_str_eq_2 _ _) (str_dd l es n b u) ⟨ho, hq⟩)
    (fun _ hq => call_meets F.slot_dict_eq_refl ⟨_, ho, rfl⟩ F.entry_dict_eq (F.args_dict_eq_2 _ _) (dd_str l es n b u) ⟨ho, hq⟩)
    (fun _ hq => wpAny_of_eq (rfl : isSame (.str b u) (.ref l) = pure false) hq) (.inr hu) h
theorem dd_list (l b : Addr) (es : Array DictEntry) (n : Nat) (items : Array Value) (m : Nat) (dd : Option Addr) (sl : Array (Option Value)) :
    Meets (Builtin.«dict.__eq__» ⟨[.ref l, .ref b], []⟩) (fun _ R s => s.heap.get? l = some { cls := .type "dict", data := .dict es n } ∧ s.heap.get? b = some { cls := .type "list", dict := dd, data := .seq items m, slots := sl } ∧ R (.ok (.ret .notImplemented)) s) :=
  .of_wp fun prog w A R s h => by obtain ⟨hp, g, d, tk, os⟩ := s; obtain ⟨hl, hb, h⟩ := h; have f1 := F.sub_list_dict; wp_walk using wpAny_loadPart' hl, wpAny_loadPart' hb; exact ⟨_, rfl, h⟩
theorem list_dd (l b : Addr) (es : Array DictEntry) (n : Nat) (items : Array Value) (m : Nat) (dd : Option Addr) (sl : Array (Option Value)) :
    Meets (Builtin.«list.__eq__» ⟨[.ref b, .ref l], []⟩) (fun _ R s => s.heap.get? l = some { cls := .type "dict", data := .dict es n } ∧ s.heap.get? b = some { cls := .type "list", dict := dd, data := .seq items m, slots := sl } ∧ R (.ok (.ret .notImplemented)) s) :=
  .of_wp fun prog w A R s h => by obtain ⟨hp, g, d, tk, os⟩ := s; obtain ⟨hl, hb, h⟩ := h; have f1 := F.sub_dict_list; wp_walk using wpAny_loadPart' hl, wpAny_loadPart' hb; exact ⟨_, rfl, h⟩
theorem ne_dict_list {s : Shared} {l b : Addr} {es : Array DictEntry} {n : Nat} {items : Array Value} (ho : s.heap.get? l = some { cls := .type "dict", data := .dict es n }) (hb : s.heap.IsList b items) : l ≠ b := fun e => by
  subst e
  obtain ⟨o, h1, h2, _⟩ := hb
  rw [ho] at h1
  cases h1
  exact absurd h2 (by simp)
theorem rc_dict_list' {A : Around} {s : Shared} {l b : Addr} {es : Array DictEntry} {n : Nat} {items : Array Value} (ho : s.heap.get? l = some { cls := .type "dict", data := .dict es n }) (hb : s.heap.IsList b items) (hu : A.units < cLine) : RcAt A s (.ref l) (.ref b) false := fun prog w E Q h => by
  have hne := ne_dict_list ho hb
  obtain ⟨⟨cls, dd, data, sl⟩, ho2, hc, m, hd⟩ := id hb
  simp only at hc hd
  subst hc hd
  exact rc_eq_decline_or (k := false) ⟨_, ho, rfl⟩ ⟨_, ho2, rfl⟩ (by decide) F.sub_list_dict F.slot_dict_eq F.slot_list_eq_refl
    (fun _ hq => call_meets F.slot_dict_eq ⟨_, ho, rfl⟩ F.entry_dict_eq (F.args_dict_eq_2 _ _) (dd_list l b es n items m dd sl) ⟨ho, ho2, hq⟩)
    (fun _ hq => call_meets F.slot_list_eq_refl ⟨_, ho2, rfl⟩ F.entry_list_eq (F.args_list_eq_2 _ _) (list_dd l b es n items m dd sl) ⟨ho, ho2, hq⟩)
    (fun _ hq => wpAny_isSame_ref_other hne ho ho2 (by simp) hq) (.inr hu) h
theorem rc_list_dict' {A : Around} {s : Shared} {l b : Addr} {es : Array DictEntry} {n : Nat} {items : Array Value} (ho : s.heap.get? l = some { cls := .type "dict", data := .dict es n }) (hb : s.heap.IsList b items) (hu : A.units < cLine) : RcAt A s (.ref b) (.ref l) false := fun prog w E Q h => by
  have hne := ne_dict_list ho hb
  obtain ⟨⟨cls, dd, data, sl⟩, ho2, hc, m, hd⟩ := id hb
  simp only at hc hd
  subst hc hd
  exact rc_eq_decline_or (k := false) ⟨_, ho2, rfl⟩ ⟨_, ho, rfl⟩ (by decide) F.sub_dict_list F.slot_list_eq F.slot_dict_eq_refl
    (fun _ hq => call_meets F.slot_list_eq ⟨_, ho2, rfl⟩ F.entry_list_eq (F.args_list_eq_2 _ _) (list_dd l b es n items m dd sl) ⟨ho, ho2, hq⟩)
    (fun _ hq => call_meets F.slot_dict_eq_refl ⟨_, ho, rfl⟩ F.entry_dict_eq (F.args_dict_eq_2 _ _) (dd_list l b es n items m dd sl) ⟨ho, ho2, hq⟩)
    (fun _ hq => wpAny_isSame_ref_other' hne.symm ho2 ho (by simp) hq) (.inr hu) h
theorem dd_tuple (l b : Addr) (es : Array DictEntry) (n : Nat) (items : Array Value) (m : Nat) (dd : Option Addr) (sl : Array (Option Value)) :
    Meets (Builtin.«dict.__eq__» ⟨[.ref l, .ref b], []⟩) (fun _ R s => s.heap.get? l = some { cls := .type "dict", data := .dict es n } ∧ s.heap.get? b = some { cls := .type "tuple", dict := dd, data := .seq items m, slots := sl } ∧ R (.ok (.ret .notImplemented)) s) :=
  .of_wp fun prog w A R s h => by obtain ⟨hp, g, d, tk, os⟩ := s; obtain ⟨hl, hb, h⟩ := h; have f1 := F.sub_tuple_dict; wp_walk using wpAny_loadPart' hl, wpAny_loadPart' hb; exact ⟨_, rfl, h⟩
theorem tuple_dd (l b : Addr) (es : Array DictEntry) (n : Nat) (items : Array Value) (m : Nat) (dd : Option Addr) (sl : Array (Option Value)) :
    Meets (Builtin.«tuple.__eq__» ⟨[.ref b, .ref l], []⟩) (fun _ R s => s.heap.get? l = some { cls := .type "dict", data := .dict es n } ∧ s.heap.get? b = some { cls := .type "tuple", dict := dd, data := .seq items m, slots := sl } ∧ R (.ok (.ret .notImplemented)) s) :=
  .of_wp fun prog w A R s h => by obtain ⟨hp, g, d, tk, os⟩ := s; obtain ⟨hl, hb, h⟩ := h; have f1 := F.sub_dict_tuple; wp_walk using wpAny_loadPart' hl, wpAny_loadPart' hb; exact ⟨_, rfl, h⟩
theorem ne_dict_tuple {s : Shared} {l b : Addr} {es : Array DictEntry} {n : Nat} {items : Array Value} (ho : s.heap.get? l = some { cls := .type "dict", data := .dict es n }) (hb : s.heap.IsTuple b items) : l ≠ b := fun e => by
  subst e
  obtain ⟨o, h1, h2, _⟩ := hb
  rw [ho] at h1
  cases h1
  exact absurd h2 (by simp)
theorem rc_dict_tuple' {A : Around} {s : Shared} {l b : Addr} {es : Array DictEntry} {n : Nat} {items : Array Value} (ho : s.heap.get? l = some { cls := .type "dict", data := .dict es n }) (hb : s.heap.IsTuple b items) (hu : A.units < cLine) : RcAt A s (.ref l) (.ref b) false := fun prog w E Q h => by
  have hne := ne_dict_tuple ho hb
  obtain ⟨⟨cls, dd, data, sl⟩, ho2, hc, m, hd⟩ := id hb
  simp only at hc hd
  subst hc hd
  exact rc_eq_decline_or (k := false) ⟨_, ho, rfl⟩ ⟨_, ho2, rfl⟩ (by decide) F.sub_tuple_dict F.slot_dict_eq F.slot_tuple_eq_refl
    (fun _ hq => call_meets F.slot_dict_eq ⟨_, ho, rfl⟩ F.entry_dict_eq (F.args_dict_eq_2 _ _) (dd_tuple l b es n items m dd sl) ⟨ho, ho2, hq⟩)
    (fun _ hq => call_meets F.slot_tuple_eq_refl ⟨_, ho2, rfl⟩ F.entry_tuple_eq (F.args_tuple_eq_2 _ _) (tuple_dd l b es n items m dd sl) ⟨ho, ho2, hq⟩)
    (fun _ hq => wpAny_isSame_ref_other hne ho ho2 (by simp) hq) (.inr hu) h
theorem rc_tuple_dict' {A : Around} {s : Shared} {l b : Addr} {es : Array DictEntry} {n : Nat} {items : Array Value} (ho : s.heap.get? l = some { cls := .type "dict", data := .dict es n }) (hb : s.heap.IsTuple b items) (hu : A.units < cLine) : RcAt A s (.ref b) (.ref l) false := fun prog w E Q h => by
  have hne := ne_dict_tuple ho hb
  obtain ⟨⟨cls, dd, data, sl⟩, ho2, hc, m, hd⟩ := id hb
  simp only at hc hd
  subst hc hd
  exact rc_eq_decline_or (k := false) ⟨_, ho2, rfl⟩ ⟨_, ho, rfl⟩ (by decide) F.sub_dict_tuple F.slot_tuple_eq F.slot_dict_eq_refl
    (fun _ hq => call_meets F.slot_tuple_eq ⟨_, ho2, rfl⟩ F.entry_tuple_eq (F.args_tuple_eq_2 _ _) (tuple_dd l b es n items m dd sl) ⟨ho, ho2, hq⟩)
    (fun _ hq => call_meets F.slot_dict_eq_refl ⟨_, ho, rfl⟩ F.entry_dict_eq (F.args_dict_eq_2 _ _) (dd_tuple l b es n items m dd sl) ⟨ho, ho2, hq⟩)
    (fun _ hq => wpAny_isSame_ref_other' hne.symm ho2 ho (by simp) hq) (.inr hu) h
theorem eqAt_rc {A : Around} {s : Shared} {v u : Value} {k : Bool} (hv : v = .none ∨ (∃ b, v = .bool b) ∨ (∃ i t, v = .int i t) ∨ (∃ i t, v = .str i t) ∨ ∃ a, v = .ref a) (hne : (v == u) = false) (h : RcAt A s v u k) : EqAt A s v u k := fun prog w E Q hq => by
  unfold eqBool
  refine wpAny_holding ?_
  refine wpAny_ite_split (fun hab => absurd hab (by rw [hne]; decide)) (fun _ => ?_)
  rcases hv with rfl | ⟨_, rfl⟩ | ⟨_, _, rfl⟩ | ⟨_, _, rfl⟩ | ⟨_, rfl⟩ <;> exact wpAny_bind (h prog w E _ (wpAny_truthy_bool hq))
/-- what a value is, whatever it is -/
inductive Shp (P : Program) (w : World) (s : Shared) : PyData → Value → Prop
  | non : Shp P w s .none .none
  | bl (t : Bool) : Shp P w s (.bool t) (.bool t)
  | int (n : Int) (t : Tok) : Shp P w s (.int n) (.int n t)
  | str (z : Str) (t : Tok) : Shp P w s (.str z) (.str z t)
  | lst {r : Addr} {its : Array Value} {es : List PyData} (at_ : s.heap.IsList r its) : Shp P w s (.list es) (.ref r)
  | tup {r : Addr} {its : Array Value} {es : List PyData} (at_ : s.heap.IsTuple r its) : Shp P w s (.tuple es) (.ref r)
  | dct {r : Addr} {es : Array DictEntry} {n : Nat} {ds : List (PyData × PyData)} (at_ : s.heap.get? r = some { cls := .type "dict", data := .dict es n }) : Shp P w s (.dict ds) (.ref r)
end
section
open PySem.SeqAt PySem.W
variable {X : Cx} {pins : List (Addr × Obj)} {σ : L2.St} {H : Hp} {s : Shared}
theorem dct_at (I : Inv X pins σ H s) {r : Addr} {ms : List (Int × Int)} (h : H r = some (.dK (dictK ms))) : ∃ es n, s.heap.get? r = some { cls := .type "dict", data := .dict es n } := by
  obtain ⟨⟨oc, od, oda, osl⟩, es, n, g, ⟨e1, e2, e3⟩, e4, _, _⟩ := dct_reads I h
  dsimp only at e1 e2 e3 e4
  subst e1 e2 e3 e4
  exact ⟨es, n, g⟩
theorem dp_shp (I : Inv X pins σ H s) {d : PyData} {x : V} {v : Value} (h : Dp X.K H x d) (r : RelV x v) : Shp X.prog X.w s d v := by
  cases h with
  | non => cases r; exact .non
  | bl b => cases r; exact .bl b
  | int i => obtain ⟨t, rfl⟩ := r; exact .int i t
  | str z => obtain ⟨t, rfl⟩ := r; exact .str z t
  | lst at_ each => cases r; obtain ⟨its, rv, pl, _⟩ := I.list at_; exact .lst pl.isList
  | tup at_ each => cases r; obtain ⟨its, rv, pl, _⟩ := I.tuple at_; exact .tup pl
  | dct at_ => cases r; obtain ⟨es, n, g⟩ := dct_at I at_; exact .dct g
def sameD : PyData → PyData → Bool
  | .list _, .list _ => true
  | .tuple _, .tuple _ => true
  | .dict _, .dict _ => true
  | _, _ => false
theorem shp_rc {P : Program} {w : World} {d e : PyData} {v u : Value} (hd : Shp P w s d v) (he : Shp P w s e u) (hn : sameD d e = false) : ∃ k, (∀ i j, d = .int i → e = .int j → k = decide (i = j)) ∧ ∀ A : Around, A.units < cLine → RcAt A s v u k := by
  cases hd with
  | non =>
    cases he with
    | non => exact ⟨_, (fun i j e1 e2 => by cases e1), fun A hu => SeqAt.RcAt.none_none⟩
    | bl a2 => exact ⟨_, (fun i j e1 e2 => by first | (cases e1; done) | (cases e2; done)), fun A hu => SeqAt.RcAt.none_bool  a2⟩
    | int a2 t2 => exact ⟨_, (fun i j e1 e2 => by first | (cases e1; done) | (cases e2; done)), fun A hu => SeqAt.RcAt.none_int  a2 t2⟩
    | str a2 t2 => exact ⟨_, (fun i j e1 e2 => by first | (cases e1; done) | (cases e2; done)), fun A hu => SeqAt.RcAt.none_str  a2 t2⟩
    | lst h2 => exact ⟨_, (fun i j e1 e2 => by first | (cases e1; done) | (cases e2; done)), fun A hu => SeqAt.RcAt.none_list  h2 hu⟩
    | tup h2 => exact ⟨_, (fun i j e1 e2 => by first | (cases e1; done) | (cases e2; done)), fun A hu => SeqAt.RcAt.none_tuple  h2 hu⟩
    | dct h2 => exact ⟨_, (fun i j e1 e2 => by first | (cases e1; done) | (cases e2; done)), fun A hu => rc_none_dict'  h2 hu⟩
  | bl a1 =>
    cases he with
    | non => exact ⟨_, (fun i j e1 e2 => by first | (cases e1; done) | (cases e2; done)), fun A hu => SeqAt.RcAt.bool_none a1 ⟩
    | bl a2 => exact ⟨_, (fun i j e1 e2 => by first | (cases e1; done) | (cases e2; done)), fun A hu => SeqAt.RcAt.bool_bool a1 a2⟩
    | int a2 t2 => exact ⟨_, (fun i j e1 e2 => by first | (cases e1; done) | (cases e2; done)), fun A hu => SeqAt.RcAt.bool_int a1 a2 t2⟩
    | str a2 t2 => exact ⟨_, (fun i j e1 e2 => by first | (cases e1; done) | (cases e2; done)), fun A hu => SeqAt.RcAt.bool_str a1 a2 t2⟩
    | lst h2 => exact ⟨_, (fun i j e1 e2 => by first | (cases e1; done) | (cases e2; done)), fun A hu => SeqAt.RcAt.bool_list a1 h2 hu⟩
    | tup h2 => exact ⟨_, (fun i j e1 e2 => by first | (cases e1; done) | (cases e2; done)), fun A hu => SeqAt.RcAt.bool_tuple a1 h2 hu⟩
    | dct h2 => exact ⟨_, (fun i j e1 e2 => by first | (cases e1; done) | (cases e2; done)), fun A hu => rc_bool_dict' a1 h2 hu⟩
  | int a1 t1 =>
    cases he with
    | non => exact ⟨_, (fun i j e1 e2 => by first | (cases e1; done) | (cases e2; done)), fun A hu => SeqAt.RcAt.int_none a1 t1 ⟩
    | bl a2 => exact ⟨_, (fun i j e1 e2 => by first | (cases e1; done) | (cases e2; done)), fun A hu => SeqAt.RcAt.int_bool a1 t1 a2⟩
    | int a2 t2 => exact ⟨_, (fun i j e1 e2 => by cases e1; cases e2; show _ = decide _; rw [Bool.eq_iff_iff]; simp), fun A hu => SeqAt.RcAt.int_int a1 t1 a2 t2⟩
    | str a2 t2 => exact ⟨_, (fun i j e1 e2 => by first | (cases e1; done) | (cases e2; done)), fun A hu => SeqAt.RcAt.int_str a1 t1 a2 t2⟩
    | lst h2 => exact ⟨_, (fun i j e1 e2 => by first | (cases e1; done) | (cases e2; done)), fun A hu => SeqAt.RcAt.int_list a1 t1 h2 hu⟩
    | tup h2 => exact ⟨_, (fun i j e1 e2 => by first | (cases e1; done) | (cases e2; done)), fun A hu => SeqAt.RcAt.int_tuple a1 t1 h2 hu⟩
    | dct h2 => exact ⟨_, (fun i j e1 e2 => by first | (cases e1; done) | (cases e2; done)), fun A hu => rc_int_dict' a1 t1 h2 hu⟩
  | str a1 t1 =>
    cases he with
    | non => exact ⟨_, (fun i j e1 e2 => by first | (cases e1; done) | (cases e2; done)), fun A hu => SeqAt.RcAt.str_none a1 t1 ⟩
    | bl a2 => exact ⟨_, (fun i j e1 e2 => by first | (cases e1; done) | (cases e2; done)), fun A hu => SeqAt.RcAt.str_bool a1 t1 a2⟩
    | int a2 t2 => exact ⟨_, (fun i j e1 e2 => by first | (cases e1; done) | (cases e2; done)), fun A hu => SeqAt.RcAt.str_int a1 t1 a2 t2⟩
    | str a2 t2 => exact ⟨_, (fun i j e1 e2 => by first | (cases e1; done) | (cases e2; done)), fun A hu => SeqAt.RcAt.str_str a1 t1 a2 t2⟩
    | lst h2 => exact ⟨_, (fun i j e1 e2 => by first | (cases e1; done) | (cases e2; done)), fun A hu => SeqAt.RcAt.str_list a1 t1 h2 hu⟩
    | tup h2 => exact ⟨_, (fun i j e1 e2 => by first | (cases e1; done) | (cases e2; done)), fun A hu => SeqAt.RcAt.str_tuple a1 t1 h2 hu⟩
    | dct h2 => exact ⟨_, (fun i j e1 e2 => by first | (cases e1; done) | (cases e2; done)), fun A hu => rc_str_dict' a1 t1 h2 hu⟩
  | lst h1 =>
    cases he with
    | non => exact ⟨_, (fun i j e1 e2 => by first | (cases e1; done) | (cases e2; done)), fun A hu => SeqAt.RcAt.list_none  h1 hu⟩
    | bl a2 => exact ⟨_, (fun i j e1 e2 => by first | (cases e1; done) | (cases e2; done)), fun A hu => SeqAt.RcAt.list_bool a2 h1 hu⟩
    | int a2 t2 => exact ⟨_, (fun i j e1 e2 => by first | (cases e1; done) | (cases e2; done)), fun A hu => SeqAt.RcAt.list_int a2 t2 h1 hu⟩
    | str a2 t2 => exact ⟨_, (fun i j e1 e2 => by first | (cases e1; done) | (cases e2; done)), fun A hu => SeqAt.RcAt.list_str a2 t2 h1 hu⟩
    | lst h2 => exact absurd hn (by simp [sameD])
    | tup h2 => exact ⟨_, (fun i j e1 e2 => by first | (cases e1; done) | (cases e2; done)), fun A hu => SeqAt.RcAt.list_tuple h1 h2 hu⟩
    | dct h2 => exact ⟨_, (fun i j e1 e2 => by first | (cases e1; done) | (cases e2; done)), fun A hu => rc_list_dict' h2 h1 hu⟩
  | tup h1 =>
    cases he with
    | non => exact ⟨_, (fun i j e1 e2 => by first | (cases e1; done) | (cases e2; done)), fun A hu => SeqAt.RcAt.tuple_none  h1 hu⟩
    | bl a2 => exact ⟨_, (fun i j e1 e2 => by first | (cases e1; done) | (cases e2; done)), fun A hu => SeqAt.RcAt.tuple_bool a2 h1 hu⟩
    | int a2 t2 => exact ⟨_, (fun i j e1 e2 => by first | (cases e1; done) | (cases e2; done)), fun A hu => SeqAt.RcAt.tuple_int a2 t2 h1 hu⟩
    | str a2 t2 => exact ⟨_, (fun i j e1 e2 => by first | (cases e1; done) | (cases e2; done)), fun A hu => SeqAt.RcAt.tuple_str a2 t2 h1 hu⟩
    | lst h2 => exact ⟨_, (fun i j e1 e2 => by first | (cases e1; done) | (cases e2; done)), fun A hu => SeqAt.RcAt.tuple_list h1 h2 hu⟩
    | tup h2 => exact absurd hn (by simp [sameD])
    | dct h2 => exact ⟨_, (fun i j e1 e2 => by first | (cases e1; done) | (cases e2; done)), fun A hu => rc_tuple_dict' h2 h1 hu⟩
  | dct h1 =>
    cases he with
    | non => exact ⟨_, (fun i j e1 e2 => by first | (cases e1; done) | (cases e2; done)), fun A hu => rc_dict_none'  h1 hu⟩
    | bl a2 => exact ⟨_, (fun i j e1 e2 => by first | (cases e1; done) | (cases e2; done)), fun A hu => rc_dict_bool' a2 h1 hu⟩
    | int a2 t2 => exact ⟨_, (fun i j e1 e2 => by first | (cases e1; done) | (cases e2; done)), fun A hu => rc_dict_int' a2 t2 h1 hu⟩
    | str a2 t2 => exact ⟨_, (fun i j e1 e2 => by first | (cases e1; done) | (cases e2; done)), fun A hu => rc_dict_str' a2 t2 h1 hu⟩
    | lst h2 => exact ⟨_, (fun i j e1 e2 => by first | (cases e1; done) | (cases e2; done)), fun A hu => rc_dict_list' h1 h2 hu⟩
    | tup h2 => exact ⟨_, (fun i j e1 e2 => by first | (cases e1; done) | (cases e2; done)), fun A hu => rc_dict_tuple' h1 h2 hu⟩
    | dct h2 => exact absurd hn (by simp [sameD])
theorem shp_eq {P : Program} {w : World} {d e : PyData} {v u : Value} (hd : Shp P w s d v) (he : Shp P w s e u) (hn : sameD d e = false) : ∃ k, ∀ A : Around, A.units < cLine → EqAt A s v u k := by
  by_cases hvu : (v == u) = true
  · obtain rfl : v = u := eq_of_beq hvu
    exact ⟨true, fun A _ => .same v⟩
  · obtain ⟨k, _, h⟩ := shp_rc hd he hn
    exact ⟨k, fun A hu => eqAt_rc (by cases hd <;> simp) (Bool.eq_false_iff.mpr hvu) (h A hu)⟩
theorem valK {ms : List (Int × Int)} {vs : List (Key × Value)} (r : KV (dictK ms) vs) : ∀ k v, (k, v) ∈ vs → ∃ i t, v = .int i t := by
  induction ms generalizing vs with
  | nil =>
    cases r
    intro k v h
    cases h
  | cons m ms ih =>
    cases r with
    | cons h1 h2 =>
      intro k v h
      rcases List.mem_cons.mp h with h | h
      · obtain ⟨_, t, e⟩ := h1
        rw [← h] at e
        exact ⟨_, t, e⟩
      · exact ih h2 k v h
theorem valK' {ms : List (Int × Int)} {vs : List (Key × Value)} (r : KV (dictK ms) vs) {k : Key} {y : Value} (h : valueAt vs k = some y) : ∃ i t, y = .int i t := by
  unfold valueAt at h
  cases hf : vs.find? (fun p => decide (p.1 = k)) with
  | none => simp [hf] at h
  | some p =>
    have e : p.2 = y := by simpa [hf] using h
    obtain ⟨i, t, q⟩ := valK r p.1 p.2 (List.mem_of_find?_eq_some hf)
    exact ⟨i, t, e ▸ q⟩
theorem nodupL {vs : List (Key × Value)} (hn : (vs.map (·.1)).Nodup) {k : Key} {v v' : Value} (h : (k, v) ∈ vs) (h' : (k, v') ∈ vs) : v = v' := by
  induction vs with
  | nil => cases h
  | cons p vs ih =>
    rw [List.map_cons, List.nodup_cons] at hn
    rcases List.mem_cons.mp h with e | e <;> rcases List.mem_cons.mp h' with e' | e'
    · rw [← e] at e'; cases e'; rfl
    · exact absurd (List.mem_map.mpr ⟨_, e', by rw [← e]⟩) hn.1
    · exact absurd (List.mem_map.mpr ⟨_, e, by rw [← e']⟩) hn.1
    · exact ih hn.2 e e'
theorem nodupK {P : Program} {w : World} {h : Heap} {a : Addr} {vs : List (Key × Value)} (p : h.DictOf (mixKind P w) a vs) {k : Key} {v v' : Value} (h1 : (k, v) ∈ vs) (h2 : (k, v') ∈ vs) : v = v' := by
  obtain ⟨_, _, _, _, _, _, _, _, hn⟩ := p
  exact nodupL hn h1 h2
theorem dpAll_at {H : Hp} {K : PySem.W.Frag} {es : List PyData} {ys : List V} {us : List Value} (h : DpAll K H ys es) (r : Vals ys us) {j : Nat} (hj : j < us.toArray.size) : ∃ y e, Dp K H y e ∧ RelV y us.toArray[j] ∧ e ∈ es := by
  have hj' : j < us.length := by simpa using hj
  have l1 := r.length
  have l2 := dpAll_len h
  obtain ⟨e, he⟩ : ∃ e, es[j]? = some e := ⟨es[j]'(by omega), by simp⟩
  obtain ⟨y, hy, hd⟩ := dpAll_get h he
  obtain ⟨u, hu, ru⟩ := r.get hy
  refine ⟨y, e, hd, ?_, List.mem_of_getElem? he⟩
  rw [List.getElem?_eq_getElem hj'] at hu
  cases hu
  simpa using ru
theorem dAll_mem : ∀ {l : List PyData} {z : PyData}, z ∈ l → z.depth ≤ PyData.depthAll l
  | [], z, h => by cases h
  | e :: l, z, h => by
    rcases List.mem_cons.mp h with rfl | h
    · simp only [PyData.depthAll]; omega
    · have := dAll_mem h
      simp only [PyData.depthAll]; omega
theorem int_tree {n : Nat} {v u : Value} (h1 : ∃ i t, v = .int i t) (h2 : ∃ i t, u = .int i t) : ∃ b, EqTree X.prog X.w s n v u b := by
  obtain ⟨i, t, rfl⟩ := h1
  obtain ⟨j, t', rfl⟩ := h2
  exact ⟨_, .leaf fun A hu => .int_int i t j t'⟩
/-- the choice of an answer at each place -/
theorem eq_tree (I : Inv X pins σ H s) : ∀ (n : Nat) (d e : PyData) (x y : V) (v u : Value), d.depth ≤ n → Dp X.K H x d → Dp X.K H y e → RelV x v → RelV y u → ∃ b, EqTree X.prog X.w s n v u b := by
  intro n
  induction n with
  | zero =>
    intro d e x y v u hn hd he rx ry
    have sx := dp_shp I hd rx
    have sy := dp_shp I he ry
    have nd : sameD d e = false := by cases d <;> cases e <;> first | rfl | (simp only [PyData.depth] at hn; omega)
    obtain ⟨k, h⟩ := shp_eq sx sy nd
    exact ⟨k, .leaf fun A hu => h A (by omega)⟩
  | succ n ih =>
    intro d e x y v u hn hd he rx ry
    have sx := dp_shp I hd rx
    have sy := dp_shp I he ry
    by_cases nd : sameD d e = false
    · obtain ⟨k, h⟩ := shp_eq sx sy nd
      exact ⟨k, .leaf fun A hu => h A (by omega)⟩
    by_cases hvu : v = u
    · subst hvu
      exact ⟨true, .same⟩
    cases hd with
    | lst a1 e1 =>
      cases he with
      | lst a2 e2 =>
        cases rx
        cases ry
        obtain ⟨its, rv, pl, _⟩ := I.list a1
        obtain ⟨its2, rv2, pl2, _⟩ := I.list a2
        have hne : _ ≠ _ := fun z => hvu (congrArg Value.ref z)
        by_cases hsz : its.toArray.size = its2.toArray.size
        · have ch : ∀ j, ∃ b, ∀ (h1 : j < its.toArray.size) (h2 : j < its2.toArray.size), EqTree X.prog X.w s n its.toArray[j] its2.toArray[j] b := fun j => by
            by_cases h1 : j < its.toArray.size
            · have h2 : j < its2.toArray.size := hsz ▸ h1
              obtain ⟨y1, d1, q1, r1, m1⟩ := dpAll_at e1 rv h1
              obtain ⟨y2, d2, q2, r2, m2⟩ := dpAll_at e2 rv2 h2
              obtain ⟨b, t⟩ := ih d1 d2 y1 y2 _ _ (by have := dAll_mem m1; simp only [PyData.depth] at hn; omega) q1 q2 r1 r2
              exact ⟨b, fun _ _ => t⟩
            · exact ⟨true, fun z => absurd z h1⟩
          exact ⟨_, .lists (e := fun j => (ch j).choose) hne pl.isList pl2.isList hsz fun j h1 h2 => (ch j).choose_spec h1 h2⟩
        · exact ⟨false, .listsLen hne pl.isList pl2.isList (by simpa using hsz)⟩
      | _ => exact absurd rfl nd
    | tup a1 e1 =>
      cases he with
      | tup a2 e2 =>
        cases rx
        cases ry
        obtain ⟨its, rv, pl, _⟩ := I.tuple a1
        obtain ⟨its2, rv2, pl2, _⟩ := I.tuple a2
        have hne : _ ≠ _ := fun z => hvu (congrArg Value.ref z)
        have ch : ∀ j, ∃ b, ∀ (h1 : j < its.toArray.size) (h2 : j < its2.toArray.size), EqTree X.prog X.w s n its.toArray[j] its2.toArray[j] b := fun j => by
          by_cases h : j < its.toArray.size ∧ j < its2.toArray.size
          · obtain ⟨h1, h2⟩ := h
            obtain ⟨y1, d1, q1, r1, m1⟩ := dpAll_at e1 rv h1
            obtain ⟨y2, d2, q2, r2, m2⟩ := dpAll_at e2 rv2 h2
            obtain ⟨b, t⟩ := ih d1 d2 y1 y2 _ _ (by have := dAll_mem m1; simp only [PyData.depth] at hn; omega) q1 q2 r1 r2
            exact ⟨b, fun _ _ => t⟩
          · exact ⟨true, fun z z' => absurd ⟨z, z'⟩ h⟩
        exact ⟨_, .tuples (e := fun j => (ch j).choose) hne pl pl2 fun j h1 h2 => (ch j).choose_spec h1 h2⟩
      | _ => exact absurd rfl nd
    | dct a1 =>
      cases he with
      | dct a2 =>
        cases rx
        cases ry
        obtain ⟨_, ns1, vs1, kv1, p1⟩ := (show ObjOk X.prog X.w H s.heap _ (.dK _) from I.hok _ _ a1)
        obtain ⟨_, ns2, vs2, kv2, p2⟩ := (show ObjOk X.prog X.w H s.heap _ (.dK _) from I.hok _ _ a2)
        have hne : _ ≠ _ := fun z => hvu (congrArg Value.ref z)
        have ch : ∀ k, ∃ b, ∀ v y, (k, v) ∈ vs1 → valueAt vs2 k = some y → EqTree X.prog X.w s n v y b := fun k => by
          by_cases h : ∃ v y, (k, v) ∈ vs1 ∧ valueAt vs2 k = some y
          · obtain ⟨v, y, h1, h2⟩ := h
            obtain ⟨i, t, rfl⟩ := valK kv1 k v h1
            obtain ⟨j, t2, rfl⟩ := valK' kv2 h2
            refine ⟨i == j, fun v' y' h1' h2' => ?_⟩
            rw [h2] at h2'
            cases h2'
            have ev : v' = .int i t := nodupK p1 h1' h1
            subst ev
            exact .leaf fun A hu => .int_int i t j t2
          · exact ⟨true, fun v y h1 h2 => absurd ⟨v, y, h1, h2⟩ h⟩
        exact ⟨_, .dicts (e := fun k => (ch k).choose) hne ns1 ns2 p1 p2 fun k v y h1 h2 => (ch k).choose_spec v y h1 h2⟩
      | _ => exact absurd rfl nd
    | _ => exact absurd rfl (by first | exact nd | (cases he <;> exact nd))
/-- any data against any data; of whole numbers the truth is known -/
def rEqA (K : PySem.W.Frag) : R2 := fun x y H Q => ∃ d e, Dp K H x d ∧ Dp K H y e ∧ d.depth ≤ 60 ∧ ∀ b, (∀ i j, d = .int i → e = .int j → b = decide (i = j)) → Q (.bl b) H
theorem op_eqA (hu : X.A.units + 64 < cLine) : OpR X (compareOp .Eq) (rEqA X.K) := by
  intro pins s σ H x y v u Q I rx ry h
  obtain ⟨d, e, hd, he, hn, q⟩ := h
  have sx := dp_shp I hd rx
  have sy := dp_shp I he ry
  have fin : ∀ b, sameD d e = true → Q (.bl b) H := fun b z => q b fun i j e1 e2 => by subst e1; cases z
  by_cases nd : sameD d e = false
  · obtain ⟨k, hk, rc⟩ := shp_rc sx sy nd
    exact rc X.A (by omega) X.prog X.w _ _ ⟨.bl k, H, I, rfl, q k hk⟩
  have nd : sameD d e = true := by simpa using nd
  cases hd with
  | lst a1 e1 =>
    cases he with
    | lst a2 e2 =>
      cases rx
      cases ry
      obtain ⟨its, rv, pl, _⟩ := I.list a1
      obtain ⟨its2, rv2, pl2, _⟩ := I.list a2
      by_cases hsz : its.toArray.size = its2.toArray.size
      · have ch : ∀ j, ∃ b, ∀ (h1 : j < its.toArray.size) (h2 : j < its2.toArray.size), EqTree X.prog X.w s 60 its.toArray[j] its2.toArray[j] b := fun j => by
          by_cases h1 : j < its.toArray.size
          · have h2 : j < its2.toArray.size := hsz ▸ h1
            obtain ⟨y1, d1, q1, r1, m1⟩ := dpAll_at e1 rv h1
            obtain ⟨y2, d2, q2, r2, m2⟩ := dpAll_at e2 rv2 h2
            obtain ⟨b, t⟩ := eq_tree I 60 d1 d2 y1 y2 _ _ (by have := dAll_mem m1; simp only [PyData.depth] at hn; omega) q1 q2 r1 r2
            exact ⟨b, fun _ _ => t⟩
          · exact ⟨true, fun z => absurd z h1⟩
        exact eq_listsT (n := 60) (e := fun j => (ch j).choose) pl.isList pl2.isList hsz (fun j h1 h2 => (ch j).choose_spec h1 h2) (by omega) ⟨.bl _, H, I, rfl, fin _ rfl⟩
      · exact RcAt.lists_lengths pl.isList pl2.isList (by simpa using hsz) (by omega) X.prog X.w _ _ ⟨.bl _, H, I, rfl, fin _ rfl⟩
    | _ => cases nd
  | tup a1 e1 =>
    cases he with
    | tup a2 e2 =>
      cases rx
      cases ry
      obtain ⟨its, rv, pl, _⟩ := I.tuple a1
      obtain ⟨its2, rv2, pl2, _⟩ := I.tuple a2
      have ch : ∀ j, ∃ b, ∀ (h1 : j < its.toArray.size) (h2 : j < its2.toArray.size), EqTree X.prog X.w s 60 its.toArray[j] its2.toArray[j] b := fun j => by
        by_cases h : j < its.toArray.size ∧ j < its2.toArray.size
        · obtain ⟨h1, h2⟩ := h
          obtain ⟨y1, d1, q1, r1, m1⟩ := dpAll_at e1 rv h1
          obtain ⟨y2, d2, q2, r2, m2⟩ := dpAll_at e2 rv2 h2
          obtain ⟨b, t⟩ := eq_tree I 60 d1 d2 y1 y2 _ _ (by have := dAll_mem m1; simp only [PyData.depth] at hn; omega) q1 q2 r1 r2
          exact ⟨b, fun _ _ => t⟩
        · exact ⟨true, fun z z' => absurd ⟨z, z'⟩ h⟩
      exact eq_tuplesT (n := 60) (e := fun j => (ch j).choose) pl pl2 (fun j h1 h2 => (ch j).choose_spec h1 h2) (by omega) ⟨.bl _, H, I, rfl, fin _ rfl⟩
    | _ => cases nd
  | dct a1 =>
    cases he with
    | dct a2 =>
      cases rx
      cases ry
      obtain ⟨_, ns1, vs1, kv1, p1⟩ := (show ObjOk X.prog X.w H s.heap _ (.dK _) from I.hok _ _ a1)
      obtain ⟨_, ns2, vs2, kv2, p2⟩ := (show ObjOk X.prog X.w H s.heap _ (.dK _) from I.hok _ _ a2)
      have ch : ∀ k, ∃ b, ∀ v y, (k, v) ∈ vs1 → valueAt vs2 k = some y → EqTree X.prog X.w s 60 v y b := fun k => by
        by_cases h : ∃ v y, (k, v) ∈ vs1 ∧ valueAt vs2 k = some y
        · obtain ⟨v, y, h1, h2⟩ := h
          obtain ⟨i, t, rfl⟩ := valK kv1 k v h1
          obtain ⟨j, t2, rfl⟩ := valK' kv2 h2
          refine ⟨i == j, fun v' y' h1' h2' => ?_⟩
          rw [h2] at h2'
          cases h2'
          have ev : v' = .int i t := nodupK p1 h1' h1
          subst ev
          exact .leaf fun A hu => .int_int i t j t2
        · exact ⟨true, fun v y h1 h2 => absurd ⟨v, y, h1, h2⟩ h⟩
      exact eq_dictsT (n := 60) (e := fun k => (ch k).choose) ns1 ns2 p1 p2 (fun k v y h1 h2 => (ch k).choose_spec v y h1 h2) (by omega) ⟨.bl _, H, I, rfl, fin _ rfl⟩
    | _ => cases nd
  | _ => cases nd
def isStrD (z : Str) : PyData → Bool
  | .str y => decide (y = z)
  | _ => false
def inTq (d : PyData) (u : Value) : Bool := match u with
  | .str z _ => isStrD z d
  | _ => false
theorem strs_mem : ∀ {zs : List Str} {us : List Value}, Vals (zs.map V.str) us → ∀ w ∈ us, ∃ z t, w = .str z t
  | [], _, .nil, w, h => by cases h
  | z :: zs, _ :: us, .cons r t, w, h => by
    rcases List.mem_cons.mp h with rfl | h
    · exact ⟨z, r⟩
    · exact strs_mem t w h
theorem strs_any (d : PyData) : ∀ {zs : List Str} {us : List Value}, Vals (zs.map V.str) us → us.any (inTq d) = zs.any fun z => isStrD z d
  | [], _, .nil => rfl
  | z :: zs, _ :: us, .cons r t => by
    obtain ⟨t', rfl⟩ := r
    rw [List.any_cons, List.any_cons, strs_any d t]
    rfl
theorem beq_sd (z z' : Str) : (z == z') = decide (z' = z) := by
  by_cases h : z' = z
  · subst h
    rw [decide_eq_true rfl]
    exact beq_self_eq_true _
  · rw [decide_eq_false h]
    exact beq_eq_false_iff_ne.mpr (Ne.symm h)
/-- any data in a tuple of texts -/
def rInT (K : PySem.W.Frag) : R2 := fun x y H Q => ∃ (d : PyData) (p : Addr) (zs : List Str), Dp K H x d ∧ y = .ref p ∧ SqT K H p (zs.map V.str) ∧ Q (.bl (zs.any fun z => isStrD z d)) H
theorem op_inT (hu : X.A.units + 64 < cLine) : OpR X (compareOp .In) (rInT X.K) := by
  intro pins s σ H x y v u Q I rx ry h
  obtain ⟨d, p, zs, hd, rfl, hp, q⟩ := h
  cases ry
  obtain ⟨its, rv, pl, _⟩ := I.tuple hp
  have sx := dp_shp I hd rx
  refine SeqAt.in_tupleAt (inTq d) pl (fun w hw => ?_) ⟨.bl _, H, I, rfl, ?_⟩
  · obtain ⟨z, t, rfl⟩ := strs_mem rv w (by simpa using hw)
    show EqAt _ _ _ _ (isStrD z d)
    have hu' : X.A.in1.units < cLine := by show X.A.units + 1 < cLine; omega
    cases sx with
    | non => exact SeqAt.EqAt.str_none z t
    | bl b => exact SeqAt.EqAt.str_bool z t b
    | int i t' => exact SeqAt.EqAt.str_int z t i t'
    | str z' t' =>
      show EqAt _ _ _ _ (decide (z' = z))
      rw [← beq_sd]
      exact SeqAt.EqAt.str_str z t z' t'
    | lst h => exact SeqAt.EqAt.str_list z t h hu'
    | tup h => exact SeqAt.EqAt.str_tuple z t h hu'
    | dct h => exact eqAt_rc (by simp) (by rfl) (rc_str_dict' z t h hu')
  · rw [show its.toArray.any (inTq d) = its.any (inTq d) by simp, strs_any d rv]
    exact q
end
/-! fits -/
inductive Kd | name | graph | number | place | sign | into | out
deriving DecidableEq
def kdS : Kd → Str
  | .name => "name"
  | .graph => "graph"
  | .number => "number"
  | .place => "place"
  | .sign => "sign"
  | .into => "into"
  | .out => "from"
def signs : List Str := ["+", "-", "*", "<", "="]
def intIn (ns : List Int) : PyData → Bool
  | .int i => decide (i ∈ ns)
  | _ => false
def fitD (ss ts : List Int) (k : Kd) (d : PyData) : Bool := match k with
  | .name => numNameD d
  | .graph => graphNameD d
  | .number => withinD (-9999) 9999 d
  | .place => withinD 0 2 d
  | .sign => signs.any fun z => isStrD z d
  | .into => intIn ss d
  | .out => intIn ts d
theorem inV_ints (i : Int) : ∀ ns : List Int, inV (.int i) (ns.map V.int) = decide (i ∈ ns)
  | [] => rfl
  | n :: ns => by
    have h := inV_ints i ns
    unfold inV at h ⊢
    rw [List.map_cons, List.any_cons, h]
    show ((n == i) || decide (i ∈ ns)) = decide (i ∈ n :: ns)
    by_cases e : n = i
    · subst e
      rw [beq_self_eq_true, decide_eq_true List.mem_cons_self]
      rfl
    · rw [beq_eq_false_iff_ne.mpr e, Bool.false_or]
      refine decide_eq_decide.mpr ⟨fun h => List.mem_cons_of_mem _ h, fun h => ?_⟩
      rcases List.mem_cons.mp h with h | h
      · exact absurd h.symm e
      · exact h
theorem flat_ints (ns : List Int) : (ns.map V.int).all flatV = true := by
  rw [List.all_eq_true]
  intro x hx
  obtain ⟨n, _, rfl⟩ := List.mem_map.mp hx
  rfl
theorem op_inTI {X : Cx} : OpR X (compareOp .In) (fun x y H Q => ∃ (i : Int) (p : Addr) (ns : List Int), x = .int i ∧ y = .ref p ∧ SqT X.K H p (ns.map V.int) ∧ Q (.bl (decide (i ∈ ns))) H) := by
  intro pins s σ H x y v u Q I rx ry h
  obtain ⟨i, p, ns, rfl, rfl, hp, q⟩ := h
  refine op_in_seq pins s σ H _ _ v u Q I rx ry ⟨p, ns.map V.int, rfl, .inr hp, rfl, flat_ints ns, ?_⟩
  show Q (.bl (inV (.int i) (ns.map V.int))) H
  rw [inV_ints]
  exact q
section
open PySem.Spec PyProof.Rows LamX
variable {P : Program} {w : World} {K : PySem.W.Frag} {mg : Str → Option Value} {base : Heap} {f : Addr} {fd : FuncData}
/-- a tuple of the top -/
def SqK (K : PySem.W.Frag) (a : Addr) (xs : List V) : Prop := ∃ (o : Obj) (its : Array Value) (n : Nat), K.lookup a = some o ∧ o.cls = .type "tuple" ∧ o.data = .seq its n ∧ its.size ≤ sizeLine ∧ Vals xs its.toList
theorem SqK.at {a : Addr} {xs : List V} (h : SqK K a xs) (H : Hp) : SqT K H a xs := .inr h
def spFits (K : PySem.W.Frag) (PT : List Addr) : Sp := fun vs H Q _ => ∃ (k : Kd) (x : V) (d : PyData) (a b : Addr) (ss ts : List Int), vs = [.str (kdS k), x, .ref a, .ref b] ∧ Dp K H x d ∧ TxtOk d ∧ SqT K H a (ss.map V.int) ∧ SqT K H b (ts.map V.int) ∧ TabsG PT H ∧ ∀ H', ExtN H H' → TabsG PT H' → Q (.bl (fitD ss ts k d)) H'
theorem scFits : FnScope ["kind", "part", "sends", "takes"] ["kind", "part", "sends", "takes"] (defScope sFits) := ⟨rfl, rfl, rfl, by decide +kernel, rfl, by decide +kernel, by decide +kernel⟩
theorem ok_fits {k : Nat} {PT : List Addr} {sg : Addr} (F : Fun K "fits" "fits" sFits f fd) (hG : mg "SIGNS" = some (.ref sg)) (hS : SqK K sg (signs.map V.str))
    (cN : Cal P w K mg base "is_number_name" k ["thing"] (spName K PT numNameD)) (cG : Cal P w K mg base "is_graph_name" k ["thing"] (spName K PT graphNameD)) (cI : Cal P w K mg base "is_number" k ["thing"] (spNumber K)) (cP : Cal P w K mg base "is_place" k ["thing"] (spPlaceD K)) (cW : Cal P w K mg base "is_whole" k ["thing"] (spWhole K)) :
    FnOk P w K mg base CX0 (k + 1) f fd ["kind", "part", "sends", "takes"] (spFits K PT) := by
  refine F.ok scFits (fun vs H Q E h => ?_) (fun cdv A outer s H vs Q E hr h => ?_)
  · obtain ⟨k, x, d, a, b, ss, ts, rfl, _⟩ := h
    rfl
  obtain ⟨kd, x, d, a, b, ss, ts, rfl, hx, ht, ha, hb, tb, q⟩ := h
  refine ⟨_, pss_cons (ps_if (pt_cmpR op_eq (pv 0) pe_str (nomark _)) (pss_one (ps_ret (pe_cal cN hr rfl (pa_cons (pv 1) pa_nil)))) pss_nil)
    (pss_cons (ps_if (pt_cmpR op_eq (pv 0) pe_str (nomark _)) (pss_one (ps_ret (pe_cal cG hr rfl (pa_cons (pv 1) pa_nil)))) pss_nil)
    (pss_cons (ps_if (pt_cmpR op_eq (pv 0) pe_str (nomark _)) (pss_one (ps_ret (pe_cal cI hr rfl (pa_cons (pv 1) pa_nil)))) pss_nil)
    (pss_cons (ps_if (pt_cmpR op_eq (pv 0) pe_str (nomark _)) (pss_one (ps_ret (pe_cal cP hr rfl (pa_cons (pv 1) pa_nil)))) pss_nil)
    (pss_cons (ps_if (pt_cmpR op_eq (pv 0) pe_str (nomark _)) (pss_one (ps_ret (pe_cmpR (op_inT hr.units) (pv 1) (pe_glob (v := .ref sg) rfl hG rfl) rfl))) pss_nil)
    (pss_one (ps_ret (pe_and (pe_cal cW hr rfl (pa_cons (pv 1) pa_nil)) (pe_one (pe_cmpR op_inTI (pv 1) (pe_ifExp (pt_cmpR op_eq (pv 0) pe_str (nomark _)) (pv 2) (pv 3)) rfl))))))))), ?_⟩
  cases kd with
  | name =>
    refine ⟨_, rfl, rfl, _, rfl, ?_⟩
    refine ifT (by decide +kernel) ?_
    exact ⟨_, rfl, x, d, rfl, hx, ht, tb, q⟩
  | graph =>
    refine ⟨_, rfl, rfl, _, rfl, ?_⟩
    refine ifF (by decide +kernel) ?_
    refine ⟨_, rfl, rfl, _, rfl, ?_⟩
    refine ifT (by decide +kernel) ?_
    exact ⟨_, rfl, x, d, rfl, hx, ht, tb, q⟩
  | number =>
    refine ⟨_, rfl, rfl, _, rfl, ?_⟩
    refine ifF (by decide +kernel) ?_
    refine ⟨_, rfl, rfl, _, rfl, ?_⟩
    refine ifF (by decide +kernel) ?_
    refine ⟨_, rfl, rfl, _, rfl, ?_⟩
    refine ifT (by decide +kernel) ?_
    exact ⟨_, rfl, x, d, rfl, hx, q H (ExtN.refl _) tb⟩
  | place =>
    refine ⟨_, rfl, rfl, _, rfl, ?_⟩
    refine ifF (by decide +kernel) ?_
    refine ⟨_, rfl, rfl, _, rfl, ?_⟩
    refine ifF (by decide +kernel) ?_
    refine ⟨_, rfl, rfl, _, rfl, ?_⟩
    refine ifF (by decide +kernel) ?_
    refine ⟨_, rfl, rfl, _, rfl, ?_⟩
    refine ifT (by decide +kernel) ?_
    exact ⟨_, rfl, x, d, rfl, hx, q H (ExtN.refl _) tb⟩
  | sign =>
    refine ⟨_, rfl, rfl, _, rfl, ?_⟩
    refine ifF (by decide +kernel) ?_
    refine ⟨_, rfl, rfl, _, rfl, ?_⟩
    refine ifF (by decide +kernel) ?_
    refine ⟨_, rfl, rfl, _, rfl, ?_⟩
    refine ifF (by decide +kernel) ?_
    refine ⟨_, rfl, rfl, _, rfl, ?_⟩
    refine ifF (by decide +kernel) ?_
    refine ⟨_, rfl, rfl, _, rfl, ?_⟩
    refine ifT (by decide +kernel) ?_
    exact ⟨_, rfl, d, sg, signs, hx, rfl, hS.at H, q H (ExtN.refl _) tb⟩
  | into =>
    refine ⟨_, rfl, rfl, _, rfl, ?_⟩
    refine ifF (by decide +kernel) ?_
    refine ⟨_, rfl, rfl, _, rfl, ?_⟩
    refine ifF (by decide +kernel) ?_
    refine ⟨_, rfl, rfl, _, rfl, ?_⟩
    refine ifF (by decide +kernel) ?_
    refine ⟨_, rfl, rfl, _, rfl, ?_⟩
    refine ifF (by decide +kernel) ?_
    refine ⟨_, rfl, rfl, _, rfl, ?_⟩
    refine ifF (by decide +kernel) ?_
    refine ⟨_, rfl, x, d, rfl, hx, _, rfl, ?_⟩
    cases hw : wholeD d with
    | false =>
      have e : fitD ss ts .into d = false := by cases d <;> first | rfl | cases hw
      have r := q H (ExtN.refl _) tb
      rw [e] at r
      exact ifF rfl r
    | true =>
      obtain ⟨i, rfl⟩ : ∃ i, d = .int i := by cases d <;> first | exact ⟨_, rfl⟩ | cases hw
      cases hx
      exact ifT rfl ⟨_, rfl, _, rfl, rfl, _, rfl, ifT (by decide +kernel) ⟨_, rfl, i, _, _, rfl, rfl, ha, q H (ExtN.refl _) tb⟩⟩
  | out =>
    refine ⟨_, rfl, rfl, _, rfl, ?_⟩
    refine ifF (by decide +kernel) ?_
    refine ⟨_, rfl, rfl, _, rfl, ?_⟩
    refine ifF (by decide +kernel) ?_
    refine ⟨_, rfl, rfl, _, rfl, ?_⟩
    refine ifF (by decide +kernel) ?_
    refine ⟨_, rfl, rfl, _, rfl, ?_⟩
    refine ifF (by decide +kernel) ?_
    refine ⟨_, rfl, rfl, _, rfl, ?_⟩
    refine ifF (by decide +kernel) ?_
    refine ⟨_, rfl, x, d, rfl, hx, _, rfl, ?_⟩
    cases hw : wholeD d with
    | false =>
      have e : fitD ss ts .out d = false := by cases d <;> first | rfl | cases hw
      have r := q H (ExtN.refl _) tb
      rw [e] at r
      exact ifF rfl r
    | true =>
      obtain ⟨i, rfl⟩ : ∃ i, d = .int i := by cases d <;> first | exact ⟨_, rfl⟩ | cases hw
      cases hx
      exact ifT rfl ⟨_, rfl, _, rfl, rfl, _, rfl, ifF (by decide +kernel) ⟨_, rfl, i, _, _, rfl, rfl, hb, q H (ExtN.refl _) tb⟩⟩
end
/-! is_deed -/
def deedL : List (Str × List Kd) := [("num", [.name, .number]), ("sum", [.name, .name, .sign, .name]), ("new", [.graph]), ("let", [.graph, .graph]), ("add", [.graph, .name]), ("put", [.graph, .name, .place, .name]), ("tie", [.graph, .name, .place, .name]), ("hang", [.graph, .name, .place, .graph]),
  ("get", [.name, .graph, .name, .place]), ("sort", [.name, .graph, .name, .place]), ("pick", [.graph, .graph, .name, .place]), ("send", [.into, .graph]), ("take", [.graph, .out]), ("tell", [.name]), ("show", [.graph])]
def deedK (z : Str) : Option (List Kd) := deedL.lookup z
def unlikeL : List Str := ["let", "hang"]
def txtNe : PyData → PyData → Bool
  | .str a, .str b => !decide (a = b)
  | _, _ => true
def fitsAll (ss ts : List Int) : List Kd → List PyData → Bool
  | k :: ks, d :: ds => fitD ss ts k d && fitsAll ss ts ks ds
  | _, _ => true
def unlikeB (z : Str) (ds : List PyData) : Bool := !decide (z ∈ unlikeL) || txtNe (ds.headD .none) (ds.getLastD .none)
def deedB (ss ts : List Int) (z : Str) (ds : List PyData) : Bool := match deedK z with
  | none => false
  | some ks => decide (ds.length = ks.length) && (fitsAll ss ts ks ds && unlikeB z ds)
def deedD (ss ts : List Int) : PyData → Bool
  | .tuple (.str z :: ds) => deedB ss ts z ds
  | _ => false
/-- the table of deeds -/
structure DeedT (K : PySem.W.Frag) (w : World) (d : Addr) : Prop where
  kd : ∃ es n, KDict K w d es n
  no : ∀ z, deedK z = none → PySem.W.nsIn K d z = some none
  yes : ∀ z ks, deedK z = some ks → ∃ a, PySem.W.nsIn K d z = some (some (.ref a)) ∧ SqK K a (ks.map fun k => V.str (kdS k))
theorem inV_strs (z : Str) : ∀ zs : List Str, inV (.str z) (zs.map V.str) = decide (z ∈ zs)
  | [] => rfl
  | n :: ns => by
    have h := inV_strs z ns
    unfold inV at h ⊢
    rw [List.map_cons, List.any_cons, h]
    show ((n == z) || decide (z ∈ ns)) = decide (z ∈ n :: ns)
    by_cases e : n = z
    · subst e
      rw [beq_self_eq_true, decide_eq_true List.mem_cons_self]
      rfl
    · rw [beq_eq_false_iff_ne.mpr e, Bool.false_or]
      refine decide_eq_decide.mpr ⟨fun h => List.mem_cons_of_mem _ h, fun h => ?_⟩
      rcases List.mem_cons.mp h with h | h
      · exact absurd h.symm e
      · exact h
theorem flat_strs (zs : List Str) : (zs.map V.str).all flatV = true := by
  rw [List.all_eq_true]
  intro x hx
  obtain ⟨n, _, rfl⟩ := List.mem_map.mp hx
  rfl
theorem op_ninTS {X : Cx} : OpR X (compareOp .NotIn) (fun x y H Q => ∃ (z : Str) (p : Addr) (zs : List Str), x = .str z ∧ y = .ref p ∧ (SqL X.K H p (zs.map V.str) ∨ SqT X.K H p (zs.map V.str)) ∧ Q (.bl (!decide (z ∈ zs))) H) := by
  intro pins s σ H x y v u Q I rx ry h
  obtain ⟨i, p, ns, rfl, rfl, hp, q⟩ := h
  refine op_notIn_seq pins s σ H _ _ v u Q I rx ry ⟨p, ns.map V.str, rfl, hp, rfl, flat_strs ns, ?_⟩
  show Q (.bl (!inV (.str i) (ns.map V.str))) H
  rw [inV_strs]
  exact q
theorem op_inTS {X : Cx} : OpR X (compareOp .In) (fun x y H Q => ∃ (z : Str) (p : Addr) (zs : List Str), x = .str z ∧ y = .ref p ∧ (SqL X.K H p (zs.map V.str) ∨ SqT X.K H p (zs.map V.str)) ∧ Q (.bl (decide (z ∈ zs))) H) := by
  intro pins s σ H x y v u Q I rx ry h
  obtain ⟨i, p, ns, rfl, rfl, hp, q⟩ := h
  refine op_in_seq pins s σ H _ _ v u Q I rx ry ⟨p, ns.map V.str, rfl, hp, rfl, flat_strs ns, ?_⟩
  show Q (.bl (inV (.str i) (ns.map V.str))) H
  rw [inV_strs]
  exact q
theorem cut1 (y : V) (ys : List V) : cutV (y :: ys) (some 1) none = ys := by
  unfold cutV HT.sIx
  simp
theorem sl1 (y : V) (ys : List V) : ¬ (HT.sIx (y :: ys).length 0 (some 1) = 0 ∧ HT.sIx (y :: ys).length (y :: ys).length none = (y :: ys).length) := by
  unfold HT.sIx
  simp
def BkOk (d : PyData) : Prop := d.bulk ≤ 1000000
theorem bk_txt {d : PyData} (h : BkOk d) : TxtOk d := fun x e => by
  subst e
  unfold BkOk at h
  simp only [PyData.bulk] at h
  refine Nat.le_trans ?_ (show 1000000 ≤ sizeLine by decide)
  show x.cps.size ≤ 1000000
  omega
theorem bk_mem {ds : List PyData} {e : PyData} (h : BkOk (.tuple ds)) (hm : e ∈ ds) : BkOk e := by
  have z := bulk_mem hm
  unfold BkOk at h ⊢
  simp only [PyData.bulk] at h
  omega
theorem gx_zipT {K : PySem.W.Frag} {a b : Addr} {xs ys : List V} (hlen : xs.length = ys.length) {g : TG} {tt : TT} {te : TE} {vs : List Nat} {σ0 : L2.St} {e : Bool} {Qe Qn : Hp → Prop} {H : Hp} (Pv : Nat → Hp → Prop) (h0 : Pv 0 H) (hl : ∀ i H, i ≤ xs.length → Pv i H → SqT K H a xs ∧ SqT K H b ys)
    (hs : ∀ i x y T H, xs[i]? = some x → ys[i]? = some y → Pv i H → H T = none → g (.ref T) σ0 (upd H T (.tup [x, y])) fun σ2 H2 => wipe σ2 vs = σ0 ∧ tt σ2 H2 fun b H3 => if b = true then te σ2 H3 fun y H4 => ∃ c, y = .bl c ∧ (c = e → Pv (i + 1) H4) ∧ (c ≠ e → Qn H4) else Pv (i + 1) H3) (hd : ∀ H, Pv xs.length H → Qe H) :
    ∃ W : Nat → Nat → Hp → Prop, (∃ m, W 0 m H) ∧ gxTurn (RZ.ItzT K a b) g tt te vs σ0 e Qe Qn W := by
  refine ⟨fun i m H => m = xs.length - i ∧ i ≤ xs.length ∧ Pv i H, ⟨xs.length, by simp, Nat.zero_le _, h0⟩, ?_⟩
  rintro i m H ⟨rfl, hi, p⟩
  have q := hl i H hi p
  by_cases hlt : i < xs.length
  · refine .inr ⟨⟨xs, ys, xs[i], ys[i]'(by omega), q.1, q.2, by simp [hlt], by simp [show i < ys.length by omega]⟩, Pv (i + 1), fun H' p' => ⟨xs.length - (i + 1), by omega, rfl, hlt, p'⟩, fun x H' y => ?_⟩
    obtain ⟨T, x0, y0, rfl, hT, rfl, hx, hy⟩ := y
    exact hs i x0 y0 T H (hx xs q.1) (hy ys q.2) p hT
  · have e : i = xs.length := by omega
    subst e
    exact .inl ⟨⟨xs, ys, q.1, q.2, .inl (Nat.le_refl _)⟩, hd H p⟩
theorem fitsAll_take {ss ts : List Int} : ∀ {ks : List Kd} {ds : List PyData} {i : Nat} {k : Kd} {d : PyData}, ks[i]? = some k → ds[i]? = some d → fitsAll ss ts (ks.take (i + 1)) (ds.take (i + 1)) = (fitsAll ss ts (ks.take i) (ds.take i) && fitD ss ts k d)
  | k :: ks, d :: ds, 0, _, _, h1, h2 => by
    cases h1
    cases h2
    show (fitD ss ts k d && fitsAll ss ts [] []) = (fitsAll ss ts [] [] && fitD ss ts k d)
    show (fitD ss ts k d && true) = (true && fitD ss ts k d)
    rw [Bool.and_true, Bool.true_and]
  | k :: ks, d :: ds, i + 1, _, _, h1, h2 => by
    show (fitD ss ts k d && fitsAll ss ts (ks.take (i + 1)) (ds.take (i + 1))) = ((fitD ss ts k d && fitsAll ss ts (ks.take i) (ds.take i)) && _)
    rw [fitsAll_take (show ks[i]? = _ from h1) (show ds[i]? = _ from h2), Bool.and_assoc]
theorem fitsAll_no {ss ts : List Int} : ∀ {ks : List Kd} {ds : List PyData} {i : Nat} {k : Kd} {d : PyData}, ks[i]? = some k → ds[i]? = some d → fitD ss ts k d = false → fitsAll ss ts ks ds = false
  | k :: ks, d :: ds, 0, _, _, h1, h2, h => by
    cases h1
    cases h2
    show (fitD ss ts k d && _) = false
    rw [h, Bool.false_and]
  | k :: ks, d :: ds, i + 1, _, _, h1, h2, h => by
    show (_ && fitsAll ss ts ks ds) = false
    rw [fitsAll_no (show ks[i]? = _ from h1) (show ds[i]? = _ from h2) h, Bool.and_false]
theorem graph_str {d : PyData} (h : graphNameD d = true) : ∃ z, d = .str z := by
  cases d <;> first | exact ⟨_, rfl⟩ | cases h
theorem and3 {a b : Bool} (h : (a && b) = true) : a = true ∧ b = true := by
  cases a <;> cases b <;> first | exact ⟨rfl, rfl⟩ | cases h
theorem decV (u v : Str) : decide (V.str u = V.str v) = decide (u = v) := decide_eq_decide.mpr ⟨fun h => by injection h, fun h => by rw [h]⟩
/-- first and last of an unlike pair are texts -/
theorem unlike_txt {ss ts : List Int} {z : Str} {ks : List Kd} {ds : List PyData} (hz : z ∈ unlikeL) (hk : deedK z = some ks) (hl : ds.length = ks.length) (hf : fitsAll ss ts ks ds = true) : ∃ (u v : Str) (r : List PyData), (ds = [.str u, .str v] ∨ ∃ d2 d3, ds = [.str u, d2, d3, .str v]) := by
  have e : z = "let" ∨ z = "hang" := by simpa [unlikeL] using hz
  rcases e with rfl | rfl
  · have ek : ks = [.graph, .graph] := by
      have : deedK "let" = some [.graph, .graph] := by decide +kernel
      rw [this] at hk
      exact (Option.some.inj hk).symm
    subst ek
    match ds, hl with
    | [d1, d2], _ =>
      obtain ⟨h1, h2⟩ := and3 (show (graphNameD d1 && (graphNameD d2 && true)) = true from hf)
      obtain ⟨u, rfl⟩ := graph_str h1
      obtain ⟨v, rfl⟩ := graph_str (and3 h2).1
      exact ⟨u, v, [], .inl rfl⟩
  · have ek : ks = [.graph, .name, .place, .graph] := by
      have : deedK "hang" = some [.graph, .name, .place, .graph] := by decide +kernel
      rw [this] at hk
      exact (Option.some.inj hk).symm
    subst ek
    match ds, hl with
    | [d1, d2, d3, d4], _ =>
      obtain ⟨h1, h2⟩ := and3 (show (graphNameD d1 && (numNameD d2 && (withinD 0 2 d3 && (graphNameD d4 && true)))) = true from hf)
      obtain ⟨u, rfl⟩ := graph_str h1
      obtain ⟨v, rfl⟩ := graph_str (and3 (and3 (and3 h2).2).2).1
      exact ⟨u, v, [], .inr ⟨d2, d3, rfl⟩⟩
section
open PySem.Spec PyProof.Rows LamX
variable {P : Program} {w : World} {K : PySem.W.Frag} {mg : Str → Option Value} {base : Heap} {f : Addr} {fd : FuncData}
def spIsDeed (K : PySem.W.Frag) (PT : List Addr) : Sp := fun vs H Q _ => ∃ (x : V) (d : PyData) (a b : Addr) (ss ts : List Int), vs = [x, .ref a, .ref b] ∧ Dp K H x d ∧ BkOk d ∧ SqT K H a (ss.map V.int) ∧ SqT K H b (ts.map V.int) ∧ TabsG PT H ∧ ∀ H', ExtN H H' → TabsG PT H' → Q (.bl (deedD ss ts d)) H'
abbrev NDeed : List Str := ["thing", "sends", "takes", "word", "wanted", "kind", "part"]
theorem scIsDeed : FnScope NDeed ["thing", "sends", "takes"] (defScope sIsDeed) := ⟨rfl, rfl, rfl, by decide +kernel, rfl, by decide +kernel, by decide +kernel⟩
theorem ok_isDeed {k : Nat} {c Pc : Addr} {PT : List Addr} {dt ul : Addr} (F : Fun K "is_deed" "is_deed" sIsDeed f fd) (hc : fd.code = .ref c) (TB : LamX.TabB base mg c Pc) (hPT : Pc ∈ PT) (T : Free mg) (hA : mg "all" = none) (hZ : mg "zip" = none)
    (hD : mg "DEEDS" = some (.ref dt)) (DT : DeedT K w dt) (hU : mg "UNLIKE" = some (.ref ul)) (hUL : SqK K ul (unlikeL.map V.str))
    (cWo : Cal P w K mg base "word_of" k ["thing"] (spWordOf K)) (cF : Cal P w K mg base "fits" k ["kind", "part", "sends", "takes"] (spFits K PT)) : FnOk P w K mg base CX0 (k + 2) f fd ["thing", "sends", "takes"] (spIsDeed K PT) := by
  refine okC F hc scIsDeed (fun vs H Q E h => ?_) (fun A outer s H vs Q E hr h => ?_)
  · obtain ⟨x, d, a, b, ss, ts, rfl, _⟩ := h
    rfl
  obtain ⟨x, d, a, b, ss, ts, rfl, hx, hk, ha, hb, tb, q⟩ := h
  obtain ⟨es, n, KD⟩ := DT.kd
  have cWo' := cWo.mono (Nat.le_succ k)
  refine ⟨_, pss_cons (ps_set (i := 3) scIsDeed.nd rfl (.inl rfl) (pe_cal cWo' hr rfl (pa_cons (pv 0) pa_nil)))
    (pss_cons (ps_if (pt_cmpR (op_notIn_kd KD) (pv 3) (pe_glob (v := .ref dt) rfl hD rfl) rfl) (pss_one (ps_ret pe_bl)) pss_nil)
    (pss_cons (ps_set (i := 4) scIsDeed.nd rfl (.inl rfl) (pe_ix ix_kdict (pe_glob (v := .ref dt) rfl hD rfl) (pv 3) (fun _ _ => rfl)))
    (pss_cons (ps_if (pt_cmpR op_ne (pe_callB call_len_seq rfl T.len PySem.boot_len (pa_cons (pv 0) pa_nil)) (pe_op op_add (pe_callB call_len_seq rfl T.len PySem.boot_len (pa_cons (pv 4) pa_nil)) pe_int) (nomark _)) (pss_one (ps_ret pe_bl)) pss_nil)
    (pss_cons (ps_if (pt_not (pt_val (pe_allG (own := [("kind", 5), ("part", 6)]) (wi := RZ.iZipA K (tCons (tVar 4) (tCons (L2.tSl (rSlT K) (tVar 0) (tPart (tC (.int 1))) tNoPart) tNil))) (g := gTup K 2 (gCons (gName 5) (gCons (gName 6) gNil))) (tt := tYes) (te := tCall (spFits K PT) [] E0 (tCons (tVar 5) (tCons (tVar 6) (tCons (tVar 1) (tCons (tVar 2) tNil))))) scIsDeed.nd hr rfl hA (by decide +kernel) TB rfl
        (blkOk_by (own := [("kind", 5), ("part", 6)]) (N := NDeed) (sc := defScope sIsDeed) (by decide +kernel)) (by decide +kernel) rfl rfl (RZ.pi_zipA rfl hZ (pa_cons (pv 4) (pa_cons (pe_slice sl_tup (pv 0) (po_some pe_int) po_none) pa_nil)))
        (fun _ _ _ _ _ _ _ _ _ _ => pg_tup rfl (pgs_cons (pg_name (i := 5) scIsDeed.nd rfl (Or.inl rfl)) (pgs_cons (pg_name (i := 6) scIsDeed.nd rfl (Or.inl rfl)) pgs_nil))) (fun _ _ _ _ _ _ _ _ _ _ => pts_nil)
        (fun _ _ _ _ _ _ _ _ _ hr' => pe_cal cF hr' rfl (pa_cons (pv 5) (pa_cons (pv 6) (pa_cons (pv 1) (pa_cons (pv 2) pa_nil))))) (fun _ => rfl)))) (pss_one (ps_ret pe_bl)) pss_nil)
    (pss_one (ps_ret (pe_or (pe_cmpR op_ninTS (pv 3) (pe_glob (v := .ref ul) rfl hU rfl) rfl) (pe_one (pe_cmpR op_ne (pe_ix ix_tup (pv 0) pe_int (fun _ _ => rfl)) (pe_ix ix_tup (pv 0) (pe_un un_neg pe_int) (fun _ _ => rfl)) (nomark _))))))))))
    , ?_⟩
  refine ⟨_, rfl, _, d, rfl, hx, ?_⟩
  refine ⟨_, rfl, ?_⟩
  have no : deedD ss ts d = false → ∀ H', ExtN H H' → TabsG PT H' → Q (.bl false) H' := fun e H' e1 t1 => by
    have r := q H' e1 t1
    rw [e] at r
    exact r
  have bare : deedK (wordD d) = none → deedD ss ts d = false := fun e => by
    unfold deedD
    split
    · rename_i z ds
      show deedB ss ts z ds = false
      unfold deedB
      rw [show deedK z = none from e]
    · rfl
  cases hw : deedK (wordD d) with
  | none =>
    exact ⟨_, none, rfl, rfl, DT.no _ hw, _, rfl, ifT rfl (no (bare hw) H (ExtN.refl _) tb)⟩
  | some ks =>
    obtain ⟨wa, hwn, hwt⟩ := DT.yes _ ks hw
    refine ⟨_, some (.ref wa), rfl, rfl, hwn, _, rfl, ifF rfl ?_⟩
    obtain ⟨z, ds, rfl⟩ : ∃ z ds, d = .tuple (.str z :: ds) := by
      unfold wordD at hw
      split at hw
      · exact ⟨_, _, rfl⟩
      · rw [show deedK "" = none by decide +kernel] at hw
        cases hw
    have hw : deedK z = some ks := hw
    have dd : deedD ss ts (.tuple (.str z :: ds)) = (decide (ds.length = ks.length) && (fitsAll ss ts ks ds && unlikeB z ds)) := by
      show deedB ss ts z ds = _
      unfold deedB
      rw [hw]
    refine ⟨_, rfl, dt, z, .ref wa, rfl, rfl, ⟨es, n, _, KD.at_, KD.lit, hwn, rfl⟩, ?_⟩
    cases hx with
    | @tup ta xs _ at_ each =>
      cases each with
      | @cons y ys _ _ h1 h2 =>
        cases h1
        have ly := dpAll_len h2
        refine ⟨_, rfl, ta, _, rfl, .inr at_, _, rfl, wa, _, rfl, .inr (hwt.at H), _, _, rfl, rfl, rfl, _, rfl, ?_⟩
        by_cases hl : ds.length = ks.length
        · refine ifF (by rw [Bool.not_eq_false', decide_eq_true_eq]; congr 1; rw [List.length_map, List.length_cons]; omega) ?_
          rw [decide_eq_true hl, Bool.true_and] at dd
          refine ⟨_, rfl, _, rfl, _, rfl, ta, _, rfl, at_, sl1 _ _, fun p hp => ?_⟩
          have e0 : ExtN H (upd H p (.tup (cutV (V.str z :: ys) (some 1) none))) := ext_same (same_new hp _)
          have tb0 := tb.same (same_new hp (.tup (cutV (V.str z :: ys) (some 1) none)))
          rw [cut1] at e0 tb0 ⊢
          refine ⟨wa, p, _, ys, rfl, .inr ⟨hwt.at _, .of upd_same, tb0 Pc hPT, fun H2 b2 => ?_⟩⟩
          have e2 := e0.trans (tabbed_ext (tb0 Pc hPT) b2)
          have p2 : SqT K H2 p ys := sqT_ext (tabbed_ext (tb0 Pc hPT) b2) (.of upd_same)
          refine gx_zipT (xs := ks.map fun k => V.str (kdS k)) (ys := ys) (by rw [List.length_map]; omega) (fun i H' => ExtN H H' ∧ SqT K H' p ys ∧ TabsG PT H' ∧ fitsAll ss ts (ks.take i) (ds.take i) = true) ⟨e2, p2, tb0.tabbed b2, rfl⟩ (fun i H' _ h => ⟨hwt.at _, h.2.1⟩) (fun i x y T H' hxi hyi h hT => ?_) (fun H' h => ?_)
          · obtain ⟨e3, p3, t3, a3⟩ := h
            rw [List.getElem?_map] at hxi
            obtain ⟨kd, hkd, rfl⟩ := Option.map_eq_some_iff.mp hxi
            obtain ⟨d, hd, hdy⟩ := dpAll_get' h2 hyi
            have e4 := e3.trans (ext_same (same_new hT (.tup [V.str (kdS kd), y])))
            have p4 := sqT_ext (ext_same (same_new hT (.tup [V.str (kdS kd), y]))) p3
            have t4 := t3.same (same_new hT (.tup [V.str (kdS kd), y]))
            have bm : BkOk d := bk_mem hk (List.mem_cons_of_mem _ (List.mem_of_getElem? hd))
            refine ⟨T, _, rfl, .of upd_same, rfl, _, _, rfl, _, _, rfl, ?_⟩
            refine ⟨rfl, rfl, yesG ⟨_, rfl, _, rfl, _, rfl, _, rfl, kd, y, d, a, b, ss, ts, rfl, dp_ext e4 _ _ hdy, bk_txt bm, sqT_ext e4 ha, sqT_ext e4 hb, t4, fun H5 e5 t5 => ?_⟩⟩
            refine ⟨_, rfl, fun c => ⟨e4.trans e5, sqT_ext e5 p4, t5, ?_⟩, fun c => ?_⟩
            · rw [fitsAll_take hkd hd, a3, c]
              rfl
            · have ef := fitsAll_no (ss := ss) (ts := ts) hkd hd (Bool.eq_false_iff.mpr c)
              rw [ef, Bool.false_and] at dd
              exact ⟨_, rfl, ifT rfl (no dd H5 (e4.trans e5) t5)⟩
          · obtain ⟨e3, p3, t3, a3⟩ := h
            have a3 : fitsAll ss ts ks ds = true := by
              rw [List.length_map, List.take_length, ← hl, List.take_length] at a3
              exact a3
            rw [a3, Bool.true_and] at dd
            refine ⟨_, rfl, ifF rfl ?_⟩
            refine ⟨_, rfl, z, ul, unlikeL, rfl, rfl, .inr (hUL.at H'), _, rfl, ?_⟩
            by_cases hz : z ∈ unlikeL
            · refine ifF (by rw [decide_eq_true hz]; rfl) ?_
              obtain ⟨u, v, _, hds⟩ := unlike_txt hz hw hl a3
              have r := q H' e3 t3
              rw [dd] at r
              unfold unlikeB at r
              rw [decide_eq_true hz, Bool.not_true, Bool.false_or] at r
              rcases hds with rfl | ⟨d2, d3, rfl⟩
              · cases h2 with
                | cons i1 i2 =>
                  cases i2 with
                  | cons i3 i4 =>
                    cases i4
                    cases i1
                    cases i3
                    exact ⟨_, rfl, ta, _, 1, _, rfl, rfl, sqT_ext e3 at_, atI_at (by decide) rfl, _, rfl, _, rfl, ta, _, -1, _, rfl, rfl, sqT_ext e3 at_, rfl, rfl, by rw [decV]; exact r⟩
              · cases h2 with
                | cons i1 i2 =>
                  cases i2 with
                  | cons i3 i4 =>
                    cases i4 with
                    | cons i5 i6 =>
                      cases i6 with
                      | cons i7 i8 =>
                        cases i8
                        cases i1
                        cases i7
                        exact ⟨_, rfl, ta, _, 1, _, rfl, rfl, sqT_ext e3 at_, atI_at (by decide) rfl, _, rfl, _, rfl, ta, _, -1, _, rfl, rfl, sqT_ext e3 at_, rfl, rfl, by rw [decV]; exact r⟩
            · refine ifT (by rw [decide_eq_false hz]; rfl) ?_
              have r := q H' e3 t3
              rw [dd] at r
              unfold unlikeB at r
              rw [decide_eq_false hz, Bool.not_false, Bool.true_or] at r
              exact r
        · refine ifT (by rw [Bool.not_eq_true', decide_eq_false_iff_not]; intro z; injection z with z; rw [List.length_map, List.length_cons] at z; omega) ?_
          rw [decide_eq_false hl, Bool.false_and] at dd
          exact no dd H (ExtN.refl _) tb
end
/-! is_branch -/
def brK (z : Str) : Option Nat := if z = "if" then some 2 else if z = "while" then some 1 else none
def branchB (z : Str) (ds : List PyData) : Bool := match brK z with
  | none => false
  | some n => decide (ds.length = n + 1) && numNameD (ds.headD .none)
def branchD : PyData → Bool
  | .tuple (.str z :: ds) => branchB z ds
  | _ => false
theorem branch_shape {d : PyData} (h : branchD d = true) : ∃ z d1 ds m, d = .tuple (.str z :: d1 :: ds) ∧ brK z = some m ∧ ds.length = m ∧ numNameD d1 = true := by
  unfold branchD at h
  split at h
  · rename_i z ds
    unfold branchB at h
    split at h
    · cases h
    · rename_i m hm
      cases ds with
      | nil => cases h
      | cons d1 ds =>
        have h2 : (decide (ds.length + 1 = m + 1) && numNameD d1) = true := h
        rw [Bool.and_eq_true, decide_eq_true_eq] at h2
        exact ⟨z, d1, ds, m, rfl, hm, by omega, h2.2⟩
  · cases h
structure BranchT (K : PySem.W.Frag) (w : World) (d : Addr) : Prop where
  kd : ∃ es n, KDict K w d es n
  no : ∀ z, brK z = none → PySem.W.nsIn K d z = some none
  yes : ∀ z n, brK z = some n → ∃ t, PySem.W.nsIn K d z = some (some (.int (n : Nat) t))
def argsD : PyData → List PyData
  | .tuple (_ :: _ :: ds) => ds
  | _ => []
def stOf (ss ts : List Int) (bl : PyData → Option Nat) (d : PyData) : Option Nat := if deedD ss ts d = true then some 1 else if branchD d = true then (sumO bl (argsD d)).map (1 + ·) else none
def fit40 : Option Nat → Option Nat
  | none => none
  | some t => if t ≤ 40 then some t else none
def blkT (ss ts : List Int) (bl : PyData → Option Nat) (ds : List PyData) : Option Nat := if ds.length ≤ 12 then fit40 (sumO (stOf ss ts bl) ds) else none
def blkD (ss ts : List Int) : Nat → PyData → Option Nat
  | n + 1, .tuple ds => blkT ss ts (blkD ss ts n) ds
  | _, _ => none
section
open PySem.Spec PyProof.Rows LamX
variable {P : Program} {w : World} {K : PySem.W.Frag} {mg : Str → Option Value} {base : Heap} {f : Addr} {fd : FuncData}
def spIsBranch (K : PySem.W.Frag) (PT : List Addr) : Sp := fun vs H Q _ => ∃ (x : V) (d : PyData), vs = [x] ∧ Dp K H x d ∧ BkOk d ∧ TabsG PT H ∧ ∀ H', ExtN H H' → TabsG PT H' → Q (.bl (branchD d)) H'
theorem scIsBranch : FnScope ["thing", "word"] ["thing"] (defScope sIsBranch) := ⟨rfl, rfl, rfl, by decide +kernel, rfl, by decide +kernel, by decide +kernel⟩
theorem ok_isBranch {k : Nat} {PT : List Addr} {bt : Addr} (F : Fun K "is_branch" "is_branch" sIsBranch f fd) (T : Free mg) (hB : mg "BRANCHES" = some (.ref bt)) (BT : BranchT K w bt)
    (cWo : Cal P w K mg base "word_of" k ["thing"] (spWordOf K)) (cN : Cal P w K mg base "is_number_name" k ["thing"] (spName K PT numNameD)) : FnOk P w K mg base CX0 (k + 1) f fd ["thing"] (spIsBranch K PT) := by
  refine F.ok scIsBranch (fun vs H Q E h => ?_) (fun cdv A outer s H vs Q E hr h => ?_)
  · obtain ⟨x, d, rfl, _⟩ := h
    rfl
  obtain ⟨x, d, rfl, hx, hk, tb, q⟩ := h
  obtain ⟨es, n, KD⟩ := BT.kd
  refine ⟨_, pss_cons (ps_set (i := 1) scIsBranch.nd rfl (.inl rfl) (pe_cal cWo hr rfl (pa_cons (pv 0) pa_nil)))
    (pss_one (ps_ret (pe_and (pe_cmpR (op_in_kd KD) (pv 1) (pe_glob (v := .ref bt) rfl hB rfl) rfl) (pe_and (pe_cmpR op_eq (pe_callB call_len_seq rfl T.len PySem.boot_len (pa_cons (pv 0) pa_nil)) (pe_op op_add pe_int (pe_ix ix_kdict (pe_glob (v := .ref bt) rfl hB rfl) (pv 1) (fun _ _ => rfl))) (nomark _))
      (pe_one (pe_cal cN hr rfl (pa_cons (pe_ix ix_tup (pv 0) pe_int (fun _ _ => rfl)) pa_nil))))))), ?_⟩
  refine ⟨_, rfl, _, d, rfl, hx, _, rfl, ?_⟩
  cases hw : brK (wordD d) with
  | none =>
    have e : branchD d = false := by
      unfold branchD
      split
      · rename_i z ds
        unfold branchB
        rw [show brK z = none from hw]
      · rfl
    have r := q H (ExtN.refl _) tb
    rw [e] at r
    exact ⟨_, none, rfl, rfl, BT.no _ hw, _, rfl, ifF rfl r⟩
  | some m =>
    obtain ⟨t, hwn⟩ := BT.yes _ m hw
    refine ⟨_, some (.int (m : Nat) t), rfl, rfl, hwn, _, rfl, ifT rfl ?_⟩
    obtain ⟨z, ds, rfl⟩ : ∃ z ds, d = .tuple (.str z :: ds) := by
      unfold wordD at hw
      split at hw
      · exact ⟨_, _, rfl⟩
      · rw [show brK "" = none by decide +kernel] at hw
        cases hw
    have hw : brK z = some m := hw
    have dd : branchD (.tuple (.str z :: ds)) = (decide (ds.length = m + 1) && numNameD (ds.headD .none)) := by
      show branchB z ds = _
      unfold branchB
      rw [hw]
    cases hx with
    | @tup ta xs _ at_ each =>
      cases each with
      | @cons y ys _ _ h1 h2 =>
        have ly := dpAll_len h2
        refine ⟨_, rfl, ta, _, rfl, .inr at_, _, rfl, bt, z, .int (m : Nat), rfl, rfl, ⟨es, n, _, KD.at_, KD.lit, hwn, t, rfl⟩, _, _, rfl, rfl, rfl, _, rfl, ?_⟩
        by_cases hl : ds.length = m + 1
        · refine ifT (by rw [decide_eq_true_eq]; congr 1; rw [List.length_cons]; omega) ?_
          rw [decide_eq_true hl, Bool.true_and] at dd
          cases h2 with
          | nil => cases hl
          | @cons y2 ys2 d2 ds2 h3 h4 =>
            exact ⟨_, rfl, ta, _, 1, y2, rfl, rfl, at_, atI_at (by decide) rfl, y2, d2, rfl, h3, bk_txt (bk_mem hk (List.mem_cons_of_mem _ List.mem_cons_self)), tb, fun H' e1 t1 => by have r := q H' e1 t1; rw [dd] at r; exact r⟩
        · refine ifF (by rw [decide_eq_false_iff_not]; intro z; injection z with z; rw [List.length_cons] at z; omega) ?_
          rw [decide_eq_false hl, Bool.false_and] at dd
          have r := q H (ExtN.refl _) tb
          rw [dd] at r
          exact r
/-! statement_size, block_size -/
def spBlk (K : PySem.W.Frag) (PT : List Addr) (n : Nat) : Sp := fun vs H Q _ => ∃ (x : V) (d : PyData) (lv : Int) (a b : Addr) (ss ts : List Int), vs = [x, .int lv, .ref a, .ref b] ∧ lv = 5 - (n : Int) ∧ Dp K H x d ∧ BkOk d ∧ SqT K H a (ss.map V.int) ∧ SqT K H b (ts.map V.int) ∧ TabsG PT H ∧ ∀ H', ExtN H H' → TabsG PT H' → Q (optV (blkD ss ts n d)) H'
def spStm (K : PySem.W.Frag) (PT : List Addr) (n : Nat) : Sp := fun vs H Q _ => ∃ (x : V) (d : PyData) (lv : Int) (a b : Addr) (ss ts : List Int), vs = [x, .int lv, .ref a, .ref b] ∧ lv = 4 - (n : Int) ∧ Dp K H x d ∧ BkOk d ∧ SqT K H a (ss.map V.int) ∧ SqT K H b (ts.map V.int) ∧ TabsG PT H ∧ ∀ H', ExtN H H' → TabsG PT H' → Q (optV (stOf ss ts (blkD ss ts n) d)) H'
theorem scStm : FnScope ["thing", "level", "sends", "takes", "total", "block", "many"] ["thing", "level", "sends", "takes"] (defScope sStSize) := ⟨rfl, rfl, rfl, by decide +kernel, rfl, by decide +kernel, by decide +kernel⟩
theorem scBlk : FnScope ["thing", "level", "sends", "takes", "total", "statement", "many"] ["thing", "level", "sends", "takes"] (defScope sBlSize) := ⟨rfl, rfl, rfl, by decide +kernel, rfl, by decide +kernel, by decide +kernel⟩
theorem cut2 (x y : V) (ys : List V) : cutV (x :: y :: ys) (some 2) none = ys := by
  unfold cutV HT.sIx
  simp
theorem sl2 (x y : V) (ys : List V) : ¬ (HT.sIx (x :: y :: ys).length 0 (some 2) = 0 ∧ HT.sIx (x :: y :: ys).length (x :: y :: ys).length none = (x :: y :: ys).length) := by
  unfold HT.sIx
  simp
theorem ok_stm {k n : Nat} {PT : List Addr} (F : Fun K "statement_size" "statement_size" sStSize f fd) (cD : Cal P w K mg base "is_deed" k ["thing", "sends", "takes"] (spIsDeed K PT)) (cB : Cal P w K mg base "is_branch" k ["thing"] (spIsBranch K PT)) (cS : Cal P w K mg base "block_size" k ["thing", "level", "sends", "takes"] (spBlk K PT n)) :
    FnOk P w K mg base CX0 (k + 1) f fd ["thing", "level", "sends", "takes"] (spStm K PT n) := by
  refine F.ok scStm (fun vs H Q E h => ?_) (fun cdv A outer s H vs Q E hr h => ?_)
  · obtain ⟨x, d, lv, a, b, ss, ts, rfl, _⟩ := h
    rfl
  obtain ⟨x, d, lv, a, b, ss, ts, rfl, hlv, hx, hk, ha, hb, tb, q⟩ := h
  refine ⟨_, pss_cons (ps_if (pt_val (pe_cal cD hr rfl (pa_cons (pv 0) (pa_cons (pv 2) (pa_cons (pv 3) pa_nil))))) (pss_one (ps_ret pe_int)) pss_nil)
    (pss_cons (ps_if (pt_not (pt_val (pe_cal cB hr rfl (pa_cons (pv 0) pa_nil)))) (pss_one (ps_ret pe_non)) pss_nil)
    (pss_cons (ps_set (i := 4) scStm.nd rfl (.inl rfl) pe_int)
    (pss_cons (ps_for PassesOwn.never rfl (pi_tup (pe_slice sl_tup (pv 0) (po_some pe_int) po_none)) (pg_name (i := 5) scStm.nd rfl (.inl rfl))
      (pss_cons (ps_set (i := 6) scStm.nd rfl (.inl rfl) (pe_cal cS hr rfl (pa_cons (pv 5) (pa_cons (pe_op op_add (pv 1) pe_int) (pa_cons (pv 2) (pa_cons (pv 3) pa_nil))))))
      (pss_cons (ps_if (pt_cmpR op_isN (pv 6) pe_non (nomark _)) (pss_one (ps_ret pe_non)) pss_nil)
      (pss_one (ps_aug (i := 4) scStm.nd rfl (.inl rfl) (pv 6) ip_add)))))
    (pss_one (ps_ret (pv 4)))))), ?_⟩
  refine ⟨_, rfl, _, rfl, _, rfl, x, d, a, b, ss, ts, rfl, hx, hk, ha, hb, tb, fun H1 e1 t1 => ⟨_, rfl, ?_⟩⟩
  cases hdd : deedD ss ts d with
  | true =>
    refine ifT rfl ?_
    have r := q H1 e1 t1
    unfold stOf at r
    rw [if_pos hdd] at r
    exact r
  | false =>
    refine ifF rfl ?_
    refine ⟨_, rfl, x, d, rfl, dp_ext e1 _ _ hx, hk, t1, fun H2 e2 t2 => ⟨_, rfl, ?_⟩⟩
    have e02 := e1.trans e2
    cases hbd : branchD d with
    | false =>
      refine ifT rfl ?_
      have r := q H2 e02 t2
      unfold stOf at r
      rw [if_neg (by rw [hdd]; decide), if_neg (by rw [hbd]; decide)] at r
      exact r
    | true =>
      refine ifF rfl ?_
      have q : ∀ H', ExtN H H' → TabsG PT H' → Q (optV ((sumO (blkD ss ts n) (argsD d)).map (1 + ·))) H' := fun H' e t => by
        have r := q H' e t
        unfold stOf at r
        rw [if_neg (by rw [hdd]; decide), if_pos hbd] at r
        exact r
      obtain ⟨z, d1, ds, m, rfl, _⟩ := branch_shape hbd
      have q : ∀ H', ExtN H H' → TabsG PT H' → Q (optV ((sumO (blkD ss ts n) ds).map (1 + ·))) H' := q
      cases dp_ext e02 _ _ hx with
      | @tup ta xs _ at_ each =>
        cases each with
        | @cons y ys _ _ h1 h2 =>
          cases h2 with
          | @cons y2 ys2 _ _ h3 h4 =>
            refine ⟨_, rfl, _, rfl, ta, _, rfl, at_, sl2 _ _ _, fun p hp => ?_⟩
            have s3 := same_new hp (.tup (cutV (y :: y2 :: ys2) (some 2) none))
            have p3 : SqT K (upd H2 p (.tup (cutV (y :: y2 :: ys2) (some 2) none))) p (cutV (y :: y2 :: ys2) (some 2) none) := .of upd_same
            rw [cut2] at s3 p3 ⊢
            have ly := dpAll_len h4
            refine ⟨p, rfl, ⟨ys2, p3⟩, ?_⟩
            refine for_tup (xs := ys2) (fun i σ G => ∃ (sm : Nat) (o5 o6 : Option V), sumO (blkD ss ts n) (ds.take i) = some sm ∧ σ = [some (.ref ta), some (.int lv), some (.ref a), some (.ref b), some (.int (1 + (sm : Int))), o5, o6] ∧ ExtN H2 G ∧ SqT K G p ys2 ∧ TabsG PT G)
              ⟨0, none, none, rfl, rfl, ext_same s3, p3, t2.same s3⟩ (fun i σ G _ h => by obtain ⟨_, _, _, _, _, _, h, _⟩ := h; exact h) (fun i y3 σ G hyi h => ?_) (fun σ G h => ?_)
            · obtain ⟨sm, o5, o6, hsm, rfl, eG, pG, tG⟩ := h
              obtain ⟨d3, hd3, hdp⟩ := dpAll_get' h4 hyi
              have m3 : d3 ∈ ds := List.mem_of_getElem? hd3
              have b3 : BkOk d3 := bk_mem hk (List.mem_cons_of_mem _ (List.mem_cons_of_mem _ m3))
              refine ⟨_, rfl, _, rfl, _, _, rfl, rfl, _, rfl, _, rfl, y3, d3, lv + 1, a, b, ss, ts, rfl, by omega, dp_ext eG _ _ hdp, b3, sqT_ext (e02.trans eG) ha, sqT_ext (e02.trans eG) hb, tG, fun G' e' t' => ?_⟩
              cases hv : blkD ss ts n d3 with
              | none =>
                refine ⟨_, rfl, rfl, _, rfl, ifT (decide_eq_true rfl) ?_⟩
                have r := q G' (e02.trans (eG.trans e')) t'
                rw [sumO_none m3 hv] at r
                exact r
              | some v =>
                refine ⟨_, rfl, rfl, _, rfl, ifF (decide_eq_false (fun z => by cases z)) ?_⟩
                refine ⟨_, rfl, _, rfl, _, _, rfl, rfl, sm + v, some y3, some (.int v), ?_, ?_, eG.trans e', sqT_ext e' pG, t'⟩
                · rw [take_more hd3]
                  exact sumO_snoc hsm hv
                · rw [show (1 : Int) + ((sm + v : Nat) : Int) = 1 + (sm : Int) + (v : Int) by omega]
                  rfl
            · obtain ⟨sm, o5, o6, hsm, rfl, eG, pG, tG⟩ := h
              rw [ly, List.take_length] at hsm
              have r := q G (e02.trans eG) tG
              rw [hsm] at r
              refine ⟨_, rfl, ?_⟩
              have r : Q (.int ((1 + sm : Nat) : Int)) G := r
              rw [show ((1 + sm : Nat) : Int) = 1 + (sm : Int) by omega] at r
              exact r
theorem blk_not {ss ts : List Int} {n : Nat} {d : PyData} (h : tupD 0 12 d = false) : blkD ss ts n d = none := by
  cases n with
  | zero => cases d <;> rfl
  | succ n =>
    cases d with
    | tuple ds =>
      have h : (decide ((0 : Int) ≤ (ds.length : Int)) && decide ((ds.length : Int) ≤ 12)) = false := h
      rw [decide_eq_true (by omega), Bool.true_and] at h
      show blkT ss ts _ ds = none
      unfold blkT
      rw [if_neg (fun z => by have := of_decide_eq_false h; omega)]
    | _ => rfl
theorem ok_blk0 {k : Nat} {PT : List Addr} (F : Fun K "block_size" "block_size" sBlSize f fd) (C : Cst mg) (cT : Cal P w K mg base "is_tuple" k ["thing", "least", "most"] (spTuple K)) :
    FnOk P w K mg base CX0 (k + 1) f fd ["thing", "level", "sends", "takes"] (spBlk K PT 0) := by
  refine F.ok scBlk (fun vs H Q E h => ?_) (fun cdv A outer s H vs Q E hr h => ?_)
  · obtain ⟨x, d, lv, a, b, ss, ts, rfl, _⟩ := h
    rfl
  obtain ⟨x, d, lv, a, b, ss, ts, rfl, hlv, hx, hk, ha, hb, tb, q⟩ := h
  refine ⟨_, pss_cons (ps_if (PW.pt (pw_or (pt_cmpR op_gt (pv 1) (pe_globI rfl C.mostWithin) (nomark _)) (pw_or1 (pt_not (pt_val (pe_cal cT hr rfl (pa_cons (pv 0) (pa_cons pe_int (pa_cons (pe_globI rfl C.mostInBlock) pa_nil))))))))) (pss_one (ps_ret pe_non)) pss_nil) pss_never, ?_⟩
  have r := q H (ExtN.refl _) tb
  have e : blkD ss ts 0 d = none := by cases d <;> rfl
  rw [e] at r
  exact ⟨_, rfl, _, _, rfl, rfl, _, rfl, ifT (decide_eq_true (by omega)) (ifT rfl r)⟩
theorem ok_blk {k n : Nat} {PT : List Addr} (hn : n ≤ 3) (F : Fun K "block_size" "block_size" sBlSize f fd) (C : Cst mg) (cT : Cal P w K mg base "is_tuple" k ["thing", "least", "most"] (spTuple K)) (cS : Cal P w K mg base "statement_size" k ["thing", "level", "sends", "takes"] (spStm K PT n)) :
    FnOk P w K mg base CX0 (k + 1) f fd ["thing", "level", "sends", "takes"] (spBlk K PT (n + 1)) := by
  refine F.ok scBlk (fun vs H Q E h => ?_) (fun cdv A outer s H vs Q E hr h => ?_)
  · obtain ⟨x, d, lv, a, b, ss, ts, rfl, _⟩ := h
    rfl
  obtain ⟨x, d, lv, a, b, ss, ts, rfl, hlv, hx, hk, ha, hb, tb, q⟩ := h
  refine ⟨_, pss_cons (ps_if (PW.pt (pw_or (pt_cmpR op_gt (pv 1) (pe_globI rfl C.mostWithin) (nomark _)) (pw_or1 (pt_not (pt_val (pe_cal cT hr rfl (pa_cons (pv 0) (pa_cons pe_int (pa_cons (pe_globI rfl C.mostInBlock) pa_nil))))))))) (pss_one (ps_ret pe_non)) pss_nil)
    (pss_cons (ps_set (i := 4) scBlk.nd rfl (.inl rfl) pe_int)
    (pss_cons (ps_for PassesOwn.never rfl (pi_tup (pv 0)) (pg_name (i := 5) scBlk.nd rfl (.inl rfl))
      (pss_cons (ps_set (i := 6) scBlk.nd rfl (.inl rfl) (pe_cal cS hr rfl (pa_cons (pv 5) (pa_cons (pv 1) (pa_cons (pv 2) (pa_cons (pv 3) pa_nil))))))
      (pss_cons (ps_if (pt_cmpR op_isN (pv 6) pe_non (nomark _)) (pss_one (ps_ret pe_non)) pss_nil)
      (pss_one (ps_aug (i := 4) scBlk.nd rfl (.inl rfl) (pv 6) ip_add)))))
    (pss_one (ps_ret (pe_ifExp (pt_cmpR op_le (pv 4) (pe_globI rfl C.mostStatements) (nomark _)) (pv 4) pe_non))))), ?_⟩
  refine ⟨_, rfl, _, _, rfl, rfl, _, rfl, ifF (decide_eq_false (by omega)) ⟨_, rfl, x, d, 0, 12, rfl, hx, _, rfl, ?_⟩⟩
  cases ht : tupD 0 12 d with
  | false =>
    have r := q H (ExtN.refl _) tb
    rw [blk_not ht] at r
    exact ifT rfl r
  | true =>
    refine ifF rfl ?_
    obtain ⟨ds, rfl⟩ : ∃ ds, d = .tuple ds := by cases d <;> first | exact ⟨_, rfl⟩ | cases ht
    have hl : ds.length ≤ 12 := by
      have h := and3 (show (decide ((0 : Int) ≤ (ds.length : Int)) && decide ((ds.length : Int) ≤ 12)) = true from ht)
      have := of_decide_eq_true h.2
      omega
    have q : ∀ H', ExtN H H' → TabsG PT H' → Q (optV (fit40 (sumO (stOf ss ts (blkD ss ts n)) ds))) H' := fun H' e t => by
      have r : Q (optV (blkT ss ts (blkD ss ts n) ds)) H' := q H' e t
      unfold blkT at r
      rw [if_pos hl] at r
      exact r
    cases hx with
    | @tup ta xs _ at_ each =>
      have lx := dpAll_len each
      refine ⟨_, rfl, ta, rfl, ⟨xs, at_⟩, ?_⟩
      refine for_tup (xs := xs) (fun i σ G => ∃ (sm : Nat) (o5 o6 : Option V), sumO (stOf ss ts (blkD ss ts n)) (ds.take i) = some sm ∧ σ = [some (.ref ta), some (.int lv), some (.ref a), some (.ref b), some (.int (sm : Int)), o5, o6] ∧ ExtN H G ∧ TabsG PT G)
        ⟨0, none, none, rfl, rfl, ExtN.refl _, tb⟩ (fun i σ G _ h => by obtain ⟨_, _, _, _, _, h, _⟩ := h; exact sqT_ext h at_) (fun i y3 σ G hyi h => ?_) (fun σ G h => ?_)
      · obtain ⟨sm, o5, o6, hsm, rfl, eG, tG⟩ := h
        obtain ⟨d3, hd3, hdp⟩ := dpAll_get' each hyi
        have m3 : d3 ∈ ds := List.mem_of_getElem? hd3
        refine ⟨_, rfl, _, rfl, _, rfl, _, rfl, y3, d3, lv, a, b, ss, ts, rfl, by omega, dp_ext eG _ _ hdp, bk_mem hk m3, sqT_ext eG ha, sqT_ext eG hb, tG, fun G' e' t' => ?_⟩
        cases hv : stOf ss ts (blkD ss ts n) d3 with
        | none =>
          refine ⟨_, rfl, rfl, _, rfl, ifT (decide_eq_true rfl) ?_⟩
          have r := q G' (eG.trans e') t'
          rw [sumO_none m3 hv] at r
          exact r
        | some v =>
          refine ⟨_, rfl, rfl, _, rfl, ifF (decide_eq_false (fun z => by cases z)) ?_⟩
          refine ⟨_, rfl, _, rfl, _, _, rfl, rfl, sm + v, some y3, some (.int v), ?_, ?_, eG.trans e', t'⟩
          · rw [take_more hd3]
            exact sumO_snoc hsm hv
          · rw [show ((sm + v : Nat) : Int) = (sm : Int) + (v : Int) by omega]
            rfl
      · obtain ⟨sm, o5, o6, hsm, rfl, eG, tG⟩ := h
        rw [lx, List.take_length] at hsm
        have r := q G eG tG
        rw [hsm] at r
        refine ⟨_, rfl, _, _, rfl, rfl, _, rfl, ?_⟩
        have r : Q (optV (if sm ≤ 40 then some sm else none)) G := r
        by_cases h40 : sm ≤ 40
        · rw [if_pos h40] at r
          exact ifT (decide_eq_true (by omega)) ⟨_, rfl, r⟩
        · rw [if_neg h40] at r
          exact ifF (decide_eq_false (by omega)) r
/-- the two, one by the other -/
theorem all_blk {k : Nat} {PT : List Addr} {fs : Addr} {fds : FuncData} (F : Fun K "block_size" "block_size" sBlSize f fd) (Fs : Fun K "statement_size" "statement_size" sStSize fs fds) (hm : mg "block_size" = some (.ref f)) (hms : mg "statement_size" = some (.ref fs)) (hb : Binds K fd ["thing", "level", "sends", "takes"] []) (hbs : Binds K fds ["thing", "level", "sends", "takes"] [])
    (C : Cst mg) (cT : Cal P w K mg base "is_tuple" k ["thing", "least", "most"] (spTuple K)) (cD : Cal P w K mg base "is_deed" k ["thing", "sends", "takes"] (spIsDeed K PT)) (cB : Cal P w K mg base "is_branch" k ["thing"] (spIsBranch K PT)) :
    ∀ n, n ≤ 4 → FnOk P w K mg base CX0 (k + 2 * n + 1) f fd ["thing", "level", "sends", "takes"] (spBlk K PT n)
  | 0, _ => ok_blk0 F C cT
  | n + 1, hn => by
    have ih := all_blk F Fs hm hms hb hbs C cT cD cB n (by omega)
    have st := ok_stm (k := k + 2 * n + 1) (n := n) (PT := PT) Fs (cD.mono (by omega)) (cB.mono (by omega)) ⟨f, fd, ih, hm, F.kp, hb⟩
    exact ok_blk (k := k + 2 * n + 1 + 1) (by omega) F C (cT.mono (by omega)) ⟨fs, fds, st, hms, Fs.kp, hbs⟩
end
/-! is_channel, sends_of, takes_of, is_net -/
def mkCh (c : Int × Int) : PyData := .tuple [.int c.1, .int c.2]
def intNe : PyData → PyData → Bool
  | .int i, .int j => !decide (i = j)
  | _, _ => true
def chanD (m : Int) : PyData → Bool
  | .tuple [p, r] => (withinD 0 (m - 1) p && withinD 0 (m - 1) r) && intNe p r
  | _ => false
def sideN (sd : Int × Int → Int) (chs : List (Int × Int)) (me : Int) (n : Nat) : List Int := ((List.range n).filter fun m => decide (sd (chs.getD m (0, 0)) = me)).map fun (m : Nat) => (m : Int)
def sideL (sd : Int × Int → Int) (chs : List (Int × Int)) (me : Int) : List Int := sideN sd chs me chs.length
theorem sideN_yes {sd : Int × Int → Int} {chs : List (Int × Int)} {me : Int} {n : Nat} {c : Int × Int} (h : chs[n]? = some c) (e : sd c = me) : sideN sd chs me (n + 1) = sideN sd chs me n ++ [(n : Int)] := by
  unfold sideN
  rw [List.range_succ, List.filter_append, List.map_append]
  congr 1
  have z : decide (sd (chs.getD n (0, 0)) = me) = true := by
    rw [List.getD_eq_getElem?_getD, h]
    exact decide_eq_true e
  rw [List.filter_cons, if_pos z]
  rfl
theorem sideN_no {sd : Int × Int → Int} {chs : List (Int × Int)} {me : Int} {n : Nat} {c : Int × Int} (h : chs[n]? = some c) (e : sd c ≠ me) : sideN sd chs me (n + 1) = sideN sd chs me n := by
  unfold sideN
  rw [List.range_succ, List.filter_append, List.map_append]
  have z : decide (sd (chs.getD n (0, 0)) = me) = false := by
    rw [List.getD_eq_getElem?_getD, h]
    exact decide_eq_false e
  rw [List.filter_cons, if_neg (by rw [z]; decide)]
  simp
theorem sideN_len (sd : Int × Int → Int) (chs : List (Int × Int)) (me : Int) (n : Nat) : (sideN sd chs me n).length ≤ n := by
  unfold sideN
  rw [List.length_map]
  have h := List.length_filter_le (fun m => decide (sd (chs.getD m (0, 0)) = me)) (List.range n)
  rw [List.length_range] at h
  exact h
theorem tabsG_upd {PT : List Addr} {H : Hp} {D : Addr} {l l' : List V} (t : TabsG PT H) (h : H D = some (.lst l)) : TabsG PT (upd H D (.lst l')) := fun P hP => by
  obtain ⟨ps, h1, h2⟩ := t P hP
  refine ⟨ps, ?_, h2⟩
  rw [upd_ne (fun e => by rw [e, h] at h1; cases h1)]
  exact h1
theorem chs_at {K : PySem.W.Frag} {H : Hp} : ∀ {chs : List (Int × Int)} {xs : List V} {m : Nat} {x : V}, DpAll K H xs (chs.map mkCh) → xs[m]? = some x → ∃ c r, chs[m]? = some c ∧ x = .ref r ∧ SqT K H r [.int c.1, .int c.2]
  | [], _, m, x, .nil, h => by cases h
  | c :: chs, _ :: xs, 0, x, .cons one more, h => by
    cases h
    cases one with
    | @tup r us _ at_ each =>
      cases each with
      | cons i1 i2 =>
        cases i2 with
        | cons i3 i4 =>
          cases i4
          cases i1
          cases i3
          exact ⟨c, r, rfl, rfl, at_⟩
  | c :: chs, _ :: xs, m + 1, x, .cons one more, h => by
    obtain ⟨c', r, h1, h2⟩ := chs_at (m := m) more h
    exact ⟨c', r, h1, h2⟩
section
open PySem.Spec PyProof.Rows LamX
variable {P : Program} {w : World} {K : PySem.W.Frag} {mg : Str → Option Value} {base : Heap} {f : Addr} {fd : FuncData}
def spSide (K : PySem.W.Frag) (PT : List Addr) (sd : Int × Int → Int) : Sp := fun vs H Q _ => ∃ (x : V) (chs : List (Int × Int)) (me : Int), vs = [x, .int me] ∧ Dp K H x (.tuple (chs.map mkCh)) ∧ chs.length ≤ 100 ∧ TabsG PT H ∧ ∀ p H', ExtN H H' → TabsG PT H' → SqT K H' p ((sideL sd chs me).map V.int) → Q (.ref p) H'
theorem scSends : FnScope ["channels", "actor", "m"] ["channels", "actor"] (defScope sSends) := ⟨rfl, rfl, rfl, by decide +kernel, rfl, by decide +kernel, by decide +kernel⟩
theorem ok_sSends {k : Nat} {c Pc : Addr} {PT : List Addr} (F : Fun K "sends_of" "sends_of" sSends f fd) (hc : fd.code = .ref c) (TB : LamX.TabB base mg c Pc) (hPT : Pc ∈ PT) (T : Free mg) : FnOk P w K mg base CX0 (k + 2) f fd ["channels", "actor"] (spSide K PT Prod.fst) := by
  refine okC F hc scSends (fun vs H Q E h => ?_) (fun A outer s H vs Q E hr h => ?_)
  · obtain ⟨x, chs, me, rfl, _⟩ := h
    rfl
  obtain ⟨x, chs, me, rfl, hx, hl, tb, q⟩ := h
  refine ⟨_, pss_one (ps_ret (pe_tupG (k := k) (own := [("m", 2)]) (wi := iRng1 (tCons (tCB (fun xs H Q => ∃ p ys, xs = [V.ref p] ∧ (SqL K H p ys ∨ SqT K H p ys) ∧ Q (.int ys.length) H) (tCons (tVar 0) tNil)) tNil)) (g := gName 2) (tt := tTest (tOp rEq (tOp (rIxT K) (tOp (rIxT K) (tVar 0) (tVar 2)) (tC (.int 0))) (tVar 1))) (te := tVar 2) scSends.nd hr rfl T.tuple (by decide +kernel) TB rfl
      (blkOk_by (own := [("m", 2)]) (N := ["channels", "actor", "m"]) (sc := defScope sSends) (by decide +kernel)) (by decide +kernel) rfl rfl (pi_range1 rfl T.range (pa_cons (pe_callB call_len_seq rfl T.len PySem.boot_len (pa_cons (pv 0) pa_nil)) pa_nil))
      (fun _ _ _ _ _ _ _ _ _ _ => pg_name (i := 2) scSends.nd rfl (Or.inl rfl)) (fun _ _ _ _ _ _ _ _ _ _ => pts_one (pt_cmpR op_eq (pe_ix ix_tup (pe_ix ix_tup (pv 0) (pv 2) (fun _ _ => rfl)) pe_int (fun _ _ => rfl)) (pv 1) (nomark _)))
      (fun _ _ _ _ _ _ _ _ _ hr' => pv 2) (fun _ => rfl))), ?_⟩
  cases hx with
  | @tup ta xs _ at_ each =>
    have lx := dpAll_len each
    rw [List.length_map] at lx
    refine ⟨_, rfl, ta, xs, rfl, .inr at_, _, rfl, by omega, by omega, tb Pc hPT, fun H2 b2 D hD => ?_⟩
    have e2 := tabbed_ext (tb Pc hPT) b2
    have t2 := tb.tabbed b2
    have e3 : ∀ l, ExtN H (upd H2 D (.lst l)) := fun l => e2.trans (ext_same (same_new hD _))
    have hHD : ∀ u, H D = some u → ∃ ps, u = .tbl ps := fun u hu => by
      by_cases h : ∃ ps, u = .tbl ps
      · exact h
      · have z := e2 D u hu (fun ps e => h ⟨ps, e⟩)
        rw [hD] at z
        cases z
    rw [show ((xs.length : Int)).toNat = chs.length by omega]
    refine lc_range (fun i G => ExtN H G ∧ TabsG PT G ∧ G D = some (.lst ((sideN Prod.fst chs me i).map V.int))) ⟨e3 _, t2.same (same_new hD _), by rw [upd_same]; rfl⟩ (fun i G hi h => ?_) (fun G h => ?_)
    · obtain ⟨eG, tG, gD⟩ := h
      obtain ⟨y, hy⟩ : ∃ y, xs[i]? = some y := ⟨xs[i]'(by omega), by simp⟩
      have eG' := dp_exts eG _ _ each
      obtain ⟨c, r, hcm, rfl, hr2⟩ := chs_at eG' hy
      have ei : (0 : Int) + (i : Nat) = (i : Int) := by omega
      rw [ei]
      refine ⟨rfl, _, rfl, _, rfl, ta, xs, i, _, rfl, rfl, sqT_ext eG at_, atI_nat hy, r, _, 0, .int c.1, rfl, rfl, hr2, atI_at (by decide) rfl, _, rfl, rfl, _, rfl, ?_⟩
      by_cases hcd : c.1 = me
      · refine ifT (by rw [hcd]; exact decide_eq_true rfl) ?_
        refine ⟨_, rfl, _, gD, ?_, ext_upd eG hHD, tabsG_upd tG gD, ?_⟩
        · rw [List.length_map]
          have := sideN_len Prod.fst chs me i
          exact Nat.lt_of_lt_of_le (show _ < 1000 by omega) (show 1000 ≤ sizeLine by decide)
        · rw [upd_same, sideN_yes hcm hcd, List.map_append]
          rfl
      · refine ifF (decide_eq_false (fun z => hcd (by injection z))) ?_
        refine ⟨eG, tG, ?_⟩
        rw [sideN_no hcm hcd]
        exact gD
    · obtain ⟨eG, tG, gD⟩ := h
      refine ⟨_, gD, fun p hp => q p _ (eG.trans (ext_same (same_new hp _))) (tG.same (same_new hp _)) (.of upd_same)⟩
theorem scTakes : FnScope ["channels", "actor", "m"] ["channels", "actor"] (defScope sTakes) := ⟨rfl, rfl, rfl, by decide +kernel, rfl, by decide +kernel, by decide +kernel⟩
theorem ok_sTakes {k : Nat} {c Pc : Addr} {PT : List Addr} (F : Fun K "takes_of" "takes_of" sTakes f fd) (hc : fd.code = .ref c) (TB : LamX.TabB base mg c Pc) (hPT : Pc ∈ PT) (T : Free mg) : FnOk P w K mg base CX0 (k + 2) f fd ["channels", "actor"] (spSide K PT Prod.snd) := by
  refine okC F hc scTakes (fun vs H Q E h => ?_) (fun A outer s H vs Q E hr h => ?_)
  · obtain ⟨x, chs, me, rfl, _⟩ := h
    rfl
  obtain ⟨x, chs, me, rfl, hx, hl, tb, q⟩ := h
  refine ⟨_, pss_one (ps_ret (pe_tupG (k := k) (own := [("m", 2)]) (wi := iRng1 (tCons (tCB (fun xs H Q => ∃ p ys, xs = [V.ref p] ∧ (SqL K H p ys ∨ SqT K H p ys) ∧ Q (.int ys.length) H) (tCons (tVar 0) tNil)) tNil)) (g := gName 2) (tt := tTest (tOp rEq (tOp (rIxT K) (tOp (rIxT K) (tVar 0) (tVar 2)) (tC (.int 1))) (tVar 1))) (te := tVar 2) scTakes.nd hr rfl T.tuple (by decide +kernel) TB rfl
      (blkOk_by (own := [("m", 2)]) (N := ["channels", "actor", "m"]) (sc := defScope sTakes) (by decide +kernel)) (by decide +kernel) rfl rfl (pi_range1 rfl T.range (pa_cons (pe_callB call_len_seq rfl T.len PySem.boot_len (pa_cons (pv 0) pa_nil)) pa_nil))
      (fun _ _ _ _ _ _ _ _ _ _ => pg_name (i := 2) scTakes.nd rfl (Or.inl rfl)) (fun _ _ _ _ _ _ _ _ _ _ => pts_one (pt_cmpR op_eq (pe_ix ix_tup (pe_ix ix_tup (pv 0) (pv 2) (fun _ _ => rfl)) pe_int (fun _ _ => rfl)) (pv 1) (nomark _)))
      (fun _ _ _ _ _ _ _ _ _ hr' => pv 2) (fun _ => rfl))), ?_⟩
  cases hx with
  | @tup ta xs _ at_ each =>
    have lx := dpAll_len each
    rw [List.length_map] at lx
    refine ⟨_, rfl, ta, xs, rfl, .inr at_, _, rfl, by omega, by omega, tb Pc hPT, fun H2 b2 D hD => ?_⟩
    have e2 := tabbed_ext (tb Pc hPT) b2
    have t2 := tb.tabbed b2
    have e3 : ∀ l, ExtN H (upd H2 D (.lst l)) := fun l => e2.trans (ext_same (same_new hD _))
    have hHD : ∀ u, H D = some u → ∃ ps, u = .tbl ps := fun u hu => by
      by_cases h : ∃ ps, u = .tbl ps
      · exact h
      · have z := e2 D u hu (fun ps e => h ⟨ps, e⟩)
        rw [hD] at z
        cases z
    rw [show ((xs.length : Int)).toNat = chs.length by omega]
    refine lc_range (fun i G => ExtN H G ∧ TabsG PT G ∧ G D = some (.lst ((sideN Prod.snd chs me i).map V.int))) ⟨e3 _, t2.same (same_new hD _), by rw [upd_same]; rfl⟩ (fun i G hi h => ?_) (fun G h => ?_)
    · obtain ⟨eG, tG, gD⟩ := h
      obtain ⟨y, hy⟩ : ∃ y, xs[i]? = some y := ⟨xs[i]'(by omega), by simp⟩
      have eG' := dp_exts eG _ _ each
      obtain ⟨c, r, hcm, rfl, hr2⟩ := chs_at eG' hy
      have ei : (0 : Int) + (i : Nat) = (i : Int) := by omega
      rw [ei]
      refine ⟨rfl, _, rfl, _, rfl, ta, xs, i, _, rfl, rfl, sqT_ext eG at_, atI_nat hy, r, _, 1, .int c.2, rfl, rfl, hr2, atI_at (by decide) rfl, _, rfl, rfl, _, rfl, ?_⟩
      by_cases hcd : c.2 = me
      · refine ifT (by rw [hcd]; exact decide_eq_true rfl) ?_
        refine ⟨_, rfl, _, gD, ?_, ext_upd eG hHD, tabsG_upd tG gD, ?_⟩
        · rw [List.length_map]
          have := sideN_len Prod.snd chs me i
          exact Nat.lt_of_lt_of_le (show _ < 1000 by omega) (show 1000 ≤ sizeLine by decide)
        · rw [upd_same, sideN_yes hcm hcd, List.map_append]
          rfl
      · refine ifF (decide_eq_false (fun z => hcd (by injection z))) ?_
        refine ⟨eG, tG, ?_⟩
        rw [sideN_no hcm hcd]
        exact gD
    · obtain ⟨eG, tG, gD⟩ := h
      refine ⟨_, gD, fun p hp => q p _ (eG.trans (ext_same (same_new hp _))) (tG.same (same_new hp _)) (.of upd_same)⟩
def spIsChan (K : PySem.W.Frag) (PT : List Addr) : Sp := fun vs H Q _ => ∃ (x : V) (d : PyData) (m : Int), vs = [x, .int m] ∧ Dp K H x d ∧ TabsG PT H ∧ ∀ H', ExtN H H' → TabsG PT H' → Q (.bl (chanD m d)) H'
theorem scIsChan : FnScope ["thing", "actors", "actor"] ["thing", "actors"] (defScope sIsChan) := ⟨rfl, rfl, rfl, by decide +kernel, rfl, by decide +kernel, by decide +kernel⟩
theorem tup22 {d : PyData} (h : tupD 2 2 d = true) : ∃ p r, d = .tuple [p, r] := by
  cases d with
  | tuple ds =>
    have h := and3 (show (decide ((2 : Int) ≤ (ds.length : Int)) && decide ((ds.length : Int) ≤ 2)) = true from h)
    have h1 := of_decide_eq_true h.1
    have h2 := of_decide_eq_true h.2
    match ds, (show ds.length = 2 by omega) with
    | [p, r], _ => exact ⟨p, r, rfl⟩
  | _ => cases h
theorem chan_not {m : Int} {d : PyData} (h : tupD 2 2 d = false) : chanD m d = false := by
  unfold chanD
  split
  · exact absurd h (fun z => by cases z)
  · rfl
theorem within_int {lo hi : Int} {d : PyData} (h : withinD lo hi d = true) : ∃ i, d = .int i ∧ lo ≤ i ∧ i ≤ hi := by
  cases d with
  | int i =>
    have h := and3 (show (decide (lo ≤ i) && decide (i ≤ hi)) = true from h)
    exact ⟨i, rfl, of_decide_eq_true h.1, of_decide_eq_true h.2⟩
  | _ => cases h
theorem decI (i j : Int) : decide (V.int i = V.int j) = decide (i = j) := decide_eq_decide.mpr ⟨fun h => by injection h, fun h => by rw [h]⟩
theorem ok_isChan {k : Nat} {c Pc : Addr} {PT : List Addr} (F : Fun K "is_channel" "is_channel" sIsChan f fd) (hc : fd.code = .ref c) (TB : LamX.TabB base mg c Pc) (hPT : Pc ∈ PT) (hA : mg "all" = none) (cT : Cal P w K mg base "is_tuple" k ["thing", "least", "most"] (spTuple K)) (cW : Cal P w K mg base "is_within" k ["thing", "least", "most"] (spWithin K)) :
    FnOk P w K mg base CX0 (k + 2) f fd ["thing", "actors"] (spIsChan K PT) := by
  refine okC F hc scIsChan (fun vs H Q E h => ?_) (fun A outer s H vs Q E hr h => ?_)
  · obtain ⟨x, d, m, rfl, _⟩ := h
    rfl
  obtain ⟨x, d, m, rfl, hx, tb, q⟩ := h
  have cT' := cT.mono (Nat.le_succ k)
  refine ⟨_, pss_cons (ps_if (PW.pt (pw_or (pt_not (pt_val (pe_cal cT' hr rfl (pa_cons (pv 0) (pa_cons pe_int (pa_cons pe_int pa_nil)))))) (pw_or1 (pt_not (pt_val (pe_allG (own := [("actor", 2)]) (wi := iTup K (tVar 0)) (g := gName 2) (tt := tYes) (te := tCall (spWithin K) [] E0 (tCons (tVar 2) (tCons (tC (.int 0)) (tCons (tOp (rI0 fun i j => .int (i - j)) (tVar 1) (tC (.int 1))) tNil)))) scIsChan.nd hr rfl hA (by decide +kernel) TB rfl
      (blkOk_by (own := [("actor", 2)]) (N := ["thing", "actors", "actor"]) (sc := defScope sIsChan) (by decide +kernel)) (by decide +kernel) rfl rfl (pi_tup (pv 0))
      (fun _ _ _ _ _ _ _ _ _ _ => pg_name (i := 2) scIsChan.nd rfl (Or.inl rfl)) (fun _ _ _ _ _ _ _ _ _ _ => pts_nil)
      (fun _ _ _ _ _ _ _ _ _ hr' => pe_cal cW hr' rfl (pa_cons (pv 2) (pa_cons pe_int (pa_cons (pe_op op_sub (pv 1) pe_int) pa_nil)))) (fun _ => rfl))))))) (pss_one (ps_ret pe_bl)) pss_nil)
    (pss_one (ps_ret (pe_cmpR op_ne (pe_ix ix_tup (pv 0) pe_int (fun _ _ => rfl)) (pe_ix ix_tup (pv 0) pe_int (fun _ _ => rfl)) (nomark _)))), ?_⟩
  have no : chanD m d = false → ∀ H', ExtN H H' → TabsG PT H' → Q (.bl false) H' := fun e H' e1 t1 => by
    have r := q H' e1 t1
    rw [e] at r
    exact r
  refine ⟨_, rfl, x, d, 2, 2, rfl, hx, _, rfl, ?_⟩
  cases ht : tupD 2 2 d with
  | false => exact ifT rfl (ifT rfl (no (chan_not ht) H (ExtN.refl _) tb))
  | true =>
    refine ifF rfl ?_
    obtain ⟨p, r, rfl⟩ := tup22 ht
    have dd : chanD m (.tuple [p, r]) = ((withinD 0 (m - 1) p && withinD 0 (m - 1) r) && intNe p r) := rfl
    cases hx with
    | @tup ta xs _ at_ each =>
      have lx := dpAll_len each
      refine ⟨_, rfl, ta, rfl, ⟨xs, at_⟩, tb Pc hPT, fun H2 b2 => ?_⟩
      have e2 := tabbed_ext (tb Pc hPT) b2
      refine gx_tup (xs := xs) (fun i H' => H' = H2 ∧ ([p, r].take i).all (withinD 0 (m - 1)) = true) ⟨rfl, rfl⟩ (fun i H' _ h => ?_) (fun i y H' hy h => ?_) (fun H' h => ?_)
      · rw [h.1]
        exact sqT_ext e2 at_
      · obtain ⟨rfl, all3⟩ := h
        obtain ⟨d, hd, hdy⟩ := dpAll_get' each hy
        refine ⟨rfl, yesG ⟨_, rfl, _, rfl, _, _, rfl, rfl, y, d, 0, m - 1, rfl, dp_ext e2 _ _ hdy, _, rfl, fun c => ⟨rfl, ?_⟩, fun c => ?_⟩⟩
        · rw [all_take hd, all3, c]
          rfl
        · have e : (withinD 0 (m - 1) p && withinD 0 (m - 1) r) = false := by
            cases z : (withinD 0 (m - 1) p && withinD 0 (m - 1) r) with
            | false => rfl
            | true =>
              have z := and3 z
              have hm : d ∈ [p, r] := List.mem_of_getElem? hd
              rcases List.mem_cons.mp hm with rfl | hm
              · exact absurd z.1 c
              · rw [List.mem_singleton.mp hm] at c
                exact absurd z.2 c
          rw [e, Bool.false_and] at dd
          exact ⟨_, rfl, ifT rfl (no dd _ e2 (tb.tabbed b2))⟩
      · obtain ⟨rfl, all3⟩ := h
        rw [lx, List.take_length] at all3
        have all3 : (withinD 0 (m - 1) p && (withinD 0 (m - 1) r && true)) = true := all3
        rw [Bool.and_true] at all3
        rw [all3, Bool.true_and] at dd
        obtain ⟨i, rfl, _⟩ := within_int (and3 all3).1
        obtain ⟨j, rfl, _⟩ := within_int (and3 all3).2
        refine ⟨_, rfl, ifF rfl ?_⟩
        cases each with
        | cons i1 i2 =>
          cases i2 with
          | cons i3 i4 =>
            cases i4
            cases i1
            cases i3
            have r := q _ e2 (tb.tabbed b2)
            rw [dd] at r
            have r : Q (.bl (!decide (i = j))) _ := r
            rw [← decI] at r
            exact ⟨_, rfl, ta, _, 0, _, rfl, rfl, sqT_ext e2 at_, atI_at (by decide) rfl, _, rfl, ta, _, 1, _, rfl, rfl, sqT_ext e2 at_, atI_at (by decide) rfl, rfl, r⟩
end
/-! for i, x in enumerate(t), t a tuple -/
section
open PySem.Spec PyProof.Rows
abbrev tupIt (t : Addr) : Obj := { cls := .type "tuple_iterator", data := .fields #[.ref t, .int 0 0] }
abbrev enumO (it : Addr) : Obj := { cls := .type "enumerate", data := .fields #[.none, .bool false, .ref it, rawInt 0, .none, .none] }
set_option maxHeartbeats 1000000 in
theorem meets_enumT (t : Addr) (its : Array Value) :
    Meets (Builtin.«enumerate.__new__» ⟨[.type "enumerate", .ref t], []⟩) (fun _ R s => s.heap.IsTuple t its ∧ R (.ok (.ret (.ref (s.heap.push (tupIt t)).objs.size))) { s with heap := (s.heap.push (tupIt t)).push (enumO s.heap.objs.size) }) :=
  .of_wp fun prog w A R s h => by
    obtain ⟨hp, g, d, tk, os⟩ := s
    obtain ⟨h1, h⟩ := h
    have f1 := sub_enumerate
    have q1 : ∀ {A' : Around} {E : Value → Shared → Prop} {Q : Value → Shared → Prop}, Q (.ref hp.objs.size) ⟨hp.push (tupIt t), g, d, tk, os⟩ → wpAny (model prog w) A' (pyIter (.ref t)) Q E ⟨hp, g, d, tk, os⟩ := fun q => wpAny_pyIter_tuple h1 q
    wp_walk using q1
    refine wpAny_stack_any fun st => wpAny_pure ?_
    split
    · rename_i c _ _ _ _ _
      cases (c == Value.type "enumerate") <;> (wp_walk using q1; exact ⟨_, rfl, h⟩)
    · wp_walk using q1
      exact ⟨_, rfl, h⟩
theorem call_enumT {prog : Program} {w : World} {A : Around} {E : Value → Shared → Prop} {s : Shared} {t : Addr} {its : Array Value} {Q : Value → Shared → Prop} (hT : s.heap.IsTuple t its)
    (h : ∀ h', IsEnum h' (s.heap.objs.size + 1) s.heap.objs.size 0 .none → h'.IsTupleIter s.heap.objs.size t 0 → h'.objs.size = s.heap.objs.size + 2 → (∀ b o, s.heap.get? b = some o → h'.get? b = some o) → Q (.ref (s.heap.objs.size + 1)) { s with heap := h' }) :
    wpAny (model prog w) A (call (.type "enumerate") [.ref t]) Q E s := by
  refine callType_new F.called_enumerate (by decide) (F.typeCall_enumerate_1 _) (F.newCall_enumerate_1 _) (fun obj => F.args_object_init_2 obj _) F.entry_enumerate_new (meets_enumT t its) ⟨hT, ?_⟩
  have sz : (s.heap.push (tupIt t)).objs.size = s.heap.objs.size + 1 := Heap.size_push ..
  have atE : ((s.heap.push (tupIt t)).push (enumO s.heap.objs.size)).get? (s.heap.objs.size + 1) = some (enumO s.heap.objs.size) := by
    rw [← sz]
    exact Heap.get?_push_size _ rfl
  show _ ∧ _
  rw [sz]
  exact ⟨⟨_, atE, rfl⟩, h _ atE ⟨_, Heap.get?_push_of_some _ (Heap.get?_push_size _ rfl), rfl, rfl⟩ (by rw [Heap.size_push, sz]) fun b o x => Heap.get?_push_of_some _ (Heap.get?_push_of_some _ x)⟩
/-- each item in a new pair -/
def Ienum (K : PySem.W.Frag) (a : Addr) : It :=
  ⟨fun i H => ∃ (xs : List V) (x : V), SqT K H a xs ∧ xs[i]? = some x, fun i H v H' => ∃ T x, v = .ref T ∧ H T = none ∧ H' = upd H T (.tup [.int (i : Nat), x]) ∧ ∀ xs, SqT K H a xs → xs[i]? = some x, fun i H => ∃ xs : List V, SqT K H a xs ∧ xs.length = i⟩
theorem turn_enumT {P : Program} {w : World} {K : PySem.W.Frag} {elts : List Expr} {kk : Nat} {tpos : Pos} (a e it : Addr) (hae : a ≠ e) (hai : a ≠ it) :
    Turn P w K (.Tuple elts kk tpos) (Ienum K a) [e, it] e (fun i h => (∃ old, IsEnum h e it ((i : Nat) : Int) old) ∧ h.IsTupleIter it a i ∧ e ≠ it) where
  mem := by simp
  obj := fun i h st b hb => by
    obtain ⟨⟨old, he⟩, ⟨o, ho, hc, hd⟩, _⟩ := st
    rcases List.mem_cons.mp hb with z | z
    · rw [z]; exact ⟨_, he, fun v q => nomatch q⟩
    · rw [List.mem_singleton.mp z]; exact ⟨o, ho, fun v q => by rw [hd] at q; cases q⟩
  keep := fun i h h' ⟨⟨old, he⟩, hi, hne⟩ k => ⟨⟨old, k e (by simp) _ he⟩, hi.at fun o q => k it (by simp) o q, hne⟩
  item := by
    intro X hP hw hK hc i pins s σ H E I hf st hg
    subst hP hw hK
    obtain ⟨⟨old, he⟩, hit, hne⟩ := st
    obtain ⟨xs, x, hq, hx⟩ := hg
    obtain ⟨its, rv, p, hz⟩ := I.tuple hq
    obtain ⟨u, hu, ru⟩ := rv.get hx
    have isT : s.heap.IsTuple a its.toArray := let ⟨o1, g1, c1, n1, d1⟩ := p; ⟨o1, g1, c1, n1, d1⟩
    have le : e < s.heap.objs.size := Heap.lt_size he
    have li : it < s.heap.objs.size := by obtain ⟨_, q, _⟩ := hit; exact Heap.lt_size q
    have hlt : i < its.toArray.size := by
      rw [List.size_toArray]
      exact (List.getElem?_eq_some_iff.mp hu).1
    have D : Draws X.prog X.w X.A.in1 it [it, a] its.toArray.size (fun i v => its.toArray[i]? = some v) (fun i h => h.IsTupleIter it a i ∧ h.IsTuple a its.toArray) := Draws.tuple (by show X.A.handled = none; exact I.ok.hd hc) it a hai its.toArray
    refine wpAny_pyNext_enum_itemD D he ⟨hit, isT⟩ hlt hne (by simp only [List.mem_cons, List.mem_singleton, List.not_mem_nil, or_false, not_or]; exact ⟨hne, fun z => hae z.symm⟩) fun x' h' tk hx' out st' hT sz hk => ?_
    have ex : x' = u := by
      have z : its.toArray[i]? = some u := by simpa using hu
      rw [z] at hx'
      exact (Option.some.inj hx').symm
    subst ex
    refine ⟨_, rfl, wpAny_letOwnedTupleGo_enum (s := { s with heap := h', toks := tk + 1 }) out fun h'' he' sb => ?_⟩
    have at2 : h''.get? s.heap.objs.size = some { cls := .type "tuple", data := .seq #[.int i tk, x'] } := (sb.2 _ (Nat.ne_of_gt le)).trans hT
    have new : ObjOk X.prog X.w (upd H s.heap.objs.size (.tup [.int (i : Nat), x])) h'' s.heap.objs.size (.tup [.int (i : Nat), x]) := ⟨by show 2 ≤ sizeLine; decide, [.int i tk, x'], .cons ⟨_, rfl⟩ (.cons ru .nil), ⟨_, at2, rfl, _, rfl⟩⟩
    have I1 : Inv X pins σ (upd H s.heap.objs.size (.tup [.int (i : Nat), x])) { s with heap := h'', toks := tk + 1 } :=
      I.turnedNew (ch := [e, it]) (fun b ob hb q => (sb.2 b (fun z => hb (by simp [z]))).trans (hk b ob (fun z => hb (by simp [z])) (fun z => hb (by simp [z])) q)) hf (Nat.le_refl _) new
    refine ⟨.ref s.heap.objs.size, _, I1, rfl, ⟨_, x, rfl, I.hok.fresh (Nat.le_refl _), rfl, fun ys hy => ?_⟩, ⟨⟨x', ?_⟩, st'.1.at fun o q => (sb.2 it (Ne.symm hne)).trans q, hne⟩, fun b hb => ?_⟩
    · rw [I.tuple_inj hy hq]
      exact hx
    · rw [show ((i + 1 : Nat) : Int) = (i : Int) + 1 by omega]
      exact he'
    · have hb' : b < s.heap.objs.size := by
        rcases List.mem_cons.mp hb with z | z
        · rw [z]; exact le
        · rw [List.mem_singleton.mp z]; exact li
      rw [upd_ne (Nat.ne_of_lt hb')]
      exact (hf b hb).1
  done := by
    intro X hP hw hK hc i pins s σ H E I hf st hg
    subst hP hw hK
    obtain ⟨⟨old, he⟩, hit, hne⟩ := st
    obtain ⟨xs, hq, hx⟩ := hg
    obtain ⟨its, rv, p, hz⟩ := I.tuple hq
    have isT : s.heap.IsTuple a its.toArray := let ⟨o1, g1, c1, n1, d1⟩ := p; ⟨o1, g1, c1, n1, d1⟩
    obtain ⟨f0, f1, f2, f3, f4, f5⟩ := hf it (by simp)
    have D : Draws X.prog X.w X.A.in1 it [it, a] its.toArray.size (fun i v => its.toArray[i]? = some v) (fun i h => h.IsTupleIter it a i ∧ h.IsTuple a its.toArray) := Draws.tuple (by show X.A.handled = none; exact I.ok.hd hc) it a hai its.toArray
    have en : its.toArray.size = i := by rw [List.size_toArray, ← rv.length]; exact hx
    refine wpAny_pyNext_enum_endD D he ⟨by rw [en]; exact hit, isT⟩ fun h' eb => ⟨rfl, I.turned (t' := s.toks) (fun b o hb q => eb b o hb q) f0 f1 f3 f4 f5⟩
  self := fun A i s Q E ⟨⟨_, he⟩, _⟩ h => wpAny_pyIter_enum he h
def iEnumT (K : PySem.W.Frag) (ta : TA) : TI := fun σ H R => ta σ H fun vs H1 => ∃ a xs, vs = [.ref a] ∧ SqT K H1 a xs ∧ R (Ienum K a) H1
theorem pi_enumT {X : Cx} {e : Expr} {ta : TA} {p pos tpos : Pos} {elts : List Expr} {kk : Nat} (hg : Gl X "enumerate") (hm : X.mg "enumerate" = none) (ha : PA X [e] ta) (hs : starEach [e] X.env = [(false, eval e X.env)] := by rfl) :
    PI X (.Tuple elts kk tpos) (.Call (.Name "enumerate" p) [e] [] pos) (iEnumT X.K ta) := by
  refine ⟨fun pins s σ H R I h => ?_⟩
  refine Call_ (ld_blt I hg hm boot_enumerate (callWith_type1 (thn (ha.run pos pins s σ H _ I h) fun us s1 ⟨vs, H1, I1, r1, q1⟩ => ?_) hs rfl))
  obtain ⟨a, xs, rfl, hq, q⟩ := q1
  obtain ⟨u, rfl, ru⟩ := vals1 r1
  cases ru
  obtain ⟨its, rv, tp, hz⟩ := I1.tuple hq
  have lt : a < s1.heap.objs.size := tp.lt
  refine call_enumT (its := its.toArray) (let ⟨o1, g1, c1, n1, d1⟩ := tp; ⟨o1, g1, c1, n1, d1⟩) fun h' he hit sz hk => wpAny_pyIter_enum he ?_
  have I2 : Inv X pins σ H1 { s1 with heap := h' } := I1.kept (t' := s1.toks) hk
  refine ⟨s1.heap.objs.size + 1, [s1.heap.objs.size + 1, s1.heap.objs.size], _, _, H1, rfl, I2, turn_enumT a (s1.heap.objs.size + 1) s1.heap.objs.size (Nat.ne_of_lt (Nat.lt_succ_of_lt lt)) (Nat.ne_of_lt lt), ⟨⟨.none, he⟩, hit, Nat.succ_ne_self _⟩, fun b hb => ?_, q⟩
  have hle : s1.heap.objs.size ≤ b := by
    rcases List.mem_cons.mp hb with z | z
    · rw [z]; exact Nat.le_add_right _ _
    · rw [List.mem_singleton.mp z]; exact Nat.le_refl _
  exact I1.fpOk hle (I1.hok.fresh hle)
/-- a loop over it -/
theorem for_enumT {K : PySem.W.Frag} {a : Addr} {xs : List V} {g : TG} {tb : TS} {D : Ends} {σ : L2.St} {H : Hp} (Pv : Nat → L2.St → Hp → Prop) (h0 : Pv 0 σ H) (hl : ∀ i σ H, i ≤ xs.length → Pv i σ H → SqT K H a xs)
    (hs : ∀ i x T σ H, xs[i]? = some x → Pv i σ H → H T = none → g (.ref T) σ (upd H T (.tup [.int (i : Nat), x])) fun σ2 H2 => tb { D with nx := Pv (i + 1), ct := Pv (i + 1), bk := D.nx } σ2 H2) (hd : ∀ σ H, Pv xs.length σ H → D.nx σ H) :
    ∃ W : Nat → Nat → L2.St → Hp → Prop, (∃ m, W 0 m σ H) ∧ ∀ i m σ H, W i m σ H →
      ((Ienum K a).stop i H ∧ D.nx σ H) ∨ ((Ienum K a).go i H ∧ ∃ N : L2.St → Hp → Prop, (∀ σ' H', N σ' H' → ∃ m', m' < m ∧ W (i + 1) m' σ' H') ∧ ∀ x H', (Ienum K a).yld i H x H' → g x σ H' fun σ2 H2 => tb { D with nx := N, ct := N, bk := D.nx } σ2 H2) := by
  refine ⟨fun i m σ H => m = xs.length - i ∧ i ≤ xs.length ∧ Pv i σ H, ⟨xs.length, by simp, Nat.zero_le _, h0⟩, ?_⟩
  rintro i m σ H ⟨rfl, hi, p⟩
  have q := hl i σ H hi p
  by_cases hlt : i < xs.length
  · have hx := List.getElem?_eq_getElem hlt
    refine .inr ⟨⟨xs, _, q, hx⟩, Pv (i + 1), fun σ' H' p' => ⟨xs.length - (i + 1), by omega, rfl, hlt, p'⟩, fun v H' y => ?_⟩
    obtain ⟨T, x, rfl, hT, rfl, y⟩ := y
    exact hs i x T σ H (y xs q) p hT
  · have e : i = xs.length := by omega
    exact .inl ⟨⟨xs, q, e.symm⟩, hd σ H (by rw [← e]; exact p)⟩
end
/-! is_net -/
def pairD : PyData → Int × Int
  | .tuple [.int i, .int j] => (i, j)
  | _ => (0, 0)
def actsB (chs : List (Int × Int)) : Int → List PyData → Bool
  | _, [] => true
  | me, d :: ds => (blkD (sideL Prod.fst chs me) (sideL Prod.snd chs me) 4 d).isSome && actsB chs (me + 1) ds
def netB (cs as : List PyData) : Bool := (decide (cs.length ≤ 6) && (decide (1 ≤ as.length) && decide (as.length ≤ 4))) && (cs.all (chanD as.length) && actsB (cs.map pairD) 0 as)
def netD : PyData → Bool
  | .tuple [.tuple cs, .tuple as] => netB cs as
  | _ => false
theorem chans_of {m : Int} : ∀ {cs : List PyData}, cs.all (chanD m) = true → cs = (cs.map pairD).map mkCh
  | [], _ => rfl
  | c :: cs, h => by
    rw [List.all_cons] at h
    have h := and3 h
    rw [List.map_cons, List.map_cons, ← chans_of h.2]
    congr 1
    have h1 := h.1
    unfold chanD at h1
    split at h1
    · obtain ⟨i, rfl, _⟩ := within_int (and3 (and3 h1).1).1
      obtain ⟨j, rfl, _⟩ := within_int (and3 (and3 h1).1).2
      rfl
    · cases h1
theorem acts_no {chs : List (Int × Int)} : ∀ {as : List PyData} {me : Int} {i : Nat} {d : PyData}, as[i]? = some d → blkD (sideL Prod.fst chs (me + i)) (sideL Prod.snd chs (me + i)) 4 d = none → actsB chs me as = false
  | d :: as, me, 0, _, h, e => by
    cases h
    rw [show me + ((0 : Nat) : Int) = me by omega] at e
    show ((blkD _ _ 4 d).isSome && _) = false
    rw [e]
    rfl
  | d :: as, me, i + 1, _, h, e => by
    rw [show me + ((i + 1 : Nat) : Int) = (me + 1) + (i : Nat) by omega] at e
    show (_ && actsB chs (me + 1) as) = false
    rw [acts_no (show as[i]? = _ from h) e, Bool.and_false]
theorem acts_yes {chs : List (Int × Int)} : ∀ {as : List PyData} {me : Int}, (∀ (i : Nat) d, as[i]? = some d → (blkD (sideL Prod.fst chs (me + i)) (sideL Prod.snd chs (me + i)) 4 d).isSome = true) → actsB chs me as = true
  | [], me, _ => rfl
  | d :: as, me, h => by
    have h0 := h 0 d rfl
    rw [show me + ((0 : Nat) : Int) = me by omega] at h0
    show ((blkD _ _ 4 d).isSome && actsB chs (me + 1) as) = true
    rw [h0, acts_yes (fun i d' hd => by
      have z := h (i + 1) d' hd
      rw [show me + ((i + 1 : Nat) : Int) = (me + 1) + (i : Nat) by omega] at z
      exact z)]
    rfl
theorem tupD_is {lo hi : Int} {d : PyData} (h : tupD lo hi d = true) : ∃ ds, d = .tuple ds ∧ lo ≤ (ds.length : Int) ∧ (ds.length : Int) ≤ hi := by
  cases d with
  | tuple ds =>
    have h := and3 (show (decide (lo ≤ (ds.length : Int)) && decide ((ds.length : Int) ≤ hi)) = true from h)
    exact ⟨ds, rfl, of_decide_eq_true h.1, of_decide_eq_true h.2⟩
  | _ => cases h
theorem net_not {d : PyData} (h : tupD 2 2 d = false) : netD d = false := by
  unfold netD
  split
  · exact absurd h (fun z => by cases z)
  · rfl
theorem net_notc {p r : PyData} (h : tupD 0 6 p = false) : netD (.tuple [p, r]) = false := by
  unfold netD
  split
  · rename_i cs as e
    cases e
    have h : (decide ((0 : Int) ≤ (cs.length : Int)) && decide ((cs.length : Int) ≤ 6)) = false := h
    rw [decide_eq_true (by omega), Bool.true_and] at h
    have := of_decide_eq_false h
    unfold netB
    rw [decide_eq_false (show ¬ cs.length ≤ 6 by omega)]
    rfl
  · rfl
theorem net_nota {p r : PyData} (h : tupD 1 4 r = false) : netD (.tuple [p, r]) = false := by
  unfold netD
  split
  · rename_i cs as e
    cases e
    have h : (decide ((1 : Int) ≤ (as.length : Int)) && decide ((as.length : Int) ≤ 4)) = false := h
    have e : (decide (1 ≤ as.length) && decide (as.length ≤ 4)) = false := by
      rw [← h, show decide (1 ≤ as.length) = decide ((1 : Int) ≤ (as.length : Int)) from decide_eq_decide.mpr (by omega), show decide (as.length ≤ 4) = decide ((as.length : Int) ≤ 4) from decide_eq_decide.mpr (by omega)]
    unfold netB
    rw [e, Bool.and_false, Bool.false_and]
  · rfl
section
open PySem.Spec PyProof.Rows LamX
variable {P : Program} {w : World} {K : PySem.W.Frag} {mg : Str → Option Value} {base : Heap} {f : Addr} {fd : FuncData}
def spIsNet (K : PySem.W.Frag) (PT : List Addr) : Sp := fun vs H Q _ => ∃ (x : V) (d : PyData), vs = [x] ∧ Dp K H x d ∧ BkOk d ∧ TabsG PT H ∧ ∀ H', ExtN H H' → TabsG PT H' → Q (.bl (netD d)) H'
abbrev NIsNet : List Str := ["thing", "channels", "actors", "channel", "actor", "block"]
theorem scIsNet : FnScope NIsNet ["thing"] (defScope sIsNet) := ⟨rfl, rfl, rfl, by decide +kernel, rfl, by decide +kernel, by decide +kernel⟩
theorem ok_isNet {k : Nat} {c Pc : Addr} {PT : List Addr} (F : Fun K "is_net" "is_net" sIsNet f fd) (hc : fd.code = .ref c) (TB : LamX.TabB base mg c Pc) (hPT : Pc ∈ PT) (T : Free mg) (C : Cst mg) (hA : mg "all" = none) (hE : mg "enumerate" = none) (cT : Cal P w K mg base "is_tuple" k ["thing", "least", "most"] (spTuple K)) (cC : Cal P w K mg base "is_channel" k ["thing", "actors"] (spIsChan K PT))
    (cS : Cal P w K mg base "sends_of" k ["channels", "actor"] (spSide K PT Prod.fst)) (cTk : Cal P w K mg base "takes_of" k ["channels", "actor"] (spSide K PT Prod.snd)) (cB : Cal P w K mg base "block_size" k ["thing", "level", "sends", "takes"] (spBlk K PT 4)) :
    FnOk P w K mg base CX0 (k + 2) f fd ["thing"] (spIsNet K PT) := by
  refine okC F hc scIsNet (fun vs H Q E h => ?_) (fun A outer s H vs Q E hr h => ?_)
  · obtain ⟨x, d, rfl, _⟩ := h
    rfl
  obtain ⟨x, d, rfl, hx, hk, tb, q⟩ := h
  have cT' := cT.mono (Nat.le_succ k)
  have cS' := cS.mono (Nat.le_succ k)
  have cTk' := cTk.mono (Nat.le_succ k)
  have cB' := cB.mono (Nat.le_succ k)
  refine ⟨_, pss_cons (ps_if (pt_not (pt_val (pe_cal cT' hr rfl (pa_cons (pv 0) (pa_cons pe_int (pa_cons pe_int pa_nil)))))) (pss_one (ps_ret pe_bl)) pss_nil)
    (pss_cons (ps_asg (pv 0) (pg_tup rfl (pgs_cons (pg_name (i := 1) scIsNet.nd rfl (.inl rfl)) (pgs_cons (pg_name (i := 2) scIsNet.nd rfl (.inr rfl)) pgs_nil))))
    (pss_cons (ps_if (PW.pt (pw_or (pt_not (pt_val (pe_cal cT' hr rfl (pa_cons (pv 1) (pa_cons pe_int (pa_cons (pe_globI rfl C.mostChannels) pa_nil)))))) (pw_or1 (pt_not (pt_val (pe_cal cT' hr rfl (pa_cons (pv 2) (pa_cons pe_int (pa_cons (pe_globI rfl C.mostActors) pa_nil))))))))) (pss_one (ps_ret pe_bl)) pss_nil)
    (pss_cons (ps_if (pt_not (pt_val (pe_allG (own := [("channel", 3)]) (wi := iTup K (tVar 1)) (g := gName 3) (tt := tYes) (te := tCall (spIsChan K PT) [] E0 (tCons (tVar 3) (tCons (tCB (rLen K) (tCons (tVar 2) tNil)) tNil))) scIsNet.nd hr rfl hA (by decide +kernel) TB rfl
        (blkOk_by (own := [("channel", 3)]) (N := NIsNet) (sc := defScope sIsNet) (by decide +kernel)) (by decide +kernel) rfl rfl (pi_tup (pv 1))
        (fun _ _ _ _ _ _ _ _ _ _ => pg_name (i := 3) scIsNet.nd rfl (Or.inl rfl)) (fun _ _ _ _ _ _ _ _ _ _ => pts_nil)
        (fun _ _ _ _ _ _ _ _ _ hr' => pe_cal cC hr' rfl (pa_cons (pv 3) (pa_cons (pe_callB call_len_seq rfl T.len PySem.boot_len (pa_cons (pv 2) pa_nil)) pa_nil))) (fun _ => rfl)))) (pss_one (ps_ret pe_bl)) pss_nil)
    (pss_cons (ps_for PassesOwn.never rfl (pi_enumT rfl hE (pa_cons (pv 2) pa_nil)) (pg_tup rfl (pgs_cons (pg_name (i := 4) scIsNet.nd rfl (.inl rfl)) (pgs_cons (pg_name (i := 5) scIsNet.nd rfl (.inl rfl)) pgs_nil)))
      (pss_one (ps_if (pt_cmpR op_isN (pe_cal cB' hr rfl (pa_cons (pv 5) (pa_cons pe_int (pa_cons (pe_cal cS' hr rfl (pa_cons (pv 1) (pa_cons (pv 4) pa_nil))) (pa_cons (pe_cal cTk' hr rfl (pa_cons (pv 1) (pa_cons (pv 4) pa_nil))) pa_nil))))) pe_non (nomark _)) (pss_one (ps_ret pe_bl)) pss_nil)))
    (pss_one (ps_ret pe_bl)))))), ?_⟩
  have no : netD d = false → ∀ H', ExtN H H' → TabsG PT H' → Q (.bl false) H' := fun e H' e1 t1 => by
    have r := q H' e1 t1
    rw [e] at r
    exact r
  refine ⟨_, rfl, x, d, 2, 2, rfl, hx, _, rfl, ?_⟩
  cases ht : tupD 2 2 d with
  | false => exact ifT rfl (no (net_not ht) H (ExtN.refl _) tb)
  | true =>
    refine ifF rfl ?_
    obtain ⟨p, r, rfl⟩ := tup22 ht
    cases hx with
    | @tup ta xs _ at_ each =>
      cases each with
      | @cons y1 _ _ _ hp i2 =>
        cases i2 with
        | @cons y2 _ _ _ hr2 i4 =>
          cases i4
          refine ⟨_, rfl, ta, _, rfl, at_, rfl, _, _, rfl, _, _, rfl, rfl, ?_⟩
          refine ⟨_, rfl, y1, p, 0, 6, rfl, hp, _, rfl, ?_⟩
          cases h6 : tupD 0 6 p with
          | false => exact ifT rfl (ifT rfl (no (net_notc h6) H (ExtN.refl _) tb))
          | true =>
            refine ifF rfl ⟨_, rfl, y2, r, 1, 4, rfl, hr2, _, rfl, ?_⟩
            cases h4 : tupD 1 4 r with
            | false => exact ifT rfl (no (net_nota h4) H (ExtN.refl _) tb)
            | true =>
              refine ifF rfl ?_
              obtain ⟨cs, rfl, _, c6⟩ := tupD_is h6
              obtain ⟨as, rfl, a1, a4⟩ := tupD_is h4
              have dd : netD (.tuple [.tuple cs, .tuple as]) = (cs.all (chanD as.length) && actsB (cs.map pairD) 0 as) := by
                show netB cs as = _
                unfold netB
                rw [decide_eq_true (show cs.length ≤ 6 by omega), decide_eq_true (show 1 ≤ as.length by omega), decide_eq_true (show as.length ≤ 4 by omega)]
                rfl
              have bkp := bk_mem hk List.mem_cons_self
              have bkr := bk_mem hk (List.mem_cons_of_mem _ List.mem_cons_self)
              cases hp with
              | @tup ca cvs _ cat ceach =>
                cases hr2 with
                | @tup aa avs _ aat aeach =>
                  have lc := dpAll_len ceach
                  have la := dpAll_len aeach
                  refine ⟨_, rfl, ca, rfl, ⟨cvs, cat⟩, tb Pc hPT, fun H2 b2 => ?_⟩
                  have e2 := tabbed_ext (tb Pc hPT) b2
                  refine gx_tup (xs := cvs) (fun i H' => ExtN H H' ∧ TabsG PT H' ∧ (cs.take i).all (chanD as.length) = true) ⟨e2, tb.tabbed b2, rfl⟩ (fun i H' _ h => ?_) (fun i y H' hy h => ?_) (fun H' h => ?_)
                  · exact sqT_ext h.1 cat
                  · obtain ⟨e3, t3, all3⟩ := h
                    obtain ⟨d, hd, hdy⟩ := dpAll_get' ceach hy
                    refine ⟨rfl, yesG ⟨_, rfl, _, rfl, aa, avs, rfl, .inr (sqT_ext e3 aat), y, d, _, rfl, dp_ext e3 _ _ hdy, t3, fun H4 e4 t4 => ⟨_, rfl, fun c => ⟨e3.trans e4, t4, ?_⟩, fun c => ?_⟩⟩⟩
                    · rw [la] at c
                      rw [all_take hd, all3, c]
                      rfl
                    · rw [la] at c
                      have e : cs.all (chanD as.length) = false := by
                        cases z : cs.all (chanD as.length) with
                        | false => rfl
                        | true => exact absurd (List.all_eq_true.mp z d (List.mem_of_getElem? hd)) c
                      rw [e, Bool.false_and] at dd
                      exact ⟨_, rfl, ifT rfl (no dd H4 (e3.trans e4) t4)⟩
                  · obtain ⟨e3, t3, all3⟩ := h
                    rw [lc, List.take_length] at all3
                    rw [all3, Bool.true_and] at dd
                    have hcs := chans_of all3
                    refine ⟨_, rfl, ifF rfl ?_⟩
                    refine ⟨_, rfl, aa, avs, rfl, sqT_ext e3 aat, ?_⟩
                    refine for_enumT (xs := avs) (fun i σ G => ∃ o3 o4 o5, σ = [some (.ref ta), some (.ref ca), some (.ref aa), o3, o4, o5] ∧ ExtN H G ∧ TabsG PT G ∧ ∀ (j : Nat) d, j < i → as[j]? = some d → (blkD (sideL Prod.fst (cs.map pairD) (0 + j)) (sideL Prod.snd (cs.map pairD) (0 + j)) 4 d).isSome = true)
                      ⟨_, _, _, rfl, e3, t3, fun j d h => absurd h (Nat.not_lt_zero _)⟩ (fun i σ G _ h => by obtain ⟨_, _, _, _, h, _⟩ := h; exact sqT_ext h aat) (fun i v T0 σ G hv h hT => ?_) (fun σ G h => ?_)
                    · obtain ⟨o3, o4, o5, rfl, eG, tG, all⟩ := h
                      obtain ⟨d, hd, hdv⟩ := dpAll_get' aeach hv
                      have nT := same_new hT (.tup [.int (i : Nat), v])
                      have e5 := eG.trans (ext_same nT)
                      have t5 := tG.same nT
                      have cdp : ∀ G', ExtN H G' → Dp K G' (.ref ca) (.tuple ((cs.map pairD).map mkCh)) := fun G' e => by
                        rw [← hcs]
                        exact .tup (sqT_ext e cat) (dp_exts e _ _ ceach)
                      have l100 : (cs.map pairD).length ≤ 100 := by rw [List.length_map]; omega
                      refine ⟨T0, _, rfl, SqT.of upd_same, rfl, _, _, rfl, _, _, rfl, rfl, ?_⟩
                      refine ⟨_, rfl, _, rfl, _, rfl, .ref ca, cs.map pairD, i, rfl, cdp _ e5, l100, t5, fun p6 H6 e6 t6 s6 => ?_⟩
                      have e06 := e5.trans e6
                      refine ⟨_, rfl, _, rfl, .ref ca, cs.map pairD, i, rfl, cdp _ e06, l100, t6, fun p7 H7 e7 t7 s7 => ?_⟩
                      have e07 := e06.trans e7
                      refine ⟨v, d, 1, p6, p7, _, _, rfl, by decide, dp_ext e07 _ _ hdv, bk_mem bkr (List.mem_of_getElem? hd), sqT_ext e7 s6, s7, t7, fun H8 e8 t8 => ?_⟩
                      have e08 := e07.trans e8
                      cases hb : blkD (sideL Prod.fst (cs.map pairD) i) (sideL Prod.snd (cs.map pairD) i) 4 d with
                      | none =>
                        refine ⟨rfl, _, rfl, ifT (decide_eq_true rfl) ?_⟩
                        rw [acts_no (me := 0) hd (by rw [show (0 : Int) + (i : Nat) = (i : Int) by omega]; exact hb)] at dd
                        exact no dd H8 e08 t8
                      | some v' =>
                        refine ⟨rfl, _, rfl, ifF (decide_eq_false (fun z => by cases z)) ?_⟩
                        refine ⟨_, _, _, rfl, e08, t8, fun j d' hj hd' => ?_⟩
                        rcases Nat.lt_or_ge j i with hji | hji
                        · exact all j d' hji hd'
                        · have ej : j = i := by omega
                          subst ej
                          rw [hd] at hd'
                          cases hd'
                          rw [show (0 : Int) + (j : Nat) = (j : Int) by omega, hb]
                          rfl
                    · obtain ⟨o3, o4, o5, rfl, eG, tG, all⟩ := h
                      rw [acts_yes (me := 0) (fun j d hd => all j d (by rw [la]; exact (List.getElem?_eq_some_iff.mp hd).1) hd)] at dd
                      have r := q G eG tG
                      rw [dd] at r
                      exact r
end
/-! what is written down, laid anew -/
def dif (H H' : Hp) : Hp := fun b => match H b with
  | none => H' b
  | some _ => none
theorem dif_at {H H' : Hp} {p : Addr} {o : HO} (h : H p = none) (h' : H' p = some o) : dif H H' p = some o := by
  unfold dif
  rw [h]
  exact h'
theorem dif_some {H H' : Hp} {p : Addr} {o : HO} (h : dif H H' p = some o) : H p = none ∧ H' p = some o := by
  unfold dif at h
  cases e : H p with
  | none =>
    rw [e] at h
    exact ⟨rfl, h⟩
  | some u =>
    rw [e] at h
    cases h
theorem dif_l {H H1 H2 : Hp} (s : Same H1 H2) : Same (dif H H1) (dif H H2) := fun b o h => by
  obtain ⟨h1, h2⟩ := dif_some h
  exact dif_at h1 (s _ _ h2)
theorem dif_r {H H1 H2 : Hp} (s : Same H H1) : Same (dif H1 H2) (dif H H2) := fun b o h => by
  obtain ⟨h1, h2⟩ := dif_some h
  exact dif_at (s.free h1) h2
theorem dif_in {H H' : Hp} : Same (dif H H') H' := fun b o h => (dif_some h).2
theorem dp_same {K : PySem.W.Frag} {H H' : Hp} (s : Same H H') {d : PyData} {v : V} (h : Dp K H v d) : Dp K H' v d := dp_ext (ext_same s) d v h
theorem dps_same {K : PySem.W.Frag} {H H' : Hp} (s : Same H H') {ds : List PyData} {vs : List V} (h : DpAll K H vs ds) : DpAll K H' vs ds := dp_exts (ext_same s) ds vs h
def tLit (K : PySem.W.Frag) (d : PyData) : TE := fun _ H Q => ∀ v H', Same H H' → Dp K (dif H H') v d → Q v H'
def tLits (K : PySem.W.Frag) (ds : List PyData) : TA := fun _ H Q => ∀ vs H', Same H H' → DpAll K (dif H H') vs ds → Q vs H'
theorem pe_imp {X : Cx} {e : Expr} {t t' : TE} (h : PE X e t) (w : ∀ σ H Q, t' σ H Q → t σ H Q) : PE X e t' := ⟨fun pins s σ H Q I q => h.run pins s σ H Q I (w _ _ _ q)⟩
theorem pa_imp {X : Cx} {es : List Expr} {t t' : TA} (h : PA X es t) (w : ∀ σ H Q, t' σ H Q → t σ H Q) : PA X es t' := ⟨fun pos pins s σ H Q I q => h.run pos pins s σ H Q I (w _ _ _ q)⟩
section
variable {X : Cx}
theorem lits_nil : PA X [] (tLits X.K []) := pa_imp pa_nil fun σ H Q q => q [] H (Same.refl _) .nil
theorem lits_cons {e : Expr} {es : List Expr} {d : PyData} {ds : List PyData} (h : PE X e (tLit X.K d)) (hs : PA X es (tLits X.K ds)) (hst : starEach (e :: es) X.env = (false, eval e X.env) :: starEach es X.env := by rfl) : PA X (e :: es) (tLits X.K (d :: ds)) :=
  pa_imp (pa_cons h hs hst) fun σ H Q q v H1 s1 d1 vs H2 s2 d2 => q (v :: vs) H2 (s1.trans s2) (.cons (dp_same (dif_l s2) d1) (dps_same (dif_r s1) d2))
theorem lit_int {i : Int} {j : Nat} {pos : Pos} : PE X (.Constant (.int i) j pos) (tLit X.K (.int i)) := pe_imp pe_int fun σ H Q q => q _ H (Same.refl _) (.int _)
theorem lit_str {x : Str} {j : Nat} {pos : Pos} : PE X (.Constant (.str x) j pos) (tLit X.K (.str x)) := pe_imp pe_str fun σ H Q q => q _ H (Same.refl _) (.str _)
theorem lit_bl {b : Bool} {j : Nat} {pos : Pos} : PE X (.Constant (.bool b) j pos) (tLit X.K (.bool b)) := pe_imp pe_bl fun σ H Q q => q _ H (Same.refl _) (.bl _)
theorem lit_non {j : Nat} {pos : Pos} : PE X (.Constant .none j pos) (tLit X.K .none) := pe_imp pe_non fun σ H Q q => q _ H (Same.refl _) .non
theorem lit_neg {e : Expr} {i : Int} {pos : Pos} (h : PE X e (tC (.int i))) : PE X (.UnaryOp .USub e pos) (tLit X.K (.int (-i))) := pe_imp (pe_un un_neg h) fun σ H Q q => ⟨i, rfl, q _ H (Same.refl _) (.int _)⟩
theorem lit_tup {es : List Expr} {ds : List PyData} {x1 : Nat} {pos : Pos} (h : PA X es (tLits X.K ds)) (hl : ds.length ≤ 1000) : PE X (.Tuple es x1 pos) (tLit X.K (.tuple ds)) :=
  pe_imp (pe_tup h) fun σ H Q q vs H1 s1 d1 => ⟨small (by rw [dpAll_len d1]; exact hl), fun p hp => q _ _ (s1.trans (same_new hp _)) (.tup (SqT.of (dif_at (s1.free hp) upd_same)) (dps_same (dif_l (same_new hp _)) d1))⟩
theorem lit_lst {es : List Expr} {ds : List PyData} {pos : Pos} (h : PA X es (tLits X.K ds)) (hl : ds.length ≤ 1000) : PE X (.List es pos) (tLit X.K (.list ds)) :=
  pe_imp (pe_lst h) fun σ H Q q vs H1 s1 d1 => ⟨small (by rw [dpAll_len d1]; exact hl), fun p hp => q _ _ (s1.trans (same_new hp _)) (.lst (SqL.of (dif_at (s1.free hp) upd_same)) (dps_same (dif_l (same_new hp _)) d1))⟩
theorem lit_dict0 {pos : Pos} : PE X (.Dict [] [] pos) (tLit X.K (.dict (dictD []))) := pe_imp pe_dnewK fun σ H Q q p hp => q _ _ (same_new hp _) (.dct (ms := []) (dif_at hp upd_same))
theorem lit_dict1 {i k : Int} {j1 j2 : Nat} {p1 p2 pos : Pos} : PE X (.Dict [some (.Constant (.int i) j1 p1)] [.Constant (.int k) j2 p2] pos) (tLit X.K (.dict (dictD [(i, k)]))) :=
  pe_imp (pe_disp (pps_cons pe_int pe_int pps_nil) rfl rfl (by simp) (by show 1 ≤ 15; decide)) fun σ H Q q p hp => ⟨upd_same, [(Sum.inl i, V.int k)], rfl, by show 1 ≤ 15; decide, by
    rw [upd_upd]
    exact q _ _ (same_new hp _) (.dct (ms := [(i, k)]) (dif_at hp upd_same))⟩
end
section
variable {X : Cx}
theorem lit_big {j1 j2 : Nat} {p1 p2 pos : Pos} : PE X (.BinOp (.Constant (.int 10) j1 p1) .Pow (.Constant (.int 29) j2 p2) pos) (tLit X.K (.int (10 ^ 29))) := pe_imp (pe_op op_pow pe_int pe_int) fun σ H Q q => ⟨_, _, rfl, rfl, ⟨by decide, by decide, by decide⟩, q _ H (Same.refl _) (.int _)⟩
theorem lit_low {j0 j1 j2 : Nat} {p0 p1 p2 p3 pos : Pos} : PE X (.BinOp (.Constant (.int 0) j0 p0) .Sub (.BinOp (.Constant (.int 10) j1 p1) .Pow (.Constant (.int 29) j2 p2) p3) pos) (tLit X.K (.int (0 - 10 ^ 29))) := pe_imp (pe_op op_sub pe_int (pe_op op_pow pe_int pe_int)) fun σ H Q q => ⟨_, _, rfl, rfl, ⟨by decide, by decide, by decide⟩, _, _, rfl, rfl, q _ H (Same.refl _) (.int _)⟩
end
/-- all but the state's list -/
def mn (st : Addr) (H : Hp) : Hp := fun b => if b = st then none else H b
theorem mn_at {st p : Addr} {H : Hp} {o : HO} (n : p ≠ st) (h : H p = some o) : mn st H p = some o := by
  unfold mn
  rw [if_neg n]
  exact h
theorem mn_some {st p : Addr} {H : Hp} {o : HO} (h : mn st H p = some o) : p ≠ st ∧ H p = some o := by
  unfold mn at h
  by_cases e : p = st
  · rw [if_pos e] at h
    cases h
  · rw [if_neg e] at h
    exact ⟨e, h⟩
theorem mn_kp {st : Addr} {H H' : Hp} (k : Kp st H H') : Same (mn st H) (mn st H') := fun b o h => by
  obtain ⟨n, h⟩ := mn_some h
  exact mn_at n (k b o n h)
theorem mn_in {st : Addr} {H : Hp} : Same (mn st H) H := fun b o h => (mn_some h).2
theorem mn_dif {st : Addr} {H H' : Hp} (s : ∃ l, H st = some l) : Same (dif H H') (mn st H') := fun b o h => by
  obtain ⟨h1, h2⟩ := dif_some h
  obtain ⟨l, hl⟩ := s
  exact mn_at (ne_of_none hl h1).symm h2
/-! tuples cut and put together, the tokens of the empty and the whole ones told alike -/
section
variable {K : PySem.W.Frag}
theorem catA_run {H : Hp} {a b : Addr} {xs ys : List V} {Q : VK} (ha : SqT K H a xs) (hb : SqT K H b ys) (hz : xs.length + ys.length ≤ 1000) (q : ∀ r H', Same H H' → SqT K H' r (xs ++ ys) → Q (.ref r) H') : rCatA K (.ref a) (.ref b) H Q := by
  refine ⟨a, b, xs, ys, rfl, rfl, ha, hb, small hz, fun e => ?_, fun _ e => ?_, fun _ _ p hp => q p _ (same_new hp _) (SqT.of upd_same)⟩
  · subst e
    exact q b H (Same.refl _) hb
  · subst e
    exact q a H (Same.refl _) (by rw [List.append_nil]; exact ha)
theorem slA_run {H : Hp} {a : Addr} {xs : List V} {lo hi : Option Int} {Q : VK} (ha : SqT K H a xs) (q : ∀ r H', Same H H' → SqT K H' r (cutV xs lo hi) → Q (.ref r) H') : rSlA K (.ref a) lo hi H Q := by
  refine ⟨a, xs, rfl, ha, fun wh => ?_, fun _ p hp => q p _ (same_new hp _) (SqT.of upd_same)⟩
  refine q a H (Same.refl _) ?_
  unfold cutV
  rw [wh.1, wh.2, Nat.sub_zero, List.drop_zero, List.take_length]
  exact ha
theorem cut_to {xs : List V} {b : Int} (h0 : 0 ≤ b) (h1 : b ≤ xs.length) : cutV xs none (some b) = xs.take b.toNat := by
  obtain ⟨n, rfl⟩ : ∃ n : Nat, b = n := ⟨b.toNat, by omega⟩
  unfold cutV
  rw [HT.sIx_none, HT.sIx_nat, List.drop_zero, Nat.sub_zero, Nat.min_eq_left (by omega)]
  rfl
theorem cut_from {xs : List V} {b : Int} (h0 : 0 ≤ b) (h1 : b ≤ xs.length) : cutV xs (some b) none = xs.drop b.toNat := by
  obtain ⟨n, rfl⟩ : ∃ n : Nat, b = n := ⟨b.toNat, by omega⟩
  unfold cutV
  rw [HT.sIx_none, HT.sIx_nat, Nat.min_eq_left (by omega)]
  have e : xs.length - n = (xs.drop n).length := by rw [List.length_drop]
  rw [e, List.take_length]
  rfl
theorem set_split {α : Type} : ∀ (xs : List α) (b : Nat) (v : α), b < xs.length → xs.take b ++ [v] ++ xs.drop (b + 1) = xs.set b v
  | x :: r, 0, v, _ => rfl
  | x :: r, b + 1, v, h => by
    have ih := set_split r b v (by simpa using h)
    simp only [List.take_succ_cons, List.cons_append, List.drop_succ_cons, List.set_cons_succ]
    rw [ih]
theorem dpAll_set {H : Hp} {v : V} {d : PyData} (h : Dp K H v d) : ∀ {xs : List V} {ds : List PyData} (i : Nat), DpAll K H xs ds → DpAll K H (xs.set i v) (ds.set i d)
  | _, _, _, .nil => .nil
  | _, _, 0, .cons _ t => .cons h t
  | _, _, i + 1, .cons a t => .cons a (dpAll_set h i t)
end
section
theorem depth_all {k : Nat} : ∀ {l : List PyData}, (∀ z ∈ l, z.depth ≤ k) → PyData.depthAll l ≤ k
  | [], _ => by simp only [PyData.depthAll]; exact Nat.zero_le _
  | u :: v, h => by
    have h1 := h u List.mem_cons_self
    have h2 := depth_all (l := v) fun z hz => h z (List.mem_cons_of_mem _ hz)
    simp only [PyData.depthAll]
    omega
theorem short_all {B : Nat} : ∀ {l : List PyData}, (∀ z ∈ l, z.leavesShort B = true) → PyData.leavesShortAll B l = true
  | [], _ => by simp only [PyData.leavesShortAll]
  | u :: v, h => by
    simp only [PyData.leavesShortAll, Bool.and_eq_true]
    exact ⟨h u List.mem_cons_self, short_all fun z hz => h z (List.mem_cons_of_mem _ hz)⟩
theorem show_all : ∀ {l : List PyData}, (∀ z ∈ l, z.showable = true) → PyData.showableAll l = true
  | [], _ => by simp only [PyData.showableAll]
  | u :: v, h => by
    simp only [PyData.showableAll, Bool.and_eq_true]
    exact ⟨h u List.mem_cons_self, show_all fun z hz => h z (List.mem_cons_of_mem _ hz)⟩
theorem bulk_all {k : Nat} : ∀ {l : List PyData}, (∀ z ∈ l, z.bulk ≤ k) → PyData.bulkAll l ≤ (k + 1) * l.length
  | [], _ => by simp only [PyData.bulkAll]; exact Nat.zero_le _
  | u :: v, h => by
    have h1 := h u List.mem_cons_self
    have h2 := bulk_all (l := v) fun z hz => h z (List.mem_cons_of_mem _ hz)
    simp only [PyData.bulkAll, List.length_cons]
    rw [Nat.mul_add]
    omega
theorem bulk_app : ∀ (a b : List PyData), PyData.bulkAll (a ++ b) = PyData.bulkAll a + PyData.bulkAll b
  | [], b => by simp [PyData.bulkAll]
  | x :: a, b => by
    simp only [List.cons_append, PyData.bulkAll]
    rw [bulk_app a b]
    omega
theorem bulk_set : ∀ {l : List PyData} {i : Nat} {e e' : PyData}, l[i]? = some e → PyData.bulkAll (l.set i e') + e.bulk = PyData.bulkAll l + e'.bulk
  | x :: l, 0, e, e', h => by
    cases h
    simp only [List.set_cons_zero, PyData.bulkAll]
    omega
  | x :: l, i + 1, e, e', h => by
    have := bulk_set (l := l) (i := i) (e := e) (e' := e') h
    simp only [List.set_cons_succ, PyData.bulkAll]
    omega
theorem bulk_cut (l : List PyData) (i : Nat) : PyData.bulkAll (l.take i) + PyData.bulkAll (l.drop i) = PyData.bulkAll l := by
  rw [← bulk_app, List.take_append_drop]
theorem bulk_drop (l : List PyData) (i : Nat) : PyData.bulkAll (l.drop i) ≤ PyData.bulkAll l := by
  have := bulk_cut l i
  omega
theorem sqT_mn {K : PySem.W.Frag} {H : Hp} {st r : Addr} {xs : List V} (sa : StAt H st) (h : SqT K H r xs) : SqT K (mn st H) r xs := by
  obtain ⟨l, hl⟩ := sa.some
  rcases h with (h | ⟨o, h⟩) | h
  · exact .inl (.inl (mn_at (fun e => by rw [e, hl] at h; cases h) h))
  · exact .inl (.inr ⟨o, mn_at (fun e => by rw [e, hl] at h; cases h) h⟩)
  · exact .inr h
theorem sqT_same {K : PySem.W.Frag} {H H' : Hp} {r : Addr} {xs : List V} (s : Same H H') (h : SqT K H r xs) : SqT K H' r xs := sqT_kt (KT.of_same s) h
theorem dpAll_take {K : PySem.W.Frag} {H : Hp} : ∀ {vs : List V} {ds : List PyData} (i : Nat), DpAll K H vs ds → DpAll K H (vs.take i) (ds.take i)
  | _, _, 0, _ => by simp only [List.take_zero]; exact .nil
  | _, _, i + 1, .nil => .nil
  | _, _, i + 1, .cons a t => by simp only [List.take_succ_cons]; exact .cons a (dpAll_take i t)
theorem dpAll_drop {K : PySem.W.Frag} {H : Hp} : ∀ {vs : List V} {ds : List PyData} (i : Nat), DpAll K H vs ds → DpAll K H (vs.drop i) (ds.drop i)
  | _, _, 0, h => by simp only [List.drop_zero]; exact h
  | _, _, i + 1, .nil => .nil
  | _, _, i + 1, .cons a t => by simp only [List.drop_succ_cons]; exact dpAll_drop i t
theorem cut_from0 {xs : List V} {b : Int} (h0 : 0 ≤ b) : cutV xs (some b) none = xs.drop b.toNat := by
  by_cases h1 : b ≤ xs.length
  · exact cut_from h0 h1
  · obtain ⟨n, rfl⟩ : ∃ n : Nat, b = n := ⟨b.toNat, by omega⟩
    unfold cutV
    rw [HT.sIx_none, HT.sIx_nat, Nat.min_eq_right (by omega), Nat.sub_self, List.take_zero]
    exact (List.drop_eq_nil_of_le (by omega)).symm
theorem noP {σ : L2.St} {H : Hp} {Q : Option Int → Hp → Prop} (h : Q none H) : tNoPart σ H Q := h
theorem pick_dp {K : PySem.W.Frag} {H : Hp} {vs : List V} {ds : List PyData} {r : Int} (h : DpAll K H vs ds) (r0 : 0 ≤ r) (r1 : r < ds.length) : ∃ v d, atI vs r = some v ∧ Dp K H v d ∧ d ∈ ds := by
  have hl := dpAll_len h
  have hr : r.toNat < vs.length := by omega
  obtain ⟨d, hd, hdp⟩ := dpAll_get' h (List.getElem?_eq_getElem hr)
  exact ⟨_, d, atI_at r0 (List.getElem?_eq_getElem hr), hdp, List.mem_of_getElem? hd⟩
theorem pss_imp {X : Cx} {sts : List Stmt} {t t' : TS} (h : PSs X sts t) (w : ∀ D σ H, t' D σ H → t D σ H) : PSs X sts t' := ⟨fun pins s σ H D I q => h.run pins s σ H D I (w _ _ _ q)⟩
end
/-! a tuple against the empty one, a list against the empty one -/
section
variable {X : Cx}
def rNeE (K : PySem.W.Frag) : R2 := fun x y H Q => ∃ a b xs, x = .ref a ∧ y = .ref b ∧ SqT K H a xs ∧ SqT K H b [] ∧ Q (.bl (!xs.isEmpty)) H
theorem op_neE (hu : X.A.units + 64 < cLine) : OpR X (compareOp .NotEq) (rNeE X.K) := by
  intro pins s σ H x y v u Q I rx ry h
  obtain ⟨a, b, xs, rfl, rfl, ha, hb, q⟩ := h
  cases rx
  cases ry
  obtain ⟨its, r1, ⟨o1, g1, c1, n1, d1⟩, _⟩ := I.tuple ha
  obtain ⟨its2, r2, ⟨o2, g2, c2, n2, d2⟩, _⟩ := I.tuple hb
  cases r2
  refine SeqAt.RcNeAt.tuples (e := fun _ => true) ⟨o1, g1, c1, n1, d1⟩ ⟨o2, g2, c2, n2, d2⟩ (by omega) (fun j _ h2 => absurd h2 (by simp)) X.prog X.w _ _ ⟨.bl (!xs.isEmpty), H, I, ?_, q⟩
  have l := r1.length
  cases xs with
  | nil =>
    cases r1
    rfl
  | cons z zs =>
    cases r1 with
    | cons _ _ => rfl
def rNeLE (K : PySem.W.Frag) : R2 := fun x y H Q => ∃ a b xs, x = .ref a ∧ y = .ref b ∧ SqL K H a xs ∧ SqL K H b [] ∧ Q (.bl (!xs.isEmpty)) H
theorem op_neLE (hu : X.A.units + 64 < cLine) : OpR X (compareOp .NotEq) (rNeLE X.K) := by
  intro pins s σ H x y v u Q I rx ry h
  obtain ⟨a, b, xs, rfl, rfl, ha, hb, q⟩ := h
  cases rx
  cases ry
  obtain ⟨its, r1, ⟨o1, n1, g1, c1, _, d1⟩, _⟩ := I.list ha
  obtain ⟨its2, r2, ⟨o2, n2, g2, c2, _, d2⟩, _⟩ := I.list hb
  cases r2
  cases xs with
  | nil =>
    cases r1
    exact SeqAt.RcNeAt.lists (e := fun _ => true) ⟨o1, g1, c1, n1, d1⟩ ⟨o2, g2, c2, n2, d2⟩ rfl (by omega) (fun j _ h2 => absurd h2 (by simp)) X.prog X.w _ _ ⟨.bl false, H, I, rfl, q⟩
  | cons z zs =>
    cases r1 with
    | cons _ _ => exact SeqAt.RcNeAt.lists_lengths ⟨o1, g1, c1, n1, d1⟩ ⟨o2, g2, c2, n2, d2⟩ (by simp) (by omega) X.prog X.w _ _ ⟨.bl true, H, I, rfl, q⟩
end
/-! t[::-1] -/
section
open PySem.Spec PyProof.Rows
theorem fm_congr {α β : Type} {f g : α → Option β} : ∀ {l : List α}, (∀ k ∈ l, f k = g k) → l.filterMap f = l.filterMap g
  | [], _ => rfl
  | x :: r, h => by rw [List.filterMap_cons, List.filterMap_cons, h x List.mem_cons_self, fm_congr fun k hk => h k (List.mem_cons_of_mem _ hk)]
theorem rev_pick (xs : Array Value) : ((List.range xs.size).filterMap fun (k : Nat) => xs[(((xs.size : Int) - 1) + (k : Int) * (-1)).toNat]?) = xs.toList.reverse := by
  have e : ∀ k ∈ List.range xs.size, xs[(((xs.size : Int) - 1) + (k : Int) * (-1)).toNat]? = some (xs.toList.reverse.getD k .none) := fun k hk => by
    have hk : k < xs.size := List.mem_range.mp hk
    have e1 : (((xs.size : Int) - 1) + (k : Int) * (-1)).toNat = xs.size - 1 - k := by omega
    have h2 : k < xs.toList.reverse.length := by simpa using hk
    rw [e1, List.getD_eq_getElem?_getD, List.getElem?_eq_getElem h2, List.getElem_reverse, Array.getElem?_eq_getElem (by omega)]
    simp
  rw [fm_congr e]
  refine List.ext_getElem? fun i => ?_
  rw [show (fun k => some (xs.toList.reverse.getD k Value.none)) = (some ∘ fun k => xs.toList.reverse.getD k Value.none) from rfl, List.filterMap_eq_map, List.getElem?_map]
  by_cases hi : i < xs.size
  · have h2 : i < xs.toList.reverse.length := by simpa using hi
    rw [List.getElem?_range hi, List.getElem?_eq_getElem h2]
    simp [List.getD_eq_getElem?_getD, List.getElem?_eq_getElem h2]
  · rw [List.getElem?_eq_none (by simpa using hi), List.getElem?_eq_none (by simpa using hi)]
    rfl
variable {prog : Program} {w : World} {A : Around} {E : Value → Shared → Prop} {s : Shared}
theorem getItem_tuple_rev {t sl : Addr} {items : Array Value} {u : Tok} {Q : Value → Shared → Prop} (ht : IsTup s.heap t items) (hs : s.heap.IsSliceOf sl .none .none (.int (-1) u))
    (h : Q (.ref s.heap.objs.size) { s with heap := s.heap.push { cls := .type "tuple", data := .seq items.toList.reverse.toArray } })
    (hsz : items.size ≤ sizeLine) : wpAny (model prog w) A (getItem (.ref t) (.ref sl)) Q E s := by
  have htake : sizeOk (.seq items.toList.reverse.toArray) := by
    show items.toList.reverse.toArray.size ≤ sizeLine
    rw [List.size_toArray, List.length_reverse, Array.length_toList]
    exact hsz
  obtain ⟨so, so1, so2, so3⟩ := id hs
  have slot := PyProof.Rows.slot_tuple_getitem
  have tt := ht.typeIs
  unfold getItem; (try with_reducible refine wpAny_holding ?_); (first | refine wpAny_bind (wpAny_pure ?_) | skip); refine wpAny_bind (wpAny_sequenceKey tt (by decide) ?_)
  refine wpAny_bind (wpAny_callSpecial?_slot (name := Str.ofString "__getitem__") tt slot (wpAny_call_entry slot tt entry_tuple_getitem ?_ (args_tuple_getitem _ _)))
  show wpAny _ _ (Builtin.Tuple.tupleItemsOf (.ref t) >>= _) _ _ s; refine wpAny_bind (tupleItemsOf_ ht (wpAny_bind (wpAny_typeOf ⟨so, so1, so2⟩ ?_))); rw [if_pos (by decide)]
  have places : Builtin.Slice.slicePlaces ((items.size : Int) - 1) (-1) (-1) = items.size := by
    unfold Builtin.Slice.slicePlaces
    rw [if_neg (by decide)]
    by_cases c : (items.size : Int) - 1 > -1
    · rw [if_pos c]
      show (((items.size : Int) - 1 - -1 - 1) / 1 + 1).toNat = _
      rw [Int.ediv_one]
      omega
    · rw [if_neg c]
      omega
  have applied : ∀ {Q : Int × Int × Nat → Shared → Prop}, Q ((items.size : Int) - 1, -1, items.size) s → wpAny (model prog w) A.in1 (Builtin.Slice.sliceApplied (.ref sl) (pure (items.size : Int))) Q E s := fun {Q} h => by
    unfold Builtin.Slice.sliceApplied Builtin.Slice.sliceFields
    refine wpAny_bind (wpAny_bind (wpAny_field so1 so3 (x := .none) rfl (wpAny_bind (wpAny_field so1 so3 (x := .none) rfl (wpAny_bind (wpAny_field so1 so3 (x := .int (-1) u) rfl (wpAny_pure ?_)))))))
    refine wpAny_bind (slicePart_int ?_)
    show wpAny _ _ (if ((-1 : Int) == 0) = true then _ else _) _ _ s
    rw [if_neg (by decide)]
    refine wpAny_bind (slicePart_none (wpAny_bind (slicePart_none (wpAny_bind (wpAny_pure ?_)))))
    show wpAny _ _ (pure ((items.size : Int) - 1, (-1 : Int), Builtin.Slice.slicePlaces ((items.size : Int) - 1) (-1) (-1))) _ _ s
    rw [places]
    exact wpAny_pure h
  refine wpAny_bind (applied ?_)
  show wpAny _ _ (if ((items.size : Int) - 1 == 0 && (-1 : Int) == 1 && items.size == items.size) = true then _ else _) _ _ s
  rw [if_neg (by simp), rev_pick]
  refine wpAny_bind (m := Builtin.Tuple.tupleExact _) (wpAny_newObj_type (wpAny_pure ⟨_, rfl, wpAny_pure h⟩) htake)
end
section
open PySem.Spec PyProof.Rows
def tRev (K : PySem.W.Frag) (te : TE) : TE := fun σ H Q => te σ H fun x H1 => ∃ a xs, x = .ref a ∧ SqT K H1 a xs ∧ ∀ p, H1 p = none → Q (.ref p) (upd H1 p (.tup xs.reverse))
theorem pe_rev {X : Cx} {e : Expr} {te : TE} {j : Nat} {p1 p2 p3 pos : Pos} (he : PE X e te) : PE X (.Subscript e (.Slice none none (some (.UnaryOp .USub (.Constant (.int 1) j p1) p2)) p3) pos) (tRev X.K te) := by
  refine ⟨fun pins s σ H Q I h => ?_⟩
  refine Subscript_ (thn (he.run pins s σ H _ I h) fun v s1 ⟨x, H1, I1, r1, q1⟩ => ?_)
  obtain ⟨a, xs, rfl, hx, q⟩ := q1
  cases r1
  refine wpAny_Slice ?_
  rw [evalPart_none, evalPart_some]
  refine wpAny_pure (wpAny_pure ?_)
  refine thn ((pe_un (X := X) un_neg (pe_int (X := X) (i := 1) (j := j) (pos := p1))).run pins s1 σ H1 (fun v H' => v = .int (-1) ∧ H' = H1) I1 ⟨1, rfl, rfl, rfl⟩) fun u s2 ⟨z, H2, I2, r2, e1, e2⟩ => ?_
  subst e1 e2
  obtain ⟨t, rfl⟩ := r2
  have I4 : Inv X pins σ H2 { s2 with heap := s2.heap.push { cls := .type "slice", data := .fields #[.none, .none, .int (-1) t] } } := I2.kept (t' := s2.toks) fun b ob q => Heap.get?_push_of_some _ q
  obtain ⟨its, r, ht, hz⟩ := I4.tuple hx
  have hlen : its.toArray.size = xs.length := by rw [List.size_toArray]; exact r.length.symm
  refine tail_any (ops := [.ref a, .ref s2.heap.objs.size]) ht.typeIs PyProof.Rows.slot_tuple_getitem.lookup ?_ (by with_unfolding_all rfl)
  refine getItem_tuple_rev ht (Heap.IsSliceOf.new ..) ?_ (by rw [hlen]; exact hz)
  refine ⟨.ref _, _, I4.laid (t' := s2.toks) (o := .tup xs.reverse) (fun b ob q => Heap.get?_push_of_some _ q) (Nat.le_refl _) ?_, rfl, q _ (I4.hok.fresh (Nat.le_refl _))⟩
  exact ⟨by rw [List.length_reverse]; exact hz, _, r.reverse, IsTup.new _ _⟩
end
/-! flat code: tests, deeds with a last part, rows -/
def handL : List Str := ["let", "hang", "pick", "send"]
def wayL : List Str := ["copy", "give"]
def testD : PyData → Bool
  | .tuple [.str z, e] => decide (z = "test") && numNameD e
  | _ => false
def flatD (ss ts : List Int) : PyData → Bool
  | .tuple (.str z :: ds) => if z ∈ handL then (wayL.any fun y => isStrD y ((PyData.str z :: ds).getLastD .none)) && deedD ss ts (.tuple (PyData.str z :: ds).dropLast) else deedB ss ts z ds
  | _ => false
theorem word_tup {d : PyData} (h : wordD d ≠ "") : ∃ z ds, d = .tuple (.str z :: ds) ∧ wordD d = z := by
  unfold wordD at h ⊢
  split at h
  · exact ⟨_, _, rfl, rfl⟩
  · exact absurd rfl h
theorem hand_ne {z : Str} (h : z ∈ handL) : z ≠ "" := fun e => by
  rw [e] at h
  exact absurd h (by decide +kernel)
theorem last_snoc {α : Type} (x : α) (xs : List α) (d : α) : ∃ (ys : List α) (y : α), x :: xs = ys ++ [y] ∧ (x :: xs).getLastD d = y ∧ (x :: xs).dropLast = ys := by
  refine ⟨(x :: xs).dropLast, (x :: xs).getLast (by simp), (List.dropLast_concat_getLast (by simp)).symm, ?_, rfl⟩
  rw [List.getLastD_eq_getLast?, List.getLast?_eq_some_getLast (by simp)]
  rfl
theorem dpAll_split {K : PySem.W.Frag} {H : Hp} : ∀ {es : List PyData} {e : PyData} {vs : List V}, DpAll K H vs (es ++ [e]) → ∃ us u, vs = us ++ [u] ∧ DpAll K H us es ∧ Dp K H u e
  | [], e, _, .cons h1 h2 => by
    cases h2
    exact ⟨[], _, rfl, .nil, h1⟩
  | d :: es, e, _, .cons h1 h2 => by
    obtain ⟨us, u, rfl, a, b⟩ := dpAll_split h2
    exact ⟨_ :: us, u, rfl, .cons h1 a, b⟩
theorem cut_last (us : List V) (u : V) : cutV (us ++ [u]) none (some (-1)) = us := by
  unfold cutV HT.sIx
  simp only [List.length_append, List.length_singleton]
  have e : ((-1 : Int) + ((us.length + 1 : Nat) : Int)).toNat = us.length := by omega
  simp [show (-1 + ((us.length : Int) + 1)).toNat = us.length by omega]
theorem sl_last (us : List V) (u : V) : ¬ (HT.sIx (us ++ [u]).length 0 none = 0 ∧ HT.sIx (us ++ [u]).length (us ++ [u]).length (some (-1)) = (us ++ [u]).length) := by
  unfold HT.sIx
  simp
  omega
theorem at_last (us : List V) (u : V) : atI (us ++ [u]) (-1) = some u := by
  have e : ixN (us ++ [u]).length (-1) = some us.length := by
    unfold ixN
    rw [if_neg (by decide), if_pos (by rw [List.length_append, List.length_singleton]; omega)]
    congr 1
    rw [List.length_append, List.length_singleton]
    omega
  unfold atI
  rw [e]
  simp
theorem bk_sub {es : List PyData} {e : PyData} (h : BkOk (.tuple (es ++ [e]))) : BkOk (.tuple es) := by
  unfold BkOk at h ⊢
  simp only [PyData.bulk] at h ⊢
  rw [bulk_app] at h
  omega
theorem andT2 {a b : Bool} (h1 : a = true) (h2 : b = true) : (a && b) = true := by rw [h1, h2]; rfl
section
open PySem.Spec PyProof.Rows LamX
variable {P : Program} {w : World} {K : PySem.W.Frag} {mg : Str → Option Value} {base : Heap} {f : Addr} {fd : FuncData}
/-! hands_on -/
def spHands (K : PySem.W.Frag) : Sp := fun vs H Q _ => ∃ (x : V) (z : Str) (ds : List PyData), vs = [x] ∧ Dp K H x (.tuple (.str z :: ds)) ∧ Q (.bl (decide (z ∈ handL))) H
theorem scHands : FnScope ["deed"] ["deed"] (defScope sHands) := ⟨rfl, rfl, rfl, by decide +kernel, rfl, by decide +kernel, by decide +kernel⟩
theorem ok_hands {k : Nat} {ha : Addr} (F : Fun K "hands_on" "hands_on" sHands f fd) (hH : mg "HANDING" = some (.ref ha)) (hHL : SqK K ha (handL.map V.str)) : FnOk P w K mg base CX0 (k + 1) f fd ["deed"] (spHands K) := by
  refine F.ok scHands (fun vs H Q E h => ?_) (fun cdv A outer s H vs Q E hr h => ?_)
  · obtain ⟨x, z, ds, rfl, _⟩ := h
    rfl
  obtain ⟨x, z, ds, rfl, hx, q⟩ := h
  refine ⟨_, pss_one (ps_ret (pe_cmpR op_inTS (pe_ix ix_tup (pv 0) pe_int (fun _ _ => rfl)) (pe_glob (v := .ref ha) rfl hH rfl) rfl)), ?_⟩
  cases hx with
  | @tup a xs _ at_ each =>
    cases each with
    | @cons y ys _ _ h1 h2 =>
      cases h1
      exact ⟨_, rfl, a, _, 0, _, rfl, rfl, at_, atI_at (by decide) rfl, z, ha, handL, rfl, rfl, .inr (hHL.at H), q⟩
/-! is_test -/
def spTest (K : PySem.W.Frag) (PT : List Addr) : Sp := fun vs H Q _ => ∃ (x : V) (d : PyData), vs = [x] ∧ Dp K H x d ∧ BkOk d ∧ TabsG PT H ∧ ∀ H', ExtN H H' → TabsG PT H' → Q (.bl (testD d)) H'
def spFlatDeed (K : PySem.W.Frag) (PT : List Addr) : Sp := fun vs H Q _ => ∃ (x : V) (d : PyData) (a b : Addr) (ss ts : List Int), vs = [x, .ref a, .ref b] ∧ Dp K H x d ∧ BkOk d ∧ SqT K H a (ss.map V.int) ∧ SqT K H b (ts.map V.int) ∧ TabsG PT H ∧ ∀ H', ExtN H H' → TabsG PT H' → Q (.bl (flatD ss ts d)) H'
def rowD (r : PyData × List Int) : PyData := .tuple [r.1, .tuple (r.2.map .int)]
def rowsD (rs : List (PyData × List Int)) : PyData := .tuple (rs.map rowD)
abbrev NIsRow : List Str := ["thing", "many", "sends", "takes", "deed", "nexts", "wanted", "after"]
/-- from `wanted` on -/
def tRowT (K : PySem.W.Frag) (PT : List Addr) : TS := fun D σ H => ∃ (x y1 y2 : V) (v2 v3 v6 v7 : Option V) (many : Int) (d : PyData) (ns : List Int), σ = [some x, some (.int many), v2, v3, some y1, some y2, v6, v7] ∧ Dp K H y1 d ∧ Dp K H y2 (.tuple (ns.map .int)) ∧ BkOk d ∧ ((testD d = true ∧ ns.length = 2) ∨ (testD d = false ∧ ns.length = 1)) ∧ (∀ n ∈ ns, -1 ≤ n ∧ n ≤ many - 1) ∧ TabsG PT H ∧ ∀ H', ExtN H H' → TabsG PT H' → D.rt (.bl true) H'
end
theorem Mv.trans {st : Addr} {H H1 H2 : Hp} (a : Mv st H H1) (b : Mv st H1 H2) : Mv st H H2 := ⟨a.kp.trans b.kp, b.sa⟩
theorem big {n : Nat} (h : n ≤ 1000000) : n ≤ sizeLine := Nat.le_trans h (by decide)
theorem none_of_same {H G : Hp} {p : Addr} (s : Same H G) (h : G p = none) : H p = none := by
  cases e : H p with
  | none => rfl
  | some u => rw [s p u e] at h; cases h
theorem same_upd2 {H G : Hp} {D : Addr} {o : HO} (s : Same H G) (h : H D = none) : Same H (upd G D o) := fun b u hb => by
  rw [upd_ne (fun e => by rw [e, h] at hb; cases hb)]
  exact s b u hb
inductive Bd (c wd : Nat) : PyData → Prop
  | non : Bd c wd .none
  | bl {t : Bool} : Bd c wd (.bool t)
  | int {i : Int} (h : i.natAbs < c) : Bd c wd (.int i)
  | str {x : Str} (h : ∀ z ∈ x.cps.toList, z < 128) : Bd c wd (.str x)
  | lst {es : List PyData} (len : es.length ≤ wd) (each : ∀ z ∈ es, Bd c wd z) : Bd c wd (.list es)
  | tup {es : List PyData} (len : es.length ≤ wd) (each : ∀ z ∈ es, Bd c wd z) : Bd c wd (.tuple es)
  | dct {kvs : List (PyData × PyData)} (h1 : (PyData.dict kvs).showable = true) (h2 : (PyData.dict kvs).leavesShort 40 = true) : Bd c wd (.dict kvs)
theorem Bd.mono {c c' wd wd' : Nat} (h : c ≤ c') (h' : wd ≤ wd') {d : PyData} (b : Bd c wd d) : Bd c' wd' d := by
  induction b with
  | non => exact .non
  | bl => exact .bl
  | int q => exact .int (Nat.lt_of_lt_of_le q h)
  | str q => exact .str q
  | lst l _ ih => exact .lst (Nat.le_trans l h') ih
  | tup l _ ih => exact .tup (Nat.le_trans l h') ih
  | dct a b => exact .dct a b
theorem Bd.shw {c wd : Nat} (hc : c ≤ 10 ^ 35) {d : PyData} (b : Bd c wd d) : d.showable = true := by
  induction b with
  | non => simp only [PyData.showable]
  | bl => simp only [PyData.showable]
  | @int i q =>
    simp only [PyData.showable, decide_eq_true_eq]
    by_cases z : i.natAbs = 0
    · rw [z]
      decide
    · exact Nat.lt_of_lt_of_le ((Nat.log2_lt z).mpr (Nat.lt_of_lt_of_le (Nat.lt_of_lt_of_le q hc) (show 10 ^ 35 ≤ 2 ^ 120 by decide))) (by decide)
  | str q => simp only [PyData.showable]
  | lst _ _ ih => simp only [PyData.showable]; exact show_all ih
  | tup _ _ ih => simp only [PyData.showable]; exact show_all ih
  | dct a b => exact a
theorem Bd.sho {c wd : Nat} (hc : c ≤ 10 ^ 35) {d : PyData} (b : Bd c wd d) : d.leavesShort 40 = true := by
  induction b with
  | non => simp only [PyData.leavesShort]
  | bl => simp only [PyData.leavesShort]
  | @int i q =>
    simp only [PyData.leavesShort, decide_eq_true_eq]
    have e := PySem.int_text_length_le10 (k := 35) (by decide) (Nat.lt_of_lt_of_le q hc)
    show (Str.ofString (toString i)).length ≤ 40
    rw [ofString_length]
    exact Nat.le_trans e (by decide)
  | str q =>
    simp only [PyData.leavesShort, List.all_eq_true, decide_eq_true_eq]
    intro z hz
    exact Nat.lt_of_lt_of_le (q z hz) (by decide)
  | lst _ _ ih => simp only [PyData.leavesShort]; exact short_all ih
  | tup _ _ ih => simp only [PyData.leavesShort]; exact short_all ih
  | dct a b => exact b
theorem bulk_tup (l : List PyData) : (PyData.tuple l).bulk = PyData.bulkAll l := by simp only [PyData.bulk]
theorem bulk_lst (l : List PyData) : (PyData.list l).bulk = PyData.bulkAll l := by simp only [PyData.bulk]
theorem depth_tup (l : List PyData) : (PyData.tuple l).depth = 1 + PyData.depthAll l := by simp only [PyData.depth]; omega
theorem depth_lst (l : List PyData) : (PyData.list l).depth = 1 + PyData.depthAll l := by simp only [PyData.depth]; omega
theorem depth_mem : ∀ {l : List PyData} {z : PyData}, z ∈ l → z.depth ≤ PyData.depthAll l
  | u :: v, z, h => by
    simp only [PyData.depthAll]
    rcases List.mem_cons.mp h with rfl | h
    · omega
    · have := depth_mem h
      omega
theorem len_bulk : ∀ (l : List PyData), l.length ≤ PyData.bulkAll l
  | [] => by simp [PyData.bulkAll]
  | u :: v => by
    have := len_bulk v
    simp only [PyData.bulkAll, List.length_cons]
    omega
/-! blocks as the law sees them -/
def lstB (ss ts : List Int) (bl : PyData → Bool) (d : PyData) : Bool := deedD ss ts d || (branchD d && (argsD d).all bl)
def lblkT (ss ts : List Int) (bl : PyData → Bool) (ds : List PyData) : Bool := decide (ds.length ≤ 12) && ds.all (lstB ss ts bl)
def lblk (ss ts : List Int) : Nat → PyData → Bool
  | n + 1, .tuple ds => lblkT ss ts (lblk ss ts n) ds
  | _, _ => false
def sumM (m : PyData → Nat) : List PyData → Nat
  | [] => 0
  | d :: ds => m d + sumM m ds
def manyS (mb : PyData → Nat) (d : PyData) : Nat := if branchD d = true then 1 + sumM mb (argsD d) else 1
def manyN : Nat → PyData → Nat
  | n + 1, .tuple ds => sumM (manyS (manyN n)) ds
  | _, _ => 0
theorem deed_no_branch {ss ts : List Int} {d : PyData} (h : deedD ss ts d = true) : branchD d = false := by
  unfold deedD at h
  split at h
  · rename_i z ds
    unfold deedB at h
    split at h
    · cases h
    · rename_i ks hk
      show branchB z ds = false
      unfold branchB
      have e : brK z = none := by
        unfold brK
        rw [if_neg (fun e => by rw [e, show deedK "if" = none by decide +kernel] at hk; cases hk), if_neg (fun e => by rw [e, show deedK "while" = none by decide +kernel] at hk; cases hk)]
      rw [e]
  · cases h
/-- one count against the other -/
structure Rl (f : PyData → Option Nat) (g : PyData → Bool) (m : PyData → Nat) : Prop where
  yes : ∀ d, g d = true → m d ≤ 40 → f d = some (m d)
  is : ∀ d t, f d = some t → g d = true ∧ t = m d
section
variable {f : PyData → Option Nat} {g : PyData → Bool} {m : PyData → Nat}
theorem Rl.sum (r : Rl f g m) : ∀ {ds : List PyData}, ds.all g = true → sumM m ds ≤ 40 → sumO f ds = some (sumM m ds)
  | [], _, _ => rfl
  | d :: ds, h, hs => by
    rw [List.all_cons] at h
    have hs : m d + sumM m ds ≤ 40 := hs
    have h1 := r.yes d (and3 h).1 (by omega)
    have h2 := r.sum (and3 h).2 (by omega)
    simp only [sumO, h1, h2]
    rfl
theorem Rl.sums (r : Rl f g m) : ∀ {ds : List PyData} {t : Nat}, sumO f ds = some t → ds.all g = true ∧ t = sumM m ds
  | [], t, h => by cases h; exact ⟨rfl, rfl⟩
  | d :: ds, t, h => by
    cases hd : f d with
    | none => simp only [sumO, hd] at h; cases h
    | some a =>
      cases hs : sumO f ds with
      | none => simp only [sumO, hd, hs] at h; cases h
      | some b =>
        simp only [sumO, hd, hs] at h
        cases h
        obtain ⟨q1, q2⟩ := r.is d a hd
        obtain ⟨q3, q4⟩ := r.sums hs
        exact ⟨by rw [List.all_cons, q1, q3]; rfl, by rw [q2, q4]; rfl⟩
theorem Rl.st (r : Rl f g m) (ss ts : List Int) : Rl (stOf ss ts f) (lstB ss ts g) (manyS m) := by
  refine ⟨fun d hl h40 => ?_, fun d t ht => ?_⟩
  · unfold lstB at hl
    unfold stOf
    unfold manyS at h40 ⊢
    cases hd : deedD ss ts d with
    | true => rw [if_pos rfl, if_neg (by rw [deed_no_branch hd]; decide)]
    | false =>
      rw [hd, Bool.false_or] at hl
      have hl := and3 hl
      rw [if_pos hl.1] at h40 ⊢
      rw [if_neg (by decide), if_pos hl.1, r.sum hl.2 (by omega)]
      rfl
  · unfold stOf at ht
    unfold lstB manyS
    cases hd : deedD ss ts d with
    | true =>
      rw [hd, if_pos rfl] at ht
      cases ht
      exact ⟨rfl, by rw [if_neg (by rw [deed_no_branch hd]; decide)]⟩
    | false =>
      rw [hd, if_neg (by decide)] at ht
      by_cases hb : branchD d = true
      · rw [if_pos hb] at ht
        cases hs : sumO f (argsD d) with
        | none => rw [hs] at ht; cases ht
        | some t' =>
          obtain ⟨e2, e1⟩ := r.sums hs
          rw [hs] at ht
          cases ht
          refine ⟨by rw [hb, e2]; rfl, ?_⟩
          rw [if_pos hb, e1]
      · rw [if_neg hb] at ht
        cases ht
end
/-- the program's count is the law's -/
theorem blk_rl (ss ts : List Int) : ∀ n : Nat, Rl (blkD ss ts n) (lblk ss ts n) (manyN n)
  | 0 => ⟨(fun d h => by cases d <;> cases h), (fun d t h => by cases d <;> cases h)⟩
  | n + 1 => by
    have r := (blk_rl ss ts n).st ss ts
    refine ⟨fun d h h40 => ?_, fun d t h => ?_⟩
    · cases d with
      | tuple ds =>
        have h := and3 (show (decide (ds.length ≤ 12) && ds.all (lstB ss ts (lblk ss ts n))) = true from h)
        have h40 : sumM (manyS (manyN n)) ds ≤ 40 := h40
        show blkT ss ts (blkD ss ts n) ds = _
        unfold blkT
        rw [if_pos (of_decide_eq_true h.1), r.sum h.2 h40]
        show (if _ ≤ 40 then _ else none) = _
        rw [if_pos h40]
        rfl
      | _ => cases h
    · cases d with
      | tuple ds =>
        have h : blkT ss ts (blkD ss ts n) ds = some t := h
        unfold blkT at h
        by_cases hl : ds.length ≤ 12
        · rw [if_pos hl] at h
          cases hs : sumO (stOf ss ts (blkD ss ts n)) ds with
          | none => rw [hs] at h; cases h
          | some t' =>
            obtain ⟨q1, q2⟩ := r.sums hs
            rw [hs] at h
            have h : (if t' ≤ 40 then some t' else none) = some t := h
            by_cases h40 : t' ≤ 40
            · rw [if_pos h40] at h
              cases h
              refine ⟨?_, q2⟩
              show (decide (ds.length ≤ 12) && ds.all (lstB ss ts (lblk ss ts n))) = true
              rw [decide_eq_true hl, q1]
              rfl
            · rw [if_neg h40] at h
              cases h
        · rw [if_neg hl] at h
          cases h
      | _ => cases h
theorem blk_40 {ss ts : List Int} {n t : Nat} {d : PyData} (h : blkD ss ts n d = some t) : t ≤ 40 := by
  cases n with
  | zero => cases d <;> cases h
  | succ n =>
    cases d with
    | tuple ds =>
      have h : blkT ss ts (blkD ss ts n) ds = some t := h
      unfold blkT at h
      by_cases hl : ds.length ≤ 12
      · rw [if_pos hl] at h
        cases hs : sumO (stOf ss ts (blkD ss ts n)) ds with
        | none => rw [hs] at h; cases h
        | some t' =>
          rw [hs] at h
          have h : (if t' ≤ 40 then some t' else none) = some t := h
          by_cases h40 : t' ≤ 40
          · rw [if_pos h40] at h
            cases h
            exact h40
          · rw [if_neg h40] at h
            cases h
      · rw [if_neg hl] at h
        cases h
    | _ => cases h
theorem blk_some (ss ts : List Int) (n : Nat) (d : PyData) : (blkD ss ts n d).isSome = (lblk ss ts n d && decide (manyN n d ≤ 40)) := by
  have r := blk_rl ss ts n
  cases h : blkD ss ts n d with
  | some t =>
    obtain ⟨q1, q2⟩ := r.is d t h
    have := blk_40 h
    rw [q1, decide_eq_true (by omega)]
    rfl
  | none =>
    cases hl : lblk ss ts n d with
    | false => rfl
    | true =>
      by_cases h40 : manyN n d ≤ 40
      · rw [r.yes d hl h40] at h
        cases h
      · rw [decide_eq_false h40]
        rfl
/-! what is lawful may be shown -/
theorem small_lt {z : Nat} (h : smallB z = true) : z < 128 := by
  unfold smallB at h
  have := of_decide_eq_true (and3 h).2
  omega
theorem num_str {d : PyData} (h : numNameD d = true) : ∃ x, d = .str x ∧ (∀ z ∈ x.cps.toList, z < 128) ∧ x.cps.size ≤ 6 := by
  cases d with
  | str x =>
    have h := and3 (show ((decide (1 ≤ x.length) && decide (x.length ≤ 6)) && areSmall x) = true from h)
    exact ⟨x, rfl, fun z hz => small_lt (List.all_eq_true.mp h.2 z hz), of_decide_eq_true (and3 h.1).2⟩
  | _ => cases h
theorem cut_one (x : Str) : (cutS x (some 1) none).cps.toList = x.cps.toList.drop 1 := by
  have e : HT.sIx x.length 0 (some 1) = min 1 x.length := HT.sIx_nat x.length 0 1
  have l : x.length = x.cps.toList.length := by simp [Str.length]
  show ((x.cps.toList.drop (HT.sIx x.length 0 (some 1))).take (x.length - HT.sIx x.length 0 (some 1))).toArray.toList = x.cps.toList.drop 1
  rw [e, l]
  cases x.cps.toList with
  | nil => rfl
  | cons c r =>
    have m : min 1 (c :: r).length = 1 := by rw [List.length_cons]; omega
    rw [m, List.toList_toArray]
    exact List.take_of_length_le (by simp)
theorem graph_asc {d : PyData} (h : graphNameD d = true) : ∃ x, d = .str x ∧ (∀ z ∈ x.cps.toList, z < 128) ∧ x.cps.size ≤ 6 := by
  cases d with
  | str x =>
    have h := and3 (show ((decide (1 ≤ x.length) && decide (x.length ≤ 6)) && (bigB (x.cps.toList.headD 0) && areSmall (cutS x (some 1) none))) = true from h)
    have h2 := and3 h.2
    refine ⟨x, rfl, fun z hz => ?_, of_decide_eq_true (and3 h.1).2⟩
    have e : (cutS x (some 1) none).cps.toList = x.cps.toList.drop 1 := cut_one x
    cases hc : x.cps.toList with
    | nil => rw [hc] at hz; cases hz
    | cons c r =>
      rw [hc] at hz h2 e
      rcases List.mem_cons.mp hz with rfl | hz
      · have := of_decide_eq_true (and3 (show (decide (65 ≤ z) && decide (z ≤ 90)) = true from h2.1)).2
        omega
      · refine small_lt (List.all_eq_true.mp (show (cutS x (some 1) none).cps.toList.all smallB = true from h2.2) z ?_)
        rw [e]
        exact hz
  | _ => cases h
theorem fit_bd {c : Nat} {ss ts : List Int} (hc : 10000 ≤ c) (hs : ∀ i ∈ ss, i.natAbs < c) (ht : ∀ i ∈ ts, i.natAbs < c) {k : Kd} {d : PyData} (h : fitD ss ts k d = true) : Bd c 12 d ∧ d.bulk ≤ 6 ∧ d.depth = 0 := by
  have txt : ∀ x : Str, d = .str x → (∀ z ∈ x.cps.toList, z < 128) → x.cps.size ≤ 6 → Bd c 12 d ∧ d.bulk ≤ 6 ∧ d.depth = 0 := fun x e h1 h2 => by
    subst e
    exact ⟨.str h1, by simp only [PyData.bulk]; exact h2, by simp only [PyData.depth]⟩
  have num : ∀ i : Int, d = .int i → i.natAbs < c → Bd c 12 d ∧ d.bulk ≤ 6 ∧ d.depth = 0 := fun i e h1 => by
    subst e
    exact ⟨.int h1, by simp only [PyData.bulk]; omega, by simp only [PyData.depth]⟩
  cases k with
  | name => obtain ⟨x, e, h1, h2⟩ := num_str h; exact txt x e h1 h2
  | graph => obtain ⟨x, e, h1, h2⟩ := graph_asc h; exact txt x e h1 h2
  | number => obtain ⟨i, e, h1, h2⟩ := within_int h; exact num i e (by omega)
  | place => obtain ⟨i, e, h1, h2⟩ := within_int h; exact num i e (by omega)
  | sign =>
    obtain ⟨z, hz, hd⟩ := List.any_eq_true.mp (show signs.any (fun z => isStrD z d) = true from h)
    cases d with
    | str x =>
      have e : x = z := of_decide_eq_true hd
      subst e
      have q : signs.all (fun z => z.cps.toList.all (fun c => decide (c < 128)) && decide (z.cps.size ≤ 6)) = true := by decide +kernel
      have q := and3 (List.all_eq_true.mp q x hz)
      exact txt x rfl (fun z hz => of_decide_eq_true (List.all_eq_true.mp q.1 z hz)) (of_decide_eq_true q.2)
    | _ => cases hd
  | into =>
    cases d with
    | int i => exact num i rfl (hs i (of_decide_eq_true h))
    | _ => cases h
  | out =>
    cases d with
    | int i => exact num i rfl (ht i (of_decide_eq_true h))
    | _ => cases h
theorem fits_bd {c : Nat} {ss ts : List Int} (hc : 10000 ≤ c) (hs : ∀ i ∈ ss, i.natAbs < c) (ht : ∀ i ∈ ts, i.natAbs < c) : ∀ {ks : List Kd} {ds : List PyData}, ds.length = ks.length → fitsAll ss ts ks ds = true → (∀ z ∈ ds, Bd c 12 z) ∧ PyData.bulkAll ds ≤ 7 * ds.length ∧ PyData.depthAll ds = 0
  | [], [], _, _ => ⟨(fun z hz => by cases hz), (by simp only [PyData.bulkAll]; omega), (by simp only [PyData.depthAll])⟩
  | k :: ks, d :: ds, hl, h => by
    have h := and3 (show (fitD ss ts k d && fitsAll ss ts ks ds) = true from h)
    obtain ⟨q1, q2, q3⟩ := fit_bd hc hs ht h.1
    obtain ⟨r1, r2, r3⟩ := fits_bd hc hs ht (by simpa using hl) h.2
    refine ⟨fun z hz => ?_, ?_, ?_⟩
    · rcases List.mem_cons.mp hz with rfl | hz
      · exact q1
      · exact r1 z hz
    · simp only [PyData.bulkAll, List.length_cons]
      omega
    · simp only [PyData.depthAll, q3, r3]
      rfl
theorem deedL_ok : deedL.all (fun p => p.1.cps.toList.all (fun c => decide (c < 128)) && decide (p.1.cps.size ≤ 4) && decide (p.2.length ≤ 4)) = true := by decide +kernel
theorem lookup_mem {z : Str} {ks : List Kd} : ∀ {l : List (Str × List Kd)}, l.lookup z = some ks → (z, ks) ∈ l
  | [], h => by cases h
  | (y, v) :: l, h => by
    rw [List.lookup_cons] at h
    cases e : z == y with
    | true =>
      rw [e] at h
      cases h
      rw [eq_of_beq e]
      exact List.mem_cons_self
    | false =>
      rw [e] at h
      exact List.mem_cons_of_mem _ (lookup_mem h)
theorem deed_bd {c : Nat} {ss ts : List Int} (hc : 10000 ≤ c) (hs : ∀ i ∈ ss, i.natAbs < c) (ht : ∀ i ∈ ts, i.natAbs < c) {d : PyData} (h : deedD ss ts d = true) : Bd c 12 d ∧ d.bulk ≤ 33 ∧ d.depth ≤ 1 := by
  unfold deedD at h
  split at h
  · rename_i z ds
    unfold deedB at h
    split at h
    · cases h
    · rename_i ks hk
      have h := and3 h
      have hl := of_decide_eq_true h.1
      obtain ⟨r1, r2, r3⟩ := fits_bd hc hs ht hl (and3 h.2).1
      have q := List.all_eq_true.mp deedL_ok (z, ks) (lookup_mem hk)
      simp only [Bool.and_eq_true, decide_eq_true_eq] at q
      refine ⟨.tup (by rw [List.length_cons]; omega) fun y hy => ?_, ?_, ?_⟩
      · rcases List.mem_cons.mp hy with rfl | hy
        · exact .str fun y hy => of_decide_eq_true (List.all_eq_true.mp q.1.1 y hy)
        · exact r1 y hy
      · simp only [PyData.bulk, PyData.bulkAll]
        omega
      · simp only [PyData.depth, PyData.depthAll, r3]
        omega
  · cases h
theorem sumM_bd {m : PyData → Nat} : ∀ {ds : List PyData}, (∀ d ∈ ds, d.bulk + 1 ≤ 34 * m d) → PyData.bulkAll ds ≤ 34 * sumM m ds
  | [], _ => by simp only [PyData.bulkAll]; omega
  | d :: ds, h => by
    have h1 := h d List.mem_cons_self
    have h2 := sumM_bd (ds := ds) fun z hz => h z (List.mem_cons_of_mem _ hz)
    have e : sumM m (d :: ds) = m d + sumM m ds := rfl
    rw [e, Nat.mul_add]
    simp only [PyData.bulkAll]
    omega
theorem dAll_le {k : Nat} : ∀ {ds : List PyData}, (∀ d ∈ ds, d.depth ≤ k) → PyData.depthAll ds ≤ k
  | [], _ => by simp only [PyData.depthAll]; omega
  | d :: ds, h => by
    have h1 := h d List.mem_cons_self
    have h2 := dAll_le (ds := ds) fun z hz => h z (List.mem_cons_of_mem _ hz)
    simp only [PyData.depthAll]
    omega
theorem br_ok {z : Str} {n : Nat} (h : brK z = some n) : (∀ y ∈ z.cps.toList, y < 128) ∧ z.cps.size ≤ 5 ∧ n ≤ 2 := by
  unfold brK at h
  have q : ∀ x : Str, (x.cps.toList.all (fun c => decide (c < 128)) && decide (x.cps.size ≤ 5)) = true → (∀ y ∈ x.cps.toList, y < 128) ∧ x.cps.size ≤ 5 := fun x h => by
    have h := and3 h
    exact ⟨fun y hy => of_decide_eq_true (List.all_eq_true.mp h.1 y hy), of_decide_eq_true h.2⟩
  by_cases e : z = "if"
  · rw [if_pos e] at h
    cases h
    subst e
    have := q "if" (by decide +kernel)
    exact ⟨this.1, this.2, by omega⟩
  · rw [if_neg e] at h
    by_cases e : z = "while"
    · rw [if_pos e] at h
      cases h
      subst e
      have := q "while" (by decide +kernel)
      exact ⟨this.1, this.2, by omega⟩
    · rw [if_neg e] at h
      cases h
theorem bulkB {m : PyData → Nat} : ∀ {ds : List PyData}, (∀ d ∈ ds, d.bulk ≤ 34 * m d) → PyData.bulkAll ds ≤ 34 * sumM m ds + ds.length
  | [], _ => by simp only [PyData.bulkAll]; omega
  | d :: ds, h => by
    have h1 := h d List.mem_cons_self
    have h2 := bulkB (ds := ds) fun z hz => h z (List.mem_cons_of_mem _ hz)
    have e : sumM m (d :: ds) = m d + sumM m ds := rfl
    rw [e, Nat.mul_add]
    simp only [PyData.bulkAll, List.length_cons]
    omega
theorem lblk_bd {c : Nat} {ss ts : List Int} (hc : 10000 ≤ c) (hs : ∀ i ∈ ss, i.natAbs < c) (ht : ∀ i ∈ ts, i.natAbs < c) : ∀ (n : Nat) {d : PyData}, lblk ss ts n d = true → Bd c 12 d ∧ d.bulk ≤ 34 * manyN n d ∧ d.depth ≤ 2 * n
  | 0, d, h => by cases d <;> cases h
  | n + 1, d, h => by
    cases d with
    | tuple ds =>
      have h := and3 (show (decide (ds.length ≤ 12) && ds.all (lstB ss ts (lblk ss ts n))) = true from h)
      have hl := of_decide_eq_true h.1
      have one : ∀ d ∈ ds, Bd c 12 d ∧ d.bulk + 1 ≤ 34 * manyS (manyN n) d ∧ d.depth ≤ 2 * n + 1 := fun d hd => by
        have hd := List.all_eq_true.mp h.2 d hd
        unfold lstB at hd
        cases hdd : deedD ss ts d with
        | true =>
          obtain ⟨q1, q2, q3⟩ := deed_bd hc hs ht hdd
          unfold manyS
          rw [if_neg (by rw [deed_no_branch hdd]; decide)]
          exact ⟨q1, by omega, by omega⟩
        | false =>
          rw [hdd, Bool.false_or] at hd
          have hd := and3 hd
          obtain ⟨z, d1, args, m, rfl, hz, hlen, hn⟩ := branch_shape hd.1
          obtain ⟨z1, z2, z3⟩ := br_ok hz
          obtain ⟨x, rfl, x1, x2⟩ := num_str hn
          have ha : ∀ e ∈ args, Bd c 12 e ∧ e.bulk ≤ 34 * manyN n e ∧ e.depth ≤ 2 * n := fun e he => lblk_bd hc hs ht n (List.all_eq_true.mp hd.2 e he)
          unfold manyS
          rw [if_pos hd.1]
          have hb := bulkB (m := manyN n) (ds := args) fun e he => (ha e he).2.1
          have hde := dAll_le (k := 2 * n) (ds := args) fun e he => (ha e he).2.2
          refine ⟨.tup (by simp only [List.length_cons]; omega) fun y hy => ?_, ?_, ?_⟩
          · rcases List.mem_cons.mp hy with rfl | hy
            · exact .str z1
            · rcases List.mem_cons.mp hy with rfl | hy
              · exact .str x1
              · exact (ha y hy).1
          · show _ ≤ 34 * (1 + sumM (manyN n) args)
            rw [Nat.mul_add]
            simp only [PyData.bulk, PyData.bulkAll]
            omega
          · simp only [PyData.depth, PyData.depthAll]
            omega
      refine ⟨.tup hl fun z hz => (one z hz).1, ?_, ?_⟩
      · show _ ≤ 34 * sumM (manyS (manyN n)) ds
        simp only [PyData.bulk]
        exact sumM_bd fun z hz => (one z hz).2.1
      · have := dAll_le (k := 2 * n + 1) (ds := ds) fun z hz => (one z hz).2.2
        simp only [PyData.depth]
        omega
    | _ => cases h
theorem side_nn {sd : Int × Int → Int} {chs : List (Int × Int)} {me : Int} (hl : chs.length ≤ 100) : ∀ i ∈ sideL sd chs me, i.natAbs < 10000 := fun i hi => by
  unfold sideL sideN at hi
  obtain ⟨m, hm, rfl⟩ := List.mem_map.mp hi
  have := List.mem_range.mp (List.mem_filter.mp hm).1
  omega
theorem acts_bd {chs : List (Int × Int)} (hl : chs.length ≤ 100) : ∀ {as : List PyData} {me : Int}, actsB chs me as = true → (∀ z ∈ as, Bd 10000 12 z ∧ z.bulk ≤ 1360 ∧ z.depth ≤ 8)
  | [], _, _ => fun z hz => by cases hz
  | d :: as, me, h => fun z hz => by
    have h := and3 (show ((blkD _ _ 4 d).isSome && actsB chs (me + 1) as) = true from h)
    rcases List.mem_cons.mp hz with rfl | hz
    · have q := h.1
      rw [blk_some] at q
      have q := and3 q
      obtain ⟨q1, q2, q3⟩ := lblk_bd (c := 10000) (Nat.le_refl _) (side_nn hl) (side_nn hl) 4 q.1
      have := of_decide_eq_true q.2
      exact ⟨q1, by omega, by omega⟩
    · exact acts_bd hl h.2 z hz
/-- a net may be shown -/
theorem net_bd {d : PyData} (h : netD d = true) : ∃ cs as, d = .tuple [.tuple cs, .tuple as] ∧ netB cs as = true ∧ Bd 10000 12 d ∧ d.bulk ≤ 5600 ∧ d.depth ≤ 10 := by
  unfold netD at h
  split at h
  · rename_i cs as
    refine ⟨cs, as, rfl, h, ?_⟩
    have h := and3 (show ((decide (cs.length ≤ 6) && (decide (1 ≤ as.length) && decide (as.length ≤ 4))) && (cs.all (chanD as.length) && actsB (cs.map pairD) 0 as)) = true from h)
    have h1 := and3 h.1
    have c6 := of_decide_eq_true h1.1
    have a4 := of_decide_eq_true (and3 h1.2).2
    have h2 := and3 h.2
    have ha := acts_bd (by rw [List.length_map]; omega) h2.2
    have hcs : ∀ z ∈ cs, Bd 10000 12 z ∧ z.bulk ≤ 2 ∧ z.depth ≤ 1 := fun z hz => by
      have q := List.all_eq_true.mp h2.1 z hz
      unfold chanD at q
      split at q
      · have q := and3 (and3 q).1
        obtain ⟨i, rfl, i1, i2⟩ := within_int q.1
        obtain ⟨j, rfl, j1, j2⟩ := within_int q.2
        refine ⟨.tup (by simp) fun y hy => ?_, by simp only [PyData.bulk, PyData.bulkAll]; omega, by simp only [PyData.depth, PyData.depthAll]; omega⟩
        rcases List.mem_cons.mp hy with rfl | hy
        · exact .int (by omega)
        · rw [List.mem_singleton.mp hy]
          exact .int (by omega)
      · cases q
    have b1 := bulk_all (k := 2) (l := cs) fun z hz => (hcs z hz).2.1
    have b2 := bulk_all (k := 1360) (l := as) fun z hz => (ha z hz).2.1
    have d1 := dAll_le (k := 1) (ds := cs) fun z hz => (hcs z hz).2.2
    have d2 := dAll_le (k := 8) (ds := as) fun z hz => (ha z hz).2.2
    have m1 : (2 + 1) * cs.length ≤ 3 * 6 := Nat.mul_le_mul_left 3 c6
    have m2 : (1360 + 1) * as.length ≤ 1361 * 4 := Nat.mul_le_mul_left 1361 a4
    refine ⟨.tup (by simp) fun y hy => ?_, ?_, ?_⟩
    · rcases List.mem_cons.mp hy with rfl | hy
      · exact .tup (by omega) fun z hz => (hcs z hz).1
      · rw [List.mem_singleton.mp hy]
        exact .tup (by omega) fun z hz => (ha z hz).1
    · simp only [PyData.bulk, PyData.bulkAll]
      omega
    · simp only [PyData.depth, PyData.depthAll]
      omega
  · cases h
def stD (ss ts : List Int) (d : PyData) : Bool := deedD ss ts d || branchD d
/-! _law_many, _law_is_block -/
def brL : List Str := ["if", "while"]
theorem lst_st (ss ts : List Int) (bl : PyData → Bool) (d : PyData) : lstB ss ts bl d = (stD ss ts d && (!branchD d || (argsD d).all bl)) := by
  unfold lstB stD
  cases h1 : deedD ss ts d with
  | true => rw [deed_no_branch h1]; rfl
  | false =>
    cases h2 : branchD d with
    | true => rfl
    | false => rfl
theorem br_mem {z : Str} {m : Nat} (h : brK z = some m) : z ∈ brL := by
  unfold brK at h
  by_cases e : z = "if"
  · rw [e]; decide +kernel
  · rw [if_neg e] at h
    by_cases e2 : z = "while"
    · rw [e2]; decide +kernel
    · rw [if_neg e2] at h; cases h
theorem st_word {ss ts : List Int} {d : PyData} (h : stD ss ts d = true) : ∃ z ds, d = .tuple (.str z :: ds) ∧ decide (z ∈ brL) = branchD d := by
  unfold stD at h
  cases h2 : branchD d with
  | true =>
    obtain ⟨z, d1, ds, m, rfl, hz, _⟩ := branch_shape h2
    exact ⟨z, d1 :: ds, rfl, decide_eq_true (br_mem hz)⟩
  | false =>
    rw [h2, Bool.or_false] at h
    unfold deedD at h
    split at h
    · rename_i z ds
      refine ⟨z, ds, rfl, decide_eq_false fun hm => ?_⟩
      unfold deedB at h
      split at h
      · cases h
      · rename_i ks hk
        have e : z = "if" ∨ z = "while" := by simpa [brL] using hm
        rcases e with rfl | rfl
        · rw [show deedK "if" = none by decide +kernel] at hk; cases hk
        · rw [show deedK "while" = none by decide +kernel] at hk; cases hk
    · cases h
theorem sumM_snoc {m : PyData → Nat} {d : PyData} : ∀ {l : List PyData}, sumM m (l ++ [d]) = sumM m l + m d
  | [] => by show m d + 0 = 0 + m d; omega
  | x :: l => by
    show m x + sumM m (l ++ [d]) = (m x + sumM m l) + m d
    rw [sumM_snoc]
    omega
theorem sum_map (m : PyData → Nat) : ∀ l : List PyData, (l.map fun d => ((m d : Nat) : Int)).sum = ((sumM m l : Nat) : Int)
  | [] => rfl
  | d :: l => by
    rw [List.map_cons, List.sum_cons, sum_map m l]
    show (m d : Int) + (sumM m l : Int) = ((m d + sumM m l : Nat) : Int)
    omega
abbrev rInTS (K : PySem.W.Frag) : R2 := fun x y H Q => ∃ (z : Str) (p : Addr) (zs : List Str), x = .str z ∧ y = .ref p ∧ (SqL K H p (zs.map V.str) ∨ SqT K H p (zs.map V.str)) ∧ Q (.bl (decide (z ∈ zs))) H
section
open PySem.Spec PyProof.Rows LamX
variable {P : Program} {w : World} {K : PySem.W.Frag} {mg : Str → Option Value} {base : Heap} {f : Addr} {fd : FuncData}
def spMany (K : PySem.W.Frag) (n : Nat) : Sp := fun vs H Q _ => ∃ (x : V) (d : PyData) (ss ts : List Int), vs = [x] ∧ Dp K H x d ∧ lblk ss ts n d = true ∧ ∀ H', Same H H' → Q (.int (manyN n d : Nat)) H'
abbrev NMany : List Str := ["_law_block_here", "_law_many_here", "_law_one", "_law_inner"]
theorem scMany : FnScope NMany ["_law_block_here"] (defScope sMany) := ⟨rfl, rfl, rfl, by decide +kernel, rfl, by decide +kernel, by decide +kernel⟩
theorem no_many {k : Nat} : FnOk P w K mg base CX0 k f fd ["_law_block_here"] (spMany K 0) :=
  ⟨(fun vs H Q E h => by obtain ⟨x, d, ss, ts, _, _, h, _⟩ := h; cases d <;> cases h), (fun A outer s H args us vs Q E hr he hb hv h => by obtain ⟨x, d, ss, ts, _, _, h, _⟩ := h; cases d <;> cases h)⟩
theorem ok_many {k n : Nat} (F : Fun K "_law_many" "_law_many" sMany f fd) (T : Free mg) (cM : Cal P w K mg base "_law_many" k ["_law_block_here"] (spMany K n)) : FnOk P w K mg base CX0 (k + 1) f fd ["_law_block_here"] (spMany K (n + 1)) := by
  refine F.ok scMany (fun vs H Q E h => ?_) (fun cdv A outer s H vs Q E hr h => ?_)
  · obtain ⟨x, d, ss, ts, rfl, _⟩ := h
    rfl
  obtain ⟨x, d, ss, ts, rfl, hx, hl, q⟩ := h
  refine ⟨_, pss_cons (ps_set (i := 1) scMany.nd rfl (.inl rfl) pe_int)
    (pss_cons (ps_for PassesOwn.never rfl (pi_tup (pv 0)) (pg_name (i := 2) scMany.nd rfl (.inr rfl))
      (pss_one (ps_set (i := 1) scMany.nd rfl (.inl rfl) (pe_op op_add (pe_op op_add (pv 1) pe_int) (pe_callB (cr_sum rfl) rfl T.sum (by decide +kernel) (pa_cons (pe_lc (own := [("_law_inner", 3)]) (g := gName 3) (tt := tTest (tOp (rInTS K) (tOp (rIxT K) (tVar 2) (tC (.int 0))) (tTup (tCons (tC (.str "if")) (tCons (tC (.str "while")) tNil))))) (te := tCall (spMany K n) [] E0 (tCons (tVar 3) tNil)) rfl scMany.nd (pi_tup (pe_slice sl_tupA (pv 2) (po_some pe_int) po_none))
        (blkOk_by (own := [("_law_inner", 3)]) (N := NMany) (sc := defScope sMany) (by decide +kernel))
        (fun _ _ _ _ _ => pg_name (i := 3) scMany.nd rfl (Or.inl rfl)) (fun _ _ _ _ _ => pts_one (pt_cmpR op_inTS (pe_ix ix_tup (pv 2) pe_int (fun _ _ => rfl)) (pe_tup (pa_cons pe_str (pa_cons pe_str pa_nil))) rfl)) (fun _ _ _ _ _ => pe_cal cM hr rfl (pa_cons (pv 3) pa_nil))) pa_nil))))))
    (pss_one (ps_ret (pv 1)))), ?_⟩
  cases d with
  | tuple ds =>
    have hl := and3 (show (decide (ds.length ≤ 12) && ds.all (lstB ss ts (lblk ss ts n))) = true from hl)
    have q : ∀ H', Same H H' → Q (.int (sumM (manyS (manyN n)) ds : Nat)) H' := q
    cases hx with
    | @tup ta xs _ at_ each =>
      have lx := dpAll_len each
      refine ⟨_, rfl, ta, rfl, ⟨xs, at_⟩, ?_⟩
      refine for_tup (xs := xs) (fun i σ G => ∃ (o2 o3 : Option V), σ = [some (.ref ta), some (.int (sumM (manyS (manyN n)) (ds.take i) : Nat)), o2, o3] ∧ Same H G) ⟨_, _, rfl, Same.refl _⟩ (fun i σ G _ h => by obtain ⟨_, _, _, h⟩ := h; exact sqT_same h at_) (fun i y σ G hy h => ?_) (fun σ G h => ?_)
      · obtain ⟨o2, o3, rfl, sG⟩ := h
        obtain ⟨d, hd, hdy⟩ := dpAll_get' each hy
        have hst := List.all_eq_true.mp hl.2 d (List.mem_of_getElem? hd)
        rw [lst_st] at hst
        have hst := and3 hst
        obtain ⟨z, es, rfl, hz⟩ := st_word hst.1
        cases dp_same sG hdy with
        | @tup da dvs _ dat deach =>
          cases deach with
          | @cons v0 vs0 _ _ h0 hs0 =>
            cases h0
            refine ⟨_, rfl, _, _, rfl, rfl, _, rfl, _, rfl, noP (slA_run dat fun r G1 s1 hr1 => ?_)⟩
            rw [cut_from0 (by decide)] at hr1
            refine ⟨r, rfl, ⟨_, hr1⟩, fun D hD => ?_⟩
            have each2 : DpAll K G1 ((V.str z :: vs0).drop 2) ((PyData.str z :: es).drop 2) := by
              cases vs0 with
              | nil => cases hs0; exact .nil
              | cons v1 vs1 =>
                cases hs0 with
                | cons a1 a2 => exact dps_same s1 a2
            have len2 := dpAll_len each2
            have elen : es.length ≤ 12 := by
              have z1 := hst.1
              have z2 : ∀ {c : Nat}, True := fun {c} => trivial
              cases hb : branchD (.tuple (.str z :: es)) with
              | true =>
                obtain ⟨z', d1, args, m, e, hzm, hlen, _⟩ := branch_shape hb
                cases e
                have := (br_ok hzm).2.2
                rw [List.length_cons]
                omega
              | false =>
                unfold stD at z1
                rw [hb, Bool.or_false] at z1
                have z1 : deedB ss ts z es = true := z1
                unfold deedB at z1
                split at z1
                · cases z1
                · rename_i ks hk
                  have e1 := of_decide_eq_true (and3 z1).1
                  have qd := List.all_eq_true.mp deedL_ok (z, ks) (lookup_mem hk)
                  simp only [Bool.and_eq_true, decide_eq_true_eq] at qd
                  omega
            refine lc_tup (xs := (V.str z :: vs0).drop 2) (fun j G2 => Same G1 G2 ∧ G2 D = some (.lst (((if branchD (.tuple (.str z :: es)) = true then ((PyData.str z :: es).drop 2).take j else []).map fun d => ((manyN n d : Nat) : Int)).map V.int)))
              ⟨same_new hD _, by rw [upd_same]; cases branchD (.tuple (.str z :: es)) <;> rfl⟩ (fun j G2 _ h => sqT_same h.1 hr1) (fun j v G2 hv h => ?_) (fun G2 h => ?_)
            · obtain ⟨s2, gD⟩ := h
              obtain ⟨e, he, hde⟩ := dpAll_get' each2 hv
              refine ⟨rfl, _, rfl, da, _, 0, _, rfl, rfl, sqT_same (s1.trans s2) dat, atI_at (by decide) rfl, small (by show 2 ≤ 1000; decide), fun p hp => ⟨z, p, brL, rfl, rfl, .inr (.of upd_same), _, rfl, ?_⟩⟩
              rw [hz]
              have s3 := s2.trans (same_new hp (.tup [V.str "if", V.str "while"]))
              have nD : D ≠ p := ne_of_none gD hp
              cases hb : branchD (.tuple (.str z :: es)) with
              | false =>
                rw [hb, if_neg (by decide)] at gD
                refine ifF rfl ⟨s3, ?_⟩
                rw [upd_ne nD, if_neg (by decide)]
                exact gD
              | true =>
                rw [hb, if_pos rfl] at gD
                have hargs : (argsD (.tuple (.str z :: es))).all (lblk ss ts n) = true := by
                  have z1 := hst.2
                  rw [hb] at z1
                  exact z1
                obtain ⟨z', d1, args, m, eq, hzm, hlen, _⟩ := branch_shape hb
                cases eq
                have he2 : args[j]? = some e := he
                have m2 := (br_ok hzm).2.2
                have hj : j < args.length := (List.getElem?_eq_some_iff.mp he2).1
                refine ifT rfl ⟨_, rfl, v, e, ss, ts, rfl, dp_same s3 hde, List.all_eq_true.mp hargs e (List.mem_of_getElem? he2), fun G4 s4 => ⟨_, s4 D _ (by rw [upd_ne nD]; exact gD), ?_, same_upd2 (s3.trans s4) hD, ?_⟩⟩
                · rw [List.length_map, List.length_map, List.length_take]
                  exact Nat.lt_of_lt_of_le (show _ < 1000 by omega) (show 1000 ≤ sizeLine by decide)
                · rw [upd_same, if_pos rfl, take_more he, List.map_append, List.map_append]
                  rfl
            · obtain ⟨s2, gD⟩ := h
              rw [len2] at gD
              refine ⟨D, _, rfl, SqL.of gD, _, _, rfl, rfl, some (.ref da), o3, ?_, sG.trans (s1.trans s2)⟩
              show [_, some (V.int (((sumM (manyS (manyN n)) (ds.take i) : Nat) : Int) + 1 + _)), _, _] = _
              rw [sum_map, take_more hd, sumM_snoc]
              have em : manyS (manyN n) (.tuple (.str z :: es)) = 1 + sumM (manyN n) (if branchD (.tuple (.str z :: es)) = true then ((PyData.str z :: es).drop 2).take ((PyData.str z :: es).drop 2).length else []) := by
                unfold manyS
                cases hb : branchD (.tuple (.str z :: es)) with
                | false => rfl
                | true =>
                  rw [if_pos rfl, if_pos rfl, List.take_length]
                  cases es <;> rfl
              rw [em]
              congr 3
              congr 1
              omega
      · obtain ⟨o2, o3, rfl, sG⟩ := h
        rw [lx, List.take_length]
        exact ⟨_, rfl, q G sG⟩
  | _ => cases hl
theorem all_many {k : Nat} (F : Fun K "_law_many" "_law_many" sMany f fd) (hm : mg "_law_many" = some (.ref f)) (hb : Binds K fd ["_law_block_here"] []) (T : Free mg) : ∀ n, FnOk P w K mg base CX0 (k + n) f fd ["_law_block_here"] (spMany K n)
  | 0 => no_many
  | n + 1 => ok_many (k := k + n) F T ⟨f, fd, all_many F hm hb T n, hm, F.kp, hb⟩
/-! _law_is_block -/
end
section
theorem kt_mn {H : Hp} {st : Addr} (sa : StAt H st) : KT H (mn st H) := fun b u h n => mn_at (fun e => by
  obtain ⟨l, hl⟩ := sa.some
  rw [e, hl] at h
  cases h
  exact n _ rfl) h
end
def EnvD (K : PySem.W.Frag) (L : List (Nat × PyData)) (σ : L2.St) (H : Hp) : Prop := ∀ p ∈ L, ∃ v, σ[p.1]? = some (some v) ∧ Dp K H v p.2
theorem EnvD.same {K : PySem.W.Frag} {L : List (Nat × PyData)} {σ : L2.St} {H H' : Hp} (e : EnvD K L σ H) (s : Same H H') : EnvD K L σ H' := fun p hp => by
  obtain ⟨v, h1, h2⟩ := e p hp
  exact ⟨v, h1, dp_same s h2⟩
def Mk (K : PySem.W.Frag) (L : List (Nat × PyData)) (t : TE) (d : PyData) : Prop := ∀ (σ : L2.St) (H : Hp) (Q : VK), EnvD K L σ H → (∀ v H', Same H H' → Dp K H' v d → Q v H') → t σ H Q
def MkA (K : PySem.W.Frag) (L : List (Nat × PyData)) (t : TA) (ds : List PyData) : Prop := ∀ (σ : L2.St) (H : Hp) (Q : List V → Hp → Prop), EnvD K L σ H → (∀ vs H', Same H H' → DpAll K H' vs ds → Q vs H') → t σ H Q
section
variable {K : PySem.W.Frag} {L : List (Nat × PyData)}
theorem mk_int {i : Int} : Mk K L (tC (.int i)) (.int i) := fun σ H Q e q => q _ H (Same.refl _) (.int i)
theorem mk_str {x : Str} : Mk K L (tC (.str x)) (.str x) := fun σ H Q e q => q _ H (Same.refl _) (.str x)
theorem mk_bl {b : Bool} : Mk K L (tC (.bl b)) (.bool b) := fun σ H Q e q => q _ H (Same.refl _) (.bl b)
theorem mk_neg {i : Int} : Mk K L (tUn (rU fun i => .int (-i)) (tC (.int i))) (.int (-i)) := fun σ H Q e q => ⟨i, rfl, q _ H (Same.refl _) (.int _)⟩
theorem mk_var {i : Nat} {d : PyData} (h : (i, d) ∈ L) : Mk K L (tVar i) d := fun σ H Q e q => by
  obtain ⟨v, h1, h2⟩ := e _ h
  exact ⟨v, h1, q v H (Same.refl _) h2⟩
theorem mka_nil : MkA K L tNil [] := fun σ H Q e q => q [] H (Same.refl _) .nil
theorem mka_cons {t : TE} {ta : TA} {d : PyData} {ds : List PyData} (h : Mk K L t d) (hs : MkA K L ta ds) : MkA K L (tCons t ta) (d :: ds) := fun σ H Q e q =>
  h σ H _ e fun v H1 s1 d1 => hs σ H1 _ (e.same s1) fun vs H2 s2 d2 => q _ H2 (s1.trans s2) (.cons (dp_same s2 d1) d2)
theorem mk_tup {ta : TA} {ds : List PyData} (h : MkA K L ta ds) (hl : ds.length ≤ 1000) : Mk K L (tTup ta) (.tuple ds) := fun σ H Q e q =>
  h σ H _ e fun vs H1 s1 d1 => ⟨small (by rw [dpAll_len d1]; exact hl), fun p hp => q _ _ (s1.trans (same_new hp _)) (.tup (SqT.of upd_same) (dps_same (same_new hp _) d1))⟩
theorem mk_cat {t1 t2 : TE} {ds es : List PyData} (h1 : Mk K L t1 (.tuple ds)) (h2 : Mk K L t2 (.tuple es)) (hl : ds.length + es.length ≤ 1000) : Mk K L (tOp (rCatA K) t1 t2) (.tuple (ds ++ es)) := fun σ H Q e q =>
  h1 σ H _ e fun v1 H1 s1 d1 => h2 σ H1 _ (e.same s1) fun v2 H2 s2 d2 => by
    cases dp_same s2 d1 with
    | tup at1 each1 =>
      cases d2 with
      | tup at2 each2 =>
        exact catA_run at1 at2 (by rw [dpAll_len each1, dpAll_len each2]; exact hl) fun r H3 s3 h3 => q _ H3 (s1.trans (s2.trans s3)) (.tup h3 (dpAll_append (dps_same s3 each2) (dps_same s3 each1)))
end
section
variable {K : PySem.W.Frag} {L : List (Nat × PyData)}
theorem mk_lst {ta : TA} {ds : List PyData} (h : MkA K L ta ds) (hl : ds.length ≤ 1000) : Mk K L (tLst ta) (.list ds) := fun σ H Q e q =>
  h σ H _ e fun vs H1 s1 d1 => ⟨small (by rw [dpAll_len d1]; exact hl), fun p hp => q _ _ (s1.trans (same_new hp _)) (.lst (SqL.of upd_same) (dps_same (same_new hp _) d1))⟩
end
/-! _law_simple -/
theorem andT {a b : Bool} (h1 : a = true) (h2 : b = true) : (a && b) = true := by rw [h1, h2]; rfl
theorem unl_not {z : Str} {ds : List PyData} (h : decide (z ∈ unlikeL) = false) : unlikeB z ds = true := by
  unfold unlikeB
  rw [h]
  rfl
theorem unl_ne {z : Str} {ds : List PyData} {g h : Str} (hne : g ≠ h) (h1 : ds.headD .none = .str g) (h2 : ds.getLastD .none = .str h) : unlikeB z ds = true := by
  unfold unlikeB
  rw [h1, h2]
  show (_ || !decide (g = h)) = true
  rw [decide_eq_false hne]
  exact Bool.or_true _
theorem deed_mk {ss ts : List Int} {z : Str} {ks : List Kd} {ds : List PyData} (hk : deedK z = some ks) (hl : ds.length = ks.length) (hf : fitsAll ss ts ks ds = true) (hu : unlikeB z ds = true) : deedD ss ts (.tuple (.str z :: ds)) = true := by
  show deedB ss ts z ds = true
  unfold deedB
  rw [hk]
  show (decide (ds.length = ks.length) && (fitsAll ss ts ks ds && unlikeB z ds)) = true
  rw [decide_eq_true hl, hf, hu]
  rfl
def nameL : List Str := ["a", "b", "c", "count"]
def graphL : List Str := ["G", "H", "Kit"]
theorem nameL_ok : nameL.all (fun z => numNameD (.str z)) = true := by decide +kernel
theorem graphL_ok : graphL.all (fun z => graphNameD (.str z)) = true := by decide +kernel
def rowsA (a b g h : Str) (k : Int) : List PyData := [.tuple [.str "new", .str g], .tuple [.str "let", .str g, .str h], .tuple [.str "add", .str g, .str a], .tuple [.str "add", .str g, .str b], .tuple [.str "put", .str g, .str a, .int k, .str b], .tuple [.str "tie", .str g, .str a, .int k, .str b]]
def rowsB (a b g h : Str) (k : Int) : List PyData := [.tuple [.str "hang", .str g, .str a, .int k, .str h], .tuple [.str "hang", .str g, .str b, .int k, .str h], .tuple [.str "get", .str a, .str g, .str b, .int k], .tuple [.str "sort", .str a, .str g, .str b, .int k]]
def rowsC (a b g h : Str) (k : Int) : List PyData := [.tuple [.str "pick", .str g, .str h, .str a, .int k], .tuple [.str "pick", .str g, .str g, .str a, .int k], .tuple [.str "tell", .str a], .tuple [.str "show", .str g], .tuple [.str "show", .str h]]
theorem rows_ok {ss ts : List Int} {a b g h : Str} {k : Int} (na : numNameD (.str a) = true) (nb : numNameD (.str b) = true) (ng : graphNameD (.str g) = true) (nh : graphNameD (.str h) = true) (wk : withinD 0 2 (.int k) = true) (hgh : g ≠ h) : ∀ d ∈ rowsA a b g h k ++ rowsB a b g h k ++ rowsC a b g h k, deedD ss ts d = true := fun d hd => by
  have hd : d ∈ [.tuple [.str "new", .str g], .tuple [.str "let", .str g, .str h], .tuple [.str "add", .str g, .str a], .tuple [.str "add", .str g, .str b], .tuple [.str "put", .str g, .str a, .int k, .str b], .tuple [.str "tie", .str g, .str a, .int k, .str b], .tuple [.str "hang", .str g, .str a, .int k, .str h], .tuple [.str "hang", .str g, .str b, .int k, .str h], .tuple [.str "get", .str a, .str g, .str b, .int k], .tuple [.str "sort", .str a, .str g, .str b, .int k], .tuple [.str "pick", .str g, .str h, .str a, .int k], .tuple [.str "pick", .str g, .str g, .str a, .int k], .tuple [.str "tell", .str a], .tuple [.str "show", .str g], .tuple [.str "show", .str h]] := hd
  simp only [List.mem_cons, List.not_mem_nil, or_false] at hd
  rcases hd with rfl | rfl | rfl | rfl | rfl | rfl | rfl | rfl | rfl | rfl | rfl | rfl | rfl | rfl | rfl
  · exact deed_mk (ks := [.graph]) (by decide +kernel) rfl (andT ng rfl) (unl_not (by decide +kernel))
  · exact deed_mk (ks := [.graph, .graph]) (by decide +kernel) rfl (andT ng (andT nh rfl)) (unl_ne hgh rfl rfl)
  · exact deed_mk (ks := [.graph, .name]) (by decide +kernel) rfl (andT ng (andT na rfl)) (unl_not (by decide +kernel))
  · exact deed_mk (ks := [.graph, .name]) (by decide +kernel) rfl (andT ng (andT nb rfl)) (unl_not (by decide +kernel))
  · exact deed_mk (ks := [.graph, .name, .place, .name]) (by decide +kernel) rfl (andT ng (andT na (andT wk (andT nb rfl)))) (unl_not (by decide +kernel))
  · exact deed_mk (ks := [.graph, .name, .place, .name]) (by decide +kernel) rfl (andT ng (andT na (andT wk (andT nb rfl)))) (unl_not (by decide +kernel))
  · exact deed_mk (ks := [.graph, .name, .place, .graph]) (by decide +kernel) rfl (andT ng (andT na (andT wk (andT nh rfl)))) (unl_ne hgh rfl rfl)
  · exact deed_mk (ks := [.graph, .name, .place, .graph]) (by decide +kernel) rfl (andT ng (andT nb (andT wk (andT nh rfl)))) (unl_ne hgh rfl rfl)
  · exact deed_mk (ks := [.name, .graph, .name, .place]) (by decide +kernel) rfl (andT na (andT ng (andT nb (andT wk rfl)))) (unl_not (by decide +kernel))
  · exact deed_mk (ks := [.name, .graph, .name, .place]) (by decide +kernel) rfl (andT na (andT ng (andT nb (andT wk rfl)))) (unl_not (by decide +kernel))
  · exact deed_mk (ks := [.graph, .graph, .name, .place]) (by decide +kernel) rfl (andT ng (andT nh (andT na (andT wk rfl)))) (unl_not (by decide +kernel))
  · exact deed_mk (ks := [.graph, .graph, .name, .place]) (by decide +kernel) rfl (andT ng (andT ng (andT na (andT wk rfl)))) (unl_not (by decide +kernel))
  · exact deed_mk (ks := [.name]) (by decide +kernel) rfl (andT na rfl) (unl_not (by decide +kernel))
  · exact deed_mk (ks := [.graph]) (by decide +kernel) rfl (andT ng rfl) (unl_not (by decide +kernel))
  · exact deed_mk (ks := [.graph]) (by decide +kernel) rfl (andT nh rfl) (unl_not (by decide +kernel))
theorem deed_tup {ss ts : List Int} {d : PyData} (h : deedD ss ts d = true) : tupOnly d = true := by
  unfold deedD at h
  split at h
  · rename_i z ds
    unfold deedB at h
    split at h
    · cases h
    · rename_i ks hk
      have hl := of_decide_eq_true (and3 h).1
      have hf := (and3 (and3 h).2).1
      show tupOnlyAll (.str z :: ds) = true
      show (true && tupOnlyAll ds) = true
      rw [Bool.true_and]
      clear h hk
      induction ks generalizing ds with
      | nil =>
        cases ds with
        | nil => rfl
        | cons d ds => cases hl
      | cons k ks ih =>
        cases ds with
        | nil => rfl
        | cons d ds =>
          have hf := and3 (show (fitD ss ts k d && fitsAll ss ts ks ds) = true from hf)
          have hd : tupOnly d = true := by
            cases k with
            | name => obtain ⟨x, rfl, _⟩ := num_str hf.1; rfl
            | graph => obtain ⟨x, rfl⟩ := graph_str hf.1; rfl
            | number => obtain ⟨x, rfl, _⟩ := within_int hf.1; rfl
            | place => obtain ⟨x, rfl, _⟩ := within_int hf.1; rfl
            | sign =>
              obtain ⟨y, _, hy⟩ := List.any_eq_true.mp (show signs.any (fun z => isStrD z d) = true from hf.1)
              cases d <;> first | rfl | cases hy
            | into => have := hf.1; cases d <;> first | rfl | cases this
            | out => have := hf.1; cases d <;> first | rfl | cases this
          show (tupOnly d && tupOnlyAll ds) = true
          rw [hd, ih ds (by simpa using hl) hf.2]
          rfl
  · cases h
section
variable {K : PySem.W.Frag}
theorem mkl_go {L : List (Nat × PyData)} {ta : TA} {ds : List PyData} {σ : L2.St} {H : Hp} {Q : VK} (h : MkA K L ta ds) (hl : ds.length ≤ 1000) (env : EnvD K L σ H) (q : ∀ vs H' p, Same H H' → DpAll K H' vs ds → H' p = none → Q (.ref p) (upd H' p (.lst vs))) : tLst ta σ H Q :=
  h σ H _ env fun vs H1 s1 d1 => ⟨small (by rw [dpAll_len d1]; exact hl), fun p hp => q vs H1 p s1 d1 hp⟩
theorem setl_go {L : List (Nat × PyData)} {ta : TA} {ds : List PyData} {i : Nat} {u : TS} {D : Ends} {σ : L2.St} {H : Hp} (h : MkA K L ta ds) (hl : ds.length ≤ 1000) (env : EnvD K L σ H) (q : ∀ vs H' p, Same H H' → DpAll K H' vs ds → H' p = none → u D (σ.set i (some (.ref p))) (upd H' p (.lst vs))) : tSeq (tAsg (tLst ta) (gName i)) u D σ H :=
  h σ H _ env fun vs H1 s1 d1 => ⟨small (by rw [dpAll_len d1]; exact hl), fun p hp => q vs H1 p s1 d1 hp⟩
theorem setc_go {L : List (Nat × PyData)} {ta : TA} {ds es : List PyData} {i : Nat} {u : TS} {D : Ends} {σ : L2.St} {H : Hp} {p : Addr} {vs : List V} (h : MkA K L ta ds) (hl : es.length + ds.length ≤ 1000) (env : EnvD K L σ H) (hi : σ[i]? = some (some (.ref p))) (hp : H p = some (.lst vs)) (hd : DpAll K H vs es)
    (q : ∀ ws H' p, Same H H' → H p = none → H' p = some (.lst ws) → DpAll K H' ws (es ++ ds) → u D (σ.set i (some (.ref p))) H') : tSeq (tAsg (tOp rCat (tVar i) (tLst ta)) (gName i)) u D σ H :=
  ⟨_, hi, h σ H _ env fun ws H1 s1 d1 => ⟨small (by rw [dpAll_len d1]; omega), fun p2 hp2 => ⟨p, p2, vs, ws, rfl, rfl, (s1.trans (same_new hp2 _)) _ _ hp, upd_same, small (by rw [dpAll_len hd, dpAll_len d1]; exact hl), fun p3 hp3 => by
    have g := same_new hp2 (.lst ws)
    have g3 := same_new hp3 (.lst (vs ++ ws))
    exact q _ _ p3 (s1.trans (g.trans g3)) (none_of_same (s1.trans g) hp3) upd_same (dps_same (g.trans g3) (dpAll_append d1 (dps_same s1 hd)))⟩⟩⟩
end
section
open PySem.Spec PyProof.Rows LamX
variable {P : Program} {w : World} {K : PySem.W.Frag} {mg : Str → Option Value} {base : Heap} {f : Addr} {fd : FuncData}
def spSimple (K : PySem.W.Frag) : Sp := fun vs H Q _ => ∃ (st sa ta : Addr) (ss ts : List Int), vs = [.ref st, .ref sa, .ref ta] ∧ StAt H st ∧ sa ≠ st ∧ ta ≠ st ∧ H sa = some (.lst (ss.map V.int)) ∧ H ta = some (.lst (ts.map V.int)) ∧ ss.length ≤ 100 ∧ ts.length ≤ 100 ∧ ∀ v d H', Mv st H H' → Dp K H' v d → deedD ss ts d = true → Q v H'
abbrev NSim : List Str := ["_law_state_here", "_law_sends", "_law_takes_here", "_law_names", "_law_graphs", "_law_a", "_law_b", "_law_c", "_law_turn", "_law_at", "_law_k", "_law_g", "_law_h", "_law_kind", "_law_rows"]
theorem scSim : FnScope NSim ["_law_state_here", "_law_sends", "_law_takes_here"] (defScope sSimple) := ⟨rfl, rfl, rfl, by decide +kernel, rfl, by decide +kernel, by decide +kernel⟩
abbrev envL (a b g h : Str) (k : Int) : List (Nat × PyData) := [(5, .str a), (6, .str b), (10, .int k), (11, .str g), (12, .str h)]
def tRows (K : PySem.W.Frag) (ss ts : List Int) : TS := fun D σ H => ∃ (st : Addr) (v1 v2 v3 v4 v7 v8 v9 v14 : Option V) (a b g h : Str) (k kd : Int), σ = [some (.ref st), v1, v2, v3, v4, some (.str a), some (.str b), v7, v8, v9, some (.int k), some (.str g), some (.str h), some (.int kd), v14] ∧ StAt H st ∧
  numNameD (.str a) = true ∧ numNameD (.str b) = true ∧ graphNameD (.str g) = true ∧ graphNameD (.str h) = true ∧ withinD 0 2 (.int k) = true ∧ g ≠ h ∧ ∀ v d H', Mv st H H' → Dp K H' v d → deedD ss ts d = true → D.rt v H'
set_option maxHeartbeats 2000000 in
theorem ok_simple {k : Nat} (F : Fun K "_law_simple" "_law_simple" sSimple f fd) (T : Free mg) (cC : Cal P w K mg base "_law_choice" k ["_law_state_here", "_law_many_here"] spChoice) : FnOk P w K mg base CX0 (k + 1) f fd ["_law_state_here", "_law_sends", "_law_takes_here"] (spSimple K) := by
  refine F.ok scSim (fun vs H Q E h => ?_) (fun cdv A outer s H vs Q E hr h => ?_)
  · obtain ⟨st, sa, ta, ss, ts, rfl, _⟩ := h
    rfl
  obtain ⟨st, sa, ta, ss, ts, rfl, hst, nsa, nta, hsa, hta, ls, lt, q⟩ := h
  refine ⟨_, pss_cons (ps_asg (pe_tup (pa_cons (pe_lst (pa_cons pe_str (pa_cons pe_str (pa_cons pe_str (pa_cons pe_str pa_nil))))) (pa_cons (pe_lst (pa_cons pe_str (pa_cons pe_str (pa_cons pe_str pa_nil)))) pa_nil))) (pg_tup rfl (pgs_cons (pg_name (i := 3) scSim.nd rfl (.inr rfl)) (pgs_cons (pg_name (i := 4) scSim.nd rfl (.inl rfl)) pgs_nil))))
    (pss_cons (ps_asg (pe_lc (own := [("_law_turn", 8)]) (g := gName 8) (tt := tYes) (te := tOp (rIxL K) (tVar 3) (tCall spChoice [] E0 (tCons (tVar 0) (tCons (tC (.int 4)) tNil)))) rfl scSim.nd (pi_range1 rfl T.range (pa_cons pe_int pa_nil))
        (blkOk_by (own := [("_law_turn", 8)]) (N := NSim) (sc := defScope sSimple) (by decide +kernel))
        (fun _ _ _ _ _ => pg_name (i := 8) scSim.nd rfl (Or.inl rfl)) (fun _ _ _ _ _ => pts_nil) (fun _ _ _ _ _ => pe_ix ix_list (pv 3) (pe_cal cC hr rfl (pa_cons (pv 0) (pa_cons pe_int pa_nil))) (fun _ _ => rfl))) (pg_unl rfl (pgs_cons (pg_name (i := 5) scSim.nd rfl (.inl rfl)) (pgs_cons (pg_name (i := 6) scSim.nd rfl (.inl rfl)) (pgs_cons (pg_name (i := 7) scSim.nd rfl (.inl rfl)) pgs_nil)))))
    (pss_cons (ps_par (i := 9) (j := 10) rfl scSim.nd rfl rfl (by decide) rfl rfl (pa_cons (pe_cal cC hr rfl (pa_cons (pv 0) (pa_cons pe_int pa_nil))) (pa_cons (pe_cal cC hr rfl (pa_cons (pv 0) (pa_cons pe_int pa_nil))) pa_nil)) rfl)
    (pss_cons (ps_par (i := 11) (j := 12) rfl scSim.nd rfl rfl (by decide) rfl rfl (pa_cons (pe_ix ix_list (pv 4) (pv 9) (fun _ _ => rfl)) (pa_cons (pe_ix ix_list (pv 4) (pe_op op_mod (pe_op op_add (pe_op op_add (pv 9) pe_int) (pe_cal cC hr rfl (pa_cons (pv 0) (pa_cons pe_int pa_nil)))) pe_int) (fun _ _ => rfl)) pa_nil)) rfl)
    (pss_cons (ps_set (i := 13) scSim.nd rfl (.inl rfl) (pe_cal cC hr rfl (pa_cons (pv 0) (pa_cons pe_int pa_nil))))
    (pss_cons (ps_if (pt_cmpR op_lt (pv 13) pe_int (nomark _)) (pss_one (ps_ret (pe_tup (pa_cons pe_str (pa_cons (pv 5) (pa_cons (pe_ix ix_list (pe_lst (pa_cons pe_int (pa_cons pe_int (pa_cons pe_int (pa_cons (pe_un un_neg pe_int) (pa_cons pe_int (pa_cons pe_int (pa_cons (pe_op op_sub (pe_cal cC hr rfl (pa_cons (pv 0) (pa_cons pe_int pa_nil))) pe_int) pa_nil)))))))) (pe_cal cC hr rfl (pa_cons (pv 0) (pa_cons pe_int pa_nil))) (fun _ _ => rfl)) pa_nil)))))) pss_nil)
    (pss_cons (ps_if (pt_cmpR op_eq (pv 13) pe_int (nomark _)) (pss_one (ps_ret (pe_tup (pa_cons pe_str (pa_cons (pv 5) (pa_cons (pv 6) (pa_cons (pe_ix ix_str pe_str (pe_cal cC hr rfl (pa_cons (pv 0) (pa_cons pe_int pa_nil))) (fun _ _ => rfl)) (pa_cons (pv 7) pa_nil)))))))) pss_nil)
    (pss_cons (ps_if (PW.pt (pw_and (pt_cmpR op_eq (pv 13) pe_int (nomark _)) (pw_and1 (pt_cmpR (op_neLE hr.units) (pv 1) (pe_lst pa_nil) (nomark _))))) (pss_one (ps_ret (pe_tup (pa_cons pe_str (pa_cons (pe_ix ix_list (pv 1) (pe_cal cC hr rfl (pa_cons (pv 0) (pa_cons (pe_callB call_len_seq rfl T.len PySem.boot_len (pa_cons (pv 1) pa_nil)) pa_nil))) (fun _ _ => rfl)) (pa_cons (pv 11) pa_nil)))))) pss_nil)
    (pss_cons (ps_if (PW.pt (pw_and (pt_cmpR op_eq (pv 13) pe_int (nomark _)) (pw_and1 (pt_cmpR (op_neLE hr.units) (pv 2) (pe_lst pa_nil) (nomark _))))) (pss_one (ps_ret (pe_tup (pa_cons pe_str (pa_cons (pv 11) (pa_cons (pe_ix ix_list (pv 2) (pe_cal cC hr rfl (pa_cons (pv 0) (pa_cons (pe_callB call_len_seq rfl T.len PySem.boot_len (pa_cons (pv 2) pa_nil)) pa_nil))) (fun _ _ => rfl)) pa_nil)))))) pss_nil)
    (pss_imp (t' := tRows K ss ts) (pss_cons (ps_set (i := 14) scSim.nd rfl (.inl rfl) (pe_lst (pa_cons (pe_tup (pa_cons pe_str (pa_cons (pv 11) pa_nil))) (pa_cons (pe_tup (pa_cons pe_str (pa_cons (pv 11) (pa_cons (pv 12) pa_nil)))) (pa_cons (pe_tup (pa_cons pe_str (pa_cons (pv 11) (pa_cons (pv 5) pa_nil)))) (pa_cons (pe_tup (pa_cons pe_str (pa_cons (pv 11) (pa_cons (pv 6) pa_nil)))) (pa_cons (pe_tup (pa_cons pe_str (pa_cons (pv 11) (pa_cons (pv 5) (pa_cons (pv 10) (pa_cons (pv 6) pa_nil)))))) (pa_cons (pe_tup (pa_cons pe_str (pa_cons (pv 11) (pa_cons (pv 5) (pa_cons (pv 10) (pa_cons (pv 6) pa_nil)))))) pa_nil))))))))
    (pss_cons (ps_set (i := 14) scSim.nd rfl (.inl rfl) (pe_op op_cat (pv 14) (pe_lst (pa_cons (pe_tup (pa_cons pe_str (pa_cons (pv 11) (pa_cons (pv 5) (pa_cons (pv 10) (pa_cons (pv 12) pa_nil)))))) (pa_cons (pe_tup (pa_cons pe_str (pa_cons (pv 11) (pa_cons (pv 6) (pa_cons (pv 10) (pa_cons (pv 12) pa_nil)))))) (pa_cons (pe_tup (pa_cons pe_str (pa_cons (pv 5) (pa_cons (pv 11) (pa_cons (pv 6) (pa_cons (pv 10) pa_nil)))))) (pa_cons (pe_tup (pa_cons pe_str (pa_cons (pv 5) (pa_cons (pv 11) (pa_cons (pv 6) (pa_cons (pv 10) pa_nil)))))) pa_nil)))))))
    (pss_cons (ps_set (i := 14) scSim.nd rfl (.inl rfl) (pe_op op_cat (pv 14) (pe_lst (pa_cons (pe_tup (pa_cons pe_str (pa_cons (pv 11) (pa_cons (pv 12) (pa_cons (pv 5) (pa_cons (pv 10) pa_nil)))))) (pa_cons (pe_tup (pa_cons pe_str (pa_cons (pv 11) (pa_cons (pv 11) (pa_cons (pv 5) (pa_cons (pv 10) pa_nil)))))) (pa_cons (pe_tup (pa_cons pe_str (pa_cons (pv 5) pa_nil))) (pa_cons (pe_tup (pa_cons pe_str (pa_cons (pv 11) pa_nil))) (pa_cons (pe_tup (pa_cons pe_str (pa_cons (pv 12) pa_nil))) pa_nil))))))))
    (pss_one (ps_ret (pe_ix ix_list (pv 14) (pe_op op_mod (pe_op op_sub (pv 13) pe_int) pe_int) (fun _ _ => rfl))))))) ?rows))))))))), ?_⟩
  case rows => 
    intro D σ G h
    obtain ⟨st, v1, v2, v3, v4, v7, v8, v9, v14, a, b, g, h, k, kd, rfl, sG, na, nb, ng, nh, wk, hgh, q⟩ := h
    have env : ∀ G' v, EnvD K (envL a b g h k) [some (.ref st), v1, v2, v3, v4, some (.str a), some (.str b), v7, v8, v9, some (.int k), some (.str g), some (.str h), some (.int kd), v] G' := fun G' v p hp => by
      simp only [envL, List.mem_cons, List.not_mem_nil, or_false] at hp
      rcases hp with rfl | rfl | rfl | rfl | rfl
      · exact ⟨_, rfl, .str _⟩
      · exact ⟨_, rfl, .str _⟩
      · exact ⟨_, rfl, .int _⟩
      · exact ⟨_, rfl, .str _⟩
      · exact ⟨_, rfl, .str _⟩
    refine setl_go (K := K) (L := [(5, .str a), (6, .str b), (10, .int k), (11, .str g), (12, .str h)]) (ds := rowsA a b g h k) (mka_cons (mk_tup (mka_cons mk_str (mka_cons (mk_var (by simp)) mka_nil)) (by simp)) (mka_cons (mk_tup (mka_cons mk_str (mka_cons (mk_var (by simp)) (mka_cons (mk_var (by simp)) mka_nil))) (by simp)) (mka_cons (mk_tup (mka_cons mk_str (mka_cons (mk_var (by simp)) (mka_cons (mk_var (by simp)) mka_nil))) (by simp)) (mka_cons (mk_tup (mka_cons mk_str (mka_cons (mk_var (by simp)) (mka_cons (mk_var (by simp)) mka_nil))) (by simp)) (mka_cons (mk_tup (mka_cons mk_str (mka_cons (mk_var (by simp)) (mka_cons (mk_var (by simp)) (mka_cons (mk_var (by simp)) (mka_cons (mk_var (by simp)) mka_nil))))) (by simp)) (mka_cons (mk_tup (mka_cons mk_str (mka_cons (mk_var (by simp)) (mka_cons (mk_var (by simp)) (mka_cons (mk_var (by simp)) (mka_cons (mk_var (by simp)) mka_nil))))) (by simp)) mka_nil)))))) (by show 6 ≤ 1000; decide) (env G v14) fun vs1 G1 p1 s1 d1 hp1 => ?_
    have s1' := s1.trans (same_new hp1 (.lst vs1))
    refine setc_go (K := K) (L := [(5, .str a), (6, .str b), (10, .int k), (11, .str g), (12, .str h)]) (ds := rowsB a b g h k) (es := rowsA a b g h k) (mka_cons (mk_tup (mka_cons mk_str (mka_cons (mk_var (by simp)) (mka_cons (mk_var (by simp)) (mka_cons (mk_var (by simp)) (mka_cons (mk_var (by simp)) mka_nil))))) (by simp)) (mka_cons (mk_tup (mka_cons mk_str (mka_cons (mk_var (by simp)) (mka_cons (mk_var (by simp)) (mka_cons (mk_var (by simp)) (mka_cons (mk_var (by simp)) mka_nil))))) (by simp)) (mka_cons (mk_tup (mka_cons mk_str (mka_cons (mk_var (by simp)) (mka_cons (mk_var (by simp)) (mka_cons (mk_var (by simp)) (mka_cons (mk_var (by simp)) mka_nil))))) (by simp)) (mka_cons (mk_tup (mka_cons mk_str (mka_cons (mk_var (by simp)) (mka_cons (mk_var (by simp)) (mka_cons (mk_var (by simp)) (mka_cons (mk_var (by simp)) mka_nil))))) (by simp)) mka_nil)))) (by show 6 + 4 ≤ 1000; decide) (env _ (some (.ref p1))) rfl upd_same (dps_same (same_new hp1 _) d1) fun vs2 G2 p2 s2 n2 hp2 d2 => ?_
    refine setc_go (K := K) (L := [(5, .str a), (6, .str b), (10, .int k), (11, .str g), (12, .str h)]) (ds := rowsC a b g h k) (es := rowsA a b g h k ++ rowsB a b g h k) (mka_cons (mk_tup (mka_cons mk_str (mka_cons (mk_var (by simp)) (mka_cons (mk_var (by simp)) (mka_cons (mk_var (by simp)) (mka_cons (mk_var (by simp)) mka_nil))))) (by simp)) (mka_cons (mk_tup (mka_cons mk_str (mka_cons (mk_var (by simp)) (mka_cons (mk_var (by simp)) (mka_cons (mk_var (by simp)) (mka_cons (mk_var (by simp)) mka_nil))))) (by simp)) (mka_cons (mk_tup (mka_cons mk_str (mka_cons (mk_var (by simp)) mka_nil)) (by simp)) (mka_cons (mk_tup (mka_cons mk_str (mka_cons (mk_var (by simp)) mka_nil)) (by simp)) (mka_cons (mk_tup (mka_cons mk_str (mka_cons (mk_var (by simp)) mka_nil)) (by simp)) mka_nil))))) (by show 10 + 5 ≤ 1000; decide) (env _ (some (.ref p2))) rfl hp2 d2 fun vs3 G3 p5 s3 n3 hp5 d5 => ?_
    have s5' := s1'.trans (s2.trans s3)
    have ok := rows_ok (ss := ss) (ts := ts) na nb ng nh wk hgh
    obtain ⟨v, d, hv, hd, hm⟩ := pick_dp (r := (kd - 4) % 15) d5 (by omega) (by show _ < ((15 : Nat) : Int); omega)
    exact ⟨_, rfl, _, rfl, _, _, rfl, rfl, _, _, rfl, rfl, (by show (0 : Int) < 15; decide), p5, _, _, v, rfl, rfl, .of hp5, hv, q v d _ ⟨Kp.of_same s5', sG.same s5'⟩ hd (ok d hm)⟩
  have fin : ∀ {G : Hp} {vs : List V} {ds : List PyData}, Mv st H G → DpAll K G vs ds → deedD ss ts (.tuple ds) = true → ∀ p, G p = none → Q (.ref p) (upd G p (.tup vs)) := fun mv dp dd p hp =>
    q _ (.tuple _) _ ⟨mv.kp.trans (Kp.of_same (same_new hp _)), mv.sa.same (same_new hp _)⟩ (.tup (.of upd_same) (dps_same (same_new hp _) dp)) dd
  have len4 : ∀ n : Nat, n ≤ 1000 → n ≤ sizeLine := fun n h => small h
  refine ⟨small (by show 4 ≤ 1000; decide), fun pn hpn => ⟨small (by show 3 ≤ 1000; decide), fun pg hpg => ⟨small (by show 2 ≤ 1000; decide), fun pt hpt => ?_⟩⟩⟩
  have s1 := same_new hpn (.lst (nameL.map V.str))
  have s2 := same_new hpg (.lst (graphL.map V.str))
  have s3 := same_new hpt (.tup [.ref pn, .ref pg])
  generalize hH3 : upd (upd (upd H pn (.lst (nameL.map V.str))) pg (.lst (graphL.map V.str))) pt (.tup [.ref pn, .ref pg]) = H3
  have s03 : Same H H3 := by rw [← hH3]; exact s1.trans (s2.trans s3)
  have hn3 : H3 pn = some (.lst (nameL.map V.str)) := by rw [← hH3]; exact s3 _ _ (s2 _ _ upd_same)
  have hg3 : H3 pg = some (.lst (graphL.map V.str)) := by rw [← hH3]; exact s3 _ _ upd_same
  have hp3 : H3 pt = some (.tup [.ref pn, .ref pg]) := by rw [← hH3]; exact upd_same
  have npn : pn ≠ st := hst.ne hpn
  have npg : pg ≠ st := (hst.same s1).ne hpg
  have st3 := hst.same s03
  have m03 : Mv st H H3 := ⟨Kp.of_same s03, st3⟩
  rw [show upd (upd (upd H pn (.lst [V.str "a", V.str "b", V.str "c", V.str "count"])) pg (.lst [V.str "G", V.str "H", V.str "Kit"])) pt (.tup [.ref pn, .ref pg]) = H3 from hH3]
  refine ⟨pt, _, rfl, .of hp3, rfl, _, _, rfl, _, _, rfl, rfl, ?_⟩
  refine ⟨3, rfl, by decide, by decide, fun D hD => ?_⟩
  have nD : D ≠ st := st3.ne hD
  refine lc_range (fun i G => Mv st H3 G ∧ ∃ zs : List Str, zs.length = i ∧ (∀ z ∈ zs, z ∈ nameL) ∧ G D = some (.lst (zs.map V.str))) ⟨⟨Kp.of_same (same_new hD _), st3.same (same_new hD _)⟩, [], rfl, fun z hz => (by cases hz), upd_same⟩ (fun i G hi h => ?_) (fun G h => ?_)
  · obtain ⟨mG, zs, lz, hz, gD⟩ := h
    have hi : i < 3 := hi
    refine ⟨rfl, yesG ⟨_, rfl, _, rfl, st, 4, rfl, mG.sa, by decide, by decide, fun r G1 r0 r1 m1 => ?_⟩⟩
    have hn1 := m1.kp _ _ npn (mG.kp _ _ npn hn3)
    have gD1 := m1.kp _ _ nD gD
    obtain ⟨z, hzr⟩ : ∃ z, nameL[r.toNat]? = some z := ⟨nameL[r.toNat]'(by show r.toNat < 4; omega), by simp⟩
    refine ⟨pn, nameL.map V.str, r, .str z, rfl, rfl, .of hn1, atI_at r0 (by rw [List.getElem?_map, hzr]; rfl), zs.map V.str, gD1, ?_, ⟨⟨fun b u hb hu => ?_, (mG.trans m1).sa.upd nD⟩, zs ++ [z], by rw [List.length_append, lz]; rfl, fun y hy => ?_, by rw [upd_same, List.map_append]; rfl⟩⟩
    · rw [List.length_map, lz]
      exact Nat.lt_of_lt_of_le (show _ < 1000 by omega) (show 1000 ≤ sizeLine by decide)
    · by_cases e : b = D
      · rw [e, hD] at hu
        cases hu
      · rw [upd_ne e]
        exact (mG.trans m1).kp b u hb hu
    · rcases List.mem_append.mp hy with hy | hy
      · exact hz y hy
      · rw [List.mem_singleton.mp hy]
        exact List.mem_of_getElem? hzr
  · obtain ⟨mG, zs, lz, hz, gD⟩ := h
    have lz : zs.length = 3 := lz
    match zs, lz, hz, gD with
    | [a, b, c], _, hz, gD =>
      have na : numNameD (.str a) = true := List.all_eq_true.mp nameL_ok a (hz a (by simp))
      have nb : numNameD (.str b) = true := List.all_eq_true.mp nameL_ok b (hz b (by simp))
      have nc : numNameD (.str c) = true := List.all_eq_true.mp nameL_ok c (hz c (by simp))
      refine ⟨D, _, rfl, .of gD, rfl, _, _, rfl, _, _, rfl, _, _, rfl, rfl, ?_⟩
      have m0G := m03.trans mG
      refine ⟨_, rfl, st, 3, rfl, m0G.sa, by decide, by decide, fun at1 G1 a0 a1 m1 => ?_⟩
      refine ⟨_, rfl, st, 3, rfl, m1.sa, by decide, by decide, fun k G2 k0 k1 m2 => ⟨_, _, rfl, ?_⟩⟩
      have m02 := m0G.trans (m1.trans m2)
      have hg2 := m2.kp _ _ npg (m1.kp _ _ npg (mG.kp _ _ npg hg3))
      obtain ⟨g, hgr⟩ : ∃ z, graphL[at1.toNat]? = some z := ⟨graphL[at1.toNat]'(by show at1.toNat < 3; omega), by simp⟩
      refine ⟨_, rfl, _, rfl, pg, graphL.map V.str, at1, .str g, rfl, rfl, .of hg2, atI_at a0 (by rw [List.getElem?_map, hgr]; rfl), _, rfl, _, rfl, _, _, rfl, rfl, _, rfl, st, 2, rfl, m2.sa, by decide, by decide, fun r3 G3 r30 r31 m3 => ?_⟩
      have m03' := m02.trans m3
      have hg3' := m3.kp _ _ npg hg2
      obtain ⟨h, hhr⟩ : ∃ z, graphL[((at1 + 1 + r3) % 3).toNat]? = some z := ⟨graphL[((at1 + 1 + r3) % 3).toNat]'(by show _ < 3; omega), by simp⟩
      refine ⟨_, _, rfl, rfl, _, _, rfl, rfl, (by show (0 : Int) < 3; decide), pg, graphL.map V.str, (at1 + 1 + r3) % 3, .str h, rfl, rfl, .of hg3', atI_at (by omega) (by rw [List.getElem?_map, hhr]; rfl), _, _, rfl, ?_⟩
      have ng : graphNameD (.str g) = true := List.all_eq_true.mp graphL_ok g (List.mem_of_getElem? hgr)
      have nh : graphNameD (.str h) = true := List.all_eq_true.mp graphL_ok h (List.mem_of_getElem? hhr)
      have wk : withinD 0 2 (.int k) = true := by
        show (decide ((0 : Int) ≤ k) && decide (k ≤ 2)) = true
        rw [decide_eq_true k0, decide_eq_true (by omega)]
        rfl
      have hgh : g ≠ h := fun e => by
        have hne : at1.toNat ≠ ((at1 + 1 + r3) % 3).toNat := by omega
        have nd : ∀ i j : Fin 3, i ≠ j → graphL[i.val]? ≠ graphL[j.val]? := by decide +kernel
        exact nd ⟨at1.toNat, by omega⟩ ⟨((at1 + 1 + r3) % 3).toNat, by omega⟩ (fun z => hne (congrArg Fin.val z)) (hgr.trans (by rw [← e] at hhr; exact hhr.symm))
      refine ⟨_, rfl, st, 19, rfl, m03'.sa, by decide, by decide, fun kd G4 kd0 kd1 m4 => ?_⟩
      have m04 := m03'.trans m4
      refine ⟨_, rfl, _, _, rfl, rfl, _, rfl, ?_⟩
      by_cases c3 : kd < 3
      · refine ifT (decide_eq_true c3) ?_
        refine ⟨_, rfl, _, rfl, _, rfl, st, 19999, rfl, m04.sa, by decide, by decide, fun r5 G5 r50 r51 m5 => ⟨_, _, rfl, rfl, small (by show 7 ≤ 1000; decide), fun pl hpl => ?_⟩⟩
        have m05 := m04.trans m5
        have s6 := same_new hpl (.lst ([0, 1, 2, -1, 3, 9999, r5 - 9999].map V.int))
        have npl : pl ≠ st := m05.sa.ne hpl
        refine ⟨_, rfl, st, 7, rfl, m05.sa.same s6, by decide, by decide, fun r6 G6 r60 r61 m6 => ?_⟩
        have m06 : Mv st H G6 := m05.trans (Mv.trans ⟨Kp.of_same s6, m05.sa.same s6⟩ m6)
        have hl6 := m6.kp _ _ npl (show upd G5 pl (.lst ([0, 1, 2, -1, 3, 9999, r5 - 9999].map V.int)) pl = _ from upd_same)
        obtain ⟨i, hir⟩ : ∃ z, ([0, 1, 2, -1, 3, 9999, r5 - 9999] : List Int)[r6.toNat]? = some z := ⟨([0, 1, 2, -1, 3, 9999, r5 - 9999] : List Int)[r6.toNat]'(by show r6.toNat < 7; omega), by simp⟩
        have hib : -9999 ≤ i ∧ i ≤ 9999 := by
          have hm := List.mem_of_getElem? hir
          simp only [List.mem_cons, List.not_mem_nil, or_false] at hm
          omega
        refine ⟨pl, _, r6, .int i, rfl, rfl, .of hl6, atI_at r60 (by rw [List.getElem?_map, hir]; rfl), small (by show 3 ≤ 1000; decide), fin m06 (.cons (.str _) (.cons (.str a) (.cons (.int i) .nil))) (deed_mk (ks := [.name, .number]) (by decide +kernel) rfl (andT na (andT ?_ rfl)) (unl_not (by decide +kernel)))⟩
        show (decide ((-9999 : Int) ≤ i) && decide (i ≤ 9999)) = true
        rw [decide_eq_true hib.1, decide_eq_true hib.2]
        rfl
      · refine ifF (decide_eq_false c3) ⟨_, rfl, rfl, _, rfl, ?_⟩
        by_cases c4 : kd = 3
        · refine ifT (by rw [c4]; exact decide_eq_true rfl) ?_
          refine ⟨_, rfl, _, rfl, _, rfl, st, 5, rfl, m04.sa, by decide, by decide, fun r5 G5 r50 r51 m5 => ?_⟩
          have m05 := m04.trans m5
          obtain ⟨ch, hch⟩ : ∃ z, ("+-*<=" : Str).cps.toList[r5.toNat]? = some z := by
            have h5 : ("+-*<=" : Str).cps.toList.length = 5 := by decide +kernel
            exact ⟨("+-*<=" : Str).cps.toList[r5.toNat]'(by omega), by simp⟩
          have hsg : ∀ i : Fin 5, ∃ c, ("+-*<=" : Str).cps.toList[i.val]? = some c ∧ (signs.any fun z => isStrD z (.str ⟨#[c]⟩)) = true := by
            have q0 : ∀ i : Fin 5, (match ("+-*<=" : Str).cps.toList[i.val]? with | some c => signs.any fun z => isStrD z (.str ⟨#[c]⟩) | none => false) = true := by decide +kernel
            intro i
            have q1 := q0 i
            cases z : ("+-*<=" : Str).cps.toList[i.val]? with
            | none => rw [z] at q1; cases q1
            | some c => rw [z] at q1; exact ⟨c, rfl, q1⟩
          obtain ⟨c', hc', hs'⟩ := hsg ⟨r5.toNat, by omega⟩
          have hc' : ("+-*<=" : Str).cps.toList[r5.toNat]? = some c' := hc'
          rw [hch] at hc'
          cases hc'
          refine ⟨"+-*<=", r5, ch, rfl, rfl, by decide +kernel, atI_at r50 hch, _, rfl, small (by show 5 ≤ 1000; decide), fin m05 (.cons (.str _) (.cons (.str a) (.cons (.str b) (.cons (.str _) (.cons (.str c) .nil))))) (deed_mk (ks := [.name, .name, .sign, .name]) (by decide +kernel) rfl (andT na (andT nb (andT hs' (andT nc rfl)))) (unl_not (by decide +kernel)))⟩
        · refine ifF (decide_eq_false (fun z => c4 (by injection z))) ?_
          have sa4 := m04.kp _ _ nsa hsa
          have ta4 := m04.kp _ _ nta hta
          have out : ∀ G, Same G4 G → ∀ D', D'.rt = Q → tRows K ss ts D' [some (.ref st), some (.ref sa), some (.ref ta), some (.ref pn), some (.ref pg), some (.str a), some (.str b), some (.str c), none, some (.int at1), some (.int k), some (.str g), some (.str h), some (.int kd), none] G := fun G sG D' hD' =>
            ⟨st, _, _, _, _, _, _, _, _, a, b, g, h, k, kd, rfl, m04.sa.same sG, na, nb, ng, nh, wk, hgh, fun v d H' mv dp dd => by rw [hD']; exact q v d H' (m04.trans (Mv.trans ⟨Kp.of_same sG, m04.sa.same sG⟩ mv)) dp dd⟩
          refine ⟨_, rfl, rfl, _, rfl, ?_⟩
          by_cases c16 : kd = 16
          · refine ifT (by rw [c16]; exact decide_eq_true rfl) ⟨_, rfl, small (Nat.zero_le _), fun p hp => ⟨sa, p, ss.map V.int, rfl, rfl, .of (by rw [upd_ne (ne_of_none sa4 hp)]; exact sa4), .of upd_same, _, rfl, ?_⟩⟩
            have sp := same_new hp (.lst [])
            cases hss : (ss.map V.int).isEmpty with
            | false =>
              refine ifT rfl ?_
              have l0 : 0 < ss.length := by
                cases ss with
                | nil => cases hss
                | cons x y => simp
              refine ⟨_, rfl, _, rfl, _, rfl, sa, ss.map V.int, rfl, .inl (.of (sp _ _ sa4)), st, ss.length, by rw [List.length_map]; rfl, m04.sa.same sp, by omega, by omega, fun r5 G5 r50 r51 m5 => ?_⟩
              have m05 := m04.trans (Mv.trans ⟨Kp.of_same sp, m04.sa.same sp⟩ m5)
              have sa5 := m5.kp _ _ nsa (sp _ _ sa4)
              obtain ⟨i, hir⟩ : ∃ z, ss[r5.toNat]? = some z := ⟨ss[r5.toNat]'(by omega), by simp⟩
              exact ⟨sa, _, r5, .int i, rfl, rfl, .of sa5, atI_at r50 (by rw [List.getElem?_map, hir]; rfl), _, rfl, small (by show 3 ≤ 1000; decide), fin m05 (.cons (.str _) (.cons (.int i) (.cons (.str g) .nil))) (deed_mk (ks := [.into, .graph]) (by decide +kernel) rfl (andT (decide_eq_true (List.mem_of_getElem? hir)) (andT ng rfl)) (unl_not (by decide +kernel)))⟩
            | true =>
              refine ifF rfl ?_
              refine ⟨_, rfl, rfl, _, rfl, ifF (by rw [c16]; decide +kernel) (ifF rfl (out _ sp _ rfl))⟩
          · refine ifF (decide_eq_false (fun z => c16 (by injection z))) (ifF rfl ?_)
            refine ⟨_, rfl, rfl, _, rfl, ?_⟩
            by_cases c17 : kd = 17
            · refine ifT (by rw [c17]; exact decide_eq_true rfl) ⟨_, rfl, small (Nat.zero_le _), fun p hp => ⟨ta, p, ts.map V.int, rfl, rfl, .of (by rw [upd_ne (ne_of_none ta4 hp)]; exact ta4), .of upd_same, _, rfl, ?_⟩⟩
              have sp := same_new hp (.lst [])
              cases hss : (ts.map V.int).isEmpty with
              | false =>
                refine ifT rfl ?_
                have l0 : 0 < ts.length := by
                  cases ts with
                  | nil => cases hss
                  | cons x y => simp
                refine ⟨_, rfl, _, rfl, _, rfl, _, rfl, ta, ts.map V.int, rfl, .inl (.of (sp _ _ ta4)), st, ts.length, by rw [List.length_map]; rfl, m04.sa.same sp, by omega, by omega, fun r5 G5 r50 r51 m5 => ?_⟩
                have m05 := m04.trans (Mv.trans ⟨Kp.of_same sp, m04.sa.same sp⟩ m5)
                have ta5 := m5.kp _ _ nta (sp _ _ ta4)
                obtain ⟨i, hir⟩ : ∃ z, ts[r5.toNat]? = some z := ⟨ts[r5.toNat]'(by omega), by simp⟩
                exact ⟨ta, _, r5, .int i, rfl, rfl, .of ta5, atI_at r50 (by rw [List.getElem?_map, hir]; rfl), small (by show 3 ≤ 1000; decide), fin m05 (.cons (.str _) (.cons (.str g) (.cons (.int i) .nil))) (deed_mk (ks := [.graph, .out]) (by decide +kernel) rfl (andT ng (andT (decide_eq_true (List.mem_of_getElem? hir)) rfl)) (unl_not (by decide +kernel)))⟩
              | true => exact ifF rfl (out _ sp _ rfl)
            · exact ifF (decide_eq_false (fun z => c17 (by injection z))) (ifF rfl (out _ (Same.refl _) _ rfl))
end
theorem row_split {K : PySem.W.Frag} {H : Hp} {v : V} {d : PyData} {ns : List Int} (h : Dp K H v (.tuple [d, .tuple (ns.map .int)])) : ∃ ra y1 y2, v = .ref ra ∧ SqT K H ra [y1, y2] ∧ Dp K H y1 d ∧ Dp K H y2 (.tuple (ns.map .int)) := by
  cases h with
  | @tup ra ys _ rat reach =>
    cases reach with
    | @cons y1 _ _ _ h1 h2 =>
      cases h2 with
      | @cons y2 _ _ _ h3 h4 =>
        cases h4
        exact ⟨ra, y1, y2, rfl, rat, h1, h3⟩
def rEqSh (K : PySem.W.Frag) : R2 := fun x y Hh Q => ∃ d e, Dp K Hh x d ∧ Dp K Hh y e ∧ SeqAt.shaped d = true ∧ SeqAt.shaped e = true ∧ Q (.bl (PyData.eqv d e)) Hh
theorem op_eqSh {X : Cx} (hu : X.A.units + 64 < cLine) : OpR X (compareOp .Eq) (rEqSh X.K) := by
  intro pins s σ Hh x y v u Q I rx ry h
  obtain ⟨d, e, hd, he, sd, se, q⟩ := h
  obtain ⟨as, r1, _⟩ := Dp.rd I d x v hd rx
  obtain ⟨bs, r2, _⟩ := Dp.rd I e y u he ry
  exact SeqAt.compareEq_shaped r1 r2 sd se hu ⟨.bl _, Hh, I, rfl, q⟩
theorem bulk_each {k : Nat} : ∀ {ds : List PyData}, (∀ d ∈ ds, d.bulk ≤ k) → PyData.bulkAll ds ≤ (k + 1) * ds.length
  | [], _ => by simp [PyData.bulkAll]
  | d :: ds, h => by
    have h1 := h d List.mem_cons_self
    have h2 := bulk_each (ds := ds) fun z hz => h z (List.mem_cons_of_mem _ hz)
    simp only [PyData.bulkAll, List.length_cons]
    rw [Nat.mul_add, Nat.mul_one]
    omega
theorem tup_all {ds : List PyData} (h : ∀ d ∈ ds, tupOnly d = true) : tupOnlyAll ds = true := by
  induction ds with
  | nil => rfl
  | cons d ds ih =>
    show (tupOnly d && tupOnlyAll ds) = true
    rw [h d List.mem_cons_self, ih fun z hz => h z (List.mem_cons_of_mem _ hz)]
    rfl
theorem lblk_tup {ss ts : List Int} : ∀ (n : Nat) {d : PyData}, lblk ss ts n d = true → tupOnly d = true
  | 0, d, h => by cases d <;> cases h
  | n + 1, d, h => by
    cases d with
    | tuple ds =>
      have h := and3 (show (decide (ds.length ≤ 12) && ds.all (lstB ss ts (lblk ss ts n))) = true from h)
      show tupOnlyAll ds = true
      refine tup_all fun d hd => ?_
      have hd := List.all_eq_true.mp h.2 d hd
      unfold lstB at hd
      cases hdd : deedD ss ts d with
      | true => exact deed_tup hdd
      | false =>
        rw [hdd, Bool.false_or] at hd
        have hd := and3 hd
        obtain ⟨z, d1, args, m, rfl, hz, hlen, hn⟩ := branch_shape hd.1
        obtain ⟨x, rfl, _⟩ := num_str hn
        show (true && (true && tupOnlyAll args)) = true
        rw [Bool.true_and, Bool.true_and]
        exact tup_all fun e he => lblk_tup n (List.all_eq_true.mp hd.2 e he)
    | _ => cases h
theorem lst_tup {ss ts : List Int} {n : Nat} {d : PyData} (h : lstB ss ts (lblk ss ts n) d = true) : tupOnly d = true := by
  have h1 : lblk ss ts (n + 1) (.tuple [d]) = true := by
    show (decide (1 ≤ 12) && (lstB ss ts (lblk ss ts n) d && true)) = true
    rw [h]
    rfl
  have h2 : (tupOnly d && true) = true := lblk_tup (n + 1) h1
  exact (and3 h2).1
theorem test_ne {z : Str} {es : List PyData} (h : z ≠ "test") : testD (.tuple (.str z :: es)) = false := by
  unfold testD
  split
  · rename_i z' e he
    injection he with he
    injection he with h1 h2
    injection h1 with h1
    subst h1
    rw [decide_eq_false h]
    rfl
  · rfl
theorem deed_ne {ss ts : List Int} {z : Str} {ds : List PyData} (h : deedD ss ts (.tuple (.str z :: ds)) = true) : z ≠ "test" := fun e => by
  subst e
  have h : deedB ss ts "test" ds = true := h
  unfold deedB at h
  rw [show deedK "test" = none by decide +kernel] at h
  cases h
theorem deed_form {ss ts : List Int} {d : PyData} (h : deedD ss ts d = true) : ∃ z ds, d = .tuple (.str z :: ds) := by
  unfold deedD at h
  split at h
  · exact ⟨_, _, rfl⟩
  · cases h
theorem hand_test {z : Str} (h : z ∈ handL) : z ≠ "test" := fun e => by
  rw [e] at h
  exact absurd h (by decide +kernel)
theorem flat_way {ss ts : List Int} {z y : Str} {ds : List PyData} (hz : z ∈ handL) (hy : y ∈ wayL) (h : deedD ss ts (.tuple (.str z :: ds)) = true) : flatD ss ts (.tuple (.str z :: (ds ++ [.str y]))) = true := by
  show (if z ∈ handL then _ else _) = true
  rw [if_pos hz]
  have e : (PyData.str z :: (ds ++ [.str y])) = (.str z :: ds) ++ [.str y] := rfl
  rw [e, List.dropLast_concat, h, Bool.and_true, List.getLastD_eq_getLast?, List.getLast?_concat]
  exact List.any_eq_true.mpr ⟨y, hy, decide_eq_true rfl⟩
theorem flat_bare {ss ts : List Int} {z : Str} {ds : List PyData} (hz : z ∉ handL) (h : deedD ss ts (.tuple (.str z :: ds)) = true) : flatD ss ts (.tuple (.str z :: ds)) = true := by
  show (if z ∈ handL then _ else _) = true
  rw [if_neg hz]
  exact h
theorem test_is {d : PyData} (h : testD d = true) : ∃ e, d = .tuple [.str "test", e] ∧ numNameD e = true := by
  unfold testD at h
  split at h
  · rename_i z e
    have h := and3 h
    have ez : z = "test" := of_decide_eq_true h.1
    exact ⟨e, by rw [ez], h.2⟩
  · cases h
theorem isStr_of {y : Str} {d : PyData} (h : isStrD y d = true) : d = .str y := by
  cases d with
  | str x =>
    have e : x = y := of_decide_eq_true h
    rw [e]
  | _ => cases h
theorem flat_split {ss ts : List Int} {d : PyData} (h : flatD ss ts d = true) : ∃ z ds y, d = .tuple (.str z :: ds ++ y) ∧ deedD ss ts (.tuple (.str z :: ds)) = true ∧ ((z ∉ handL ∧ y = []) ∨ (z ∈ handL ∧ ∃ x, x ∈ wayL ∧ y = [.str x])) := by
  unfold flatD at h
  split at h
  · rename_i z ds
    by_cases c : z ∈ handL
    · rw [if_pos c] at h
      have h := and3 h
      obtain ⟨ys, y, e1, e2, e3⟩ := last_snoc (PyData.str z) ds .none
      rw [e2] at h
      rw [e3] at h
      obtain ⟨x, hx, hd⟩ := List.any_eq_true.mp h.1
      cases ys with
      | nil => exact absurd (show false = true from h.2) (by decide)
      | cons y0 ys =>
        rw [List.cons_append] at e1
        injection e1 with e4 e5
        subst e4
        exact ⟨z, ys, [y], by rw [e5]; rfl, h.2, .inr ⟨c, x, hx, by rw [isStr_of hd]⟩⟩
    · rw [if_neg c] at h
      exact ⟨z, ds, [], by rw [List.append_nil], h, .inl ⟨c, rfl⟩⟩
  · cases h
theorem tupOnly_app : ∀ {ds es : List PyData}, tupOnlyAll ds = true → tupOnlyAll es = true → tupOnlyAll (ds ++ es) = true
  | [], es, _, h => h
  | x :: r, es, t, h => by
    simp only [tupOnlyAll, Bool.and_eq_true, List.cons_append] at *
    exact ⟨t.1, tupOnly_app t.2 h⟩
theorem ints_tupOnly : ∀ ns : List Int, tupOnlyAll (ns.map .int) = true
  | [] => rfl
  | n :: ns => by
    show (true && tupOnlyAll (ns.map .int)) = true
    rw [ints_tupOnly ns]
    rfl
theorem way_asc {x : Str} (h : x ∈ wayL) : (∀ z ∈ x.cps.toList, z < 128) ∧ x.cps.size ≤ 4 := by
  have q : wayL.all (fun x => x.cps.toList.all (fun c => decide (c < 128)) && decide (x.cps.size ≤ 4)) = true := by decide +kernel
  have q := and3 (List.all_eq_true.mp q x h)
  exact ⟨fun z hz => of_decide_eq_true (List.all_eq_true.mp q.1 z hz), of_decide_eq_true q.2⟩
theorem ints_bd {ns : List Int} {c : Nat} (h : ∀ n ∈ ns, n.natAbs < c) (hl : ns.length ≤ 40) : Bd c 40 (.tuple (ns.map .int)) ∧ PyData.bulkAll (ns.map .int) ≤ 2 * ns.length ∧ PyData.depthAll (ns.map .int) = 0 := by
  refine ⟨.tup (by rw [List.length_map]; exact hl) fun z hz => ?_, ?_, ?_⟩
  · obtain ⟨n, hn, rfl⟩ := List.mem_map.mp hz
    exact .int (h n hn)
  · clear h hl
    induction ns with
    | nil => simp [PyData.bulkAll]
    | cons n r ih =>
      simp only [List.map_cons, PyData.bulkAll, PyData.bulk, List.length_cons]
      omega
  · clear h hl
    induction ns with
    | nil => simp [PyData.depthAll]
    | cons n r ih =>
      simp only [List.map_cons, PyData.depthAll, PyData.depth, ih]
      rfl
def cpD : PyData → PyData
  | .tuple (.str z :: ds) => if z ∈ handL then .tuple (.str z :: (ds ++ [.str "copy"])) else .tuple (.str z :: ds)
  | d => d
def tstD (nm : PyData) : PyData := .tuple [.str "test", nm]
def ifR (fb : PyData → Int → Int → List (PyData × List Int)) (nm x y : PyData) (n b : Int) : List (PyData × List Int) :=
  (tstD nm, [if (fb x (n + 1) b).isEmpty then b else n + 1, if (fb y (n + 1 + ((fb x (n + 1) b).length : Nat)) b).isEmpty then b else n + 1 + ((fb x (n + 1) b).length : Nat)]) :: (fb x (n + 1) b ++ fb y (n + 1 + ((fb x (n + 1) b).length : Nat)) b)
def whR (fb : PyData → Int → Int → List (PyData × List Int)) (nm x : PyData) (n b : Int) : List (PyData × List Int) :=
  (tstD nm, [if (fb x (n + 1) n).isEmpty then n else n + 1, b]) :: fb x (n + 1) n
def flS (fb : PyData → Int → Int → List (PyData × List Int)) (d : PyData) (n b : Int) : List (PyData × List Int) := match d with
  | .tuple [.str z, nm, x, y] => if z = "if" then ifR fb nm x y n b else [(cpD d, [b])]
  | .tuple [.str z, nm, x] => if z = "while" then whR fb nm x n b else [(cpD d, [b])]
  | _ => [(cpD d, [b])]
/-- of the first j statements -/
def flP (fs : PyData → Int → Int → List (PyData × List Int)) (sz : PyData → Nat) (ds : List PyData) (n b : Int) (j : Nat) : List (PyData × List Int) :=
  (List.range j).flatMap fun i => fs (ds.getD i .none) (n + (sumM sz (ds.take i) : Nat)) (if i + 1 < ds.length then n + (sumM sz (ds.take (i + 1)) : Nat) else b)
def flN : Nat → PyData → Int → Int → List (PyData × List Int)
  | k + 1, .tuple ds, n, b => flP (flS (flN k)) (manyS (manyN k)) ds n b ds.length
  | _, _, _, _ => []
theorem flP_succ {fs : PyData → Int → Int → List (PyData × List Int)} {sz : PyData → Nat} {ds : List PyData} {n b : Int} {j : Nat} {d : PyData} (h : ds[j]? = some d) : flP fs sz ds n b (j + 1) = flP fs sz ds n b j ++ fs d (n + (sumM sz (ds.take j) : Nat)) (if j + 1 < ds.length then n + (sumM sz (ds.take (j + 1)) : Nat) else b) := by
  unfold flP
  rw [List.range_succ, List.flatMap_append]
  congr 1
  rw [List.flatMap_cons, List.flatMap_nil, List.append_nil, List.getD_eq_getElem?_getD, h]
  rfl
theorem br_cases {z : Str} {m : Nat} (h : brK z = some m) : (z = "if" ∧ m = 2) ∨ (z = "while" ∧ m = 1) := by
  unfold brK at h
  split at h
  · rename_i e
    cases h
    exact .inl ⟨e, rfl⟩
  · split at h
    · rename_i e
      cases h
      exact .inr ⟨e, rfl⟩
    · cases h
/-- what a statement is -/
theorem st_cases {ss ts : List Int} {bl : PyData → Bool} {d : PyData} (h : lstB ss ts bl d = true) :
    (deedD ss ts d = true ∧ branchD d = false ∧ ∃ z ds, d = .tuple (.str z :: ds) ∧ z ∉ brL) ∨
    (∃ nm x y, d = .tuple [.str "if", nm, x, y] ∧ numNameD nm = true ∧ bl x = true ∧ bl y = true ∧ branchD d = true) ∨
    (∃ nm x, d = .tuple [.str "while", nm, x] ∧ numNameD nm = true ∧ bl x = true ∧ branchD d = true) := by
  unfold lstB at h
  cases hd : deedD ss ts d with
  | true =>
    refine .inl ⟨rfl, deed_no_branch hd, ?_⟩
    obtain ⟨z, ds, rfl, hz⟩ := st_word (ss := ss) (ts := ts) (d := d) (by unfold stD; rw [hd]; rfl)
    rw [deed_no_branch hd] at hz
    exact ⟨z, ds, rfl, of_decide_eq_false hz⟩
  | false =>
    rw [hd, Bool.false_or] at h
    have h := and3 h
    obtain ⟨z, d1, ds, m, rfl, hz, hl, hn⟩ := branch_shape h.1
    have ha : ds.all bl = true := h.2
    rcases br_cases hz with ⟨rfl, rfl⟩ | ⟨rfl, rfl⟩
    · match ds, hl with
      | [x, y], _ =>
        rw [List.all_cons, List.all_cons, List.all_nil, Bool.and_true] at ha
        exact .inr (.inl ⟨d1, x, y, rfl, hn, (and3 ha).1, (and3 ha).2, h.1⟩)
    · match ds, hl with
      | [x], _ =>
        rw [List.all_cons, List.all_nil, Bool.and_true] at ha
        exact .inr (.inr ⟨d1, x, rfl, hn, ha, h.1⟩)
theorem flS_deed {fb : PyData → Int → Int → List (PyData × List Int)} {z : Str} {ds : List PyData} {n b : Int} (h : z ∉ brL) : flS fb (.tuple (.str z :: ds)) n b = [(cpD (.tuple (.str z :: ds)), [b])] := by
  have h1 : z ≠ "if" := fun e => h (by rw [e]; decide +kernel)
  have h2 : z ≠ "while" := fun e => h (by rw [e]; decide +kernel)
  match ds with
  | [] => rfl
  | [_] => rfl
  | [_, _] => exact if_neg h2
  | [_, _, _] => exact if_neg h1
  | _ :: _ :: _ :: _ :: _ => rfl
theorem flS_if {fb : PyData → Int → Int → List (PyData × List Int)} {nm x y : PyData} {n b : Int} : flS fb (.tuple [.str "if", nm, x, y]) n b = ifR fb nm x y n b := by
  show (if ("if" : Str) = "if" then ifR fb nm x y n b else [(cpD (.tuple [.str "if", nm, x, y]), [b])]) = ifR fb nm x y n b
  exact if_pos rfl
theorem flS_wh {fb : PyData → Int → Int → List (PyData × List Int)} {nm x : PyData} {n b : Int} : flS fb (.tuple [.str "while", nm, x]) n b = whR fb nm x n b := by
  show (if ("while" : Str) = "while" then whR fb nm x n b else [(cpD (.tuple [.str "while", nm, x]), [b])]) = whR fb nm x n b
  exact if_pos rfl
theorem manyS_deed {mb : PyData → Nat} {d : PyData} (h : branchD d = false) : manyS mb d = 1 := by
  unfold manyS
  rw [h]
  rfl
theorem manyS_if {mb : PyData → Nat} {nm x y : PyData} (h : branchD (.tuple [.str "if", nm, x, y]) = true) : manyS mb (.tuple [.str "if", nm, x, y]) = 1 + mb x + mb y := by
  unfold manyS
  rw [if_pos h]
  show 1 + (mb x + (mb y + 0)) = _
  omega
theorem manyS_wh {mb : PyData → Nat} {nm x : PyData} (h : branchD (.tuple [.str "while", nm, x]) = true) : manyS mb (.tuple [.str "while", nm, x]) = 1 + mb x := by
  unfold manyS
  rw [if_pos h]
  rfl
section
variable {ss ts : List Int} {fb : PyData → Int → Int → List (PyData × List Int)} {bl : PyData → Bool} {mb : PyData → Nat}
theorem flS_len (hf : ∀ x n b, bl x = true → (fb x n b).length = mb x) {d : PyData} {n b : Int} (h : lstB ss ts bl d = true) : (flS fb d n b).length = manyS mb d := by
  rcases st_cases h with ⟨_, nb, z, ds, rfl, hz⟩ | ⟨nm, x, y, rfl, _, hx, hy, hb⟩ | ⟨nm, x, rfl, _, hx, hb⟩
  · rw [flS_deed hz, manyS_deed nb]
    rfl
  · rw [flS_if, manyS_if hb]
    unfold ifR
    rw [List.length_cons, List.length_append, hf x _ _ hx, hf y _ _ hy]
    omega
  · rw [flS_wh, manyS_wh hb]
    unfold whR
    rw [List.length_cons, hf x _ _ hx]
    omega
theorem flP_len {fs : PyData → Int → Int → List (PyData × List Int)} {sz : PyData → Nat} {ds : List PyData} {n b : Int} (hf : ∀ d ∈ ds, ∀ n b, (fs d n b).length = sz d) : ∀ j, j ≤ ds.length → (flP fs sz ds n b j).length = sumM sz (ds.take j)
  | 0, _ => rfl
  | j + 1, h => by
    have hd : ds[j]? = some (ds[j]) := List.getElem?_eq_getElem (by omega)
    rw [flP_succ hd, List.length_append, flP_len hf j (by omega), hf _ (List.getElem_mem _), take_more hd, sumM_snoc]
end
theorem flN_len {ss ts : List Int} : ∀ (k : Nat) {d : PyData} {n b : Int}, lblk ss ts k d = true → (flN k d n b).length = manyN k d
  | 0, d, n, b, h => by cases d <;> cases h
  | k + 1, d, n, b, h => by
    cases d with
    | tuple ds =>
      have hl := and3 (show (decide (ds.length ≤ 12) && ds.all (lstB ss ts (lblk ss ts k))) = true from h)
      show (flP (flS (flN k)) (manyS (manyN k)) ds n b ds.length).length = sumM (manyS (manyN k)) ds
      rw [flP_len (fs := flS (flN k)) (sz := manyS (manyN k)) (ds := ds) (fun d hd n b => flS_len (ss := ss) (ts := ts) (bl := lblk ss ts k) (fb := flN k) (mb := manyN k) (fun x n b hx => flN_len k hx) (List.all_eq_true.mp hl.2 d hd)) _ (Nat.le_refl _), List.take_length]
    | _ => cases h
theorem flB_len {ss ts : List Int} {k : Nat} {d : PyData} {n b : Int} (h : lstB ss ts (lblk ss ts k) d = true) : (flS (flN k) d n b).length = manyS (manyN k) d := flS_len (ss := ss) (ts := ts) (bl := lblk ss ts k) (fb := flN k) (mb := manyN k) (fun x n b hx => flN_len k hx) h
theorem sumM_mem {m : PyData → Nat} : ∀ {l : List PyData} {d : PyData}, d ∈ l → m d ≤ sumM m l
  | e :: l, d, h => by
    rcases List.mem_cons.mp h with rfl | h
    · exact Nat.le_add_right _ _
    · exact Nat.le_trans (sumM_mem h) (Nat.le_add_left _ _)
theorem sumM_takes {m : PyData → Nat} : ∀ (l : List PyData) (n : Nat), sumM m (l.take n) ≤ sumM m l
  | [], n => by simp [sumM]
  | d :: l, 0 => Nat.zero_le _
  | d :: l, n + 1 => Nat.add_le_add_left (sumM_takes l n) _
/-! the rows are rows -/
section
variable {ss ts : List Int} (hs : ∀ i ∈ ss, i.natAbs < 10000) (ht : ∀ i ∈ ts, i.natAbs < 10000)
include hs ht
omit hs ht in
end
/-! size_of, flat_block and its kin, flat -/
def inn : PyData → List PyData
  | .tuple es => es
  | _ => []
theorem inn_len {ss ts : List Int} {n : Nat} : ∀ {as : List PyData}, as.all (lblk ss ts n) = true → (as.flatMap inn).length ≤ 12 * as.length
  | [], _ => by simp
  | a :: as, h => by
    rw [List.all_cons] at h
    have h := and3 h
    have ih := inn_len h.2
    have l1 : (inn a).length ≤ 12 := by
      cases n with
      | zero => cases a <;> cases h.1
      | succ n =>
        cases a with
        | tuple es => exact of_decide_eq_true (and3 (show (decide (es.length ≤ 12) && es.all (lstB ss ts (lblk ss ts n))) = true from h.1)).1
        | _ => cases h.1
    rw [List.flatMap_cons, List.length_append, List.length_cons]
    omega
theorem sum_app (m : PyData → Nat) : ∀ (l r : List PyData), sumM m (l ++ r) = sumM m l + sumM m r
  | [], r => by simp [sumM]
  | a :: l, r => by
    show m a + sumM m (l ++ r) = (m a + sumM m l) + sumM m r
    rw [sum_app m l r]
    omega
theorem sum_inn {ss ts : List Int} {n : Nat} : ∀ {as : List PyData}, as.all (lblk ss ts (n + 1)) = true → sumM (manyS (manyN n)) (as.flatMap inn) = sumM (manyN (n + 1)) as
  | [], _ => rfl
  | a :: as, h => by
    rw [List.all_cons] at h
    have h := and3 h
    rw [List.flatMap_cons, sum_app, sum_inn h.2]
    cases a with
    | tuple es => rfl
    | _ => cases h.1
section
open PySem.Spec PyProof.Rows LamX
variable {P : Program} {w : World} {K : PySem.W.Frag} {mg : Str → Option Value} {base : Heap} {f : Addr} {fd : FuncData}
def spSizeOf (K : PySem.W.Frag) (n : Nat) : Sp := fun vs H Q _ => ∃ (x : V) (d : PyData) (ss ts : List Int), vs = [x] ∧ Dp K H x d ∧ lstB ss ts (lblk ss ts n) d = true ∧ ∀ H', Same H H' → Q (.int (manyS (manyN n) d : Nat)) H'
def spSizeS (K : PySem.W.Frag) (n : Nat) : Sp := fun vs H Q E => ∃ m, n = m + 1 ∧ spSizeOf K m vs H Q E
abbrev NSz : List Str := ["statement", "block", "inner"]
theorem scSizeOf : FnScope NSz ["statement"] (defScope sSizeOf) := ⟨rfl, rfl, rfl, by decide +kernel, rfl, by decide +kernel, by decide +kernel⟩
theorem ok_size {k n : Nat} (F : Fun K "size_of" "size_of" sSizeOf f fd) (T : Free mg) (cS : Cal P w K mg base "size_of" k ["statement"] (spSizeS K n)) : FnOk P w K mg base CX0 (k + 1) f fd ["statement"] (spSizeOf K n) := by
  refine F.ok scSizeOf (fun vs H Q E h => ?_) (fun cdv A outer s H vs Q E hr h => ?_)
  · obtain ⟨x, d, ss, ts, rfl, _⟩ := h
    rfl
  obtain ⟨x, d, ss, ts, rfl, hx, hl, q⟩ := h
  refine ⟨_, pss_cons (ps_if (pt_cmpR op_notIn_seq (pe_ix ix_tup (pv 0) pe_int (fun _ _ => rfl)) (pe_tup (pa_cons pe_str (pa_cons pe_str pa_nil))) rfl) (pss_one (ps_ret pe_int)) pss_nil)
    (pss_one (ps_ret (pe_op op_add pe_int (pe_callB (cr_sum rfl) rfl T.sum (by decide +kernel) (pa_cons
      (pe_lc2 (own := [("block", 1), ("inner", 2)]) (vs1 := [2]) (g := gName 1) (tt := tYes) (wi1 := iTup K (tVar 1)) (g1 := gName 2) (tt1 := tYes) (te := tCall (spSizeS K n) [] E0 (tCons (tVar 2) tNil)) rfl scSizeOf.nd (pi_tup (pe_slice sl_tupA (pv 0) (po_some pe_int) po_none))
        (blkOk_by (own := [("block", 1), ("inner", 2)]) (N := NSz) (sc := defScope sSizeOf) (by decide +kernel)) (by decide)
        (fun _ _ _ _ _ => pg_name (i := 1) scSizeOf.nd rfl (Or.inl rfl)) (fun _ _ _ _ _ => pts_nil) (fun _ _ _ _ _ => pi_tup (pv 1)) (fun _ _ _ _ _ => pg_name (i := 2) scSizeOf.nd rfl (Or.inl rfl))
        (fun _ _ _ _ _ => pts_nil) (fun _ _ _ _ _ => pe_cal cS hr rfl (pa_cons (pv 2) pa_nil))) pa_nil))))), ?_⟩
  have key : ∃ z es, d = .tuple (.str z :: es) ∧ ((z ∉ brL ∧ branchD d = false) ∨ (z ∈ brL ∧ branchD d = true ∧ ∃ nm as, es = nm :: as ∧ as.length ≤ 2 ∧ 1 ≤ as.length ∧ as.all (lblk ss ts n) = true)) := by
    rcases st_cases hl with ⟨_, nb, z, ds, rfl, hz⟩ | ⟨nm, a, b, rfl, _, ha, hb, br⟩ | ⟨nm, a, rfl, _, ha, br⟩
    · exact ⟨z, ds, rfl, .inl ⟨hz, nb⟩⟩
    · exact ⟨_, _, rfl, .inr ⟨by decide +kernel, br, nm, [a, b], rfl, Nat.le_refl 2, by show 1 ≤ 2; decide, by simp [ha, hb]⟩⟩
    · exact ⟨_, _, rfl, .inr ⟨by decide +kernel, br, nm, [a], rfl, by show 1 ≤ 2; decide, Nat.le_refl 1, by simp [ha]⟩⟩
  obtain ⟨z, es, rfl, kind⟩ := key
  cases hx with
  | @tup da zs _ dat deach =>
  cases deach with
  | @cons u us _ _ d1 d2 =>
  cases d1
  refine ⟨_, rfl, da, _, 0, _, rfl, rfl, dat, atI_at (by decide) rfl, small (by show 2 ≤ 1000; decide), fun p hp => ⟨p, _, rfl, .inr (SqT.of upd_same), rfl, flat_strs brL, _, rfl, ?_⟩⟩
  have sp := same_new hp (.tup (brL.map V.str))
  rw [if_pos rfl, show inV (V.str z) [V.str "if", V.str "while"] = decide (z ∈ brL) from inV_strs z brL]
  rcases kind with ⟨hz, nb⟩ | ⟨hz, br, nm, as, rfl, las, las1, hall⟩
  · have q' := q _ sp
    rw [manyS_deed nb] at q'
    rw [decide_eq_false hz]
    exact ifT rfl q'
  · rw [decide_eq_true hz]
    obtain ⟨m, rfl⟩ : ∃ m, n = m + 1 := by
      cases n with
      | zero =>
        cases as with
        | nil => simp at las1
        | cons a as =>
          rw [List.all_cons] at hall
          cases a <;> cases (and3 hall).1
      | succ m => exact ⟨m, rfl⟩
    refine ifF rfl ⟨_, rfl, _, rfl, noP (slA_run (sqT_same sp dat) fun r G1 s1 hr1 => ?_)⟩
    rw [cut_from0 (by decide)] at hr1
    cases d2 with
    | @cons nv xs _ _ n1 n2 =>
    have hr1 : SqT K G1 r xs := hr1
    have each := dps_same (sp.trans s1) n2
    have lx := dpAll_len each
    refine ⟨r, rfl, ⟨xs, hr1⟩, fun D hD => ?_⟩
    refine ⟨fun i m' H' => m' = xs.length - i ∧ i ≤ xs.length ∧ Same G1 H' ∧ H' D = some (.lst (((as.take i).flatMap inn).map fun d => V.int (manyS (manyN m) d : Nat))), ⟨xs.length, by simp, Nat.zero_le _, same_new hD _, by rw [upd_same]; rfl⟩, ?_⟩
    rintro i m' H1 ⟨rfl, hi, sm, hk⟩
    have ht1 := sqT_same sm hr1
    by_cases hlt : i < xs.length
    · refine .inr ⟨⟨xs, xs[i], ht1, by simp [hlt]⟩, fun H' => Same G1 H' ∧ H' D = some (.lst (((as.take (i + 1)).flatMap inn).map fun d => V.int (manyS (manyN m) d : Nat))), fun H' p' => ⟨xs.length - (i + 1), by omega, rfl, hlt, p'⟩, fun y H' hy => ?_⟩
      obtain ⟨e, hy⟩ := hy
      subst e
      have hyi := hy xs ht1
      obtain ⟨b, hb, hdb⟩ := dpAll_get each (i := i) (d := as[i]'(by omega)) (by simp)
      rw [hyi] at hb
      cases hb
      have hbm : as[i]'(by omega) ∈ as := List.getElem_mem _
      have has : as[i]? = some (as[i]'(by omega)) := List.getElem?_eq_getElem _
      generalize as[i]'(by omega) = a at hdb hbm has
      have hla := List.all_eq_true.mp hall a hbm
      cases a with
      | tuple es =>
        have hl2 := and3 (show (decide (es.length ≤ 12) && es.all (lstB ss ts (lblk ss ts m))) = true from hla)
        have l12 := of_decide_eq_true hl2.1
        cases hdb with
        | @tup ab ys _ hty hay =>
          have ly := dpAll_len hay
          have et := take_more has
          have lin := inn_len (as := as.take i) (n := m + 1) (ss := ss) (ts := ts) (List.all_eq_true.mpr fun q hq => List.all_eq_true.mp hall q (List.mem_of_mem_take hq))
          rw [List.length_take] at lin
          refine ⟨rfl, yesG ?_⟩
          refine ⟨_, rfl, ab, rfl, ⟨ys, sqT_same sm hty⟩, ?_⟩
          refine ⟨fun j m' H' => m' = ys.length - j ∧ j ≤ ys.length ∧ Same G1 H' ∧ H' D = some (.lst (((as.take i).flatMap inn ++ es.take j).map fun d => V.int (manyS (manyN m) d : Nat))), ⟨ys.length, by simp, Nat.zero_le _, sm, by simpa using hk⟩, ?_⟩
          rintro j m' H2 ⟨rfl, hj, sm2, hk2⟩
          have keep2 := sqT_same sm2 hty
          by_cases hjt : j < ys.length
          · refine .inr ⟨⟨ys, ys[j], keep2, by simp [hjt]⟩, fun H' => Same G1 H' ∧ H' D = some (.lst (((as.take i).flatMap inn ++ es.take (j + 1)).map fun d => V.int (manyS (manyN m) d : Nat))), fun H' p' => ⟨ys.length - (j + 1), by omega, rfl, hjt, p'⟩, fun zv H' hz' => ?_⟩
            obtain ⟨e, hz'⟩ := hz'
            subst e
            have hzj := hz' ys keep2
            obtain ⟨pd, hpd, hdz⟩ := dpAll_get' (dps_same sm2 hay) hzj
            have hst := List.all_eq_true.mp hl2.2 pd (List.mem_of_getElem? hpd)
            refine ⟨rfl, yesG ⟨_, rfl, m, rfl, zv, pd, ss, ts, rfl, hdz, hst, fun H3 s3 => ?_⟩⟩
            refine ⟨_, s3 _ _ hk2, Nat.lt_of_lt_of_le (show _ < 1000 by
              rw [List.length_map, List.length_append, List.length_take]
              omega) (small (Nat.le_refl _)), ?_, ?_⟩
            · exact same_upd2 (sm2.trans s3) hD
            · rw [upd_same, take_more hpd]
              simp only [List.map_append, List.map_cons, List.map_nil, List.append_assoc]
          · have e : j = ys.length := by omega
            subst e
            refine .inl ⟨⟨ys, keep2, Nat.le_refl _⟩, sm2, ?_⟩
            rw [ly, List.take_length] at hk2
            rw [et, List.flatMap_append, List.flatMap_cons, List.flatMap_nil, List.append_nil]
            exact hk2
      | _ => cases hla
    · have e : i = xs.length := by omega
      subst e
      refine .inl ⟨⟨xs, ht1, Nat.le_refl _⟩, ?_⟩
      rw [lx, List.take_length] at hk
      have e1 : ((as.flatMap inn).map fun d => V.int (manyS (manyN m) d : Nat)) = ((as.flatMap inn).map fun d => ((manyS (manyN m) d : Nat) : Int)).map V.int := by rw [List.map_map]; rfl
      rw [e1] at hk
      refine ⟨D, _, rfl, SqL.of hk, _, _, rfl, rfl, ?_⟩
      rw [sum_map, sum_inn hall]
      have r := q H1 (sp.trans (s1.trans sm))
      have e2 : manyS (manyN (m + 1)) (.tuple (.str z :: nm :: as)) = 1 + sumM (manyN (m + 1)) as := by
        unfold manyS
        rw [if_pos br]
        rfl
      rw [e2] at r
      rw [show ((1 + sumM (manyN (m + 1)) as : Nat) : Int) = 1 + ((sumM (manyN (m + 1)) as : Nat) : Int) by omega] at r
      exact r
theorem no_size {k : Nat} : FnOk P w K mg base CX0 k f fd ["statement"] (spSizeS K 0) := ⟨(fun vs H Q E h => by obtain ⟨m, e, _⟩ := h; cases e), (fun A outer s H args us vs Q E hr he hb hv h => by obtain ⟨m, e, _⟩ := h; cases e)⟩
theorem all_size {k : Nat} (F : Fun K "size_of" "size_of" sSizeOf f fd) (hm : mg "size_of" = some (.ref f)) (hb : Binds K fd ["statement"] []) (T : Free mg) : ∀ n, FnOk P w K mg base CX0 (k + n + 1) f fd ["statement"] (spSizeOf K n)
  | 0 => ok_size F T ⟨f, fd, no_size, hm, F.kp, hb⟩
  | n + 1 => ok_size (k := k + (n + 1)) F T ⟨f, fd, (all_size F hm hb T n).imp (fun vs H Q E z => by obtain ⟨m, e, z⟩ := z; cases e; exact z), hm, F.kp, hb⟩
/-! the rows -/
def spFB (K : PySem.W.Frag) (n : Nat) : Sp := fun vs H Q _ => ∃ (x : V) (d : PyData) (ss ts : List Int) (a b : Int), vs = [x, .int a, .int b] ∧ Dp K H x d ∧ lblk ss ts n d = true ∧ manyN n d ≤ 40 ∧ ∀ R ws H', Same H H' → H R = none → H' R = some (.lst ws) → DpAll K H' ws ((flN n d a b).map rowD) → Q (.ref R) H'
def spFS (K : PySem.W.Frag) (n : Nat) : Sp := fun vs H Q _ => ∃ (x : V) (d : PyData) (ss ts : List Int) (a b : Int), vs = [x, .int a, .int b] ∧ Dp K H x d ∧ lstB ss ts (lblk ss ts n) d = true ∧ manyS (manyN n) d ≤ 40 ∧ ∀ R ws H', Same H H' → H R = none → H' R = some (.lst ws) → DpAll K H' ws ((flS (flN n) d a b).map rowD) → Q (.ref R) H'
def spFI (K : PySem.W.Frag) (n : Nat) : Sp := fun vs H Q _ => ∃ (v : V) (nm x y : PyData) (ss ts : List Int) (a b : Int), vs = [v, .int a, .int b] ∧ Dp K H v (.tuple [.str "if", nm, x, y]) ∧ lblk ss ts n x = true ∧ lblk ss ts n y = true ∧ 1 + manyN n x + manyN n y ≤ 40 ∧ ∀ R ws H', Same H H' → H R = none → H' R = some (.lst ws) → DpAll K H' ws ((ifR (flN n) nm x y a b).map rowD) → Q (.ref R) H'
def spFW (K : PySem.W.Frag) (n : Nat) : Sp := fun vs H Q _ => ∃ (v : V) (nm x : PyData) (ss ts : List Int) (a b : Int), vs = [v, .int a, .int b] ∧ Dp K H v (.tuple [.str "while", nm, x]) ∧ lblk ss ts n x = true ∧ 1 + manyN n x ≤ 40 ∧ ∀ R ws H', Same H H' → H R = none → H' R = some (.lst ws) → DpAll K H' ws ((whR (flN n) nm x a b).map rowD) → Q (.ref R) H'
abbrev PFB : List Str := ["block", "first", "behind"]
abbrev NFB : List Str := ["block", "first", "behind", "rows", "place", "statement", "number", "after"]
theorem scFB : FnScope NFB PFB (defScope sFlatBl) := ⟨rfl, rfl, rfl, by decide +kernel, rfl, by decide +kernel, by decide +kernel⟩
abbrev PFS : List Str := ["statement", "number", "behind"]
theorem scFS : FnScope ["statement", "number", "behind", "deed"] PFS (defScope sFlatSt) := ⟨rfl, rfl, rfl, by decide +kernel, rfl, by decide +kernel, by decide +kernel⟩
abbrev NFI : List Str := ["statement", "number", "behind", "rows", "middle", "others", "nexts"]
theorem scFI : FnScope NFI PFS (defScope sFlatIf) := ⟨rfl, rfl, rfl, by decide +kernel, rfl, by decide +kernel, by decide +kernel⟩
theorem scFW : FnScope ["statement", "number", "behind", "rows"] PFS (defScope sFlatWh) := ⟨rfl, rfl, rfl, by decide +kernel, rfl, by decide +kernel, by decide +kernel⟩
theorem isE {α β : Type} {l : List α} {r : List β} (h : l.length = r.length) : l.isEmpty = r.isEmpty := by
  cases l <;> cases r <;> first | rfl | cases h
/-- the last row of flat_if -/
def tIfR (K : PySem.W.Frag) : TS := fun D σ G => ∃ (da R1 R2 pn : Addr) (v1 v2 v4 : Option V) (nv : V) (dvs ws1 ws2 : List V) (nm : PyData) (n1 n2 : Int) (r1 r2 : List (PyData × List Int)), σ = [some (.ref da), v1, v2, some (.ref R1), v4, some (.ref R2), some (.ref pn)] ∧ SqT K G da dvs ∧ dvs[1]? = some nv ∧ Dp K G nv nm ∧ G R1 = some (.lst ws1) ∧ DpAll K G ws1 (r1.map rowD) ∧ G R2 = some (.lst ws2) ∧ DpAll K G ws2 (r2.map rowD) ∧
  G pn = some (.tup [.int n1, .int n2]) ∧ ws1.length + ws2.length ≤ 100 ∧ ∀ R ws G', Same G G' → G R = none → G' R = some (.lst ws) → DpAll K G' ws (((tstD nm, [n1, n2]) :: (r1 ++ r2)).map rowD) → D.rt (.ref R) G'
theorem dpAll_app {H : Hp} : ∀ {xs ys : List V} {ds es : List PyData}, DpAll K H xs ds → DpAll K H ys es → DpAll K H (xs ++ ys) (ds ++ es)
  | [], _, [], _, .nil, h => h
  | _ :: _, _, _ :: _, _, .cons a b, h => .cons a (dpAll_app b h)
theorem ok_flatIf {k n : Nat} (F : Fun K "flat_if" "flat_if" sFlatIf f fd) (T : Free mg) (cB : Cal P w K mg base "flat_block" k PFB (spFB K n)) : FnOk P w K mg base CX0 (k + 1) f fd PFS (spFI K n) := by
  refine F.ok scFI (fun vs H Q E h => ?_) (fun cdv A outer s H vs Q E hr h => ?_)
  · obtain ⟨v, nm, x, y, ss, ts, a, b, rfl, _⟩ := h
    rfl
  obtain ⟨v, nm, x, y, ss, ts, a, b, rfl, hx, lx, ly, h40, q⟩ := h
  refine ⟨_, pss_cons (ps_set (i := 3) scFI.nd rfl (.inl rfl) (pe_cal cB hr rfl (pa_cons (pe_ix ix_tup (pv 0) pe_int (fun _ _ => rfl)) (pa_cons (pe_op op_add (pv 1) pe_int) (pa_cons (pv 2) pa_nil)))))
    (pss_cons (ps_set (i := 4) scFI.nd rfl (.inl rfl) (pe_op op_add (pe_op op_add (pv 1) pe_int) (pe_callB call_len_seq rfl T.len PySem.boot_len (pa_cons (pv 3) pa_nil))))
    (pss_cons (ps_set (i := 5) scFI.nd rfl (.inl rfl) (pe_cal cB hr rfl (pa_cons (pe_ix ix_tup (pv 0) pe_int (fun _ _ => rfl)) (pa_cons (pv 4) (pa_cons (pv 2) pa_nil)))))
    (pss_cons (ps_set (i := 6) scFI.nd rfl (.inl rfl) (pe_tup (pa_cons (pe_ifExp (pt_truth (pv 3) (by intro _; rfl)) (pe_op op_add (pv 1) pe_int) (pv 2)) (pa_cons (pe_ifExp (pt_truth (pv 5) (by intro _; rfl)) (pv 4) (pv 2)) pa_nil))))
    (pss_imp (t' := tIfR K) (pss_one (ps_ret (pe_op op_cat (pe_op op_cat (pe_lst (pa_cons (pe_tup (pa_cons (pe_tup (pa_cons pe_str (pa_cons (pe_ix ix_tup (pv 0) pe_int (fun _ _ => rfl)) pa_nil))) (pa_cons (pv 6) pa_nil))) pa_nil)) (pv 3)) (pv 5)))) (fun D σ G h => ?_))))), ?_⟩
  · obtain ⟨da, R1, R2, pn, v1, v2, v4, nv, dvs, ws1, ws2, nm, n1, n2, r1, r2, rfl, dat, hnv, dnm, g1, d1, g2, d2, gp, l100, q⟩ := h
    refine ⟨_, rfl, da, dvs, 1, nv, rfl, rfl, dat, atI_at (by decide) hnv, small (by show 2 ≤ 1000; decide), fun p1 f1 => ⟨_, rfl, small (by show 2 ≤ 1000; decide), fun p2 f2 => ⟨small (by show 1 ≤ 1000; decide), fun p3 f3 => ?_⟩⟩⟩
    have s1 := same_new f1 (.tup [.str "test", nv])
    have s2 := same_new f2 (.tup [.ref p1, .ref pn])
    have s3 := same_new f3 (.lst [.ref p2])
    have s123 := s1.trans (s2.trans s3)
    refine ⟨_, rfl, p3, R1, _, _, rfl, rfl, upd_same, s123 _ _ g1, small (by rw [List.length_cons, List.length_nil]; omega), fun p4 f4 => ?_⟩
    have s4 := same_new f4 (.lst ([.ref p2] ++ ws1))
    refine ⟨_, rfl, p4, R2, _, _, rfl, rfl, upd_same, (s123.trans s4) _ _ g2, small (by rw [List.length_append]; show 1 + _ + _ ≤ 1000; omega), fun p5 f5 => ?_⟩
    have s5 := same_new f5 (.lst (([.ref p2] ++ ws1) ++ ws2))
    have s25 := s2.trans (s3.trans (s4.trans s5))
    have s15 := s1.trans s25
    refine q p5 _ _ s15 (none_of_same (s123.trans s4) f5) upd_same (.cons (.tup (SqT.of ((s3.trans (s4.trans s5)) _ _ upd_same)) (.cons (.tup (SqT.of (s25 _ _ upd_same)) (.cons (.str _) (.cons (dp_same s15 dnm) .nil))) (.cons (.tup (SqT.of (s15 _ _ gp)) (.cons (.int _) (.cons (.int _) .nil))) .nil))) ?_)
    rw [List.map_append]
    exact dpAll_app (dps_same s15 d1) (dps_same s15 d2)
  · cases hx with
    | @tup da dvs _ dat deach =>
    cases deach with
    | @cons u0 _ _ _ e0 r0 =>
    cases r0 with
    | @cons nv _ _ _ e1 r1 =>
    cases r1 with
    | @cons xv _ _ _ e2 r2 =>
    cases r2 with
    | @cons yv _ _ _ e3 r3 =>
    cases r3
    refine ⟨_, rfl, da, _, 2, xv, rfl, rfl, dat, atI_at (by decide) rfl, _, rfl, _, _, rfl, rfl, _, rfl, xv, x, ss, ts, a + 1, b, rfl, e2, lx, by omega, fun R1 ws1 H1 s1 f1 g1 d1 => ?_⟩
    have l1 := dpAll_len d1
    rw [List.length_map, flN_len n lx] at l1
    refine ⟨_, rfl, _, _, rfl, rfl, _, rfl, R1, ws1, rfl, .inl (SqL.of g1), _, _, rfl, rfl, ?_⟩
    refine ⟨_, rfl, da, _, 3, yv, rfl, rfl, sqT_same s1 dat, atI_at (by decide) rfl, _, rfl, _, rfl, yv, y, ss, ts, a + 1 + (ws1.length : Int), b, rfl, dp_same s1 e3, ly, by omega, fun R2 ws2 H2 s2 f2 g2 d2 => ?_⟩
    have l2 := dpAll_len d2
    rw [List.length_map, flN_len n ly] at l2
    have g1' := s2 _ _ g1
    have eR : ((flN n x (a + 1) b).length : Int) = (ws1.length : Int) := by rw [flN_len n lx]; omega
    have emp1 : ws1.isEmpty = (flN n x (a + 1) b).isEmpty := isE (by rw [flN_len n lx]; omega)
    have emp2 : ws2.isEmpty = (flN n y (a + 1 + ((flN n x (a + 1) b).length : Nat)) b).isEmpty := isE (by rw [flN_len n ly]; omega)
    have last : ∀ (n1 n2 : Int) pn, n1 = (if (flN n x (a + 1) b).isEmpty then b else a + 1) → n2 = (if (flN n y (a + 1 + ((flN n x (a + 1) b).length : Nat)) b).isEmpty then b else a + 1 + ((flN n x (a + 1) b).length : Nat)) → H2 pn = none →
        tIfR K { nx := fun _ H' => Q .non H', rt := Q } [some (.ref da), some (.int a), some (.int b), some (.ref R1), some (.int (a + 1 + (ws1.length : Int))), some (.ref R2), some (.ref pn)] (upd H2 pn (.tup [.int n1, .int n2])) := fun n1 n2 pn z1 z2 fp => by
      have sp := same_new fp (.tup [.int n1, .int n2])
      have s12 := s1.trans s2
      refine ⟨da, R1, R2, pn, _, _, _, nv, _, ws1, ws2, nm, n1, n2, flN n x (a + 1) b, flN n y (a + 1 + ((flN n x (a + 1) b).length : Nat)) b, rfl, sqT_same (s12.trans sp) dat, rfl, dp_same (s12.trans sp) e1, sp _ _ g1', dps_same (s2.trans sp) d1, sp _ _ g2, ?_, upd_same, by omega, fun R ws G' sG fR gR dR => ?_⟩
      · rw [eR]
        exact dps_same sp d2
      · refine q R ws G' (s12.trans (sp.trans sG)) (none_of_same s12 (none_of_same sp fR)) gR ?_
        rw [z1, z2] at dR
        exact dR
    refine ⟨_, rfl, !ws1.isEmpty, .inl ⟨ws1, SqL.of g1', rfl⟩, ?_⟩
    cases w1 : ws1.isEmpty with
    | true =>
      rw [w1] at emp1
      refine ifF rfl ⟨_, rfl, _, rfl, !ws2.isEmpty, .inl ⟨ws2, SqL.of g2, rfl⟩, ?_⟩
      cases w2 : ws2.isEmpty with
      | true =>
        rw [w2] at emp2
        exact ifF rfl ⟨_, rfl, small (by show 2 ≤ 1000; decide), fun pn fp => last _ _ pn (by rw [← emp1]; rfl) (by rw [← emp2]; rfl) fp⟩
      | false =>
        rw [w2] at emp2
        exact ifT rfl ⟨_, rfl, small (by show 2 ≤ 1000; decide), fun pn fp => last _ _ pn (by rw [← emp1]; rfl) (by rw [← emp2, eR]; rfl) fp⟩
    | false =>
      rw [w1] at emp1
      refine ifT rfl ⟨_, rfl, _, _, rfl, rfl, _, rfl, !ws2.isEmpty, .inl ⟨ws2, SqL.of g2, rfl⟩, ?_⟩
      cases w2 : ws2.isEmpty with
      | true =>
        rw [w2] at emp2
        exact ifF rfl ⟨_, rfl, small (by show 2 ≤ 1000; decide), fun pn fp => last _ _ pn (by rw [← emp1]; rfl) (by rw [← emp2]; rfl) fp⟩
      | false =>
        rw [w2] at emp2
        exact ifT rfl ⟨_, rfl, small (by show 2 ≤ 1000; decide), fun pn fp => last _ _ pn (by rw [← emp1]; rfl) (by rw [← emp2, eR]; rfl) fp⟩
end
/-! flat_while, flat_statement, flat_block, flat -/
theorem le_foldr_abs {i : Int} : ∀ {l : List Int}, i ∈ l → i.natAbs ≤ l.foldr (fun i m => max i.natAbs m) 0
  | a :: l, h => by
    rw [List.foldr_cons]
    rcases List.mem_cons.mp h with rfl | h
    · exact Nat.le_max_left _ _
    · exact Nat.le_trans (le_foldr_abs h) (Nat.le_max_right _ _)
theorem cp_tup {d : PyData} (h : tupOnly d = true) : tupOnly (cpD d) = true := by
  unfold cpD
  split
  · rename_i z ds
    split
    · exact tupOnly_app (ds := .str z :: ds) h rfl
    · exact h
  · exact h
theorem num_tup {d : PyData} (h : numNameD d = true) : tupOnly d = true := by
  obtain ⟨x, rfl, _⟩ := num_str h
  rfl
theorem tst_tup {nm : PyData} (h : numNameD nm = true) : tupOnly (tstD nm) = true := by
  show (tupOnly (.str "test") && (tupOnly nm && true)) = true
  rw [num_tup h]
  rfl
theorem flS_tup {ss ts : List Int} {fb : PyData → Int → Int → List (PyData × List Int)} {bl : PyData → Bool} (hf : ∀ (x : PyData) (n b : Int), bl x = true → ∀ r ∈ fb x n b, tupOnly r.1 = true) {d : PyData} {n b : Int} (h : lstB ss ts bl d = true) : ∀ r ∈ flS fb d n b, tupOnly r.1 = true := by
  intro r hr
  rcases st_cases h with ⟨hd, nb, z, ds, rfl, hz⟩ | ⟨nm, x, y, rfl, hn, hx, hy, hb⟩ | ⟨nm, x, rfl, hn, hx, hb⟩
  · rw [flS_deed hz] at hr
    rw [List.mem_singleton.mp hr]
    exact cp_tup (deed_tup hd)
  · rw [flS_if] at hr
    unfold ifR at hr
    rcases List.mem_cons.mp hr with rfl | hr
    · exact tst_tup hn
    · rcases List.mem_append.mp hr with hr | hr
      · exact hf x _ _ hx r hr
      · exact hf y _ _ hy r hr
  · rw [flS_wh] at hr
    unfold whR at hr
    rcases List.mem_cons.mp hr with rfl | hr
    · exact tst_tup hn
    · exact hf x _ _ hx r hr
theorem flN_tup {ss ts : List Int} : ∀ (k : Nat) {d : PyData} {n b : Int}, lblk ss ts k d = true → ∀ r ∈ flN k d n b, tupOnly r.1 = true
  | 0, d, n, b, h => by cases d <;> cases h
  | k + 1, d, n, b, h => by
    cases d with
    | tuple ds =>
      have hl := and3 (show (decide (ds.length ≤ 12) && ds.all (lstB ss ts (lblk ss ts k))) = true from h)
      intro r hr
      obtain ⟨i, hi, hr⟩ := List.mem_flatMap.mp (show r ∈ flP (flS (flN k)) (manyS (manyN k)) ds n b ds.length from hr)
      have hi := List.mem_range.mp hi
      rw [List.getD_eq_getElem?_getD, List.getElem?_eq_getElem hi] at hr
      exact flS_tup (fb := flN k) (bl := lblk ss ts k) (fun x n b hx => flN_tup (ss := ss) (ts := ts) k hx) (List.all_eq_true.mp hl.2 _ (List.getElem_mem hi)) r hr
    | _ => cases h
theorem flP_tup {fs : PyData → Int → Int → List (PyData × List Int)} {sz : PyData → Nat} {ds : List PyData} {n b : Int} (hf : ∀ d ∈ ds, ∀ n b, ∀ r ∈ fs d n b, tupOnly r.1 = true) {j : Nat} (hj : j ≤ ds.length) : ∀ r ∈ flP fs sz ds n b j, tupOnly r.1 = true := fun r hr => by
  obtain ⟨i, hi, hr⟩ := List.mem_flatMap.mp hr
  have hi := List.mem_range.mp hi
  rw [List.getD_eq_getElem?_getD, List.getElem?_eq_getElem (show i < ds.length by omega)] at hr
  exact hf _ (List.getElem_mem _) _ _ r hr
theorem rows_tup {rs : List (PyData × List Int)} (h : ∀ r ∈ rs, tupOnly r.1 = true) : tupOnlyAll (rs.map rowD) = true := by
  induction rs with
  | nil => rfl
  | cons r rs ih =>
    show ((tupOnly r.1 && (tupOnlyAll (r.2.map .int) && true)) && tupOnlyAll (rs.map rowD)) = true
    rw [h r List.mem_cons_self, ints_tupOnly, ih fun r hr => h r (List.mem_cons_of_mem _ hr)]
    rfl
theorem kt_updL {G : Hp} {R : Addr} {l l' : List V} (g : G R = some (.lst l)) : KT G (upd G R (.lst l')) := fun b u hb hn => by
  rw [upd_ne (fun e => by rw [e, g] at hb; cases hb; exact hn _ rfl)]
  exact hb
theorem rows_upd {K : PySem.W.Frag} {G : Hp} {R : Addr} {l l' ws : List V} {rs : List (PyData × List Int)} (h : DpAll K G ws (rs.map rowD)) (g : G R = some (.lst l)) (t : ∀ r ∈ rs, tupOnly r.1 = true) : DpAll K (upd G R (.lst l')) ws (rs.map rowD) := dpAll_kt (kt_updL g) _ _ (rows_tup t) h
section
open PySem.Spec PyProof.Rows LamX
variable {P : Program} {w : World} {K : PySem.W.Frag} {mg : Str → Option Value} {base : Heap} {f : Addr} {fd : FuncData}
theorem ok_flatWh {k n : Nat} (F : Fun K "flat_while" "flat_while" sFlatWh f fd) (cB : Cal P w K mg base "flat_block" k PFB (spFB K n)) : FnOk P w K mg base CX0 (k + 1) f fd PFS (spFW K n) := by
  refine F.ok scFW (fun vs H Q E h => ?_) (fun cdv A outer s H vs Q E hr h => ?_)
  · obtain ⟨v, nm, x, ss, ts, a, b, rfl, _⟩ := h
    rfl
  obtain ⟨v, nm, x, ss, ts, a, b, rfl, hx, lx, h40, q⟩ := h
  refine ⟨_, pss_cons (ps_set (i := 3) scFW.nd rfl (.inl rfl) (pe_cal cB hr rfl (pa_cons (pe_ix ix_tup (pv 0) pe_int (fun _ _ => rfl)) (pa_cons (pe_op op_add (pv 1) pe_int) (pa_cons (pv 1) pa_nil)))))
    (pss_one (ps_ret (pe_op op_cat (pe_lst (pa_cons (pe_tup (pa_cons (pe_tup (pa_cons pe_str (pa_cons (pe_ix ix_tup (pv 0) pe_int (fun _ _ => rfl)) pa_nil))) (pa_cons (pe_tup (pa_cons (pe_ifExp (pt_truth (pv 3) (by intro _; rfl)) (pe_op op_add (pv 1) pe_int) (pv 1)) (pa_cons (pv 2) pa_nil))) pa_nil))) pa_nil)) (pv 3)))), ?_⟩
  cases hx with
  | @tup da dvs _ dat deach =>
  cases deach with
  | @cons u0 _ _ _ e0 r0 =>
  cases r0 with
  | @cons nv _ _ _ e1 r1 =>
  cases r1 with
  | @cons xv _ _ _ e2 r2 =>
  cases r2
  refine ⟨_, rfl, da, _, 2, xv, rfl, rfl, dat, atI_at (by decide) rfl, _, rfl, _, _, rfl, rfl, _, rfl, xv, x, ss, ts, a + 1, a, rfl, e2, lx, by omega, fun R ws H1 s1 f1 g1 d1 => ?_⟩
  have l1 := dpAll_len d1
  rw [List.length_map, flN_len n lx] at l1
  have emp : ws.isEmpty = (flN n x (a + 1) a).isEmpty := isE (by rw [flN_len n lx]; omega)
  have fin : ∀ n1 : Int, n1 = (if (flN n x (a + 1) a).isEmpty then a else a + 1) → ∀ (p1 p2 p3 p4 p5 : Addr), H1 p1 = none → (upd H1 p1 (.tup [.str "test", nv])) p2 = none → (upd (upd H1 p1 (.tup [.str "test", nv])) p2 (.tup [.int n1, .int b])) p3 = none →
      (upd (upd (upd H1 p1 (.tup [.str "test", nv])) p2 (.tup [.int n1, .int b])) p3 (.tup [.ref p1, .ref p2])) p4 = none → (upd (upd (upd (upd H1 p1 (.tup [.str "test", nv])) p2 (.tup [.int n1, .int b])) p3 (.tup [.ref p1, .ref p2])) p4 (.lst [.ref p3])) p5 = none →
      Q (.ref p5) (upd (upd (upd (upd (upd H1 p1 (.tup [.str "test", nv])) p2 (.tup [.int n1, .int b])) p3 (.tup [.ref p1, .ref p2])) p4 (.lst [.ref p3])) p5 (.lst ([.ref p3] ++ ws))) := fun n1 z p1 p2 p3 p4 p5 q1 q2 q3 q4 q5 => by
    have t1 := same_new q1 (.tup [.str "test", nv])
    have t2 := same_new q2 (.tup [.int n1, .int b])
    have t3 := same_new q3 (.tup [.ref p1, .ref p2])
    have t4 := same_new q4 (.lst [.ref p3])
    have t5 := same_new q5 (.lst ([.ref p3] ++ ws))
    have t45 := t4.trans t5
    have t35 := t3.trans t45
    have t25 := t2.trans t35
    have t15 := t1.trans t25
    refine q p5 _ _ (s1.trans t15) (none_of_same (s1.trans (t1.trans (t2.trans (t3.trans t4)))) q5) upd_same ?_
    show DpAll K _ _ (rowD (tstD nm, [if (flN n x (a + 1) a).isEmpty then a else a + 1, b]) :: (flN n x (a + 1) a).map rowD)
    rw [← z]
    exact .cons (.tup (SqT.of (t45 _ _ upd_same)) (.cons (.tup (SqT.of (t25 _ _ upd_same)) (.cons (.str _) (.cons (dp_same (s1.trans t15) e1) .nil))) (.cons (.tup (SqT.of (t35 _ _ upd_same)) (.cons (.int _) (.cons (.int _) .nil))) .nil))) (dps_same t15 d1)
  refine ⟨_, rfl, da, _, 1, nv, rfl, rfl, sqT_same s1 dat, atI_at (by decide) rfl, small (by show 2 ≤ 1000; decide), fun p1 q1 => ?_⟩
  have t1 := same_new q1 (.tup [.str "test", nv])
  refine ⟨_, rfl, !ws.isEmpty, .inl ⟨ws, SqL.of (t1 _ _ g1), rfl⟩, ?_⟩
  have at4 : ∀ {n1 : Int} {p2 p3 p4 : Addr}, (upd H1 p1 (.tup [.str "test", nv])) p2 = none → (upd (upd H1 p1 (.tup [.str "test", nv])) p2 (.tup [.int n1, .int b])) p3 = none → (upd (upd (upd H1 p1 (.tup [.str "test", nv])) p2 (.tup [.int n1, .int b])) p3 (.tup [.ref p1, .ref p2])) p4 = none →
      (upd (upd (upd (upd H1 p1 (.tup [.str "test", nv])) p2 (.tup [.int n1, .int b])) p3 (.tup [.ref p1, .ref p2])) p4 (.lst [.ref p3])) R = some (.lst ws) := fun q2 q3 q4 => ((t1.trans (same_new q2 _)).trans ((same_new q3 _).trans (same_new q4 _))) _ _ g1
  cases we : ws.isEmpty with
  | true =>
    rw [we] at emp
    exact ifF rfl ⟨_, rfl, _, rfl, small (by show 2 ≤ 1000; decide), fun p2 q2 => ⟨small (by show 2 ≤ 1000; decide), fun p3 q3 => ⟨small (by show 1 ≤ 1000; decide), fun p4 q4 => ⟨_, rfl, p4, R, _, _, rfl, rfl, upd_same, at4 q2 q3 q4, small (by show 1 + ws.length ≤ 1000; omega), fun p5 q5 => fin _ (by rw [← emp]; rfl) p1 p2 p3 p4 p5 q1 q2 q3 q4 q5⟩⟩⟩⟩
  | false =>
    rw [we] at emp
    exact ifT rfl ⟨_, rfl, _, _, rfl, rfl, _, rfl, small (by show 2 ≤ 1000; decide), fun p2 q2 => ⟨small (by show 2 ≤ 1000; decide), fun p3 q3 => ⟨small (by show 1 ≤ 1000; decide), fun p4 q4 => ⟨_, rfl, p4, R, _, _, rfl, rfl, upd_same, at4 q2 q3 q4, small (by show 1 + ws.length ≤ 1000; omega), fun p5 q5 => fin _ (by rw [← emp]; rfl) p1 p2 p3 p4 p5 q1 q2 q3 q4 q5⟩⟩⟩⟩
def tStR (K : PySem.W.Frag) : TS := fun D σ G => ∃ (v0 v1 : Option V) (b : Int) (dv : V) (d : PyData), σ = [v0, v1, some (.int b), some dv] ∧ Dp K G dv d ∧ ∀ R ws G', Same G G' → G R = none → G' R = some (.lst ws) → DpAll K G' ws [rowD (d, [b])] → D.rt (.ref R) G'
theorem ok_flatSt {k n : Nat} (F : Fun K "flat_statement" "flat_statement" sFlatSt f fd) (cI : Cal P w K mg base "flat_if" k PFS (spFI K n)) (cW : Cal P w K mg base "flat_while" k PFS (spFW K n)) (cH : Cal P w K mg base "hands_on" k ["deed"] (spHands K)) : FnOk P w K mg base CX0 (k + 1) f fd PFS (spFS K n) := by
  refine F.ok scFS (fun vs H Q E h => ?_) (fun cdv A outer s H vs Q E hr h => ?_)
  · obtain ⟨x, d, ss, ts, a, b, rfl, _⟩ := h
    rfl
  obtain ⟨x, d, ss, ts, a, b, rfl, hx, hl, h40, q⟩ := h
  refine ⟨_, pss_cons (ps_if (pt_cmpR op_eq (pe_ix ix_tup (pv 0) pe_int (fun _ _ => rfl)) pe_str (nomark _)) (pss_one (ps_ret (pe_cal cI hr rfl (pa_cons (pv 0) (pa_cons (pv 1) (pa_cons (pv 2) pa_nil)))))) pss_nil)
    (pss_cons (ps_if (pt_cmpR op_eq (pe_ix ix_tup (pv 0) pe_int (fun _ _ => rfl)) pe_str (nomark _)) (pss_one (ps_ret (pe_cal cW hr rfl (pa_cons (pv 0) (pa_cons (pv 1) (pa_cons (pv 2) pa_nil)))))) pss_nil)
    (pss_cons (ps_set (i := 3) scFS.nd rfl (.inl rfl) (pe_ifExp (pt_val (pe_cal cH hr rfl (pa_cons (pv 0) pa_nil))) (pe_op op_catA (pv 0) (pe_tup (pa_cons pe_str pa_nil))) (pv 0)))
    (pss_imp (t' := tStR K) (pss_one (ps_ret (pe_lst (pa_cons (pe_tup (pa_cons (pv 3) (pa_cons (pe_tup (pa_cons (pv 2) pa_nil)) pa_nil))) pa_nil)))) (fun D σ G h => ?_)))), ?_⟩
  · obtain ⟨v0, v1, b, dv, d, rfl, hd, q⟩ := h
    refine ⟨_, rfl, _, rfl, small (by show 1 ≤ 1000; decide), fun p1 f1 => ⟨small (by show 2 ≤ 1000; decide), fun p2 f2 => ⟨small (by show 1 ≤ 1000; decide), fun p3 f3 => ?_⟩⟩⟩
    have s1 := same_new f1 (.tup [.int b])
    have s2 := same_new f2 (.tup [dv, .ref p1])
    have s3 := same_new f3 (.lst [.ref p2])
    exact q p3 _ _ (s1.trans (s2.trans s3)) (none_of_same (s1.trans s2) f3) upd_same (.cons (.tup (SqT.of (s3 _ _ upd_same)) (.cons (dp_same (s1.trans (s2.trans s3)) hd) (.cons (.tup (SqT.of ((s2.trans s3) _ _ upd_same)) (.cons (.int _) .nil)) .nil))) .nil)
  · rcases st_cases hl with ⟨hdd, nb, z, ds, rfl, hz⟩ | ⟨nm, y1, y2, rfl, hn, l1, l2, br⟩ | ⟨nm, y1, rfl, hn, l1, br⟩
    · have z1 : z ≠ "if" := fun e => hz (by rw [e]; decide +kernel)
      have z2 : z ≠ "while" := fun e => hz (by rw [e]; decide +kernel)
      rw [flS_deed hz] at q
      have hx' := hx
      cases hx with
      | @tup da dvs _ dat deach =>
      have ld := dpAll_len deach
      have l12 : dvs.length ≤ 12 := by
        obtain ⟨b1, _, _⟩ := deed_bd (c := 10000 + ss.foldr (fun i m => max i.natAbs m) 0 + ts.foldr (fun i m => max i.natAbs m) 0 + 1) (by omega) (fun i hi => by have := le_foldr_abs hi; omega) (fun i hi => by have := le_foldr_abs hi; omega) hdd
        cases b1 with
        | tup l _ => omega
      cases deach with
      | @cons u us _ _ d1 d2 =>
      cases d1
      refine ⟨_, rfl, da, _, 0, _, rfl, rfl, dat, atI_at (by decide) rfl, rfl, _, rfl, ifF (by rw [decV]; exact decide_eq_false z1) ?_⟩
      refine ⟨_, rfl, da, _, 0, _, rfl, rfl, dat, atI_at (by decide) rfl, rfl, _, rfl, ifF (by rw [decV]; exact decide_eq_false z2) ?_⟩
      refine ⟨_, rfl, .ref da, z, ds, rfl, hx', _, rfl, ?_⟩
      by_cases c : z ∈ handL
      · refine ifT (decide_eq_true c) ⟨_, rfl, small (by show 1 ≤ 1000; decide), fun p1 f1 => ?_⟩
        have s1 := same_new f1 (.tup [.str "copy"])
        refine ⟨da, p1, _, _, rfl, rfl, sqT_same s1 dat, SqT.of upd_same, small (by rw [List.length_cons] at l12 ⊢; show _ + 1 ≤ 1000; omega), fun e => (by cases e), fun _ e => (by cases e), fun _ _ p2 f2 => ?_⟩
        have s2 := same_new f2 (.tup ((.str z :: us) ++ [.str "copy"]))
        have s12 := s1.trans s2
        refine ⟨_, _, b, .ref p2, cpD (.tuple (.str z :: ds)), rfl, ?_, fun R ws G' sG fR gR dR => q R ws G' (s12.trans sG) (none_of_same s12 fR) gR dR⟩
        rw [show cpD (.tuple (.str z :: ds)) = .tuple (.str z :: (ds ++ [.str "copy"])) from if_pos c]
        exact .tup (SqT.of upd_same) (.cons (.str _) (dpAll_app (dps_same s12 d2) (.cons (.str _) .nil)))
      · refine ifF (decide_eq_false c) ⟨_, rfl, _, _, b, .ref da, cpD (.tuple (.str z :: ds)), rfl, ?_, q⟩
        rw [show cpD (.tuple (.str z :: ds)) = .tuple (.str z :: ds) from if_neg c]
        exact hx'
    · rw [flS_if] at q
      rw [manyS_if br] at h40
      have hx' := hx
      cases hx with
      | @tup da dvs _ dat deach =>
      cases deach with
      | @cons u us _ _ d1 d2 =>
      cases d1
      exact ⟨_, rfl, da, _, 0, _, rfl, rfl, dat, atI_at (by decide) rfl, rfl, _, rfl, ifT (by decide +kernel) ⟨_, rfl, _, rfl, _, rfl, .ref da, nm, y1, y2, ss, ts, a, b, rfl, hx', l1, l2, h40, q⟩⟩
    · rw [flS_wh] at q
      rw [manyS_wh br] at h40
      have hx' := hx
      cases hx with
      | @tup da dvs _ dat deach =>
      cases deach with
      | @cons u us _ _ d1 d2 =>
      cases d1
      refine ⟨_, rfl, da, _, 0, _, rfl, rfl, dat, atI_at (by decide) rfl, rfl, _, rfl, ifF (by decide +kernel) ?_⟩
      exact ⟨_, rfl, da, _, 0, _, rfl, rfl, dat, atI_at (by decide) rfl, rfl, _, rfl, ifT (by decide +kernel) ⟨_, rfl, _, rfl, _, rfl, .ref da, nm, y1, ss, ts, a, b, rfl, hx', l1, h40, q⟩⟩
def tFBx (K : PySem.W.Frag) (n : Nat) : TS := fun D σ G => ∃ (v0 v1 v2 v4 : Option V) (R : Addr) (v : V) (num af : Int) (ws : List V) (d : PyData) (ss ts : List Int), σ = [v0, v1, v2, some (.ref R), v4, some v, some (.int num), some (.int af)] ∧ Dp K G v d ∧ lstB ss ts (lblk ss ts n) d = true ∧ manyS (manyN n) d ≤ 40 ∧ G R = some (.lst ws) ∧ ws.length ≤ 100 ∧
  ∀ ws2 G2, Same G G2 → DpAll K G2 ws2 ((flS (flN n) d num af).map rowD) → D.nx σ (upd G2 R (.lst (ws ++ ws2)))
theorem ok_flatBl {k n : Nat} (F : Fun K "flat_block" "flat_block" sFlatBl f fd) (T : Free mg) (hE : mg "enumerate" = none) (cS : Cal P w K mg base "size_of" k ["statement"] (spSizeOf K n)) (cF : Cal P w K mg base "flat_statement" k PFS (spFS K n)) : FnOk P w K mg base CX0 (k + 1) f fd PFB (spFB K (n + 1)) := by
  refine F.ok scFB (fun vs H Q E h => ?_) (fun cdv A outer s H vs Q E hr h => ?_)
  · obtain ⟨x, d, ss, ts, a, b, rfl, _⟩ := h
    rfl
  obtain ⟨x, d, ss, ts, a, b, rfl, hx, hl, h40, q⟩ := h
  refine ⟨_, pss_cons (ps_set (i := 3) scFB.nd rfl (.inl rfl) (pe_lst pa_nil))
    (pss_cons (ps_for PassesOwn.never rfl (pi_enumT rfl hE (pa_cons (pv 0) pa_nil)) (pg_tup rfl (pgs_cons (pg_name (i := 4) scFB.nd rfl (.inl rfl)) (pgs_cons (pg_name (i := 5) scFB.nd rfl (.inl rfl)) pgs_nil)))
      (pss_cons (ps_set (i := 6) scFB.nd rfl (.inl rfl) (pe_op op_add (pv 1) (pe_callB call_len_seq rfl T.len PySem.boot_len (pa_cons (pv 3) pa_nil))))
      (pss_cons (ps_set (i := 7) scFB.nd rfl (.inl rfl) (pe_ifExp (pt_cmpR op_lt (pe_op op_add (pv 4) pe_int) (pe_callB call_len_seq rfl T.len PySem.boot_len (pa_cons (pv 0) pa_nil)) (nomark _)) (pe_op op_add (pv 6) (pe_cal cS hr rfl (pa_cons (pv 5) pa_nil))) (pv 2)))
      (pss_imp (t' := tFBx K n) (pss_one (ps_expr (pe_bm PySem.F.plainAttrs_list PySem.F.slot_list_extend PySem.F.type_list_extend mt_extend (pv 3) (pa_cons (pe_cal cF hr rfl (pa_cons (pv 5) (pa_cons (pv 6) (pa_cons (pv 7) pa_nil)))) pa_nil)))) (fun D σ G h => ?_)))))
    (pss_one (ps_ret (pv 3)))), ?_⟩
  · obtain ⟨v0, v1, v2, v4, R, v, num, af, ws, d, ss, ts, rfl, hd, hl, h40, gR, l100, q⟩ := h
    refine ⟨_, rfl, .inl ⟨rfl, _, SqL.of gR⟩, _, rfl, _, rfl, _, rfl, v, d, ss, ts, num, af, rfl, hd, hl, h40, fun R2 ws2 G2 s2 f2 g2 d2 => ?_⟩
    have l2 := dpAll_len d2
    rw [List.length_map, flB_len hl] at l2
    exact ⟨R, R2, ws, ws2, rfl, rfl, s2 _ _ gR, g2, small (by omega), q ws2 G2 s2 d2⟩
  cases d with
  | tuple ds =>
    have hl2 := and3 (show (decide (ds.length ≤ 12) && ds.all (lstB ss ts (lblk ss ts n))) = true from hl)
    have l12 := of_decide_eq_true hl2.1
    have h40 : sumM (manyS (manyN n)) ds ≤ 40 := h40
    cases hx with
    | @tup ta xs _ at_ each =>
      have lx := dpAll_len each
      refine ⟨small (by show 0 ≤ 1000; decide), fun R fR => ?_⟩
      have n0 := same_new fR (.lst [])
      refine ⟨_, rfl, ta, xs, rfl, sqT_same n0 at_, ?_⟩
      refine for_enumT (xs := xs) (fun j σ G => ∃ (ws : List V) (o4 o5 o6 o7 : Option V), σ = [some (.ref ta), some (.int a), some (.int b), some (.ref R), o4, o5, o6, o7] ∧ Same H G ∧ G R = some (.lst ws) ∧ DpAll K G ws ((flP (flS (flN n)) (manyS (manyN n)) ds a b j).map rowD))
        ⟨[], _, _, _, _, rfl, n0, upd_same, .nil⟩ (fun j σ G _ h => by obtain ⟨_, _, _, _, _, _, e, _⟩ := h; exact sqT_same e at_) (fun j v T0 σ G hv h hT => ?_) (fun σ G h => ?_)
      · obtain ⟨ws, o4, o5, o6, o7, rfl, sG, gR, dR⟩ := h
        have hj := (List.getElem?_eq_some_iff.mp hv).1
        obtain ⟨d, hd, hdv⟩ := dpAll_get' (dps_same sG each) hv
        have hdm := List.mem_of_getElem? hd
        have jl : j ≤ ds.length := by omega
        have hst := List.all_eq_true.mp hl2.2 d hdm
        have lP := flP_len (fs := flS (flN n)) (sz := manyS (manyN n)) (ds := ds) (n := a) (b := b) (fun d hd n' b' => flB_len (List.all_eq_true.mp hl2.2 d hd)) j (by omega)
        have lw := dpAll_len dR
        rw [List.length_map, lP] at lw
        have st := sumM_takes (m := manyS (manyN n)) ds j
        have sd := sumM_mem (m := manyS (manyN n)) hdm
        have nT := same_new hT (.tup [.int (j : Nat), v])
        have gR1 := nT _ _ gR
        refine ⟨T0, _, rfl, SqT.of upd_same, rfl, _, _, rfl, _, _, rfl, rfl, ?_⟩
        refine ⟨_, rfl, _, rfl, R, ws, rfl, .inl (SqL.of gR1), _, _, rfl, rfl, ?_⟩
        refine ⟨_, rfl, _, _, rfl, rfl, _, rfl, ta, xs, rfl, .inr (sqT_same (sG.trans nT) at_), _, _, rfl, rfl, _, rfl, ?_⟩
        have rest : ∀ (G1 : Hp) (af : Int), Same (upd G T0 (.tup [.int (j : Nat), v])) G1 → af = (if j + 1 < ds.length then a + (sumM (manyS (manyN n)) (ds.take (j + 1)) : Nat) else b) → ∀ ws2 G2, Same G1 G2 → DpAll K G2 ws2 ((flS (flN n) d (a + (ws.length : Int)) af).map rowD) →
            ∃ (ws' : List V) (o4 o5 o6 o7 : Option V), [some (.ref ta), some (.int a), some (.int b), some (.ref R), some (.int (j : Nat)), some v, some (.int (a + (ws.length : Int))), some (.int af)] = [some (.ref ta), some (.int a), some (.int b), some (.ref R), o4, o5, o6, o7] ∧ Same H (upd G2 R (.lst (ws ++ ws2))) ∧ (upd G2 R (.lst (ws ++ ws2))) R = some (.lst ws') ∧ DpAll K (upd G2 R (.lst (ws ++ ws2))) ws' ((flP (flS (flN n)) (manyS (manyN n)) ds a b (j + 1)).map rowD) := fun G1 af s1 eaf ws2 G2 s2 d2 => by
          have sA := nT.trans (s1.trans s2)
          refine ⟨ws ++ ws2, _, _, _, _, rfl, same_upd2 (sG.trans sA) fR, upd_same, ?_⟩
          rw [flP_succ hd, List.map_append, ← eaf, ← lP, show ((flP (flS (flN n)) (manyS (manyN n)) ds a b j).length : Int) = (ws.length : Int) by rw [lP]; omega]
          exact dpAll_app (rows_upd (dps_same sA dR) (sA _ _ gR) (flP_tup (fun d hd n' b' => flS_tup (fb := flN n) (bl := lblk ss ts n) (fun x n' b hx => flN_tup (ss := ss) (ts := ts) n hx) (List.all_eq_true.mp hl2.2 d hd)) jl)) (rows_upd d2 (sA _ _ gR) (flS_tup (fb := flN n) (bl := lblk ss ts n) (fun x n' b hx => flN_tup (ss := ss) (ts := ts) n hx) hst))
        by_cases c : j + 1 < ds.length
        · refine ifT (by rw [decide_eq_true_eq]; omega) ⟨_, rfl, _, rfl, v, d, ss, ts, rfl, dp_same nT hdv, hst, fun G1 s1 => ⟨_, _, rfl, rfl, ?_⟩⟩
          refine ⟨_, _, _, _, R, v, _, _, ws, d, ss, ts, rfl, dp_same (nT.trans s1) hdv, hst, by omega, (nT.trans s1) _ _ gR, by omega, fun ws2 G2 s2 d2 => rest G1 _ s1 ?_ ws2 G2 s2 d2⟩
          rw [if_pos c, take_more hd, sumM_snoc]
          omega
        · refine ifF (by rw [decide_eq_false_iff_not]; omega) ⟨_, rfl, ?_⟩
          exact ⟨_, _, _, _, R, v, _, _, ws, d, ss, ts, rfl, dp_same nT hdv, hst, by omega, gR1, by omega, fun ws2 G2 s2 d2 => rest _ _ (Same.refl _) (by rw [if_neg c]) ws2 G2 s2 d2⟩
      · obtain ⟨ws, o4, o5, o6, o7, rfl, sG, gR, dR⟩ := h
        rw [lx] at dR
        exact ⟨_, rfl, q R ws G sG fR gR dR⟩
  | _ => cases hl
end
/-! check_net, flat -/
abbrev rTupOf (K : PySem.W.Frag) : List V → Hp → VK → Prop := fun xs H Q => ∃ p ys, xs = [.ref p] ∧ ((SqL K H p ys ∧ ∀ l, H l = none → Q (.ref l) (upd H l (.tup ys))) ∨ (SqT K H p ys ∧ Q (.ref p) H))
theorem acts_at {chs : List (Int × Int)} {as : List PyData} {i : Nat} {d : PyData} (h : actsB chs 0 as = true) (hi : as[i]? = some d) : lblk (sideL Prod.fst chs (i : Int)) (sideL Prod.snd chs (i : Int)) 4 d = true ∧ manyN 4 d ≤ 40 := by
  have s : (blkD (sideL Prod.fst chs (i : Int)) (sideL Prod.snd chs (i : Int)) 4 d).isSome = true := by
    cases e : blkD (sideL Prod.fst chs (i : Int)) (sideL Prod.snd chs (i : Int)) 4 d with
    | some t => rfl
    | none =>
      have := acts_no (chs := chs) (me := 0) hi (by rw [show (0 : Int) + (i : Nat) = (i : Int) by omega]; exact e)
      rw [h] at this
      cases this
  rw [blk_some] at s
  have s := and3 s
  exact ⟨s.1, of_decide_eq_true s.2⟩
structure NetG (cs as : List PyData) : Prop where
  l6 : cs.length ≤ 6
  l1 : 1 ≤ as.length
  l4 : as.length ≤ 4
  ch : cs = (cs.map pairD).map mkCh
  act : ∀ (i : Nat) d, as[i]? = some d → lblk (sideL Prod.fst (cs.map pairD) (i : Int)) (sideL Prod.snd (cs.map pairD) (i : Int)) 4 d = true ∧ manyN 4 d ≤ 40
theorem netB_G {cs as : List PyData} (h : netB cs as = true) : NetG cs as := by
  have h := and3 (show ((decide (cs.length ≤ 6) && (decide (1 ≤ as.length) && decide (as.length ≤ 4))) && (cs.all (chanD as.length) && actsB (cs.map pairD) 0 as)) = true from h)
  have h1 := and3 h.1
  have h2 := and3 h.2
  exact ⟨of_decide_eq_true h1.1, of_decide_eq_true (and3 h1.2).1, of_decide_eq_true (and3 h1.2).2, chans_of h2.1, fun i d hi => acts_at h2.2 hi⟩
abbrev codeR (as : List PyData) : List (List (PyData × List Int)) := as.map fun d => flN 4 d 0 (-1)
def codeD (rss : List (List (PyData × List Int))) : PyData := .tuple (rss.map rowsD)
section
open PySem.Spec PyProof.Rows LamX
variable {P : Program} {w : World} {K : PySem.W.Frag} {mg : Str → Option Value} {base : Heap} {f : Addr} {fd : FuncData}
theorem all_fb {k : Nat} {fs fi fw : Addr} {fds fdi fdw : FuncData} (F : Fun K "flat_block" "flat_block" sFlatBl f fd) (FS : Fun K "flat_statement" "flat_statement" sFlatSt fs fds) (FI : Fun K "flat_if" "flat_if" sFlatIf fi fdi) (FW : Fun K "flat_while" "flat_while" sFlatWh fw fdw)
    (hm : mg "flat_block" = some (.ref f)) (hms : mg "flat_statement" = some (.ref fs)) (hmi : mg "flat_if" = some (.ref fi)) (hmw : mg "flat_while" = some (.ref fw)) (hb : Binds K fd PFB []) (hbs : Binds K fds PFS []) (hbi : Binds K fdi PFS []) (hbw : Binds K fdw PFS [])
    (T : Free mg) (hE : mg "enumerate" = none) (cS : ∀ n, n ≤ 3 → Cal P w K mg base "size_of" k ["statement"] (spSizeOf K n)) (cH : Cal P w K mg base "hands_on" k ["deed"] (spHands K)) :
    ∀ n, n ≤ 4 → FnOk P w K mg base CX0 (k + 3 * n) f fd PFB (spFB K n)
  | 0, _ => ⟨(fun vs H Q E h => by obtain ⟨x, d, ss, ts, a, b, _, _, h, _⟩ := h; cases d <;> cases h), (fun A outer s H args us vs Q E hr he hb hv h => by obtain ⟨x, d, ss, ts, a, b, _, _, h, _⟩ := h; cases d <;> cases h)⟩
  | n + 1, hn => by
    have ih := all_fb F FS FI FW hm hms hmi hmw hb hbs hbi hbw T hE cS cH n (by omega)
    have cB : Cal P w K mg base "flat_block" (k + 3 * n) PFB (spFB K n) := ⟨f, fd, ih, hm, F.kp, hb⟩
    have cI : Cal P w K mg base "flat_if" (k + 3 * n + 1) PFS (spFI K n) := ⟨fi, fdi, ok_flatIf FI T cB, hmi, FI.kp, hbi⟩
    have cW : Cal P w K mg base "flat_while" (k + 3 * n + 1) PFS (spFW K n) := ⟨fw, fdw, ok_flatWh FW cB, hmw, FW.kp, hbw⟩
    have cF : Cal P w K mg base "flat_statement" (k + 3 * n + 2) PFS (spFS K n) := ⟨fs, fds, ok_flatSt FS cI cW (cH.mono (by omega)), hms, FS.kp, hbs⟩
    exact (ok_flatBl (k := k + 3 * n + 2) F T hE ((cS n (by omega)).mono (by omega)) cF).mono (by omega)
def spCheckNet (K : PySem.W.Frag) (PT : List Addr) : Sp := fun vs H Q _ => ∃ (x : V) (d : PyData), vs = [x] ∧ Dp K H x d ∧ netD d = true ∧ TabsG PT H ∧ ∀ H', ExtN H H' → TabsG PT H' → Q .non H'
theorem scCheckNet : FnScope ["net"] ["net"] (defScope sCheckNet) := ⟨rfl, rfl, rfl, by decide +kernel, rfl, by decide +kernel, by decide +kernel⟩
theorem ok_checkNet {k : Nat} {PT : List Addr} (F : Fun K "check_net" "check_net" sCheckNet f fd) (cI : Cal P w K mg base "is_net" k ["thing"] (spIsNet K PT)) : FnOk P w K mg base CX0 (k + 1) f fd ["net"] (spCheckNet K PT) := by
  refine F.ok scCheckNet (fun vs H Q E h => ?_) (fun cdv A outer s H vs Q E hr h => ?_)
  · obtain ⟨x, d, rfl, _⟩ := h
    rfl
  obtain ⟨x, d, rfl, hx, hd, tb, q⟩ := h
  have bk : BkOk d := by
    obtain ⟨_, _, _, _, _, b, _⟩ := net_bd hd
    unfold BkOk
    omega
  refine ⟨_, pss_one (ps_if (pt_not (pt_val (pe_cal cI hr rfl (pa_cons (pv 0) pa_nil)))) pss_never pss_nil), ?_⟩
  exact ⟨_, rfl, x, d, rfl, hx, bk, tb, fun H' e t => ⟨_, rfl, ifF (by rw [hd]; rfl) (q H' e t)⟩⟩
def spFlat (K : PySem.W.Frag) (PT : List Addr) : Sp := fun vs H Q _ => ∃ (x : V) (cs as : List PyData), vs = [x] ∧ Dp K H x (.tuple [.tuple cs, .tuple as]) ∧ netB cs as = true ∧ TabsG PT H ∧ ∀ v H', ExtN H H' → TabsG PT H' → Dp K H' v (codeD (codeR as)) → Q v H'
theorem scFlat : FnScope ["net", "block"] ["net"] (defScope sFlat) := ⟨rfl, rfl, rfl, by decide +kernel, rfl, by decide +kernel, by decide +kernel⟩
theorem ok_flat {k : Nat} {c Pc : Addr} {PT : List Addr} (F : Fun K "flat" "flat" sFlat f fd) (hc : fd.code = .ref c) (TB : LamX.TabB base mg c Pc) (hPT : Pc ∈ PT) (T : Free mg) (C : Cst mg) (cN : Cal P w K mg base "check_net" k ["net"] (spCheckNet K PT)) (cB : Cal P w K mg base "flat_block" k PFB (spFB K 4)) :
    FnOk P w K mg base CX0 (k + 2) f fd ["net"] (spFlat K PT) := by
  refine okC F hc scFlat (fun vs H Q E h => ?_) (fun A outer s H vs Q E hr h => ?_)
  · obtain ⟨x, cs, as, rfl, _⟩ := h
    rfl
  obtain ⟨x, cs, as, rfl, hx, hn, tb, q⟩ := h
  have cN' := cN.mono (Nat.le_succ k)
  refine ⟨_, pss_cons (ps_expr (pe_cal cN' hr rfl (pa_cons (pv 0) pa_nil)))
    (pss_one (ps_ret (pe_tupG (k := k) (own := [("block", 1)]) (wi := iTup K (tOp (rIxT K) (tVar 0) (tC (.int 1)))) (g := gName 1) (tt := tYes) (te := tCB (rTupOf K) (tCons (tCall (spFB K 4) [] E0 (tCons (tVar 1) (tCons (tC (.int 0)) (tCons (tC (.int (-1))) tNil)))) tNil)) scFlat.nd hr rfl T.tuple (by decide +kernel) TB rfl
      (blkOk_by (own := [("block", 1)]) (N := ["net", "block"]) (sc := defScope sFlat) (by decide +kernel)) (by decide +kernel) rfl rfl (pi_tup (pe_ix ix_tup (pv 0) pe_int (fun _ _ => rfl)))
      (fun _ _ _ _ _ _ _ _ _ _ => pg_name (i := 1) scFlat.nd rfl (Or.inl rfl)) (fun _ _ _ _ _ _ _ _ _ _ => pts_nil)
      (fun _ _ _ _ _ _ _ _ _ hr' => pe_callTy call_tuple_of rfl T.tuple (by decide +kernel) (pa_cons (pe_cal cB hr' rfl (pa_cons (pv 1) (pa_cons pe_int (pa_cons (pe_globI rfl C.fin) pa_nil)))) pa_nil)) (fun _ => rfl)))), ?_⟩
  have G := netB_G hn
  refine ⟨_, rfl, x, _, rfl, hx, hn, tb, fun H1 e1 t1 => ?_⟩
  have hx1 := dp_ext e1 _ _ hx
  cases hx1 with
  | @tup na nvs _ nat neach =>
  cases neach with
  | @cons cv _ _ _ c1 r1 =>
  cases r1 with
  | @cons av _ _ _ a1 r2 =>
  cases r2
  cases a1 with
  | @tup aa avs _ aat aeach =>
  have la := dpAll_len aeach
  refine ⟨_, rfl, na, _, 1, _, rfl, rfl, nat, atI_at (by decide) rfl, aa, rfl, ⟨_, aat⟩, t1 Pc hPT, fun H2 b2 D hD => ?_⟩
  have e2 := tabbed_ext (t1 Pc hPT) b2
  have t2 := t1.tabbed b2
  have hHD : ∀ u, H2 D = some u → ∃ ps, u = .tbl ps := fun u hu => by rw [hD] at hu; cases hu
  refine lc_tup (K := K) (a := aa) (xs := avs) (fun j G' => ExtN H2 G' ∧ TabsG PT G' ∧ ∃ ws : List V, G' D = some (.lst ws) ∧ ws.length = j ∧ DpAll K G' ws (((as.take j).map fun d => flN 4 d 0 (-1)).map rowsD)) ⟨ext_same (same_new hD _), t2.same (same_new hD _), [], upd_same, rfl, .nil⟩ (fun j G' _ h => sqT_ext (e2.trans h.1) aat) (fun j v G' hv h => ?_) (fun G' h => ?_)
  · obtain ⟨eG, tG, ws, gD, lw, dw⟩ := h
    obtain ⟨d, hd, hdv⟩ := dpAll_get' (dp_exts (e2.trans eG) _ _ aeach) hv
    obtain ⟨hb1, hb2⟩ := G.act j d hd
    refine ⟨rfl, yesG ⟨_, rfl, v, d, _, _, 0, -1, rfl, hdv, hb1, hb2, fun R rws G1 s1 fR gR dR => ⟨R, rws, rfl, .inl ⟨SqL.of gR, fun p fp => ?_⟩⟩⟩⟩
    have np := same_new fp (.tup rws)
    have sp := s1.trans np
    have gD1 := sp _ _ gD
    have tp : tupOnlyAll (((as.take (j + 1)).map fun d => flN 4 d 0 (-1)).map rowsD) = true := tup_all fun z hz => by
      obtain ⟨rs, hrs, rfl⟩ := List.mem_map.mp hz
      obtain ⟨d', hd', rfl⟩ := List.mem_map.mp hrs
      obtain ⟨i, hi⟩ := List.getElem?_of_mem (List.mem_of_mem_take hd')
      exact rows_tup (flN_tup 4 (G.act i d' hi).1)
    refine ⟨ws, gD1, Nat.lt_of_lt_of_le (show _ < 1000 by have := (List.getElem?_eq_some_iff.mp hv).1; have := G.l4; omega) (small (Nat.le_refl _)), ext_upd (eG.trans (ext_same sp)) hHD, tabsG_upd (tG.same sp) gD1, ws ++ [.ref p], upd_same, by rw [List.length_append, lw]; rfl, ?_⟩
    refine dpAll_kt (kt_updL gD1) _ _ tp ?_
    rw [take_more hd, List.map_append, List.map_append]
    exact dpAll_app (dps_same sp dw) (.cons (.tup (SqT.of upd_same) (dps_same np dR)) .nil)
  · obtain ⟨eG, tG, ws, gD, lw, dw⟩ := h
    rw [la, List.take_length] at dw
    exact ⟨_, gD, fun p hp => q _ _ (e1.trans (e2.trans (eG.trans (ext_same (same_new hp _))))) (tG.same (same_new hp _)) (.tup (SqT.of upd_same) (dps_same (same_new hp _) dw))⟩
end
/-! charts -/
def ptsFrom (many : Int) : Int → List PyData → Bool
  | _, [] => true
  | least, .int i :: r => withinD least (many - 1) (.int i) && ptsFrom many (i + 1) r
  | _, _ :: _ => false
def pointsD (many : Int) : PyData → Bool
  | .tuple ds => ptsFrom many 0 ds
  | _ => false
def chartD : PyData → Bool
  | .tuple ds => ds.all (pointsD ds.length)
  | _ => false
theorem pts_drop {many least : Int} {ds : List PyData} {i : Nat} {d : PyData} (h : ds[i]? = some d) : ds.drop i = d :: ds.drop (i + 1) := by
  obtain ⟨q, e⟩ := List.getElem?_eq_some_iff.mp h
  rw [List.drop_eq_getElem_cons q, e]
section
variable {P : Program} {w : World} {K : PySem.W.Frag} {mg : Str → Option Value} {base : Heap} {f : Addr} {fd : FuncData}
def spPoints (K : PySem.W.Frag) : Sp := fun vs H Q _ => ∃ (x : V) (d : PyData) (many : Int), vs = [x, .int many] ∧ Dp K H x d ∧ Q (.bl (pointsD many d)) H
theorem scPoints : FnScope ["thing", "many", "least", "point"] ["thing", "many"] (defScope sPoints) := ⟨rfl, rfl, rfl, by decide +kernel, rfl, by decide +kernel, by decide +kernel⟩
theorem ok_points {k : Nat} (F : Fun K "are_points" "are_points" sPoints f fd) (T : Free mg) (cW : Cal P w K mg base "is_within" k ["thing", "least", "most"] (spWithin K)) : FnOk P w K mg base CX0 (k + 1) f fd ["thing", "many"] (spPoints K) := by
  refine F.ok scPoints (fun vs H Q E h => ?_) (fun cdv A outer s H vs Q E hr h => ?_)
  · obtain ⟨x, d, m, rfl, _⟩ := h
    rfl
  obtain ⟨x, d, m, rfl, hx, q⟩ := h
  refine ⟨_, pss_cons (ps_if (pt_not (pt_val (pe_callB call_isi rfl T.isi (by decide +kernel) (pa_cons (pv 0) (pa_cons (pe_bltn (v := .ty "tuple") rfl T.tuple (by decide +kernel) rfl) pa_nil))))) (pss_one (ps_ret pe_bl)) pss_nil)
    (pss_cons (ps_set (i := 2) scPoints.nd rfl (.inl rfl) pe_int)
    (pss_cons (ps_for PassesOwn.never rfl (pi_tup (pv 0)) (pg_name (i := 3) scPoints.nd rfl (.inl rfl))
      (pss_cons (ps_if (pt_not (pt_val (pe_cal cW hr rfl (pa_cons (pv 3) (pa_cons (pv 2) (pa_cons (pe_op op_sub (pv 1) pe_int) pa_nil)))))) (pss_one (ps_ret pe_bl)) pss_nil)
      (pss_one (ps_set (i := 2) scPoints.nd rfl (.inl rfl) (pe_op op_add (pv 3) pe_int)))))
    (pss_one (ps_ret pe_bl)))), ?_⟩
  refine ⟨_, rfl, x, _, _, _, _, rfl, .ty "tuple", ty_of hx, kit_tuple d, _, rfl, ?_⟩
  cases ht : tupleD d with
  | false =>
    refine ifT rfl ?_
    have e : pointsD m d = false := by cases d <;> first | rfl | cases ht
    rw [e] at q
    exact q
  | true =>
    obtain ⟨ds, rfl⟩ : ∃ ds, d = .tuple ds := by
      cases d <;> first | exact ⟨_, rfl⟩ | cases ht
    refine ifF rfl ?_
    have q : Q (.bl (ptsFrom m 0 ds)) H := q
    cases hx with
    | @tup a xs _ ht ha =>
      have lx := dpAll_len ha
      refine ⟨_, rfl, a, rfl, ⟨xs, ht⟩, ?_⟩
      refine for_tup (xs := xs) (fun i σ H' => ∃ (least : Int) (o3 : Option V), ptsFrom m 0 ds = ptsFrom m least (ds.drop i) ∧ σ = [some (.ref a), some (.int m), some (.int least), o3] ∧ H' = H)
        ⟨0, none, rfl, rfl, rfl⟩ (fun i σ H' _ h => by obtain ⟨_, _, _, _, rfl⟩ := h; exact ht) (fun i x σ H' hxi h => ?_) (fun σ H' h => ?_)
      · obtain ⟨least, o3, hp, rfl, rfl⟩ := h
        obtain ⟨d, hd, hdx⟩ := dpAll_get' ha hxi
        rw [pts_drop (many := 0) (least := 0) hd] at hp
        refine ⟨_, rfl, _, rfl, _, rfl, _, _, rfl, rfl, x, d, least, m - 1, rfl, hdx, _, rfl, ?_⟩
        cases hw : withinD least (m - 1) d with
        | false =>
          refine ifT rfl ?_
          have e : ptsFrom m 0 ds = false := by
            rw [hp]
            cases d <;> first | rfl | (unfold ptsFrom; rw [hw]; rfl)
          rw [e] at q
          exact q
        | true =>
          refine ifF rfl ?_
          cases d with
          | int n =>
            cases hdx
            refine ⟨_, rfl, _, _, rfl, rfl, n + 1, _, ?_, rfl, rfl⟩
            rw [hp]
            show (withinD least (m - 1) (.int n) && _) = _
            rw [hw, Bool.true_and]
          | none => cases hw
          | bool _ => cases hw
          | str _ => cases hw
          | list _ => cases hw
          | tuple _ => cases hw
          | dict _ => cases hw
      · obtain ⟨least, o3, hp, rfl, rfl⟩ := h
        rw [lx, List.drop_length] at hp
        rw [hp] at q
        exact q
def spIsChart (K : PySem.W.Frag) (PT : List Addr) : Sp := fun vs H Q _ => ∃ (x : V) (d : PyData), vs = [x] ∧ Dp K H x d ∧ TabsG PT H ∧ ∀ H', LamX.ExtN H H' → TabsG PT H' → Q (.bl (chartD d)) H'
theorem scIsChart : FnScope ["thing", "nexts"] ["thing"] (defScope sIsChart) := ⟨rfl, rfl, rfl, by decide +kernel, rfl, by decide +kernel, by decide +kernel⟩
theorem ok_isChart {k : Nat} {c Pc : Addr} {PT : List Addr} (F : Fun K "is_chart" "is_chart" sIsChart f fd) (hc : fd.code = .ref c) (TB : LamX.TabB base mg c Pc) (hPT : Pc ∈ PT) (T : Free mg) (hA : mg "all" = none) (cP : Cal P w K mg base "are_points" k ["thing", "many"] (spPoints K)) : FnOk P w K mg base CX0 (k + 2) f fd ["thing"] (spIsChart K PT) := by
  refine okC F hc scIsChart (fun vs H Q E h => ?_) (fun A outer s H vs Q E hr h => ?_)
  · obtain ⟨x, d, rfl, _⟩ := h
    rfl
  obtain ⟨x, d, rfl, hx, tb, q⟩ := h
  refine ⟨_, pss_one (ps_ret (pe_and (pe_callB call_isi rfl T.isi (by decide +kernel) (pa_cons (pv 0) (pa_cons (pe_bltn (v := .ty "tuple") rfl T.tuple (by decide +kernel) rfl) pa_nil)))
    (pe_one (pe_allG (own := [("nexts", 1)]) (wi := iTup K (tVar 0)) (g := gName 1) (tt := tYes) (te := tCall (spPoints K) [] E0 (tCons (tVar 1) (tCons (tCB (rLen K) (tCons (tVar 0) tNil)) tNil))) scIsChart.nd hr rfl hA (by decide +kernel) TB rfl
      (blkOk_by (own := [("nexts", 1)]) (N := ["thing", "nexts"]) (sc := defScope sIsChart) (by decide +kernel)) (by decide +kernel) rfl rfl (pi_tup (pv 0))
      (fun _ _ _ _ _ _ _ _ _ _ => pg_name (i := 1) scIsChart.nd rfl (Or.inl rfl)) (fun _ _ _ _ _ _ _ _ _ _ => pts_nil)
      (fun _ _ _ _ _ _ _ _ _ hr' => pe_cal cP hr' rfl (pa_cons (pv 1) (pa_cons (pe_callB call_len_seq rfl T.len PySem.boot_len (pa_cons (pv 0) pa_nil)) pa_nil))) (fun _ => rfl))))), ?_⟩
  refine ⟨_, rfl, x, _, _, _, _, rfl, .ty "tuple", ty_of hx, kit_tuple d, _, rfl, ?_⟩
  cases ht : tupleD d with
  | false =>
    have e : chartD d = false := by cases d <;> first | rfl | cases ht
    rw [e] at q
    exact ifF rfl (q H (LamX.ExtN.refl _) tb)
  | true =>
    obtain ⟨ds, rfl⟩ : ∃ ds, d = .tuple ds := by
      cases d <;> first | exact ⟨_, rfl⟩ | cases ht
    have q : ∀ H', LamX.ExtN H H' → TabsG PT H' → Q (.bl (ds.all (pointsD ds.length))) H' := q
    cases hx with
    | @tup a xs _ at_ each =>
      have lx := dpAll_len each
      refine ifT rfl ⟨_, rfl, a, rfl, ⟨xs, at_⟩, tb Pc hPT, fun H2 b2 => ?_⟩
      have e2 := tabbed_ext (tb Pc hPT) b2
      refine gx_tup (xs := xs) (fun i H' => LamX.ExtN H H' ∧ TabsG PT H' ∧ (ds.take i).all (pointsD ds.length) = true) ⟨e2, tb.tabbed b2, rfl⟩ (fun i H' _ h => ?_) (fun i y H' hy h => ?_) (fun H' h => ?_)
      · exact sqT_ext h.1 at_
      · obtain ⟨e3, t3, all3⟩ := h
        obtain ⟨d, hd, hdy⟩ := dpAll_get' each hy
        refine ⟨rfl, yesG ⟨_, rfl, _, rfl, a, xs, rfl, .inr (sqT_ext e3 at_), y, d, _, rfl, dp_ext e3 _ _ hdy, _, rfl, fun c => ⟨e3, t3, ?_⟩, fun c => ?_⟩⟩
        · rw [lx] at c
          rw [all_take hd, all3, c]
          rfl
        · rw [lx] at c
          have e : ds.all (pointsD ds.length) = false := by
            cases z : ds.all (pointsD ds.length) with
            | false => rfl
            | true => exact absurd (List.all_eq_true.mp z d (List.mem_of_getElem? hd)) c
          have r := q H' e3 t3
          rw [e] at r
          exact r
      · obtain ⟨e3, t3, all3⟩ := h
        rw [lx, List.take_length] at all3
        have r := q H' e3 t3
        rw [all3] at r
        exact r
end
theorem dp_ints {K : PySem.W.Frag} {H : Hp} : ∀ ns : List Int, DpAll K H (ns.map V.int) (ns.map PyData.int)
  | [] => .nil
  | n :: r => .cons (.int n) (dp_ints r)
section
variable {P : Program} {w : World} {K : PySem.W.Frag} {mg : Str → Option Value} {base : Heap} {f : Addr} {fd : FuncData}
def spCheckCh (K : PySem.W.Frag) (PT : List Addr) : Sp := fun vs H Q _ => ∃ (x : V) (d : PyData), vs = [x] ∧ Dp K H x d ∧ chartD d = true ∧ TabsG PT H ∧ ∀ H', LamX.ExtN H H' → TabsG PT H' → Q .non H'
theorem scCheckCh : FnScope ["chart"] ["chart"] (defScope sCheckCh) := ⟨rfl, rfl, rfl, by decide +kernel, rfl, by decide +kernel, by decide +kernel⟩
theorem ok_checkCh {k : Nat} {PT : List Addr} (F : Fun K "check_chart" "check_chart" sCheckCh f fd) (cI : Cal P w K mg base "is_chart" k ["thing"] (spIsChart K PT)) : FnOk P w K mg base CX0 (k + 1) f fd ["chart"] (spCheckCh K PT) := by
  refine F.ok scCheckCh (fun vs H Q E h => ?_) (fun cdv A outer s H vs Q E hr h => ?_)
  · obtain ⟨x, d, rfl, _⟩ := h
    rfl
  obtain ⟨x, d, rfl, hx, hc, tb, q⟩ := h
  refine ⟨_, pss_one (ps_if (pt_not (pt_val (pe_cal cI hr rfl (pa_cons (pv 0) pa_nil)))) pss_never pss_nil), ?_⟩
  refine ⟨_, rfl, x, d, rfl, hx, tb, fun H' e t => ⟨_, rfl, ?_⟩⟩
  rw [hc]
  exact ifF rfl (q H' e t)
end
/-! {k: v for .. in .. for .. in ..}, its keys tuples; no clause has an `if` -/
section
open PySem.Spec PyProof.Rows
theorem t_dictSet {X : Cx} {pins : List (Addr × Obj)} {ρ : L2.St} {G : Hp} {u : Shared} {E : Value → Shared → Prop} {D b : Addr} {kvs : List (List Key × V)} {k : List Key} {z : V} {zv : Value} {Q : Unit → Shared → Prop} (hu : X.A.units + 1 < cLine) (I : Inv X pins ρ G u) (hD : G D = some (.dT kvs)) (hb : G b = some (.tup (k.map kV))) (hl : kvs.length < sizeLine) (rz : RelV z zv)
    (h : ∀ u', Inv X pins ρ (upd G D (.dT (putK kvs k z))) u' → Q () u') : wpAny (model X.prog X.w) X.A (dictSet D (.ref b) zv) Q E u := by
  obtain ⟨small0, notSys, xs, pairs, holds⟩ := dt_of I.hok hD
  have l1 : xs.length ≤ sizeLine := by rw [← Paired.length pairs]; exact small0
  have l2 : (putK kvs k z).length ≤ sizeLine := by have := length_putK kvs k z; omega
  refine wpAny_dictSet_heap (knd := tupleKind (mixKind X.prog X.w)) (hsz := l1) (show X.A.units < cLine by omega) (key_of I.hok hb) holds fun h' holds' same => h _ ?_
  obtain ⟨o, es, ep, at_, x1, x2, x3, _, x5⟩ := holds'
  refine d_write I (by rw [hD]; exact True.intro) same ⟨o, at_⟩ ⟨l2, notSys, _, (pairs.put k hb rz).keeps fun c ys ec => ?_, o, es, ep, at_, x1, x2, x3, x5⟩
  rw [upd_ne (ne_of ec hD (fun q => nomatch q))]
  exact ec
section
variable {prog : Program} {w : World} {A : Around} {R : Result → Shared → Prop} {u : Shared} {kx vx ta ia tb ib : Expr} {sc : Scope} {pos : Pos} {it acc : Value} {env : Env}
abbrev dcE (kx vx ta ia tb ib : Expr) (sc : Scope) (pos : Pos) : Expr := .DictComp kx vx [⟨ta, ia, [], 0⟩, ⟨tb, ib, [], 0⟩] sc pos
theorem turnA : compTurn (dcE kx vx ta ia tb ib sc pos) 0 it acc env = (do
    standAt ia.pos
    match ← pyNext it with
    | none => pure (.done .next)
    | some v =>
      letOwnedTupleGo ta it v
      assign ta env v
      let x ← eval ib env
      standAt ib.pos
      let x ← foldedSetIterable ib env x
      let j ← holding [x] (pyIter x)
      let _ ← runOwn (.compStart (dcE kx vx ta ia tb ib sc pos) 1 j acc env) env
      again (.compLoop (dcE kx vx ta ia tb ib sc pos) 0 it acc env)) := by rfl
theorem turnB {D : Addr} : compTurn (dcE kx vx ta ia tb ib sc pos) 1 it (.ref D) env = (do
    standAt ib.pos
    match ← pyNext it with
    | none => pure (.done .next)
    | some v =>
      letOwnedTupleGo tb it v
      assign tb env v
      (do
        let kv ← eval kx env
        let vv ← holding [kv] (eval vx env)
        standAt { kx.pos with endLine := vx.pos.endLine, endCol := vx.pos.endCol }
        holding [kv, vv] (dictSet D kv vv))
      again (.compLoop (dcE kx vx ta ia tb ib sc pos) 1 it (.ref D) env)) := by rfl
abbrev noEx : Value → Shared → Prop := fun _ _ => False
theorem runsA (hf : ∀ x, foldedSetIterable ib env x = pure x) (I : Nat → Shared → Prop)
    (turn : ∀ n u, I n u → wpAny (model prog w) A (pyNext it) (fun r u1 => match r with
      | none => R (.ok .next) u1
      | some v => wpAny (model prog w) A (letOwnedTupleGo ta it v) (fun _ u2 => wpAny (model prog w) A (assign ta env v) (fun _ u3 =>
          wpAny (model prog w) A (eval ib env) (fun x u4 => wpAny (model prog w) A (pyIter x) (fun j u5 =>
            codeAny (model prog w) A (.compStart (dcE kx vx ta ia tb ib sc pos) 1 j acc env) (fun r u6 => (∃ f, r = .ok f) ∧ ∃ m, m < n ∧ I m u6) u5) noEx u4) noEx u3) noEx u2) noEx u1) noEx u)
    (n : Nat) (h : I n u) : codeAny (model prog w) A (.compLoop (dcE kx vx ta ia tb ib sc pos) 0 it acc env) R u := by
  refine codeAny_loop rfl I (fun n u hI => ?_) n h
  show wpAny _ A ((compTurn (dcE kx vx ta ia tb ib sc pos) 0 it acc env).onRaise (fun x => do noteFrame x env; theTreesLotGoes x)) _ _ u
  refine wpAny_noted ?_
  rw [turnA]
  refine wpAny_bind (wpAny_standAt (wpAny_bind (thnF (turn n u hI) fun r u1 h1 => ?_)))
  cases r with
  | none => exact wpAny_pure h1
  | some v =>
    refine wpAny_bind (thnF h1 fun _ u2 h2 => wpAny_bind (thnF h2 fun _ u3 h3 => wpAny_bind (thnF h3 fun x u4 h4 => ?_)))
    refine wpAny_bind (wpAny_standAt (wpAny_bind (wpAny_of_eq (hf x) (wpAny_bind (wpAny_holding (thnF h4 fun j u5 h5 => ?_))))))
    refine wpAny_bind (wpAny_runOwn ?_)
    rw [Around.mark_none]
    refine codeAny_mono h5 fun r u6 hr => ?_
    obtain ⟨⟨f, rfl⟩, hr⟩ := hr
    first
      | exact wpAny_pure ⟨rfl, hr⟩
      | exact wpAny_bind (wpAny_pure (wpAny_pure ⟨rfl, hr⟩))
theorem runsB {D : Addr} (I : Nat → Shared → Prop)
    (turn : ∀ n u, I n u → wpAny (model prog w) A (pyNext it) (fun r u1 => match r with
      | none => R (.ok .next) u1
      | some v => wpAny (model prog w) A (letOwnedTupleGo tb it v) (fun _ u2 => wpAny (model prog w) A (assign tb env v) (fun _ u3 =>
          wpAny (model prog w) A (eval kx env) (fun y u4 => wpAny (model prog w) A (eval vx env) (fun z u5 =>
            wpAny (model prog w) A (dictSet D y z) (fun _ u6 => ∃ m, m < n ∧ I m u6) noEx u5) noEx u4) noEx u3) noEx u2) noEx u1) noEx u)
    (n : Nat) (h : I n u) : codeAny (model prog w) A (.compLoop (dcE kx vx ta ia tb ib sc pos) 1 it (.ref D) env) R u := by
  refine codeAny_loop rfl I (fun n u hI => ?_) n h
  show wpAny _ A ((compTurn (dcE kx vx ta ia tb ib sc pos) 1 it (.ref D) env).onRaise (fun x => do noteFrame x env; theTreesLotGoes x)) _ _ u
  refine wpAny_noted ?_
  rw [turnB]
  refine wpAny_bind (wpAny_standAt (wpAny_bind (thnF (turn n u hI) fun r u1 h1 => ?_)))
  cases r with
  | none => exact wpAny_pure h1
  | some v =>
    refine wpAny_bind (thnF h1 fun _ u2 h2 => wpAny_bind (thnF h2 fun _ u3 h3 => ?_))
    exact wpAny_bind (wpAny_bind (thnF h3 fun y u4 h4 => wpAny_bind (wpAny_holding (thnF h4 fun z u5 h5 => wpAny_bind (wpAny_standAt (wpAny_holding (thnF h5 fun _ u6 h6 => wpAny_pure ⟨rfl, h6⟩)))))))
theorem startB (h0 : codeAny (model prog w) A (.compLoop (dcE kx vx ta ia tb ib sc pos) 1 it acc env) R u)
    (h : wpAny (model prog w) A (pyIter it) (fun j u' => codeAny (model prog w) A (.compLoop (dcE kx vx ta ia tb ib sc pos) 1 j acc env) R u') noEx u) :
    codeAny (model prog w) A (.compStart (dcE kx vx ta ia tb ib sc pos) 1 it acc env) R u := by
  refine codeAny_of_tree ?_
  show wpAny _ _ ((compStart (dcE kx vx ta ia tb ib sc pos) 1 it acc env).onRaise (fun x => do noteFrame x env; standAt theWindowsPlace)) _ _ u
  refine wpAny_notedAt ?_
  unfold compStart
  show wpAny _ _ (ask >>= _) _ _ u
  refine wpAny_bind (wpAny_askSetting (wpAny_ite ?_))
  split
  · first
      | exact wpAny_bind (wpAny_pure (wpAny_pure ⟨rfl, h0⟩))
      | exact wpAny_pure ⟨rfl, h0⟩
  · refine wpAny_bind (wpAny_rule ?_)
    show wpAny _ _ (standAt ib.pos >>= _) _ _ u
    exact wpAny_bind (wpAny_standAt (wpAny_bind (thnF h fun j u' h' => wpAny_pure ⟨rfl, h'⟩)))
end
/-- what is to be shown of it: W for the outer turns, W1 for the inner ones -/
def tDc2 (wa : TI) (ga : TG) (wb : TI) (gb : TG) (tk tv : TE) (vs vs1 : List Nat) : TE := fun ρ G Q => wa ρ G fun J G1 => ∀ D, G1 D = none → ∃ W : Nat → Nat → Hp → Prop, (∃ m, W 0 m (upd G1 D (.dT []))) ∧ ∀ i m G, W i m G →
  (J.stop i G ∧ Q (.ref D) G) ∨ (J.go i G ∧ ∃ Nx : Hp → Prop, (∀ G', Nx G' → ∃ m', m' < m ∧ W (i + 1) m' G') ∧ ∀ x G', J.yld i G x G' → ga x (wipe ρ vs) G' fun ρ2 G2 => wipe ρ2 vs = wipe ρ vs ∧ wb ρ2 G2 fun J1 G4 => ∃ W1 : Nat → Nat → Hp → Prop, (∃ m, W1 0 m G4) ∧ ∀ j k G, W1 j k G →
    (J1.stop j G ∧ Nx G) ∨ (J1.go j G ∧ ∃ Nx1 : Hp → Prop, (∀ G', Nx1 G' → ∃ k', k' < k ∧ W1 (j + 1) k' G') ∧ ∀ x G', J1.yld j G x G' → gb x (wipe ρ2 vs1) G' fun ρ3 G5 => wipe ρ3 vs1 = wipe ρ2 vs1 ∧ tk ρ3 G5 fun y G6 => tv ρ3 G6 fun z G7 =>
      ∃ (kvs : List (List Key × V)) (kk : List Key) (b : Addr), y = .ref b ∧ G7 b = some (.tup (kk.map kV)) ∧ G7 D = some (.dT kvs) ∧ kvs.length < sizeLine ∧ Nx1 (upd G7 D (.dT (putK kvs kk z)))))
theorem pe_dc2 {X : Cx} {kx vx ta ia tb ib : Expr} {sc : Scope} {own : List (Str × Nat)} {vs1 : List Nat} {pos : Pos} {wa wb : TI} {ga gb : TG} {tk tv : TE} (hc : X.calm = true) (hu : X.A.units + 1 < cLine) (hN : X.N.Nodup) (hi : PI X ta ia wa) (ok : BlkOk X.N X.env.scope sc own) (hv : ∀ i ∈ vs1, i ∈ own.map (·.2))
    (hga : ∀ (u : Shared) (G : Hp) (C : Addr) (cl : List (Str × Addr)) (fp : List Addr), PG (X.blk u G sc (compEnvC sc cl C X.env) fp) ta ga)
    (hib : ∀ (u : Shared) (G : Hp) (C : Addr) (cl : List (Str × Addr)) (fp : List Addr), PI (X.blk u G sc (compEnvC sc cl C X.env) fp) tb ib wb)
    (hgb : ∀ (u : Shared) (G : Hp) (C : Addr) (cl : List (Str × Addr)) (fp : List Addr), PG (X.blk u G sc (compEnvC sc cl C X.env) fp) tb gb)
    (hk : ∀ (u : Shared) (G : Hp) (C : Addr) (cl : List (Str × Addr)) (fp : List Addr), PE (X.blk u G sc (compEnvC sc cl C X.env) fp) kx tk)
    (hz : ∀ (u : Shared) (G : Hp) (C : Addr) (cl : List (Str × Addr)) (fp : List Addr), PE (X.blk u G sc (compEnvC sc cl C X.env) fp) vx tv)
    (hfa : ∀ x, foldedSetIterable ia X.env x = pure x := by intro _; rfl) (hfb : ∀ env x, foldedSetIterable ib env x = pure x := by intro _ _; rfl) :
    PE X (dcE kx vx ta ia tb ib sc pos) (tDc2 wa ga wb gb tk tv (own.map (·.2)) vs1) := by
  refine ⟨fun pins u ρ G Q I h => ?_⟩
  show wpAny _ _ (eval (.DictComp kx vx [⟨ta, ia, [], 0⟩, ⟨tb, ib, [], 0⟩] sc pos) X.env) _ _ u
  rw [arm_eval_DictComp]
  have hfree : ∀ y ∈ sc.names, y.2 = .free → ∃ c, X.env.cells.lookup y.1 = some c := fun y hy e => (ok.free y hy e).elim (fun q => I.ok.has _ (.inl q)) (fun q => I.ok.has _ (.inr q))
  refine wpAny_comprehension_free (use := none) rfl hfa (closure_ok hfree) ok.kind (fun y hy e => by rw [ok.uniq y hy, e])
    (thn (hi.run pins u ρ G _ I h) fun xv u1 hx => thn hx fun itv u2 h2 => ?_)
  obtain ⟨it, fp, tn, J, G2, rfl, I2, T, st2, f2, q⟩ := h2
  refine wpAny_newObj_type (newEnv_comp ?_)
  generalize hD : u2.heap.objs.size = D
  obtain ⟨W, ⟨m0, w0⟩, turn⟩ := q D (I2.hok.fresh (Nat.le_of_eq hD))
  generalize hu3 : ({ u2 with heap := u2.heap.push { cls := .type "dict", data := .dict #[] } } : Shared) = u3
  have hp3 : u3.heap = u2.heap.push { cls := .type "dict", data := .dict #[] } := by rw [← hu3]
  have I3 : Inv X pins ρ (upd G2 D (.dT [])) u3 := by
    rw [← hu3]
    refine I2.laid (t' := u2.toks) (fun b o e => Heap.get?_push_of_some _ e) (Nat.le_of_eq hD) ?_
    rw [← hD]
    exact dt_empty u2.heap I2.big
  have f3 : ∀ b ∈ fp, FpOk X pins (upd G2 D (.dT [])) b ∧ b < u3.heap.objs.size := fun b hb => by
    obtain ⟨o, e, _⟩ := T.obj _ _ st2 b hb
    have lt := Heap.lt_size e
    refine ⟨⟨?_, (f2 b hb).2⟩, by rw [hp3, Heap.size_push]; exact Nat.lt_succ_of_lt lt⟩
    rw [upd_ne (by rw [← hD]; exact Nat.ne_of_lt lt)]
    exact (f2 b hb).1
  have st3 : tn 0 u3.heap := T.keep _ _ _ st2 fun b _ o e => by rw [hp3]; exact Heap.get?_push_of_some _ e
  have I4 := block_start I3 ok hN f3
  generalize hcl : cellsFrom (u3.heap.objs.size + 1) sc.names (cloFrom X.env.cells sc.names []) = cl at I4 ⊢
  have pga := hga u3 (upd G2 D (.dT [])) u3.heap.objs.size cl fp
  have pib := hib u3 (upd G2 D (.dT [])) u3.heap.objs.size cl fp
  have pgb := hgb u3 (upd G2 D (.dT [])) u3.heap.objs.size cl fp
  have pk := hk u3 (upd G2 D (.dT [])) u3.heap.objs.size cl fp
  have pz := hz u3 (upd G2 D (.dT [])) u3.heap.objs.size cl fp
  have post : ∀ {u' : Shared} {G' : Hp} {m : Str → Option Value}, Inv X pins ρ G' u' → Q (.ref D) G' → u'.heap.Ns u3.heap.objs.size m → FpOk X pins G' u3.heap.objs.size → compPost (model X.prog X.w) X.A X.xe none (EP X pins ρ Q) (.ref D) u3.heap.objs.size (.ok .next) u' := fun {u' G' m} I' q hn f =>
    ⟨m, hn, fun h'' sb => ⟨.ref D, G', I'.turned (t' := u'.toks) (fun b o hb e => (sb.2 b hb).trans e) f.1 f.2.1 f.2.2.2.1 f.2.2.2.2.1 f.2.2.2.2.2, rfl, q⟩⟩
  show codeAny _ _ (.compStart (dcE kx vx ta ia tb ib sc pos) 0 (.ref it) (.ref D) (compEnvC sc cl u3.heap.objs.size X.env)) (compPost (model X.prog X.w) X.A X.xe none (EP X pins ρ Q) (.ref D) u3.heap.objs.size) { u3 with heap := pushCells (u3.heap.push { cls := .type "dict", data := .dict #[] }) sc.names }
  have nfp : ∀ b ∈ fp, (upd G2 D (.dT [])) b = none := fun b hb => (f3 b hb).1.1
  generalize hce : compEnvC sc cl u3.heap.objs.size X.env = ce at I4 pga pib pgb pk pz ⊢
  have cL : ce.locals = u3.heap.objs.size := by subst hce; rfl
  generalize hG3 : upd G2 D (.dT []) = G3 at I3 I4 pga pib pgb pk pz w0 nfp f3
  generalize hu4 : ({ u3 with heap := pushCells (u3.heap.push { cls := .type "dict", data := .dict #[] }) sc.names } : Shared) = u4 at I4 ⊢
  have st4 : tn 0 u4.heap := T.keep _ _ _ st3 fun b _ o e => by rw [← hu4]; exact pushCells_keeps _ _ _ _ (Heap.get?_push_of_some _ e)
  generalize hZ : X.blk u3 G3 sc ce fp = Z at I4 pga pib pgb pk pz
  have zp : Z.prog = X.prog := by rw [← hZ]
  have zw : Z.w = X.w := by rw [← hZ]
  have zA : Z.A = X.A := by rw [← hZ]
  have ze : Z.env = ce := by rw [← hZ]
  have zx : Z.xe = noEx := by rw [← hZ]
  have zc : Z.calm = true := by rw [← hZ]; exact hc
  have zK : Z.K = X.K := by rw [← hZ]
  have stat : ∀ {ρ' : L2.St} {G' : Hp} {u' : Shared}, Inv Z [] ρ' G' u' → (∀ b ∈ fp, G' b = none) → ∀ b ∈ fp, FpOk Z [] G' b := by
    subst hZ
    exact fun {ρ' G' u'} I' hn b hb => ⟨hn b hb, (I'.ok.exf b hb).1, I'.ok.exfs b hb, .inl hb, fun x c e => (I'.ok.exf b hb).2 x c e, fun p hp => absurd (show p ∈ ([] : List (Addr × Obj)) ++ [] from hp) (by simp)⟩
  have home : ∀ {G' : Hp} {u' : Shared}, Inv Z [] (wipe ρ (own.map (·.2))) G' u' → Q (.ref D) G' → compPost (model X.prog X.w) X.A X.xe none (EP X pins ρ Q) (.ref D) u3.heap.objs.size (.ok .next) u' := by
    subst hZ
    intro G' u' I' qq
    have I7 : Inv X pins ρ G' u' := I3.call' (ch := fp) I'.os I'.base I'.hok I'.bare fun b hb => ⟨(f3 b hb).1.2.2.2.1, (f3 b hb).1.2.1, (f3 b hb).1.2.2.2.2.1, (f3 b hb).1.2.2.2.2.2⟩
    have nC : G' ce.locals = none := I'.free
    obtain ⟨m, hn, _⟩ := I'.loc
    have hn : u'.heap.Ns ce.locals m := hn
    rw [cL] at nC hn
    exact post I7 qq hn (I3.fpOk (Nat.le_refl _) nC)
  have loop : codeAny (model X.prog X.w) X.A (.compLoop (dcE kx vx ta ia tb ib sc pos) 0 (.ref it) (.ref D) ce) (compPost (model X.prog X.w) X.A X.xe none (EP X pins ρ Q) (.ref D) u3.heap.objs.size) u4 := by
    refine runsA (hfb ce) (fun n u' => ∃ i G', Inv Z [] (wipe ρ (own.map (·.2))) G' u' ∧ tn i u'.heap ∧ (∀ b ∈ fp, G' b = none) ∧ W i n G') ?_ m0 ⟨0, G3, I4, st4, nfp, w0⟩
    rintro n u5 ⟨i, G5, I5, st5, n5, w5⟩
    rcases turn i n G5 w5 with ⟨stop, qq⟩ | ⟨go, Nx, hNx, step⟩
    · have td := T.done Z zp zw zK zc i [] u5 _ G5 noEx I5 (stat I5 n5) st5 stop
      rw [zA] at td
      refine thnF td fun r u6 ⟨hr, I6⟩ => ?_
      subst hr
      exact home I6 qq
    · have ti := T.item Z zp zw zK zc i [] u5 _ G5 noEx I5 (stat I5 n5) st5 go
      rw [zA] at ti
      refine thnF ti fun r u6 ⟨v6, hr, h6⟩ => ?_
      subst hr
      refine thnF h6 fun _ u7 ⟨x, G7, I7, r7, y7, st7, n7⟩ => ?_
      have ra := pga.run _ u7 _ G7 x v6 _ (I7.pinned (stat I7 n7) (T.obj _ _ st7)) r7 (step x G7 y7)
      rw [zp, zw, zA, ze, zx] at ra
      refine thnF ra fun _ u8 ⟨ρ8, G8, I8, hw8, q8⟩ => ?_
      have known : ∀ (j : Nat) v, (wipe ρ (own.map (·.2)))[j]? = some (some v) → (wipe ρ8 vs1)[j]? = some (some v) := fun j v e => by
        rw [← hw8] at e
        obtain ⟨e1, e2⟩ := wipe_some e
        rw [wipe_out fun z => e2 (hv j z)]
        exact e1
      have rb := pib.run _ u8 ρ8 G8 _ I8 q8
      rw [zp, zw, zA, ze, zx] at rb
      refine thnF rb fun xv u10 hx => thnF hx fun itv u11 h11 => ?_
      obtain ⟨it1, fp1, tn1, J1, G11, rfl, I11, T1, st11, f11, W1, ⟨m1, w1⟩, turn1⟩ := h11
      rw [zp, zw, zK] at T1
      have stat1 : ∀ {G' : Hp}, (∀ b ∈ fp1, G' b = none) → ∀ b ∈ fp1, FpOk Z ([] ++ pinsAt fp u7.heap) G' b := fun hn b hb => ⟨hn b hb, (f11 b hb).2⟩
      have inner : codeAny (model X.prog X.w) X.A (.compLoop (dcE kx vx ta ia tb ib sc pos) 1 (.ref it1) (.ref D) ce)
          (fun r u' => (∃ f, r = .ok f) ∧ ∃ m, m < n ∧ ∃ i G', Inv Z [] (wipe ρ (own.map (·.2))) G' u' ∧ tn i u'.heap ∧ (∀ b ∈ fp, G' b = none) ∧ W i m G') u11 := by
        refine runsB (fun k u' => ∃ j G', Inv Z ([] ++ pinsAt fp u7.heap) (wipe ρ8 vs1) G' u' ∧ tn1 j u'.heap ∧ (∀ b ∈ fp1, G' b = none) ∧ W1 j k G') ?_ m1 ⟨0, G11, I11.weak (wipe_length _ _) (fun j v e => (wipe_some e).1), st11, fun b hb => (f11 b hb).1, w1⟩
        rintro k u12 ⟨j, G12, I12, st12, n12, w12⟩
        rcases turn1 j k G12 w12 with ⟨stop1, nx1⟩ | ⟨go1, Nx1, hNx1, step1⟩
        · have td := T1.done Z zp zw zK zc j _ u12 (wipe ρ8 vs1) G12 noEx I12 (stat1 n12) st12 stop1
          rw [zA] at td
          refine thnF td fun r u13 ⟨hr, I13⟩ => ?_
          subst hr
          obtain ⟨m', hm, w'⟩ := hNx _ nx1
          have pin' : ∀ b ∈ fp, ∀ o, u7.heap.get? b = some o → u13.heap.get? b = some o ∧ G12 b = none := fun b hb o e =>
            let z := I13.pin (b, o) (List.mem_append_right _ (List.mem_append_right _ (mem_pinsAt hb e)))
            ⟨z.1, z.2.1⟩
          refine ⟨⟨_, rfl⟩, m', hm, i + 1, G12, (I13.unpinned (pins := [])).weak (by rw [← hw8, wipe_length, wipe_length]) known, T.keep _ _ _ st7 fun b hb o e => (pin' b hb o e).1, fun b hb => ?_, w'⟩
          obtain ⟨o, e, _⟩ := T.obj _ _ st7 b hb
          exact (pin' b hb o e).2
        · have ti := T1.item Z zp zw zK zc j _ u12 (wipe ρ8 vs1) G12 noEx I12 (stat1 n12) st12 go1
          rw [zA] at ti
          refine thnF ti fun r u13 ⟨v13, hr, h13⟩ => ?_
          subst hr
          refine thnF h13 fun _ u14 ⟨x1, G14, I14, r14, y14, st14, n14⟩ => ?_
          have rg := pgb.run _ u14 (wipe ρ8 vs1) G14 x1 v13 _ (I14.pinned (stat1 n14) (T1.obj _ _ st14)) r14 (step1 x1 G14 y14)
          rw [zp, zw, zA, ze, zx] at rg
          refine thnF rg fun _ u15 ⟨ρ15, G15, I15, hw15, q15⟩ => ?_
          have rk := pk.run _ u15 ρ15 G15 _ I15 q15
          rw [zp, zw, zA, ze, zx] at rk
          refine thnF rk fun yv u16 ⟨y, G16, I16, r16, q16⟩ => ?_
          have rz := pz.run _ u16 ρ15 G16 _ I16 q16
          rw [zp, zw, zA, ze, zx] at rz
          refine thnF rz fun zv u17 ⟨z, G17, I17, r17, kvs, kk, b, ey, hb, hD17, hl, nx⟩ => ?_
          subst ey
          cases r16
          have rs := t_dictSet (E := noEx) (Q := fun _ u6 => ∃ m, m < k ∧ ∃ j G', Inv Z ([] ++ pinsAt fp u7.heap) (wipe ρ8 vs1) G' u6 ∧ tn1 j u6.heap ∧ (∀ b ∈ fp1, G' b = none) ∧ W1 j m G') (by rw [zA]; exact hu) I17 hD17 hb hl r17 fun u18 I18 => by
            obtain ⟨k', hk', w'⟩ := hNx1 _ nx
            have pin' : ∀ b ∈ fp1, ∀ o, u14.heap.get? b = some o → u18.heap.get? b = some o ∧ (upd G17 D (.dT (putK kvs kk z))) b = none := fun b hb o e =>
              let z := I18.pin (b, o) (List.mem_append_right _ (List.mem_append_right _ (mem_pinsAt hb e)))
              ⟨z.1, z.2.1⟩
            refine ⟨k', hk', j + 1, _, I18.unpinned.weak (by rw [← hw15, wipe_length]) (fun j v e => by rw [← hw15] at e; exact (wipe_some e).1), T1.keep _ _ _ st14 fun b hb o e => (pin' b hb o e).1, fun b hb => ?_, w'⟩
            obtain ⟨o, e, _⟩ := T1.obj _ _ st14 b hb
            exact (pin' b hb o e).2
          rw [zp, zw, zA] at rs
          exact rs
      exact startB inner (T1.self X.A 0 _ _ _ st11 inner)
  exact codeAny_compStart_dict loop (T.self X.A 0 _ _ _ st4 loop)
end
/-! set(t), t a tuple of ints -/
section
open PySem.Spec PyProof.Rows
variable {X : Cx}
def rSetTI (K : PySem.W.Frag) (w : World) : List V → Hp → VK → Prop := fun xs H Q => ∃ (a : Addr) (ns : List Int), xs = [.ref a] ∧ SqT K H a (ns.map V.int) ∧ ns.length < 60 ∧ ∀ (p : Addr) (c : Nat), c ≤ ns.length → H p = none → Q (.ref p) (upd H p (SetO w p (fun j => decide (j ∈ ns)) c))
theorem cr_setTI (hc : X.calm = true) : CallR X (.type "set") (rSetTI X.K X.w) := by
  intro pins s σ H vs us Q I r h
  obtain ⟨a, ns, rfl, ha, hl, q⟩ := h
  rw [Vals.ref1 r]
  obtain ⟨its, rv, ⟨o1, g1, c1, n1, d1⟩, hz⟩ := I.tuple ha
  refine call_set_tupI ns (I.ok.hd hc) ⟨o1, g1, c1, n1, d1⟩ (by simpa using intsAre_of rv) (by unfold scanBound; omega) fun h' tk c R hc' hk => ?_
  exact ⟨.ref _, _, I.laid (t' := tk) (o := SetO X.w s.heap.objs.size (fun j => decide (j ∈ ns)) c) hk (Nat.le_refl _) (setO_new R), rfl, q _ c hc' (I.hok.fresh (Nat.le_refl _))⟩
end
/-! _law_is_chart -/
theorem eqv_ints : ∀ (ns ms : List Int), PyData.eqv (.list (ns.map .int)) (.list (ms.map .int)) = decide (ns = ms)
  | [], [] => by simp [PyData.eqv, PyData.eqvAll]
  | [], m :: ms => by simp [PyData.eqv, PyData.eqvAll]
  | n :: ns, [] => by simp [PyData.eqv, PyData.eqvAll]
  | n :: ns, m :: ms => by
    have ih := eqv_ints ns ms
    simp only [PyData.eqv] at ih
    simp only [List.map_cons, PyData.eqv, PyData.eqvAll, ih, List.cons.injEq]
    by_cases h : n = m <;> simp [h]
theorem shaped_ints (ns : List Int) : SeqAt.shaped (.list (ns.map .int)) = true := by
  show ((PyData.list (ns.map .int)).canLay0 && decide ((PyData.list (ns.map .int)).depth ≤ 64)) = true
  have h1 : ∀ ns : List Int, PyData.canLayAll0 (ns.map .int) = true := fun ns => by
    induction ns with
    | nil => simp [PyData.canLayAll0]
    | cons n r ih => simp [PyData.canLayAll0, PyData.canLay0, ih]
  have h2 : PyData.depthAll (ns.map .int) ≤ 0 := depth_all fun z hz => by
    obtain ⟨n, _, rfl⟩ := List.mem_map.mp hz
    simp [PyData.depth]
  rw [Bool.and_eq_true]
  exact ⟨by simp only [PyData.canLay0]; exact h1 ns, decide_eq_true (by rw [depth_lst]; omega)⟩
/-- strictly increasing -/
theorem sorted_same {ns ms : List Int} (hs : ms.Pairwise (· < ·)) (hm : ∀ k, k ∈ ms ↔ decide (k ∈ ns) = true) : decide (ns = ms) = decide (ns.Pairwise (· < ·)) := by
  by_cases h : ns = ms
  · rw [decide_eq_true h, h, decide_eq_true hs]
  · rw [decide_eq_false h]
    refine (decide_eq_false fun hp => h ?_).symm
    have ex : ∀ k, k ∈ ns ↔ k ∈ ms := fun k => by rw [hm k, decide_eq_true_eq]
    clear h hm
    induction ns generalizing ms with
    | nil =>
      cases ms with
      | nil => rfl
      | cons m r => exact absurd ((ex m).mpr List.mem_cons_self) (by simp)
    | cons n r ih =>
      cases ms with
      | nil => exact absurd ((ex n).mp List.mem_cons_self) (by simp)
      | cons m t =>
        obtain ⟨a1, a2⟩ := List.pairwise_cons.mp hp
        obtain ⟨b1, b2⟩ := List.pairwise_cons.mp hs
        have e : n = m := by
          have h1 := (ex n).mp List.mem_cons_self
          have h2 := (ex m).mpr List.mem_cons_self
          rcases List.mem_cons.mp h1 with h1 | h1
          · exact h1
          · rcases List.mem_cons.mp h2 with h2 | h2
            · exact h2.symm
            · have := a1 m h2
              have := b1 n h1
              omega
        subst e
        rw [ih b2 a2 fun k => ⟨fun hk => ?_, fun hk => ?_⟩]
        · rcases List.mem_cons.mp ((ex k).mp (List.mem_cons_of_mem _ hk)) with z | z
          · have := a1 k hk
            omega
          · exact z
        · rcases List.mem_cons.mp ((ex k).mpr (List.mem_cons_of_mem _ hk)) with z | z
          · have := b1 k hk
            omega
          · exact z
/-- points, told as the law tells them -/
theorem pts_law {many : Int} : ∀ (ns : List Int) (least : Int), ptsFrom many least (ns.map .int) = true ↔ (ns.Pairwise (· < ·) ∧ ∀ n ∈ ns, least ≤ n ∧ n < many)
  | [], least => by simp [ptsFrom]
  | n :: r, least => by
    show (withinD least (many - 1) (.int n) && ptsFrom many (n + 1) (r.map .int)) = true ↔ _
    rw [Bool.and_eq_true, pts_law r (n + 1), List.pairwise_cons]
    simp only [withinD, Bool.and_eq_true, decide_eq_true_eq]
    constructor
    · rintro ⟨⟨h1, h2⟩, h3, h4⟩
      refine ⟨⟨fun a ha => by have := h4 a ha; omega, h3⟩, fun a ha => ?_⟩
      rcases List.mem_cons.mp ha with rfl | ha
      · omega
      · have := h4 a ha
        omega
    · rintro ⟨⟨h1, h2⟩, h3⟩
      have := h3 n List.mem_cons_self
      exact ⟨⟨by omega, by omega⟩, h2, fun a ha => by have := h1 a ha; have := h3 a (List.mem_cons_of_mem _ ha); omega⟩
theorem pts_not {many : Int} : ∀ (ds : List PyData) (least : Int), (∃ d ∈ ds, wholeD d = false) → ptsFrom many least ds = false
  | [], _, h => by obtain ⟨d, hd, _⟩ := h; cases hd
  | d :: r, least, h => by
    cases d with
    | int i =>
      show (withinD least (many - 1) (.int i) && ptsFrom many (i + 1) r) = false
      rw [pts_not r (i + 1) ?_, Bool.and_false]
      obtain ⟨d, hd, hw⟩ := h
      rcases List.mem_cons.mp hd with rfl | hd
      · cases hw
      · exact ⟨d, hd, hw⟩
    | none => rfl
    | bool _ => rfl
    | str _ => rfl
    | list _ => rfl
    | tuple _ => rfl
    | dict _ => rfl
theorem whole_ints : ∀ (ds : List PyData), (∀ d ∈ ds, wholeD d = true) → ∃ ns : List Int, ds = ns.map .int
  | [], _ => ⟨[], rfl⟩
  | d :: r, h => by
    obtain ⟨ns, e⟩ := whole_ints r fun z hz => h z (List.mem_cons_of_mem _ hz)
    have hw := h d List.mem_cons_self
    cases d with
    | int i => exact ⟨i :: ns, by rw [e]; rfl⟩
    | none => cases hw
    | bool _ => cases hw
    | str _ => cases hw
    | list _ => cases hw
    | tuple _ => cases hw
    | dict _ => cases hw
theorem ints_dp {K : PySem.W.Frag} {H : Hp} : ∀ (ns : List Int) (ys : List V), DpAll K H ys (ns.map .int) → ys = ns.map V.int
  | [], ys, h => by cases h; rfl
  | n :: r, ys, h => by
    cases h with
    | cons h1 h2 =>
      cases h1
      rw [ints_dp r _ h2]
      rfl
/-! charts by their rows; is_walk -/
def chD (rows : List (List Int)) : PyData := .tuple (rows.map fun ns => .tuple (ns.map .int))
structure RwOk (rows : List (List Int)) : Prop where
  len : rows.length ≤ 30
  row : ∀ ns ∈ rows, ns.length ≤ rows.length ∧ ∀ i ∈ ns, 0 ≤ i ∧ i < (rows.length : Int)
def rowAt (rows : List (List Int)) (a : Int) : List Int := rows.getD a.toNat []
def linkB (rows : List (List Int)) (a b : Int) : Bool := decide (0 ≤ a ∧ b ∈ rowAt rows a)
def intAt (es : List PyData) (k : Nat) : Int := match es[k]? with
  | some (.int i) => i
  | _ => 0
def walkL (rows : List (List Int)) (es : List PyData) : Bool := !es.isEmpty && (es.all (withinD 0 ((rows.length : Int) - 1)) && (List.range (es.length - 1)).all fun k => linkB rows (intAt es k) (intAt es (k + 1)))
def walkD (rows : List (List Int)) : PyData → Bool
  | .tuple es => walkL rows es
  | _ => false
theorem intAt_of {es : List PyData} {k : Nat} {i : Int} (h : es[k]? = some (.int i)) : intAt es k = i := by unfold intAt; rw [h]
theorem ext_none {H0 H : Hp} {D : Addr} (e : LamX.ExtN H0 H) (h : H D = none) : ∀ u, H0 D = some u → ∃ ps, u = .tbl ps := fun u hu => by
  cases u with
  | tbl ps => exact ⟨ps, rfl⟩
  | _ => exact absurd ((e D _ hu fun ps z => by cases z).symm.trans h) (by simp)
theorem tabs_updD {PT : List Addr} {H : Hp} {D : Addr} {o : HO} (t : TabsG PT H) (h : ∀ ps, H D ≠ some (.tbl ps)) : TabsG PT (upd H D o) := fun P hP => by
  obtain ⟨ps, h1, ok⟩ := t P hP
  exact ⟨ps, by rw [upd_ne (fun z => h ps (by rw [← z]; exact h1))]; exact h1, ok⟩
/-- a generator over a range -/
theorem gx_rng {lo : Int} {n : Nat} {g : TG} {tt : TT} {te : TE} {vs : List Nat} {σ0 : L2.St} {e : Bool} {Qe Qn : Hp → Prop} {H : Hp} (Pv : Nat → Hp → Prop) (h0 : Pv 0 H)
    (hs : ∀ i H, i < n → Pv i H → g (.int (lo + i)) σ0 H fun σ2 H2 => wipe σ2 vs = σ0 ∧ tt σ2 H2 fun b H3 => if b = true then te σ2 H3 fun y H4 => ∃ c, y = .bl c ∧ (c = e → Pv (i + 1) H4) ∧ (c ≠ e → Qn H4) else Pv (i + 1) H3) (hd : ∀ H, Pv n H → Qe H) :
    ∃ W : Nat → Nat → Hp → Prop, (∃ m, W 0 m H) ∧ gxTurn (Itr lo n) g tt te vs σ0 e Qe Qn W := by
  refine ⟨fun i m H => m = n - i ∧ i ≤ n ∧ Pv i H, ⟨n, by simp, Nat.zero_le _, h0⟩, ?_⟩
  rintro i m H ⟨rfl, hi, p⟩
  by_cases hlt : i < n
  · refine .inr ⟨hlt, Pv (i + 1), fun H' p' => ⟨n - (i + 1), by omega, rfl, hlt, p'⟩, fun x H' y => ?_⟩
    obtain ⟨rfl, rfl⟩ := y
    exact hs i _ hlt p
  · have e : i = n := by omega
    subst e
    exact .inl ⟨Nat.le_refl _, hd H p⟩
/-- the inner turns of a dict comprehension -/
abbrev dcIn (J1 : It) (gb : TG) (tk tv : TE) (vs1 : List Nat) (D : Addr) (ρ2 : L2.St) (Nx : Hp → Prop) (G4 : Hp) : Prop := ∃ W1 : Nat → Nat → Hp → Prop, (∃ m, W1 0 m G4) ∧ ∀ j k G, W1 j k G →
  (J1.stop j G ∧ Nx G) ∨ (J1.go j G ∧ ∃ Nx1 : Hp → Prop, (∀ G', Nx1 G' → ∃ k', k' < k ∧ W1 (j + 1) k' G') ∧ ∀ x G', J1.yld j G x G' → gb x (wipe ρ2 vs1) G' fun ρ3 G5 => wipe ρ3 vs1 = wipe ρ2 vs1 ∧ tk ρ3 G5 fun y G6 => tv ρ3 G6 fun z G7 =>
    ∃ (kvs : List (List Key × V)) (kk : List Key) (b : Addr), y = .ref b ∧ G7 b = some (.tup (kk.map kV)) ∧ G7 D = some (.dT kvs) ∧ kvs.length < sizeLine ∧ Nx1 (upd G7 D (.dT (putK kvs kk z))))
theorem dcIn_tup {K : PySem.W.Frag} {a : Addr} {xs : List V} {gb : TG} {tk tv : TE} {vs1 : List Nat} {D : Addr} {ρ2 : L2.St} {Nx : Hp → Prop} {G4 : Hp} (Pv : Nat → Hp → Prop) (h0 : Pv 0 G4) (hl : ∀ i G, i ≤ xs.length → Pv i G → SqT K G a xs)
    (hs : ∀ i x G, xs[i]? = some x → Pv i G → gb x (wipe ρ2 vs1) G fun ρ3 G5 => wipe ρ3 vs1 = wipe ρ2 vs1 ∧ tk ρ3 G5 fun y G6 => tv ρ3 G6 fun z G7 =>
      ∃ (kvs : List (List Key × V)) (kk : List Key) (b : Addr), y = .ref b ∧ G7 b = some (.tup (kk.map kV)) ∧ G7 D = some (.dT kvs) ∧ kvs.length < sizeLine ∧ Pv (i + 1) (upd G7 D (.dT (putK kvs kk z)))) (hd : ∀ G, Pv xs.length G → Nx G) :
    dcIn (Itt K a) gb tk tv vs1 D ρ2 Nx G4 := by
  refine ⟨fun i m G => m = xs.length - i ∧ i ≤ xs.length ∧ Pv i G, ⟨xs.length, by simp, Nat.zero_le _, h0⟩, ?_⟩
  rintro i m G ⟨rfl, hi, p⟩
  have q := hl i G hi p
  by_cases hlt : i < xs.length
  · refine .inr ⟨⟨xs, xs[i], q, by simp [hlt]⟩, Pv (i + 1), fun G' p' => ⟨xs.length - (i + 1), by omega, rfl, hlt, p'⟩, fun x G' y => ?_⟩
    obtain ⟨e, y⟩ := y
    subst e
    exact hs i x _ (y xs q) p
  · have e : i = xs.length := by omega
    subst e
    exact .inl ⟨⟨xs, q, Nat.le_refl _⟩, hd G p⟩
/-- the outer ones, over a range -/
theorem dc2_rng {lo : Int} {n : Nat} {ga : TG} {wb : TI} {gb : TG} {tk tv : TE} {vs vs1 : List Nat} {ρ : L2.St} {D : Addr} {Qd : Hp → Prop} {G1 : Hp} (Pv : Nat → Hp → Prop) (h0 : Pv 0 G1)
    (hs : ∀ i G, i < n → Pv i G → ga (.int (lo + i)) (wipe ρ vs) G fun ρ2 G2 => wipe ρ2 vs = wipe ρ vs ∧ wb ρ2 G2 fun J1 G4 => dcIn J1 gb tk tv vs1 D ρ2 (Pv (i + 1)) G4) (hd : ∀ G, Pv n G → Qd G) :
    ∃ W : Nat → Nat → Hp → Prop, (∃ m, W 0 m G1) ∧ ∀ i m G, W i m G →
      ((Itr lo n).stop i G ∧ Qd G) ∨ ((Itr lo n).go i G ∧ ∃ Nx : Hp → Prop, (∀ G', Nx G' → ∃ m', m' < m ∧ W (i + 1) m' G') ∧ ∀ x G', (Itr lo n).yld i G x G' → ga x (wipe ρ vs) G' fun ρ2 G2 => wipe ρ2 vs = wipe ρ vs ∧ wb ρ2 G2 fun J1 G4 => dcIn J1 gb tk tv vs1 D ρ2 Nx G4) := by
  refine ⟨fun i m G => m = n - i ∧ i ≤ n ∧ Pv i G, ⟨n, by simp, Nat.zero_le _, h0⟩, ?_⟩
  rintro i m G ⟨rfl, hi, p⟩
  by_cases hlt : i < n
  · refine .inr ⟨hlt, Pv (i + 1), fun G' p' => ⟨n - (i + 1), by omega, rfl, hlt, p'⟩, fun x G' y => ?_⟩
    obtain ⟨rfl, rfl⟩ := y
    exact hs i _ hlt p
  · have e : i = n := by omega
    subst e
    exact .inl ⟨Nat.le_refl _, hd G p⟩
theorem rowAt_nat {rows : List (List Int)} {i : Nat} {ns : List Int} (h : rows[i]? = some ns) : rowAt rows (i : Int) = ns := by
  unfold rowAt
  rw [show ((i : Int)).toNat = i by omega, List.getD_eq_getElem?_getD, h]
  rfl
section
variable {P : Program} {w : World} {K : PySem.W.Frag} {mg : Str → Option Value} {base : Heap} {f : Addr} {fd : FuncData}
theorem ch_row {H : Hp} {xs : List V} {rows : List (List Int)} {i : Nat} {ns : List Int} (each : DpAll K H xs (rows.map fun ns => .tuple (ns.map .int))) (h : rows[i]? = some ns) : ∃ b, xs[i]? = some (.ref b) ∧ SqT K H b (ns.map V.int) := by
  obtain ⟨x, hx, hd⟩ := dpAll_get each (show (rows.map fun ns => PyData.tuple (ns.map .int))[i]? = some (.tuple (ns.map .int)) by rw [List.getElem?_map, h]; rfl)
  cases hd with
  | @tup b ys _ at_ e =>
    rw [ints_dp ns ys e] at at_
    exact ⟨b, hx, at_⟩
def spIsWalk (K : PySem.W.Frag) (PT : List Addr) : Sp := fun vs H Q _ => ∃ (x y : V) (rows : List (List Int)) (d : PyData), vs = [x, y] ∧ Dp K H x (chD rows) ∧ RwOk rows ∧ Dp K H y d ∧ (∀ es, d = .tuple es → es.length < 1000) ∧ TabsG PT H ∧ ∀ H', LamX.ExtN H H' → TabsG PT H' → Q (.bl (walkD rows d)) H'
end
theorem atI_last {α : Type} {xs : List α} {v : α} (h0 : 0 < xs.length) (h : xs[xs.length - 1]? = some v) : atI xs (-1) = some v := by
  unfold atI ixN
  rw [if_neg (by decide), if_pos (by omega)]
  show xs[_]? = _
  rw [show ((-1 : Int) + (xs.length : Int)).toNat = xs.length - 1 by omega]
  exact h
def toI : PyData → Int
  | .int i => i
  | _ => 0
section
variable {P : Program} {w : World} {K : PySem.W.Frag} {mg : Str → Option Value} {base : Heap} {f : Addr} {fd : FuncData}
theorem ints_at {H : Hp} {v : V} {ns : List Int} (h : Dp K H v (.tuple (ns.map .int))) : ∃ a, v = .ref a ∧ SqT K H a (ns.map V.int) := by
  cases h with
  | @tup a ys _ at_ e =>
    rw [ints_dp ns ys e] at at_
    exact ⟨a, rfl, at_⟩
theorem pts_ints {n : Int} {es : List PyData} (h : pointsD n (.tuple es) = true) : es = (es.map toI).map .int ∧ ∀ i ∈ es.map toI, 0 ≤ i ∧ i < n := by
  have h : ptsFrom n 0 es = true := h
  have hw : ∀ d ∈ es, wholeD d = true := fun d hd => by
    cases z : wholeD d with
    | true => rfl
    | false => rw [pts_not es 0 ⟨d, hd, z⟩] at h; cases h
  obtain ⟨ns, rfl⟩ := whole_ints es hw
  have e : (ns.map PyData.int).map toI = ns := by
    rw [List.map_map]
    exact List.map_id' _
  rw [e]
  exact ⟨rfl, fun i hi => ((pts_law ns 0).mp h).2 i hi⟩
end
section
variable {X : Cx}
def rEqE (K : PySem.W.Frag) : R2 := fun x y H Q => ∃ a b xs, x = .ref a ∧ y = .ref b ∧ SqT K H a xs ∧ SqT K H b [] ∧ Q (.bl xs.isEmpty) H
theorem op_eqE (hu : X.A.units + 64 < cLine) : OpR X (compareOp .Eq) (rEqE X.K) := by
  intro pins s σ H x y v u Q I rx ry h
  obtain ⟨a, b, xs, rfl, rfl, ha, hb, q⟩ := h
  cases rx
  cases ry
  obtain ⟨its, r1, ⟨o1, g1, c1, n1, d1⟩, _⟩ := I.tuple ha
  obtain ⟨its2, r2, ⟨o2, g2, c2, n2, d2⟩, _⟩ := I.tuple hb
  cases r2
  refine SeqAt.RcAt.tuples (e := fun _ => true) ⟨o1, g1, c1, n1, d1⟩ ⟨o2, g2, c2, n2, d2⟩ (by omega) (fun j _ h2 => absurd h2 (by simp)) X.prog X.w _ _ ⟨.bl xs.isEmpty, H, I, ?_, q⟩
  cases xs with
  | nil =>
    cases r1
    rfl
  | cons z zs =>
    cases r1 with
    | cons _ _ => rfl
end
theorem ne_nil {K : PySem.W.Frag} {te0 : TE} {a : Addr} {xs : List V} {j : Nat} {tt : TT} {σ : L2.St} {H : Hp} {R : Bool → Hp → Prop} (p : Nat → Bool) (h0 : ∀ Q : VK, Q (.ref a) H → te0 σ H Q) (at_ : SqT K H a xs) (hl : xs.length < 1000) (hj : j < σ.length)
    (hs : ∀ (i : Nat) (x : V) (H' : Hp) (R' : Bool → Hp → Prop), xs[i]? = some x → Same H H' → R' (p i) H' → tt (σ.set j (some x)) H' R')
    (hd : ∀ H', Same H H' → R (!(List.range xs.length).all fun i => !p i) H') : tTest (tOp (rNeLE K) (tLc (iTup K te0) (gName j) tt (tVar j) [j]) (tLst tNil)) σ H R := by
  refine h0 _ ⟨a, rfl, ⟨xs, at_⟩, fun D hD => ?_⟩
  have w1 : wipe σ [j] = σ.set j none := rfl
  have w2 : ∀ x, (wipe σ [j]).set j (some x) = σ.set j (some x) := fun x => by rw [w1, List.set_set]
  refine lc_tup (xs := xs) (fun i H' => Same H H' ∧ ∃ zs : List V, H' D = some (.lst zs) ∧ zs.length ≤ i ∧ zs.isEmpty = (List.range i).all fun i => !p i) ⟨same_new hD _, [], upd_same, Nat.le_refl _, rfl⟩ (fun i H' _ h => sqT_same h.1 at_) (fun i x H' hx h => ?_) (fun H' h => ?_)
  · obtain ⟨sm, zs, hz, lz, ez⟩ := h
    have hi := (List.getElem?_eq_some_iff.mp hx).1
    show wipe ((wipe σ [j]).set j (some x)) [j] = wipe σ [j] ∧ _
    rw [w2]
    refine ⟨by show (σ.set j (some x)).set j none = σ.set j none; rw [List.set_set], hs i x H' _ hx sm ?_⟩
    have er : (List.range (i + 1)).all (fun i => !p i) = ((List.range i).all (fun i => !p i) && !p i) := by
      rw [List.range_succ, List.all_append, List.all_cons, List.all_nil, Bool.and_true]
    cases hp : p i with
    | true =>
      refine ifT rfl ⟨x, by rw [List.getElem?_set_self hj], zs, hz, Nat.lt_of_lt_of_le (show zs.length < 1000 by omega) (small (Nat.le_refl _)), fun b' o hb' => by rw [upd_ne (ne_of_none hb' hD)]; exact sm b' o hb', zs ++ [x], upd_same, by rw [List.length_append]; show _ + 1 ≤ _; omega, ?_⟩
      rw [er, hp, Bool.not_true, Bool.and_false]
      cases zs <;> rfl
    | false => exact ifF rfl ⟨sm, zs, hz, by omega, by rw [er, hp, Bool.not_false, Bool.and_true]; exact ez⟩
  · obtain ⟨sm, zs, hz, lz, ez⟩ := h
    refine ⟨small (by show 0 ≤ 1000; decide), fun p3 h3 => ?_⟩
    have n3 := same_new h3 (.lst [])
    refine ⟨D, p3, zs, rfl, rfl, SqL.of (n3 _ _ hz), SqL.of upd_same, _, rfl, ?_⟩
    rw [ez]
    exact hd _ (sm.trans n3)
theorem range_all {α : Type} (l : List α) (f : Nat → Bool) (g : α → Bool) (h : ∀ i x, l[i]? = some x → f i = g x) : (List.range l.length).all f = l.all g := by
  cases z : l.all g with
  | true =>
    refine List.all_eq_true.mpr fun i hi => ?_
    have hi := List.mem_range.mp hi
    rw [h i _ (List.getElem?_eq_getElem hi)]
    exact List.all_eq_true.mp z _ (List.getElem_mem hi)
  | false =>
    obtain ⟨x, hx, hn⟩ := List.all_eq_false.mp z
    obtain ⟨i, hi⟩ := List.getElem?_of_mem hx
    refine List.all_eq_false.mpr ⟨i, List.mem_range.mpr (List.getElem?_eq_some_iff.mp hi).1, ?_⟩
    rw [h i x hi]
    exact hn
theorem ints_get {ns : List Int} {i : Nat} {v : V} (h : (ns.map V.int)[i]? = some v) : ∃ n, ns[i]? = some n ∧ v = .int n := by
  rw [List.getElem?_map] at h
  cases e : ns[i]? with
  | none => rw [e] at h; cases h
  | some n => rw [e] at h; exact ⟨n, rfl, (Option.some.inj h).symm⟩
theorem range_ints (ms : List Int) (p : Int → Bool) : ((List.range (ms.map V.int).length).all fun i => !p (ms.getD i 0)) = ms.all fun n => !p n := by
  rw [List.length_map]
  exact range_all ms _ _ fun i x hx => by rw [List.getD_eq_getElem?_getD, hx]; rfl
theorem nodup_len : ∀ (n : Nat) (l : List Int), l.Nodup → (∀ x ∈ l, 0 ≤ x ∧ x < (n : Int)) → l.length ≤ n
  | 0, l, _, h => by
    cases l with
    | nil => exact Nat.le_refl _
    | cons a r => have := h a List.mem_cons_self; omega
  | n + 1, l, nd, h => by
    by_cases hm : (n : Int) ∈ l
    · have ih := nodup_len n (l.erase (n : Int)) (nd.erase _) fun x hx => by
        obtain ⟨h1, h2⟩ := nd.mem_erase_iff.mp hx
        have := h x h2
        omega
      rw [List.length_erase_of_mem hm] at ih
      omega
    · have ih := nodup_len n l nd fun x hx => by
        have := h x hx
        have : x ≠ (n : Int) := fun e => hm (by rw [← e]; exact hx)
        omega
      omega
theorem lc_fil {K : PySem.W.Frag} {te0 : TE} {a : Addr} {row : List Int} {j : Nat} {tt : TT} {σ : L2.St} {H : Hp} {Q : VK} (p : Int → Bool) (h0 : ∀ Q : VK, Q (.ref a) H → te0 σ H Q) (at_ : SqT K H a (row.map V.int)) (hl : row.length < 1000) (hj : j < σ.length)
    (hs : ∀ (n : Int) (H' : Hp) (R' : Bool → Hp → Prop), n ∈ row → Same H H' → R' (p n) H' → tt (σ.set j (some (.int n))) H' R')
    (hd : ∀ D H', Same H H' → H' D = some (.lst ((row.filter p).map V.int)) → H D = none → Q (.ref D) H') : tLc (iTup K te0) (gName j) tt (tVar j) [j] σ H Q := by
  refine h0 _ ⟨a, rfl, ⟨_, at_⟩, fun D hD => ?_⟩
  have w1 : wipe σ [j] = σ.set j none := rfl
  have w2 : ∀ x, (wipe σ [j]).set j (some x) = σ.set j (some x) := fun x => by rw [w1, List.set_set]
  refine lc_tup (xs := row.map V.int) (fun i H' => Same H H' ∧ H' D = some (.lst (((row.take i).filter p).map V.int))) ⟨same_new hD _, upd_same⟩ (fun i H' _ h => sqT_same h.1 at_) (fun i x H' hx h => ?_) (fun H' h => ?_)
  · obtain ⟨sm, hz⟩ := h
    obtain ⟨n, hn, rfl⟩ := ints_get hx
    have et : row.take (i + 1) = row.take i ++ [n] := by rw [List.take_add_one, hn]; rfl
    show wipe ((wipe σ [j]).set j (some (V.int n))) [j] = wipe σ [j] ∧ _
    rw [w2]
    refine ⟨by show (σ.set j (some (V.int n))).set j none = σ.set j none; rw [List.set_set], hs n H' _ (List.mem_of_getElem? hn) sm ?_⟩
    cases hp : p n with
    | true =>
      refine ifT rfl ⟨_, by rw [List.getElem?_set_self hj], _, hz, Nat.lt_of_lt_of_le (show _ < 1000 from ?_) (small (Nat.le_refl _)), fun b' o hb' => by rw [upd_ne (ne_of_none hb' hD)]; exact sm b' o hb', ?_⟩
      · rw [List.length_map]
        exact Nat.lt_of_le_of_lt (Nat.le_trans (List.length_filter_le _ _) (by rw [List.length_take]; omega)) hl
      · rw [upd_same, et, List.filter_append, List.map_append, List.filter_cons_of_pos hp, List.filter_nil]
        rfl
    | false =>
      refine ifF rfl ⟨sm, ?_⟩
      rw [et, List.filter_append, List.filter_cons_of_neg (by rw [hp]; decide), List.filter_nil, List.append_nil]
      exact hz
  · obtain ⟨sm, hz⟩ := h
    rw [List.length_map, List.take_length] at hz
    exact hd D H' sm hz hD
/-! for i, x in enumerate(t), t a tuple -/
section
open PySem.Spec PyProof.Rows
end
/-! how far points are -/
def Rk (S : Int → Prop) (E : Int → Int → Prop) : Nat → Int → Prop
  | 0, p => S p
  | k + 1, p => ∃ q, Rk S E k q ∧ E q p
def Dk (S : Int → Prop) (E : Int → Int → Prop) (k : Nat) (p : Int) : Prop := Rk S E k p ∧ ∀ j, j < k → ¬ Rk S E j p
section
variable {S : Int → Prop} {E : Int → Int → Prop}
theorem Dk.pred {k : Nat} {p : Int} (h : Dk S E (k + 1) p) : ∃ q, Dk S E k q ∧ E q p := by
  obtain ⟨⟨q, hq, e⟩, no⟩ := h
  exact ⟨q, ⟨hq, fun j hj r => no (j + 1) (by omega) ⟨q, r, e⟩⟩, e⟩
theorem Rk.ex {k : Nat} {p : Int} (h : Rk S E k p) : ∃ j, j ≤ k ∧ Dk S E j p := by
  induction k using Nat.strongRecOn with
  | ind k ih =>
    by_cases c : ∃ j, j < k ∧ Rk S E j p
    · obtain ⟨j, hj, r⟩ := c
      obtain ⟨i, hi, d⟩ := ih j hj r
      exact ⟨i, by omega, d⟩
    · exact ⟨k, Nat.le_refl _, h, fun j hj r => c ⟨j, hj, r⟩⟩
theorem Dk.uniq {k j : Nat} {p : Int} (h : Dk S E k p) (h' : Dk S E j p) : k = j := by
  rcases Nat.lt_trichotomy k j with c | c | c
  · exact absurd h.1 (h'.2 k c)
  · exact c
  · exact absurd h'.1 (h.2 j c)
theorem Dk.chain {k : Nat} {p : Int} (h : Dk S E k p) : ∃ l : List Int, l.length = k + 1 ∧ l.Nodup ∧ ∀ x ∈ l, ∃ j, j ≤ k ∧ Dk S E j x := by
  induction k generalizing p with
  | zero => exact ⟨[p], rfl, by simp, fun x hx => ⟨0, Nat.le_refl _, by rw [List.mem_singleton.mp hx]; exact h⟩⟩
  | succ k ih =>
    obtain ⟨q, hq, _⟩ := h.pred
    obtain ⟨l, h1, h2, h3⟩ := ih hq
    refine ⟨p :: l, by rw [List.length_cons, h1], List.nodup_cons.mpr ⟨fun hp => ?_, h2⟩, fun x hx => ?_⟩
    · obtain ⟨j, hj, d⟩ := h3 p hp
      have := d.uniq h
      omega
    · rcases List.mem_cons.mp hx with rfl | hx
      · exact ⟨k + 1, Nat.le_refl _, h⟩
      · obtain ⟨j, hj, d⟩ := h3 x hx
        exact ⟨j, by omega, d⟩
theorem Dk.bound {n k : Nat} {p : Int} (hb : ∀ j q, Rk S E j q → 0 ≤ q ∧ q < (n : Int)) (h : Dk S E k p) : k < n := by
  obtain ⟨l, h1, h2, h3⟩ := h.chain
  have := nodup_len n l h2 fun x hx => by
    obtain ⟨j, _, d⟩ := h3 x hx
    exact hb j x d.1
  omega
theorem Dk.down {k s : Nat} {p : Int} (h : Dk S E k p) (hs : s ≤ k) : ∃ q, Dk S E s q := by
  induction k generalizing p with
  | zero => exact ⟨p, by rw [show s = 0 by omega]; exact h⟩
  | succ k ih =>
    by_cases c : s = k + 1
    · exact ⟨p, by rw [c]; exact h⟩
    · obtain ⟨q, hq, _⟩ := h.pred
      exact ih hq (by omega)
end
/-! ways -/
def chainP (rows : List (List Int)) : List Int → Prop
  | a :: b :: r => b ∈ rowAt rows a ∧ chainP rows (b :: r)
  | _ => True
def WayP (rows : List (List Int)) (ss gs ns : List Int) : Prop := (∃ s r, ns = s :: r ∧ s ∈ ss) ∧ (∃ r g, ns = r ++ [g] ∧ g ∈ gs) ∧ chainP rows ns
/-- of one length, by the first part in which they are unlike -/
def lexP : List Int → List Int → Prop
  | [], [] => True
  | a :: r, b :: s => a < b ∨ (a = b ∧ lexP r s)
  | _, _ => False
theorem lexP_anti : ∀ {a b : List Int}, lexP a b → lexP b a → a = b
  | [], [], _, _ => rfl
  | [], _ :: _, h, _ => h.elim
  | _ :: _, [], h, _ => h.elim
  | x :: r, y :: s, h1, h2 => by
    have h1 : x < y ∨ (x = y ∧ lexP r s) := h1
    have h2 : y < x ∨ (y = x ∧ lexP s r) := h2
    rcases h1 with h1 | ⟨e, h1⟩
    · rcases h2 with h2 | ⟨e, _⟩ <;> omega
    · rcases h2 with h2 | ⟨_, h2⟩
      · omega
      · rw [e, lexP_anti h1 h2]
/-- the way of the fewest points, of several the least -/
def LeastW (rows : List (List Int)) (ss gs ns : List Int) : Prop := WayP rows ss gs ns ∧ ∀ ms, WayP rows ss gs ms → ns.length < ms.length ∨ (ns.length = ms.length ∧ lexP ns ms)
theorem LeastW.uniq {rows : List (List Int)} {ss gs ns ms : List Int} (h : LeastW rows ss gs ns) (h' : LeastW rows ss gs ms) : ns = ms := by
  rcases h.2 ms h'.1 with a | ⟨a, l⟩
  · rcases h'.2 ns h.1 with b | ⟨b, _⟩ <;> omega
  · rcases h'.2 ns h.1 with b | ⟨_, l'⟩
    · omega
    · exact lexP_anti l l'
/-- back from the goals -/
abbrev backE (rows : List (List Int)) : Int → Int → Prop := fun q p => 0 ≤ p ∧ p < (rows.length : Int) ∧ q ∈ rowAt rows p
abbrev inP (l : List Int) : Int → Prop := fun p => p ∈ l
theorem way_far {rows : List (List Int)} {gs : List Int} (hr : ∀ a b, b ∈ rowAt rows a → 0 ≤ a → 0 ≤ b ∧ b < (rows.length : Int)) : ∀ (ms : List Int) (s : Int), 0 ≤ s ∧ s < (rows.length : Int) → chainP rows (s :: ms) → (∃ r g, s :: ms = r ++ [g] ∧ g ∈ gs) → Rk (inP gs) (backE rows) ms.length s
  | [], s, hs, _, ⟨r, g, e, hg⟩ => by
    have : s = g := by
      cases r with
      | nil => cases e; rfl
      | cons _ r => cases r <;> cases e
    rw [this]
    exact hg
  | m :: ms, s, hs, hc, ⟨r, g, e, hg⟩ => by
    have hc : m ∈ rowAt rows s ∧ chainP rows (m :: ms) := hc
    have ih := way_far hr ms m (hr s m hc.1 hs.1) hc.2 (by
      cases r with
      | nil => cases e
      | cons _ r =>
        rw [List.cons_append, List.cons.injEq] at e
        exact ⟨r, g, e.2, hg⟩)
    exact ⟨m, ih, hs.1, hs.2, hc.1⟩
/-- the path that goes to the least of the nearest -/
def Greedy (rows : List (List Int)) (gs : List Int) : Nat → List Int → Prop
  | 0, [p] => p ∈ gs
  | k + 1, p :: q :: r => Dk (inP gs) (backE rows) (k + 1) p ∧ q ∈ rowAt rows p ∧ (∀ x ∈ rowAt rows p, Dk (inP gs) (backE rows) k x → q ≤ x) ∧ Greedy rows gs k (q :: r)
  | _, _ => False
theorem Greedy.len {rows : List (List Int)} {gs : List Int} : ∀ {k : Nat} {ns : List Int}, Greedy rows gs k ns → ns.length = k + 1
  | 0, [p], _ => rfl
  | k + 1, p :: q :: r, h => by
    have ih : (q :: r).length = k + 1 := Greedy.len h.2.2.2
    rw [List.length_cons, ih]
  | 0, [], h => h.elim
  | 0, _ :: _ :: _, h => h.elim
  | _ + 1, [], h => h.elim
  | _ + 1, [_], h => h.elim
theorem Greedy.way {rows : List (List Int)} {gs : List Int} : ∀ {k : Nat} {ns : List Int}, Greedy rows gs k ns → chainP rows ns ∧ ∃ r g, ns = r ++ [g] ∧ g ∈ gs
  | 0, [p], h => ⟨trivial, [], p, rfl, h⟩
  | k + 1, p :: q :: r, h => by
    obtain ⟨c, r', g, e, hg⟩ := Greedy.way h.2.2.2
    exact ⟨⟨h.2.1, c⟩, p :: r', g, by rw [e]; rfl, hg⟩
  | 0, [], h => h.elim
  | 0, _ :: _ :: _, h => h.elim
  | _ + 1, [], h => h.elim
  | _ + 1, [_], h => h.elim
theorem Greedy.least {rows : List (List Int)} {gs : List Int} (hr : ∀ a b, b ∈ rowAt rows a → 0 ≤ a → 0 ≤ b ∧ b < (rows.length : Int)) : ∀ {k : Nat} {p : Int} {ns ms : List Int}, 0 ≤ p ∧ p < (rows.length : Int) → Greedy rows gs k (p :: ns) → chainP rows (p :: ms) → (∃ r g, p :: ms = r ++ [g] ∧ g ∈ gs) → ms.length = k → lexP (p :: ns) (p :: ms)
  | 0, p, [], ms, _, _, _, _, l => by
    cases ms with
    | nil => exact .inr ⟨rfl, trivial⟩
    | cons _ _ => cases l
  | 0, p, _ :: _, _, _, h, _, _, _ => h.elim
  | k + 1, p, [], _, _, h, _, _, _ => h.elim
  | k + 1, p, q :: r, ms, hp, h, hc, he, l => by
    cases ms with
    | nil => cases l
    | cons m ms =>
      have hc : m ∈ rowAt rows p ∧ chainP rows (m :: ms) := hc
      have hm := hr p m hc.1 hp.1
      have he' : ∃ r g, m :: ms = r ++ [g] ∧ g ∈ gs := by
        obtain ⟨r, g, e, hg⟩ := he
        cases r with
        | nil => cases e
        | cons _ r =>
          rw [List.cons_append, List.cons.injEq] at e
          exact ⟨r, g, e.2, hg⟩
      have lm : ms.length = k := by
        rw [List.length_cons] at l
        omega
      have far := way_far hr ms m hm hc.2 he'
      rw [lm] at far
      have dm : Dk (inP gs) (backE rows) k m := by
        obtain ⟨j, hj, d⟩ := far.ex
        by_cases c : j = k
        · rw [← c]; exact d
        · exact absurd (show Rk (inP gs) (backE rows) (j + 1) p from ⟨m, d.1, hp.1, hp.2, hc.1⟩) (h.1.2 (j + 1) (by omega))
      have qm := h.2.2.1 m hc.1 dm
      refine .inr ⟨rfl, ?_⟩
      by_cases e : q = m
      · subst e
        exact Greedy.least hr hm h.2.2.2 hc.2 he' lm
      · exact .inl (by omega)
theorem least_of {rows : List (List Int)} {ss gs : List Int} (hr : ∀ a b, b ∈ rowAt rows a → 0 ≤ a → 0 ≤ b ∧ b < (rows.length : Int)) (hss : ∀ s ∈ ss, 0 ≤ s ∧ s < (rows.length : Int)) {k : Nat} {s : Int} {ns : List Int} (hs : s ∈ ss) (hd : Dk (inP gs) (backE rows) k s) (hmin : ∀ q ∈ ss, ∀ j, Dk (inP gs) (backE rows) j q → k < j ∨ (k = j ∧ s ≤ q)) (hg : Greedy rows gs k (s :: ns)) : LeastW rows ss gs (s :: ns) := by
  obtain ⟨c, e⟩ := hg.way
  refine ⟨⟨⟨s, ns, rfl, hs⟩, e, c⟩, fun ms hm => ?_⟩
  obtain ⟨⟨q, r, rfl, hq⟩, he, hc⟩ := hm
  have far := way_far hr r q (hss q hq) hc he
  obtain ⟨j, hj, d⟩ := far.ex
  have lg := hg.len
  rcases hmin q hq j d with h | ⟨h, sq⟩
  · refine .inl ?_
    rw [lg, List.length_cons]
    omega
  · by_cases c2 : j = r.length
    · refine .inr ⟨by rw [lg, List.length_cons]; omega, ?_⟩
      by_cases e2 : s = q
      · subst e2
        exact Greedy.least hr (hss s hs) hg hc he (by omega)
      · exact .inl (by omega)
    · refine .inl ?_
      rw [lg, List.length_cons]
      omega
/-! rows by their order -/
theorem lexP_refl : ∀ a : List Int, lexP a a
  | [] => trivial
  | _ :: r => .inr ⟨rfl, lexP_refl r⟩
theorem lexP_trans : ∀ {a b c : List Int}, lexP a b → lexP b c → lexP a c
  | [], [], [], _, _ => trivial
  | [], [], _ :: _, _, h => h.elim
  | [], _ :: _, _, h, _ => h.elim
  | _ :: _, [], _, h, _ => h.elim
  | _ :: _, _ :: _, [], _, h => h.elim
  | x :: r, y :: s, z :: t, h1, h2 => by
    have h1 : x < y ∨ (x = y ∧ lexP r s) := h1
    have h2 : y < z ∨ (y = z ∧ lexP s t) := h2
    show x < z ∨ (x = z ∧ lexP r t)
    rcases h1 with h1 | ⟨e, h1⟩
    · rcases h2 with h2 | ⟨e2, _⟩ <;> exact .inl (by omega)
    · rcases h2 with h2 | ⟨e2, h2⟩
      · exact .inl (by omega)
      · exact .inr ⟨by omega, lexP_trans h1 h2⟩
theorem lexP_app : ∀ {a b : List Int} (x : Int), lexP a b → lexP (a ++ [x]) (b ++ [x])
  | [], [], x, _ => .inr ⟨rfl, trivial⟩
  | [], _ :: _, _, h => h.elim
  | _ :: _, [], _, h => h.elim
  | y :: r, z :: s, x, h => by
    have h : y < z ∨ (y = z ∧ lexP r s) := h
    show y < z ∨ (y = z ∧ lexP (r ++ [x]) (s ++ [x]))
    rcases h with h | ⟨e, h⟩
    · exact .inl h
    · exact .inr ⟨e, lexP_app x h⟩
/-! rings and ranks -/
theorem last_app (a : List Int) (y : Int) (b : List Int) : (a ++ y :: b).getLast? = (y :: b).getLast? := by
  rw [List.getLast?_append]
  cases h : (y :: b).getLast? with
  | none => simp at h
  | some z => rfl
section
variable {rows : List (List Int)}
theorem chainP_app : ∀ {a b : List Int}, chainP rows (a ++ b) ↔ chainP rows a ∧ chainP rows b ∧ ∀ z x, a.getLast? = some z → b.head? = some x → x ∈ rowAt rows z
  | [], b => ⟨fun h => ⟨trivial, h, fun z x e => (by cases e)⟩, fun h => h.2.1⟩
  | [y], b => by
    cases b with
    | nil => exact ⟨fun _ => ⟨trivial, trivial, fun z x _ e => (by cases e)⟩, fun _ => trivial⟩
    | cons x t =>
      constructor
      · intro h
        have h : x ∈ rowAt rows y ∧ chainP rows (x :: t) := h
        refine ⟨trivial, h.2, fun z x' e1 e2 => ?_⟩
        cases e1
        cases e2
        exact h.1
      · intro h
        exact ⟨h.2.2 y x rfl rfl, h.2.1⟩
  | y :: y' :: r, b => by
    have ih := @chainP_app (y' :: r) b
    constructor
    · intro h
      have h : y' ∈ rowAt rows y ∧ chainP rows ((y' :: r) ++ b) := h
      obtain ⟨i1, i2, i3⟩ := ih.mp h.2
      exact ⟨⟨h.1, i1⟩, i2, fun z x e1 e2 => i3 z x (by rw [List.getLast?_cons_cons] at e1; exact e1) e2⟩
    · intro ⟨h1, h2, h3⟩
      have h1 : y' ∈ rowAt rows y ∧ chainP rows (y' :: r) := h1
      exact ⟨h1.1, ih.mpr ⟨h1.2, h2, fun z x e1 e2 => h3 z x (by rw [List.getLast?_cons_cons]; exact e1) e2⟩⟩
end
def RingP (rows : List (List Int)) (ns : List Int) : Prop := (∀ p ∈ ns, 0 ≤ p ∧ p < (rows.length : Int)) ∧ ns.Nodup ∧ chainP rows ns ∧ ∃ a z, ns.head? = some a ∧ ns.getLast? = some z ∧ a ∈ rowAt rows z
def LeastR (rows : List (List Int)) (ns : List Int) : Prop := RingP rows ns ∧ ∀ ms, RingP rows ms → ns.length < ms.length ∨ (ns.length = ms.length ∧ lexP ns ms)
theorem LeastR.uniq {rows : List (List Int)} {ns ms : List Int} (h : LeastR rows ns) (h' : LeastR rows ms) : ns = ms := by
  rcases h.2 ms h'.1 with a | ⟨a, l⟩
  · rcases h'.2 ns h.1 with b | ⟨b, _⟩ <;> omega
  · rcases h'.2 ns h.1 with b | ⟨_, l'⟩
    · omega
    · exact lexP_anti l l'
section
variable {rows : List (List Int)}
theorem RingP.pos {ns : List Int} (h : RingP rows ns) : 0 < ns.length := by
  obtain ⟨_, _, _, a, z, e, _⟩ := h
  cases ns with
  | nil => cases e
  | cons _ _ => simp
theorem RingP.le {ns : List Int} (h : RingP rows ns) : ns.length ≤ rows.length := nodup_len _ _ h.2.1 h.1
theorem ring_of {U : Int → Prop} (hU : ∀ p, U p → 0 ≤ p ∧ p < (rows.length : Int)) (hne : ∃ p, U p) (hs : ∀ p, U p → ∃ q, q ∈ rowAt rows p ∧ U q) : ∃ ns, RingP rows ns := by
  have step : ∀ k : Nat, (∃ (l : List Int) (z : Int), l.length = k ∧ (l ++ [z]).Nodup ∧ (∀ x ∈ l ++ [z], U x) ∧ chainP rows (l ++ [z])) ∨ ∃ ns, RingP rows ns := by
    intro k
    induction k with
    | zero =>
      obtain ⟨p, hp⟩ := hne
      exact .inl ⟨[], p, rfl, by simp, by simpa using hp, trivial⟩
    | succ k ih =>
      rcases ih with ⟨l, z, h1, h2, h3, h4⟩ | h
      · obtain ⟨q, q1, q2⟩ := hs z (h3 z (by simp))
        by_cases c : q ∈ l ++ [z]
        · obtain ⟨a, b, e⟩ := List.append_of_mem c
          have lastz : (q :: b).getLast? = some z := by
            have h : (l ++ [z]).getLast? = some z := by simp
            rw [e, last_app] at h
            exact h
          rw [e] at h2 h3 h4
          exact .inr ⟨q :: b, fun p hp => hU p (h3 p (List.mem_append_right _ hp)), (List.nodup_append.mp h2).2.1, (chainP_app.mp h4).2.1, q, z, rfl, lastz, q1⟩
        · refine .inl ⟨l ++ [z], q, by rw [List.length_append, h1]; rfl, List.nodup_append.mpr ⟨h2, by simp, fun x hx y hy e => c ?_⟩, fun x hx => ?_, chainP_app.mpr ⟨h4, trivial, fun u x e1 e2 => ?_⟩⟩
          · rw [← List.mem_singleton.mp hy, ← e]
            exact hx
          · rcases List.mem_append.mp hx with hx | hx
            · exact h3 x hx
            · rw [List.mem_singleton.mp hx]
              exact q2
          · have e1 : some z = some u := by rw [← e1]; simp
            cases e1
            cases e2
            exact q1
      · exact .inr h
  rcases step rows.length with ⟨l, z, h1, h2, h3, _⟩ | h
  · have := nodup_len rows.length _ h2 fun x hx => hU x (h3 x hx)
    rw [List.length_append, h1] at this
    have : rows.length + 1 ≤ rows.length := this
    omega
  · exact h
end
/-! ranks -/
def rkAt (rs : List Int) (p : Int) : Int := rs.getD p.toNat 0
structure FixR (rows : List (List Int)) (rs : List Int) : Prop where
  len : rs.length = rows.length
  pos : ∀ p, 0 ≤ p → p < (rows.length : Int) → 0 ≤ rkAt rs p
  gt : ∀ p, 0 ≤ p → p < (rows.length : Int) → ∀ q ∈ rowAt rows p, rkAt rs q < rkAt rs p
  eq : ∀ p, 0 ≤ p → p < (rows.length : Int) → rkAt rs p = 0 ∨ ∃ q ∈ rowAt rows p, rkAt rs p = rkAt rs q + 1
theorem row_rng {rows : List (List Int)} (h : RwOk rows) {a b : Int} (m : b ∈ rowAt rows a) : 0 ≤ b ∧ b < (rows.length : Int) := by
  unfold rowAt at m
  rw [List.getD_eq_getElem?_getD] at m
  cases e : rows[a.toNat]? with
  | none => rw [e] at m; cases m
  | some row =>
    rw [e] at m
    exact (h.row row (List.mem_of_getElem? e)).2 b m
theorem FixR.same {rows : List (List Int)} (hr : RwOk rows) {rs ts : List Int} (h : FixR rows rs) (g : FixR rows ts) : ∀ (k : Nat) (p : Int), 0 ≤ p → p < (rows.length : Int) → rkAt rs p = k → rkAt ts p = k := by
  intro k
  induction k using Nat.strongRecOn with
  | ind k ih =>
    intro p p0 p1 e
    have sub : ∀ q ∈ rowAt rows p, rkAt ts q = rkAt rs q := fun q hq => by
      obtain ⟨q0, q1⟩ := row_rng hr hq
      have l := h.gt p p0 p1 q hq
      have l0 := h.pos q q0 q1
      have := ih (rkAt rs q).toNat (by omega) q q0 q1 (by omega)
      omega
    have t0 := g.pos p p0 p1
    rcases g.eq p p0 p1 with a | ⟨q, hq, a⟩
    · rcases h.eq p p0 p1 with b | ⟨q, hq, b⟩
      · omega
      · have := sub q hq
        have := g.gt p p0 p1 q hq
        omega
    · have := sub q hq
      have := h.gt p p0 p1 q hq
      rcases h.eq p p0 p1 with b | ⟨q', hq', b⟩
      · have := row_rng hr hq
        have := h.pos q (by omega) (by omega)
        omega
      · have := sub q' hq'
        have := g.gt p p0 p1 q' hq'
        omega
theorem FixR.uniq {rows : List (List Int)} (hr : RwOk rows) {rs ts : List Int} (h : FixR rows rs) (g : FixR rows ts) : rs = ts := by
  refine List.ext_getElem (h.len.trans g.len.symm) fun i i1 i2 => ?_
  have li := h.len
  have p0 := h.pos (i : Int) (by omega) (by omega)
  have e := h.same hr g (rkAt rs (i : Int)).toNat (i : Int) (by omega) (by omega) (by omega)
  have a1 : rkAt rs (i : Int) = rs[i] := by
    unfold rkAt
    rw [show ((i : Int)).toNat = i by omega, List.getD_eq_getElem?_getD, List.getElem?_eq_getElem i1]
    rfl
  have a2 : rkAt ts (i : Int) = ts[i] := by
    unfold rkAt
    rw [show ((i : Int)).toNat = i by omega, List.getD_eq_getElem?_getD, List.getElem?_eq_getElem i2]
    rfl
  omega
theorem FixR.chain {rows : List (List Int)} {rs : List Int} (h : FixR rows rs) : ∀ (r : List Int) (a z : Int), (∀ p ∈ a :: r, 0 ≤ p ∧ p < (rows.length : Int)) → chainP rows (a :: r) → (a :: r).getLast? = some z → rkAt rs z ≤ rkAt rs a
  | [], a, z, _, _, e => by
    cases e
    exact Int.le_refl _
  | b :: r, a, z, hp, hc, e => by
    have hc : b ∈ rowAt rows a ∧ chainP rows (b :: r) := hc
    rw [List.getLast?_cons_cons] at e
    have i := FixR.chain h r b z (fun p hp' => hp p (List.mem_cons_of_mem _ hp')) hc.2 e
    have ra := hp a List.mem_cons_self
    have := h.gt a ra.1 ra.2 b hc.1
    omega
theorem FixR.none {rows : List (List Int)} {rs ns : List Int} (h : FixR rows rs) (g : RingP rows ns) : False := by
  obtain ⟨g1, _, g3, a, z, e1, e2, m⟩ := g
  cases ns with
  | nil => cases e1
  | cons b r =>
    have eb : b = a := Option.some.inj e1
    subst eb
    have := h.chain r b z g1 g3 e2
    have rz := g1 z (List.mem_of_getLast? e2)
    have := h.gt z rz.1 rz.2 b m
    omega
/-! rings that begin with their least point -/
def RingM (rows : List (List Int)) (p : Int) (ms : List Int) : Prop := RingP rows ms ∧ ms.head? = some p ∧ ∀ x ∈ ms, p ≤ x
section
variable {rows : List (List Int)}
theorem RingP.turn {a b : List Int} (ha : a ≠ []) (hb : b ≠ []) (h : RingP rows (a ++ b)) : RingP rows (b ++ a) := by
  obtain ⟨h1, h2, h3, x, z, e1, e2, m⟩ := h
  obtain ⟨c1, c2, c3⟩ := chainP_app.mp h3
  cases a with
  | nil => exact absurd rfl ha
  | cons x' a =>
    cases e1
    have ez : b.getLast? = some z := by
      cases b with
      | nil => exact absurd rfl hb
      | cons y b =>
        rw [last_app] at e2
        exact e2
    obtain ⟨u, eu⟩ : ∃ u, (x :: a).getLast? = some u := ⟨_, List.getLast?_eq_some_getLast (by simp)⟩
    cases b with
    | nil => exact absurd rfl hb
    | cons y b =>
      refine ⟨fun p hp => h1 p (by
        rcases List.mem_append.mp hp with hp | hp
        · exact List.mem_append_right _ hp
        · exact List.mem_append_left _ hp), (List.perm_append_comm.nodup_iff).mp h2, chainP_app.mpr ⟨c2, c1, fun z' x' q1 q2 => ?_⟩, y, u, rfl, ?_, c3 u y eu rfl⟩
      · rw [ez] at q1
        cases q1
        cases q2
        exact m
      · rw [last_app]
        exact eu
theorem min_ex : ∀ l : List Int, l ≠ [] → ∃ m ∈ l, ∀ x ∈ l, m ≤ x
  | [], h => absurd rfl h
  | [a], _ => ⟨a, by simp, fun x hx => by rw [List.mem_singleton.mp hx]; exact Int.le_refl _⟩
  | a :: b :: r, _ => by
    obtain ⟨m, hm, h⟩ := min_ex (b :: r) (by simp)
    by_cases c : a ≤ m
    · refine ⟨a, by simp, fun x hx => ?_⟩
      rcases List.mem_cons.mp hx with rfl | hx
      · exact Int.le_refl _
      · have := h x hx
        omega
    · refine ⟨m, List.mem_cons_of_mem _ hm, fun x hx => ?_⟩
      rcases List.mem_cons.mp hx with rfl | hx
      · omega
      · exact h x hx
theorem RingP.best {ms : List Int} (h : RingP rows ms) : ∃ p ns, RingM rows p ns ∧ ns.length = ms.length ∧ lexP ns ms := by
  have hp := h.pos
  have ne : ms ≠ [] := fun e => by rw [e] at hp; cases hp
  obtain ⟨m, hm, hmin⟩ := min_ex ms ne
  obtain ⟨a, b, e⟩ := List.append_of_mem hm
  cases a with
  | nil =>
    subst e
    exact ⟨m, m :: b, ⟨h, rfl, hmin⟩, rfl, lexP_refl _⟩
  | cons x a =>
    subst e
    have t := h.turn (by simp) (by simp)
    refine ⟨m, m :: b ++ x :: a, ⟨t, rfl, fun y hy => hmin y ?_⟩, by rw [List.length_append, List.length_append, Nat.add_comm], .inl ?_⟩
    · rcases List.mem_append.mp hy with hy | hy
      · exact List.mem_append_right _ hy
      · exact List.mem_append_left _ hy
    · have l := hmin x (by simp)
      have nd := h.2.1
      have : x ≠ m := fun z => (List.nodup_append.mp nd).2.2 x (by simp) m (by simp) z
      show m < x
      omega
end
/-! charts cut to the points from p on -/
def resR (rows : List (List Int)) (p : Int) : List (List Int) := (List.range rows.length).map fun (i : Nat) => if p ≤ (i : Int) then (rowAt rows (i : Int)).filter (fun b => decide (p ≤ b)) else []
theorem resR_len (rows : List (List Int)) (p : Int) : (resR rows p).length = rows.length := by
  unfold resR
  rw [List.length_map, List.length_range]
theorem mem_resR {rows : List (List Int)} {p a b : Int} (h0 : 0 ≤ a) : b ∈ rowAt (resR rows p) a ↔ p ≤ a ∧ p ≤ b ∧ b ∈ rowAt rows a := by
  by_cases c : a.toNat < rows.length
  · have e : rowAt (resR rows p) a = if p ≤ a then (rowAt rows a).filter (fun b => decide (p ≤ b)) else [] := by
      show (resR rows p).getD a.toNat [] = _
      rw [List.getD_eq_getElem?_getD, resR, List.getElem?_map, List.getElem?_range c]
      show (if p ≤ ((a.toNat : Nat) : Int) then (rowAt rows ((a.toNat : Nat) : Int)).filter (fun b => decide (p ≤ b)) else []) = _
      rw [show ((a.toNat : Nat) : Int) = a by omega]
    rw [e]
    by_cases d : p ≤ a
    · rw [if_pos d, List.mem_filter, decide_eq_true_eq]
      exact ⟨fun ⟨x, y⟩ => ⟨d, y, x⟩, fun ⟨_, y, x⟩ => ⟨x, y⟩⟩
    · rw [if_neg d]
      exact ⟨fun z => (by cases z), fun z => absurd z.1 d⟩
  · have e1 : rowAt (resR rows p) a = [] := by
      unfold rowAt
      rw [List.getD_eq_getElem?_getD, List.getElem?_eq_none (by rw [resR_len]; omega)]
      rfl
    have e2 : rowAt rows a = [] := by
      unfold rowAt
      rw [List.getD_eq_getElem?_getD, List.getElem?_eq_none (by omega)]
      rfl
    rw [e1, e2]
    exact ⟨fun z => (by cases z), fun z => (by cases z.2.2)⟩
theorem chain_res {rows : List (List Int)} {p : Int} (p0 : 0 ≤ p) : ∀ {l : List Int}, (∀ x ∈ l, p ≤ x) → (chainP (resR rows p) l ↔ chainP rows l)
  | [], _ => Iff.rfl
  | [_], _ => Iff.rfl
  | a :: b :: r, h => by
    have ha := h a (by simp)
    have hb := h b (by simp)
    have ih := chain_res (rows := rows) p0 (l := b :: r) (fun x hx => h x (List.mem_cons_of_mem _ hx))
    show b ∈ rowAt (resR rows p) a ∧ chainP (resR rows p) (b :: r) ↔ b ∈ rowAt rows a ∧ chainP rows (b :: r)
    rw [mem_resR (by omega), ih]
    exact ⟨fun ⟨x, y⟩ => ⟨x.2.2, y⟩, fun ⟨x, y⟩ => ⟨⟨ha, hb, x⟩, y⟩⟩
theorem Greedy.far {rows : List (List Int)} {gs : List Int} : ∀ {k : Nat} {ns : List Int}, Greedy rows gs k ns → (∀ x ∈ ns, ∃ j, j ≤ k ∧ Dk (inP gs) (backE rows) j x) ∧ ns.Nodup
  | 0, [p], h => ⟨fun x hx => ⟨0, Nat.le_refl _, by rw [List.mem_singleton.mp hx]; exact ⟨h, fun j hj => (by omega)⟩⟩, by simp⟩
  | k + 1, p :: q :: r, h => by
    obtain ⟨i1, i2⟩ := Greedy.far h.2.2.2
    refine ⟨fun x hx => ?_, List.nodup_cons.mpr ⟨fun hp => ?_, i2⟩⟩
    · rcases List.mem_cons.mp hx with rfl | hx
      · exact ⟨k + 1, Nat.le_refl _, h.1⟩
      · obtain ⟨j, hj, d⟩ := i1 x hx
        exact ⟨j, by omega, d⟩
    · obtain ⟨j, hj, d⟩ := i1 p hp
      have := d.uniq h.1
      omega
  | 0, [], h => h.elim
  | 0, _ :: _ :: _, h => h.elim
  | _ + 1, [], h => h.elim
  | _ + 1, [_], h => h.elim
theorem lexP_unapp : ∀ {a b : List Int} {x : Int}, a.length = b.length → lexP (a ++ [x]) (b ++ [x]) → lexP a b
  | [], [], _, _, _ => trivial
  | [], _ :: _, _, l, _ => by cases l
  | _ :: _, [], _, l, _ => by cases l
  | y :: r, z :: s, x, l, h => by
    have h : y < z ∨ (y = z ∧ lexP (r ++ [x]) (s ++ [x])) := h
    rcases h with h | ⟨e, h⟩
    · exact .inl h
    · exact .inr ⟨e, lexP_unapp (Nat.succ.inj l) h⟩
/-- the ring so far -/
structure BestTo (rows : List (List Int)) (i : Nat) (ring : Option (List Int)) (fewest : Nat) : Prop where
  non : ring = none → fewest = rows.length + 1 ∧ ∀ (q : Nat) ms, q < i → ¬ RingM rows (q : Int) ms
  som : ∀ ns, ring = some ns → RingP rows ns ∧ ns.length = fewest ∧ (∃ (a : Int) (r : List Int), ns = a :: r ∧ a < (i : Int)) ∧ ∀ (q : Nat) ms, q < i → RingM rows (q : Int) ms → ns.length < ms.length ∨ (ns.length = ms.length ∧ lexP ns ms)
section
variable {rows : List (List Int)}
/-- a ring from its least point on as a way -/
theorem RingM.way {p : Int} {ms : List Int} (p0 : 0 ≤ p) (h : RingM rows p ms) : ∃ r, ms = p :: r ∧ WayP (resR rows p) (rowAt (resR rows p) p) [p] (r ++ [p]) ∧ ∀ x ∈ r ++ [p], 0 ≤ x ∧ x < (rows.length : Int) := by
  obtain ⟨⟨h1, h2, h3, a, z, e1, e2, m⟩, hd, hm⟩ := h
  cases ms with
  | nil => cases e1
  | cons b r =>
    have eb : b = a := Option.some.inj e1
    have ep : b = p := Option.some.inj hd
    subst eb
    subst ep
    have cc : chainP rows ((b :: r) ++ [b]) := chainP_app.mpr ⟨h3, trivial, fun z' x q1 q2 => by
      rw [e2] at q1
      cases q1
      cases q2
      exact m⟩
    have ge : ∀ x ∈ (b :: r) ++ [b], b ≤ x := fun x hx => by
      rcases List.mem_append.mp hx with hx | hx
      · exact hm x hx
      · rw [List.mem_singleton.mp hx]
        exact Int.le_refl _
    have cr : chainP (resR rows b) ([b] ++ (r ++ [b])) := (chain_res p0 ge).mpr cc
    obtain ⟨_, c2, c3⟩ := chainP_app.mp cr
    refine ⟨r, rfl, ⟨?_, ⟨r, b, rfl, by simp⟩, c2⟩, fun x hx => h1 x ?_⟩
    · cases hh : r ++ [b] with
      | nil => cases r <;> cases hh
      | cons s t => exact ⟨s, t, rfl, c3 b s rfl (by rw [hh]; rfl)⟩
    · rcases List.mem_append.mp hx with hx | hx
      · exact List.mem_cons_of_mem _ hx
      · rw [List.mem_singleton.mp hx]
        exact List.mem_cons_self
theorem res_rng (hr : RwOk rows) {p : Int} : ∀ a b, b ∈ rowAt (resR rows p) a → 0 ≤ a → 0 ≤ b ∧ b < ((resR rows p).length : Int) := fun a b h h0 => by
  rw [resR_len]
  exact row_rng hr ((mem_resR h0).mp h).2.2
/-- how near the nexts of the least point of a ring are -/
theorem RingM.near (hr : RwOk rows) {p : Int} {ms : List Int} (p0 : 0 ≤ p) (h : RingM rows p ms) : ∃ s ∈ rowAt rows p, ∃ j, j + 1 ≤ ms.length ∧ Dk (inP [p]) (backE (resR rows p)) j s := by
  obtain ⟨r, rfl, ⟨⟨s, t, e, ms⟩, he, hc⟩, hx⟩ := h.way p0
  have hs : 0 ≤ s ∧ s < ((resR rows p).length : Int) := by
    rw [resR_len]
    exact hx s (by rw [e]; simp)
  rw [e] at hc he
  obtain ⟨j, hj, d⟩ := (way_far (res_rng hr) t s hs hc he).ex
  have lt := congrArg List.length e
  rw [List.length_append, List.length_cons] at lt
  have lt : r.length + 1 = t.length + 1 := lt
  exact ⟨s, ((mem_resR p0).mp ms).2.2, j, by rw [List.length_cons]; omega, d⟩
theorem BestTo.keep {i fewest : Nat} {ring : Option (List Int)} (h : BestTo rows i ring fewest) (no : ∀ ms, RingM rows (i : Int) ms → fewest ≤ ms.length) : BestTo rows (i + 1) ring fewest := by
  refine ⟨fun e => ?_, fun ns e => ?_⟩
  · obtain ⟨h1, h2⟩ := h.non e
    refine ⟨h1, fun q ms hq m => ?_⟩
    by_cases c : q = i
    · subst c
      have := no ms m
      have := m.1.le
      omega
    · exact h2 q ms (by omega) m
  · obtain ⟨h1, h2, ⟨a, r, ea, la⟩, h4⟩ := h.som ns e
    refine ⟨h1, h2, ⟨a, r, ea, by omega⟩, fun q ms hq m => ?_⟩
    by_cases c : q = i
    · subst c
      have l := no ms m
      by_cases c2 : ns.length < ms.length
      · exact .inl c2
      · refine .inr ⟨by omega, ?_⟩
        obtain ⟨_, hd, _⟩ := m
        cases ms with
        | nil => cases hd
        | cons b t =>
          cases hd
          rw [ea]
          exact .inl la
    · exact h4 q ms (by omega) m
theorem BestTo.take (hr : RwOk rows) {i fewest : Nat} {ring : Option (List Int)} (h : BestTo rows i ring fewest) (hi : i < rows.length) {k : Nat} {s : Int} {ns : List Int} (hk : k + 1 < fewest) (hs : s ∈ rowAt rows (i : Int)) (hd : Dk (inP [(i : Int)]) (backE (resR rows i)) k s) (hmin : ∀ q ∈ rowAt rows (i : Int), ∀ j, Dk (inP [(i : Int)]) (backE (resR rows i)) j q → k < j ∨ (k = j ∧ s ≤ q)) (hg : Greedy (resR rows i) [(i : Int)] k (s :: ns)) : BestTo rows (i + 1) (some ((i : Int) :: (s :: ns).dropLast)) (k + 1) := by
  have p0 : (0 : Int) ≤ (i : Int) := by omega
  have hb : ∀ (j : Nat) (x : Int), Rk (inP [(i : Int)]) (backE (resR rows i)) j x → (i : Int) ≤ x ∧ x < (rows.length : Int) := fun j x r => by
    cases j with
    | zero =>
      have r : x ∈ [(i : Int)] := r
      rw [List.mem_singleton.mp r]
      omega
    | succ j =>
      obtain ⟨q, _, b1, b2, b3⟩ := r
      have := (mem_resR b1).mp b3
      rw [resR_len] at b2
      exact ⟨this.1, b2⟩
  have si := hb _ _ hd.1
  have lw := least_of (rows := resR rows i) (ss := rowAt (resR rows i) i) (gs := [(i : Int)]) (res_rng hr) (fun x hx => res_rng hr _ x hx p0) ((mem_resR p0).mpr ⟨Int.le_refl _, si.1, hs⟩) hd (fun q hq j d => hmin q ((mem_resR p0).mp hq).2.2 j d) hg
  obtain ⟨fx, nd⟩ := hg.far
  have lg := hg.len
  obtain ⟨wc, r, g, e, hgm⟩ := hg.way
  have hgm : g = i := List.mem_singleton.mp hgm
  subst hgm
  have er : (s :: ns).dropLast = r := by rw [e, List.dropLast_concat]
  have lr : r.length = k := by
    have := congrArg List.length e
    rw [lg, List.length_append] at this
    have : k + 1 = r.length + 1 := this
    omega
  rw [er]
  rw [e] at fx nd wc
  have ge : ∀ x ∈ r ++ [(i : Int)], (i : Int) ≤ x ∧ x < (rows.length : Int) := fun x hx => by
    obtain ⟨j, _, d⟩ := fx x hx
    exact hb j x d.1
  have c1 : chainP rows (r ++ [(i : Int)]) := (chain_res p0 fun x hx => (ge x hx).1).mp wc
  have c2 : chainP rows ([(i : Int)] ++ (r ++ [(i : Int)])) := chainP_app.mpr ⟨trivial, c1, fun z x q1 q2 => by
    cases q1
    rw [← e] at q2
    cases q2
    exact hs⟩
  have c3 : chainP rows (((i : Int) :: r) ++ [(i : Int)]) := c2
  obtain ⟨c4, _, c5⟩ := chainP_app.mp c3
  obtain ⟨u, eu⟩ : ∃ u, ((i : Int) :: r).getLast? = some u := ⟨_, List.getLast?_eq_some_getLast (by simp)⟩
  have ring1 : RingP rows ((i : Int) :: r) := by
    refine ⟨fun x hx => ?_, ?_, c4, i, u, rfl, eu, c5 u i eu rfl⟩
    · rcases List.mem_cons.mp hx with rfl | hx
      · omega
      · have := ge x (List.mem_append_left _ hx)
        omega
    · have p : (r ++ [(i : Int)]).Perm ((i : Int) :: r) := List.perm_append_comm
      exact p.nodup_iff.mp nd
  refine ⟨fun z => (by cases z), fun ns' z => ?_⟩
  cases z
  refine ⟨ring1, by rw [List.length_cons, lr], ⟨i, r, rfl, by omega⟩, fun q ms hq m => ?_⟩
  by_cases c : q = i
  · subst c
    obtain ⟨t, rfl, w, _⟩ := m.way p0
    rcases lw.2 _ w with l | ⟨l, x⟩
    · refine .inl ?_
      rw [lg, List.length_append] at l
      have l : k + 1 < t.length + 1 := l
      rw [List.length_cons, List.length_cons, lr]
      omega
    · rw [lg, List.length_append] at l
      have l : k + 1 = t.length + 1 := l
      refine .inr ⟨by rw [List.length_cons, List.length_cons, lr]; omega, .inr ⟨rfl, ?_⟩⟩
      rw [e] at x
      exact lexP_unapp (by omega) x
  · refine .inl ?_
    rw [List.length_cons, lr]
    cases ring with
    | none => exact absurd m ((h.non rfl).2 q ms (by omega))
    | some old =>
      obtain ⟨_, h2, _, h4⟩ := h.som old rfl
      rcases h4 q ms (by omega) m with l | ⟨l, _⟩ <;> omega
theorem BestTo.done {ring : Option (List Int)} {fewest : Nat} (h : BestTo rows rows.length ring fewest) : (∀ ns, ring = some ns → LeastR rows ns) ∧ (ring = none → ∀ ns, ¬ RingP rows ns) := by
  refine ⟨fun ns e => ?_, fun e ns g => ?_⟩
  · obtain ⟨h1, h2, _, h4⟩ := h.som ns e
    refine ⟨h1, fun ms g => ?_⟩
    obtain ⟨p, ns', m, l, x⟩ := g.best
    have hp : 0 ≤ p ∧ p < (rows.length : Int) := m.1.1 p (by
      obtain ⟨_, hd, _⟩ := m
      exact List.mem_of_mem_head? hd)
    have := h4 p.toNat ns' (by omega) (by rw [show ((p.toNat : Nat) : Int) = p by omega]; exact m)
    rcases this with l2 | ⟨l2, x2⟩
    · exact .inl (by omega)
    · exact .inr ⟨by omega, lexP_trans x2 x⟩
  · obtain ⟨p, ns', m, _, _⟩ := g.best
    have hp : 0 ≤ p ∧ p < (rows.length : Int) := m.1.1 p (by
      obtain ⟨_, hd, _⟩ := m
      exact List.mem_of_mem_head? hd)
    exact (h.non e).2 p.toNat ns' (by omega) (by rw [show ((p.toNat : Nat) : Int) = p by omega]; exact m)
end
/-! rows of unlike points -/
def PathN (rows : List (List Int)) (k : Nat) (l : List Int) : Prop := l.length = k ∧ l.Nodup ∧ (∀ p ∈ l, 0 ≤ p ∧ p < (rows.length : Int)) ∧ chainP rows l
def closes (rows : List (List Int)) (l : List Int) : Prop := ∃ a z, l.head? = some a ∧ l.getLast? = some z ∧ a ∈ rowAt rows z
theorem ring_iff {rows : List (List Int)} {l : List Int} : RingP rows l ↔ PathN rows l.length l ∧ closes rows l := ⟨fun ⟨a, b, c, d⟩ => ⟨⟨rfl, b, a, c⟩, d⟩, fun ⟨⟨_, b, a, c⟩, d⟩ => ⟨a, b, c, d⟩⟩
theorem PathN.more {rows : List (List Int)} (hr : RwOk rows) {k : Nat} (k0 : 0 < k) {l : List Int} : PathN rows (k + 1) l ↔ ∃ r z x, PathN rows k r ∧ r.getLast? = some z ∧ x ∈ rowAt rows z ∧ x ∉ r ∧ l = r ++ [x] := by
  constructor
  · rintro ⟨h1, h2, h3, h4⟩
    have ne : l ≠ [] := fun e => by rw [e] at h1; cases h1
    have e := (List.dropLast_concat_getLast ne).symm
    generalize l.dropLast = r at e
    generalize l.getLast ne = x at e
    subst e
    rw [List.length_append] at h1
    have h1 : r.length + 1 = k + 1 := h1
    obtain ⟨c1, _, c3⟩ := chainP_app.mp h4
    have ner : r ≠ [] := fun e => by rw [e] at h1; simp at h1; omega
    exact ⟨r, r.getLast ner, x, ⟨by omega, (List.nodup_append.mp h2).1, fun p hp => h3 p (List.mem_append_left _ hp), c1⟩, List.getLast?_eq_some_getLast ner, c3 _ x (List.getLast?_eq_some_getLast ner) rfl, fun hx => (List.nodup_append.mp h2).2.2 x hx x (by simp) rfl, rfl⟩
  · rintro ⟨r, z, x, ⟨h1, h2, h3, h4⟩, ez, hx, nx, rfl⟩
    refine ⟨by rw [List.length_append, h1]; rfl, List.nodup_append.mpr ⟨h2, by simp, fun a ha b hb e => nx (by rw [← List.mem_singleton.mp hb, ← e]; exact ha)⟩, fun p hp => ?_, chainP_app.mpr ⟨h4, trivial, fun u v q1 q2 => ?_⟩⟩
    · rcases List.mem_append.mp hp with hp | hp
      · exact h3 p hp
      · rw [List.mem_singleton.mp hp]
        exact row_rng hr hx
    · rw [ez] at q1
      cases q1
      cases q2
      exact hx
theorem PathN.pre {rows : List (List Int)} {k j : Nat} {l : List Int} (h : PathN rows k l) (hj : j ≤ k) : PathN rows j (l.take j) := by
  obtain ⟨h1, h2, h3, h4⟩ := h
  rw [← List.take_append_drop j l] at h4
  exact ⟨by rw [List.length_take]; omega, h2.sublist (List.take_sublist _ _), fun p hp => h3 p (List.mem_of_mem_take hp), (chainP_app.mp h4).1⟩
/-! befores_of -/
section
variable {P : Program} {w : World} {K : PySem.W.Frag} {mg : Str → Option Value} {base : Heap} {f : Addr} {fd : FuncData}
def BefAt (K : PySem.W.Frag) (H : Hp) (B : Addr) (rows : List (List Int)) : Prop := ∃ as : List Addr, SqL K H B (as.map V.ref) ∧ as.length = rows.length ∧ ∀ (i : Nat) a, as[i]? = some a → ∃ bs : List Int, SqL K H a (bs.map V.int) ∧ bs.Nodup ∧ ∀ p, p ∈ bs ↔ backE rows (i : Int) p
def spBef (K : PySem.W.Frag) : Sp := fun vs H Q _ => ∃ (x : V) (rows : List (List Int)), vs = [x] ∧ Dp K H x (chD rows) ∧ RwOk rows ∧ (∀ ns ∈ rows, ns.Pairwise (· < ·)) ∧ ∀ B H', Same H H' → BefAt K H' B rows → Q (.ref B) H'
abbrev bfN : List Str := ["chart", "befores", "point", "nexts", "after"]
theorem scBef : FnScope bfN ["chart"] (defScope sBefores) := ⟨rfl, rfl, rfl, by decide +kernel, rfl, by decide +kernel, by decide +kernel⟩
theorem same_upd {H G : Hp} {a : Addr} {o : HO} (s : Same H G) (h : H a = none) : Same H (upd G a o) := fun b u hb => by rw [upd_ne (ne_of_none hb h)]; exact s b u hb
theorem ok_bef {k : Nat} (F : Fun K "befores_of" "befores_of" sBefores f fd) (hE : mg "enumerate" = none) : FnOk P w K mg base CX0 (k + 1) f fd ["chart"] (spBef K) := by
  refine F.ok scBef (fun vs H Q E h => ?_) (fun cdv A outer s H vs Q E hr h => ?_)
  · obtain ⟨x, rows, rfl, _⟩ := h
    rfl
  obtain ⟨x, rows, rfl, hx, hrw, hsrt, q⟩ := h
  refine ⟨_, pss_cons (ps_setLc (i := 1) (own := [("nexts", 3)]) (g := gName 3) (tt := tYes) (te := tLst tNil) rfl scBef.nd rfl rfl rfl (pi_tup (pv 0))
      (blkOk_by (own := [("nexts", 3)]) (N := bfN) (sc := defScope sBefores) (by decide +kernel))
      (fun _ _ _ _ _ => pg_name (i := 3) scBef.nd rfl (Or.inl rfl)) (fun _ _ _ _ _ => pts_nil) (fun _ _ _ _ _ => pe_lst pa_nil))
    (pss_cons (ps_for PassesOwn.never rfl (pi_enumT rfl hE (pa_cons (pv 0) pa_nil)) (pg_tup rfl (pgs_cons (pg_name (i := 2) scBef.nd rfl (.inl rfl)) (pgs_cons (pg_name (i := 3) scBef.nd rfl (.inl rfl)) pgs_nil)))
      (pss_one (ps_for PassesOwn.never rfl (pi_tup (pv 3)) (pg_name (i := 4) scBef.nd rfl (.inl rfl))
        (pss_one (ps_expr (pe_bm PySem.F.plainAttrs_list PySem.F.slot_list_append PySem.F.type_list_append mt_append (pe_ix ix_list (pv 1) (pv 4) (fun _ _ => rfl)) (pa_cons (pv 2) pa_nil)))))))
    (pss_one (ps_ret (pv 1)))), ?_⟩
  cases hx with
  | @tup ca cs _ cat ceach =>
    have lc : cs.length = rows.length := by have := dpAll_len ceach; rw [List.length_map] at this; exact this
    have hlen := hrw.len
    refine ⟨_, rfl, ca, rfl, ⟨cs, cat⟩, fun D hD => ?_⟩
    refine lc_tup (xs := cs) (fun i G => Same H G ∧ ∃ as : List Addr, G D = some (.lst (as.map V.ref)) ∧ as.length = i ∧ as.Nodup ∧ ∀ a ∈ as, H a = none ∧ G a = some (.lst []) ∧ a ≠ D)
      ⟨same_new hD _, [], upd_same, rfl, List.nodup_nil, fun a ha => by cases ha⟩ (fun i G _ h => sqT_same h.1 cat) (fun i v G hv h => ?_) (fun G h => ?_)
    · obtain ⟨sm, as, hG, la, nd, has⟩ := h
      have hi : i < cs.length := (List.getElem?_eq_some_iff.mp hv).1
      refine ⟨rfl, yesG ⟨small (by show 0 ≤ 1000; decide), fun p hp => ⟨as.map V.ref, ?_, Nat.lt_of_lt_of_le (show _ < 1000 by rw [List.length_map]; omega) (small (Nat.le_refl _)), ?_⟩⟩⟩
      · rw [upd_ne (ne_of_none hG hp)]
        exact hG
      · have np : p ≠ D := fun e => by rw [e, hG] at hp; cases hp
        have hp0 : H p = none := by
          cases e : H p with
          | none => rfl
          | some u => rw [sm p u e] at hp; cases hp
        refine ⟨same_upd (same_upd sm hp0) hD, as ++ [p], by rw [upd_same, List.map_append]; rfl, by rw [List.length_append]; show _ + 1 = _; omega, List.nodup_append.mpr ⟨nd, by simp, fun a ha b hb e => ?_⟩, fun a ha => ?_⟩
        · rw [List.mem_singleton.mp hb] at e
          have := (has a ha).2.1
          rw [e, hp] at this
          cases this
        · rcases List.mem_append.mp ha with ha | ha
          · obtain ⟨h1, h2, h3⟩ := has a ha
            exact ⟨h1, by rw [upd_ne h3, upd_ne (ne_of_none h2 hp)]; exact h2, h3⟩
          · rw [List.mem_singleton.mp ha]
            exact ⟨hp0, by rw [upd_ne np, upd_same], np⟩
    · obtain ⟨sm, as, hG, la, nd, has⟩ := h
      refine ⟨_, rfl, ca, cs, rfl, sqT_same sm cat, ?_⟩
      refine for_enumT (xs := cs) (fun i σ G => ∃ o2 o3 o4, σ = [some (.ref ca), some (.ref D), o2, o3, o4] ∧ Same H G ∧ G D = some (.lst (as.map V.ref)) ∧ ∀ (m : Nat) a, as[m]? = some a → ∃ bs : List Int, G a = some (.lst (bs.map V.int)) ∧ bs.length ≤ i * 30 ∧ bs.Nodup ∧ ∀ p, p ∈ bs ↔ (0 ≤ p ∧ p < (i : Int) ∧ (m : Int) ∈ rowAt rows p))
        ⟨_, _, _, rfl, sm, hG, fun m a ha => ⟨[], (has a (List.mem_of_getElem? ha)).2.1, Nat.zero_le _, List.nodup_nil, fun p => ⟨fun z => (by cases z), fun z => (by omega)⟩⟩⟩ (fun i σ G _ h => by obtain ⟨_, _, _, _, s1, _⟩ := h; exact sqT_same s1 cat) (fun i v T0 σ G hv h hT => ?_) (fun σ G h => ?_)
      · obtain ⟨o2, o3, o4, rfl, s1, hG1, each1⟩ := h
        have hi : i < cs.length := (List.getElem?_eq_some_iff.mp hv).1
        have hr' := List.getElem?_eq_getElem (show i < rows.length by omega)
        generalize rows[i] = row at hr'
        obtain ⟨b, hb, bat⟩ := ch_row ceach hr'
        rw [hv] at hb
        cases hb
        have hrow := hrw.row row (List.mem_of_getElem? hr')
        have nT := same_new hT (.tup [.int (i : Nat), .ref b])
        have s2 := s1.trans nT
        refine ⟨T0, _, rfl, SqT.of upd_same, rfl, _, _, rfl, _, _, rfl, rfl, _, rfl, b, rfl, ⟨_, sqT_same s2 bat⟩, ?_⟩
        have hG2 := nT _ _ hG1
        have each2 : ∀ (m : Nat) a, as[m]? = some a → ∃ bs : List Int, (upd G T0 (.tup [.int (i : Nat), .ref b])) a = some (.lst (bs.map V.int)) ∧ bs.length ≤ i * 30 ∧ bs.Nodup ∧ ∀ p, p ∈ bs ↔ (0 ≤ p ∧ p < (i : Int) ∧ (m : Int) ∈ rowAt rows p) := fun m a ha => by
          obtain ⟨bs, h1, h2⟩ := each1 m a ha
          exact ⟨bs, nT _ _ h1, h2⟩
        generalize upd G T0 (.tup [.int (i : Nat), .ref b]) = G2 at s2 hG2 each2
        have hra : rowAt rows (i : Int) = row := rowAt_nat hr'
        refine for_tup (xs := row.map V.int) (fun j σ G => ∃ o4, σ = [some (.ref ca), some (.ref D), some (.int (i : Nat)), some (.ref b), o4] ∧ Same H G ∧ G D = some (.lst (as.map V.ref)) ∧ ∀ (m : Nat) a, as[m]? = some a → ∃ bs : List Int, G a = some (.lst (bs.map V.int)) ∧ bs.length ≤ i * 30 + j ∧ bs.Nodup ∧ ∀ p, p ∈ bs ↔ ((0 ≤ p ∧ p < (i : Int) ∧ (m : Int) ∈ rowAt rows p) ∨ (p = i ∧ (m : Int) ∈ row.take j)))
          ⟨_, rfl, s2, hG2, fun m a ha => ?_⟩ (fun j σ G _ h => by obtain ⟨_, _, s3, _⟩ := h; exact sqT_same s3 bat) (fun j v σ G hv h => ?_) (fun σ G h => ?_)
        · obtain ⟨bs, h1, h2, hnd, h3⟩ := each2 m a ha
          exact ⟨bs, h1, by omega, hnd, fun p => by rw [h3 p]; simp⟩
        · obtain ⟨o4', rfl, s3, hG3, each3⟩ := h
          obtain ⟨n, hn, rfl⟩ := ints_get hv
          have hj : j < row.length := (List.getElem?_eq_some_iff.mp hn).1
          have hnr := hrow.2 n (List.mem_of_getElem? hn)
          obtain ⟨a, ha⟩ : ∃ a, as[n.toNat]? = some a := ⟨_, List.getElem?_eq_getElem (by omega)⟩
          obtain ⟨bs, hbs, lbs, ndb, iff⟩ := each3 n.toNat a ha
          obtain ⟨ha0, _, haD⟩ := has a (List.mem_of_getElem? ha)
          refine ⟨_, rfl, _, rfl, D, _, n, .ref a, rfl, rfl, SqL.of hG3, atI_at hnr.1 (by rw [List.getElem?_map, ha]; rfl), .inl ⟨rfl, _, SqL.of hbs⟩, _, rfl, a, _, _, rfl, rfl, hbs, Nat.lt_of_lt_of_le (show _ < 2000 by rw [List.length_map]; omega) (Nat.le_trans (by decide) (big (Nat.le_refl _))), ?_⟩
          refine ⟨_, rfl, same_upd s3 ha0, by rw [upd_ne (Ne.symm haD)]; exact hG3, fun m c hc => ?_⟩
          have et : row.take (j + 1) = row.take j ++ [n] := by rw [List.take_add_one, hn]; rfl
          by_cases e : c = a
          · subst e
            have em : m = n.toNat := (List.getElem_inj (h₀ := (List.getElem?_eq_some_iff.mp hc).1) (h₁ := (List.getElem?_eq_some_iff.mp ha).1) nd).mp (by rw [(List.getElem?_eq_some_iff.mp hc).2, (List.getElem?_eq_some_iff.mp ha).2])
            subst em
            have inew : (i : Int) ∉ bs := fun hm => by
              rcases (iff i).mp hm with y | ⟨_, y⟩
              · omega
              · have ndr : row.Nodup := (hsrt row (List.mem_of_getElem? hr')).imp fun h e => by omega
                have nd' := List.Nodup.sublist (List.take_sublist (j + 1) row) ndr
                rw [et] at nd'
                rw [show ((n.toNat : Nat) : Int) = n by omega] at y
                exact (List.nodup_append.mp nd').2.2 n y n (by simp) rfl
            refine ⟨bs ++ [(i : Int)], by rw [upd_same, List.map_append]; rfl, by rw [List.length_append]; show _ + 1 ≤ _; omega, List.nodup_append.mpr ⟨ndb, by simp, fun a ha b hb e => inew (by rw [← List.mem_singleton.mp hb, ← e]; exact ha)⟩, fun p => ?_⟩
            rw [List.mem_append, iff p, et, List.mem_append, List.mem_singleton, List.mem_singleton]
            constructor
            · rintro ((y | ⟨y1, y2⟩) | y)
              · exact .inl y
              · exact .inr ⟨y1, .inl y2⟩
              · exact .inr ⟨y, .inr (by omega)⟩
            · rintro (y | ⟨y1, y2 | y2⟩)
              · exact .inl (.inl y)
              · exact .inl (.inr ⟨y1, y2⟩)
              · exact .inr y1
          · obtain ⟨bs', h1, h2, hnd, h3⟩ := each3 m c hc
            refine ⟨bs', by rw [upd_ne e]; exact h1, by omega, hnd, fun p => ?_⟩
            rw [h3 p, et, List.mem_append, List.mem_singleton]
            constructor
            · rintro (y | ⟨y1, y2⟩)
              · exact .inl y
              · exact .inr ⟨y1, .inl y2⟩
            · rintro (y | ⟨y1, y2 | y2⟩)
              · exact .inl y
              · exact .inr ⟨y1, y2⟩
              · exfalso
                have em : m = n.toNat := by omega
                subst em
                rw [hc] at ha
                exact e (Option.some.inj ha)
        · obtain ⟨o4', rfl, s3, hG3, each3⟩ := h
          refine ⟨_, _, _, rfl, s3, hG3, fun m a ha => ?_⟩
          obtain ⟨bs, h1, h2, hnd, h3⟩ := each3 m a ha
          rw [List.length_map] at h2 h3
          refine ⟨bs, h1, by omega, hnd, fun p => ?_⟩
          rw [h3 p, List.take_length]
          constructor
          · rintro (⟨y1, y2, y3⟩ | ⟨y1, y2⟩)
            · exact ⟨y1, by omega, y3⟩
            · exact ⟨by omega, by omega, by rw [y1, hra]; exact y2⟩
          · rintro ⟨y1, y2, y3⟩
            by_cases e : p = i
            · exact .inr ⟨e, by rw [← hra, ← e]; exact y3⟩
            · exact .inl ⟨y1, by omega, y3⟩
      · obtain ⟨o2, o3, o4, rfl, s1, hG1, each1⟩ := h
        refine ⟨_, rfl, q D G s1 ⟨as, SqL.of hG1, by rw [la]; exact lc, fun i a ha => ?_⟩⟩
        obtain ⟨bs, h1, h2, hnd, h3⟩ := each1 i a ha
        rw [lc] at h3
        exact ⟨bs, SqL.of h1, hnd, h3⟩
end
/-! d = {k: v for ..}, the name stored where the comprehension ends -/
section
open PySem.Spec PyProof.Rows
variable {X : Cx}
theorem ps_setDc {i : Nat} {y : Str} {py : Pos} {kx vx tg iter : Expr} {ifs : List Expr} {sc : Scope} {own : List (Str × Nat)} {pos spos : Pos} {wi : TI} {g : TG} {tt : TT} {tk tv : TE} (hc : X.calm = true) (hN : X.N.Nodup) (hy : X.N[i]? = some y) (hyl : X.env.scope.names.lookup y = some .local)
    (hsw : swapsWith (.DictComp kx vx [⟨tg, iter, ifs, 0⟩] sc pos) (some (.Name y py)) spos.line X.env = pure true) (hi : PI X tg iter wi) (ok : BlkOk X.N X.env.scope sc own)
    (hg : ∀ (u : Shared) (G : Hp) (C : Addr) (cl : List (Str × Addr)) (fp : List Addr), PG (X.blk u G sc (compEnvC sc cl C X.env) fp) tg g) (ht : ∀ (u : Shared) (G : Hp) (C : Addr) (cl : List (Str × Addr)) (fp : List Addr), PTs (X.blk u G sc (compEnvC sc cl C X.env) fp) ifs tt)
    (hk : ∀ (u : Shared) (G : Hp) (C : Addr) (cl : List (Str × Addr)) (fp : List Addr), PE (X.blk u G sc (compEnvC sc cl C X.env) fp) kx tk) (he : ∀ (u : Shared) (G : Hp) (C : Addr) (cl : List (Str × Addr)) (fp : List Addr), PE (X.blk u G sc (compEnvC sc cl C X.env) fp) vx tv) (hs : ∀ x, foldedSetIterable iter X.env x = pure x := by intro _; rfl) :
    PS X (.Assign [.Name y py] (.DictComp kx vx [⟨tg, iter, ifs, 0⟩] sc pos) spos) (tAsg (tDc wi g tt tk tv (own.map (·.2))) (gName i)) := by
  refine ⟨fun pins u ρ G D I h => ?_⟩
  rw [exec_Assign_Name_used _ _ _ _ hsw]
  refine wpAny_bind (wpAny_standAt (wpAny_bind ?_))
  show wpAny _ X.A (do let _ ← comprehension (.DictComp kx vx [⟨tg, iter, ifs, 0⟩] sc pos) sc X.env (firstIterPos [⟨tg, iter, ifs, 0⟩] pos) newDict false (eval iter X.env) (some (assign (.Name y py) X.env))) _ _ u
  have h : tDc wi g tt tk tv (own.map (·.2)) ρ G (fun x G1 => gName i x ρ G1 D.nx) := h
  refine wpAny_bind (thn (dc_core (Qf := fun _ u' => SP X pins D .next u') hc hN I hi ok hg ht hk he hs h fun L C u' m G' I' q hn f => ?_) fun _ u' hq => wpAny_pure (wpAny_pure hq))
  show wpAny _ _ (assign (.Name y py) X.env (.ref L)) _ _ _
  refine wpAny_assign_Name (store_ok2 (v := V.ref L) I' hN hy (.inl hyl) rfl (fun u2 I2 ⟨a, sb, ha⟩ => ?_) (.inr hyl))
  have far : C ≠ a := ha.elim (fun z => by rw [z]; exact f.2.1) (fun z e => f.2.2.2.2.1 y a z e.symm)
  exact ⟨m, hn.sameBut sb far, fun h3 sb3 => ⟨_, G', I2.turned (t' := u2.toks) (fun b o hb e => (sb3.2 b hb).trans e) f.1 f.2.1 f.2.2.2.1 f.2.2.2.2.1 f.2.2.2.2.2, q⟩⟩
end
/-! distances -/
abbrev foreE (rows : List (List Int)) : Int → Int → Prop := fun q p => 0 ≤ q ∧ q < (rows.length : Int) ∧ p ∈ rowAt rows q
/-- a dict of points, with how far each is, as far as m -/
structure FarTo (S : Int → Prop) (E : Int → Int → Prop) (n m : Nat) (kvs : List (Key × V)) : Prop where
  snd : ∀ p v, valV kvs (Sum.inl p) = some v → ∃ k : Nat, k ≤ m ∧ v = .int k ∧ Dk S E k p
  all : ∀ p (k : Nat), k ≤ m → Dk S E k p → valV kvs (Sum.inl p) = some (.int k)
  keys : ∃ ks : List Int, kvs.map (·.1) = ks.map Sum.inl ∧ ks.Nodup ∧ ∀ p ∈ ks, 0 ≤ p ∧ p < (n : Int)
structure FarOk (S : Int → Prop) (E : Int → Int → Prop) (n : Nat) (kvs : List (Key × V)) : Prop where
  snd : ∀ p v, valV kvs (Sum.inl p) = some v → ∃ k : Nat, v = .int k ∧ Dk S E k p
  all : ∀ p (k : Nat), Dk S E k p → valV kvs (Sum.inl p) = some (.int k)
  keys : ∃ ks : List Int, kvs.map (·.1) = ks.map Sum.inl ∧ ks.Nodup ∧ ∀ p ∈ ks, 0 ≤ p ∧ p < (n : Int)
theorem key_len {n : Nat} {kvs : List (Key × V)} (h : ∃ ks : List Int, kvs.map (·.1) = ks.map Sum.inl ∧ ks.Nodup ∧ ∀ p ∈ ks, 0 ≤ p ∧ p < (n : Int)) : kvs.length ≤ n := by
  obtain ⟨ks, h1, h2, h3⟩ := h
  have l := congrArg List.length h1
  rw [List.length_map, List.length_map] at l
  rw [l]
  exact nodup_len n ks h2 h3
theorem FarTo.ok {S : Int → Prop} {E : Int → Int → Prop} {n m : Nat} {kvs : List (Key × V)} (h : FarTo S E n m kvs) (no : ∀ k p, Dk S E k p → k ≤ m) : FarOk S E n kvs :=
  ⟨fun p v e => by obtain ⟨k, _, h2, h3⟩ := h.snd p v e; exact ⟨k, h2, h3⟩, fun p k d => h.all p k (no k p d) d, h.keys⟩
theorem not_key {kvs : List (Key × V)} {ks : List Int} {p : Int} (h : kvs.map (·.1) = ks.map Sum.inl) (hv : valV kvs (Sum.inl p) = none) : p ∉ ks := fun hp => by
  have hm : (Sum.inl p : Key) ∈ kvs.map (·.1) := by rw [h]; exact List.mem_map.mpr ⟨p, hp, rfl⟩
  obtain ⟨kv, h1, h2⟩ := List.mem_map.mp hm
  have z : (kvs.any fun kv => decide (kv.1 = (Sum.inl p : Key))) = true := List.any_eq_true.mpr ⟨kv, h1, decide_eq_true h2⟩
  rw [valV_any, hv] at z
  cases z
/-- within a round: what was known, and the fresh ones -/
structure MidTo (S : Int → Prop) (E : Int → Int → Prop) (n st : Nat) (kvs : List (Key × V)) (fs : List Int) : Prop where
  snd : ∀ p v, valV kvs (Sum.inl p) = some v → (∃ k : Nat, k ≤ st ∧ v = .int k ∧ Dk S E k p) ∨ (v = .int (st + 1 : Nat) ∧ p ∈ fs)
  all : ∀ p (k : Nat), k ≤ st → Dk S E k p → valV kvs (Sum.inl p) = some (.int k)
  fsh : ∀ p ∈ fs, Dk S E (st + 1) p ∧ valV kvs (Sum.inl p) = some (.int (st + 1 : Nat))
  nd : fs.Nodup
  keys : ∃ ks : List Int, kvs.map (·.1) = ks.map Sum.inl ∧ ks.Nodup ∧ ∀ p ∈ ks, 0 ≤ p ∧ p < (n : Int)
section
variable {S : Int → Prop} {E : Int → Int → Prop} {n st : Nat} {kvs : List (Key × V)} {fs : List Int}
theorem FarTo.mid (h : FarTo S E n st kvs) : MidTo S E n st kvs [] :=
  ⟨fun p v e => .inl (h.snd p v e), h.all, (fun p hp => by cases hp), List.nodup_nil, h.keys⟩
theorem MidTo.add (h : MidTo S E n st kvs fs) {p q : Int} (hv : valV kvs (Sum.inl p) = none) (hq : Dk S E st q) (he : E q p) (hr : 0 ≤ p ∧ p < (n : Int)) : MidTo S E n st (putK kvs (Sum.inl p) (.int (st + 1 : Nat))) (fs ++ [p]) := by
  have new : Dk S E (st + 1) p := by
    refine ⟨⟨q, hq.1, he⟩, fun j hj r => ?_⟩
    obtain ⟨i, hi, d⟩ := r.ex
    have := h.all p i (by omega) d
    rw [hv] at this
    cases this
  refine ⟨fun r v e => ?_, fun r k hk d => ?_, fun r hr' => ?_, List.nodup_append.mpr ⟨h.nd, by simp, fun a ha b hb e => ?_⟩, ?_⟩
  · rw [valV_put] at e
    by_cases z : (Sum.inl r : Key) = Sum.inl p
    · rw [if_pos z] at e
      cases e
      exact .inr ⟨rfl, by rw [Sum.inl.inj z]; simp⟩
    · rw [if_neg z] at e
      rcases h.snd r v e with y | ⟨y1, y2⟩
      · exact .inl y
      · exact .inr ⟨y1, List.mem_append_left _ y2⟩
  · rw [valV_put, if_neg (fun z => by
      have := h.all r k hk d
      rw [Sum.inl.inj z, hv] at this
      cases this)]
    exact h.all r k hk d
  · rcases List.mem_append.mp hr' with hr' | hr'
    · obtain ⟨y1, y2⟩ := h.fsh r hr'
      refine ⟨y1, ?_⟩
      rw [valV_put, if_neg (fun z => by rw [Sum.inl.inj z, hv] at y2; cases y2)]
      exact y2
    · rw [List.mem_singleton.mp hr']
      exact ⟨new, by rw [valV_put, if_pos rfl]⟩
  · rw [List.mem_singleton.mp hb] at e
    have := (h.fsh a ha).2
    rw [e, hv] at this
    cases this
  · obtain ⟨ks, k1, k2, k3⟩ := h.keys
    refine ⟨ks ++ [p], by rw [putK_new _ hv, List.map_append, k1, List.map_append]; rfl, List.nodup_append.mpr ⟨k2, by simp, fun a ha b hb e => not_key k1 hv (by rw [← List.mem_singleton.mp hb, ← e]; exact ha)⟩, fun a ha => ?_⟩
    rcases List.mem_append.mp ha with ha | ha
    · exact k3 a ha
    · rw [List.mem_singleton.mp ha]
      exact hr
theorem MidTo.fin (h : MidTo S E n st kvs fs) (cov : ∀ q, Dk S E st q → ∀ p, E q p → (valV kvs (Sum.inl p)).isSome = true) : FarTo S E n (st + 1) kvs ∧ ∀ p, p ∈ fs ↔ Dk S E (st + 1) p := by
  have iff : ∀ p, p ∈ fs ↔ Dk S E (st + 1) p := fun p => ⟨fun hp => (h.fsh p hp).1, fun d => by
    obtain ⟨q, hq, e⟩ := d.pred
    obtain ⟨v, hv⟩ := Option.isSome_iff_exists.mp (cov q hq p e)
    rcases h.snd p v hv with ⟨k, hk, _, d'⟩ | ⟨_, y⟩
    · have := d'.uniq d
      omega
    · exact y⟩
  refine ⟨⟨fun p v e => ?_, fun p k hk d => ?_, h.keys⟩, iff⟩
  · rcases h.snd p v e with ⟨k, hk, y⟩ | ⟨y1, y2⟩
    · exact ⟨k, by omega, y⟩
    · exact ⟨st + 1, Nat.le_refl _, y1, (h.fsh p y2).1⟩
  · by_cases c : k ≤ st
    · exact h.all p k c d
    · have e : k = st + 1 := by omega
      subst e
      exact (h.fsh p ((iff p).mpr d)).2
end
theorem val0 (l : List Int) (p : Int) : valV (l.map fun p => ((Sum.inl p : Key), V.int 0)) (Sum.inl p) = if p ∈ l then some (.int 0) else none := by
  induction l with
  | nil => rfl
  | cons a r ih =>
    rw [List.map_cons]
    by_cases e : a = p
    · rw [valV_pos (by rw [e]), if_pos (by rw [e]; exact List.mem_cons_self)]
    · rw [valV_neg (fun z => e (Sum.inl.inj z)), ih]
      have : p ∈ a :: r ↔ p ∈ r := by rw [List.mem_cons]; exact ⟨fun h => h.resolve_left (fun z => e z.symm), .inr⟩
      simp only [this]
theorem none_same {H G : Hp} {a : Addr} (s : Same H G) (h : G a = none) : H a = none := by
  cases e : H a with
  | none => rfl
  | some u => rw [s a u e] at h; cases h
theorem sqL_same {K : PySem.W.Frag} {H H' : Hp} (s : Same H H') {a : Addr} {xs : List V} (h : SqL K H a xs) : SqL K H' a xs := by
  rcases h with (z | ⟨o, z⟩) | z
  · exact .inl (.inl (s _ _ z))
  · exact .inl (.inr ⟨o, s _ _ z⟩)
  · exact .inr z
section
variable {P : Program} {w : World} {K : PySem.W.Frag} {mg : Str → Option Value} {base : Heap} {f : Addr} {fd : FuncData}
abbrev diN : List Str := ["links", "origins", "least", "most", "far", "edge", "steps", "fresh", "point", "other"]
theorem scDist : FnScope diN ["links", "origins", "least", "most"] (defScope sDist) := ⟨rfl, rfl, rfl, by decide +kernel, rfl, by decide +kernel, by decide +kernel⟩
end
/-! distances from one point, among the points from it on, as far as most -/
section
variable {P : Program} {w : World} {K : PySem.W.Frag} {mg : Str → Option Value} {base : Heap} {f : Addr} {fd : FuncData}
def spDistR (K : PySem.W.Frag) : Sp := fun vs H Q _ => ∃ (y : V) (B : Addr) (rows : List (List Int)) (p most : Int), vs = [.ref B, y, .int p, .int most] ∧ BefAt K H B rows ∧ RwOk rows ∧ Dp K H y (.tuple ([p].map .int)) ∧ 0 ≤ p ∧ p < (rows.length : Int) ∧
  ∀ F kvs H', Same H H' → H' F = some (.dK kvs) → FarTo (inP [p]) (backE (resR rows p)) rows.length most.toNat kvs → Q (.ref F) H'
set_option maxHeartbeats 1000000 in
theorem ok_distR {k : Nat} (F : Fun K "distances" "distances" sDist f fd) (T : Free mg) : FnOk P w K mg base CX0 (k + 1) f fd ["links", "origins", "least", "most"] (spDistR K) := by
  refine F.ok scDist (fun vs H Q E h => ?_) (fun cdv A outer s H vs Q E hr h => ?_)
  · obtain ⟨y, B, rows, p, most, rfl, _⟩ := h
    rfl
  refine ⟨_, pss_cons (ps_setDc (i := 4) (own := [("point", 8)]) (g := gName 8) (tt := tYes) (tk := tVar 8) (tv := tC (.int 0)) rfl scDist.nd rfl rfl rfl (pi_tup (pv 1))
      (blkOk_by (own := [("point", 8)]) (N := diN) (sc := defScope sDist) (by decide +kernel))
      (fun _ _ _ _ _ => pg_name (i := 8) scDist.nd rfl (Or.inl rfl)) (fun _ _ _ _ _ => pts_nil) (fun _ _ _ _ _ => pv 8) (fun _ _ _ _ _ => pe_int))
    (pss_cons (ps_set (i := 5) scDist.nd rfl (.inl rfl) (pe_callTy call_list_of rfl T.list (by decide +kernel) (pa_cons (pv 1) pa_nil)))
    (pss_cons (ps_set (i := 6) scDist.nd rfl (.inl rfl) pe_int)
    (pss_cons (ps_while PassesOwn.never (PW.pt (pw_and (pt_truth (pv 5) (fun _ => rfl)) (pw_and1 (pt_cmpR op_lt (pv 6) (pv 3) (nomark _)))))
      (pss_cons (ps_aug (i := 6) scDist.nd rfl (.inl rfl) pe_int ip_add (.inr rfl))
      (pss_cons (ps_set (i := 7) scDist.nd rfl (.inl rfl) (pe_lst pa_nil))
      (pss_cons (ps_for PassesOwn.never rfl (pi_list (pv 5)) (pg_name (i := 8) scDist.nd rfl (.inl rfl))
        (pss_one (ps_for PassesOwn.never rfl (pi_list (pe_ix ix_list (pv 0) (pv 8) (fun _ _ => rfl))) (pg_name (i := 9) scDist.nd rfl (.inl rfl))
          (pss_one (ps_if (PW.pt (pw_and (pt_cmpR op_ge (pv 9) (pv 2) (nomark _)) (pw_and1 (pt_cmp (pc_dnotin (Nat.lt_of_le_of_lt (Nat.add_le_add_left (by decide : 1 ≤ 64) _) hr.units) (pv 9) (pv 4))))))
            (pss_cons (ps_dput (Nat.lt_of_le_of_lt (Nat.add_le_add_left (by decide : 1 ≤ 64) _) hr.units) (pv 4) (pv 9) (pv 6) rfl)
            (pss_one (ps_expr (pe_bm PySem.F.plainAttrs_list PySem.F.slot_list_append PySem.F.type_list_append mt_append (pv 7) (pa_cons (pv 9) pa_nil))))) pss_nil)))))
      (pss_one (ps_set (i := 5) scDist.nd rfl (.inl rfl) (pv 7)))))))
    (pss_one (ps_ret (pv 4)))))), ?_⟩
  obtain ⟨y, B, rows, p, most, rfl, hx, hrw, hy, p0, p1, q⟩ := h
  have nd : [p].Nodup := by simp
  have hos : ∀ o ∈ [p], 0 ≤ o ∧ o < (rows.length : Int) := fun o ho => by rw [List.mem_singleton.mp ho]; exact ⟨p0, p1⟩
  have hop : ∀ o ∈ [p], p ≤ o := fun o ho => by rw [List.mem_singleton.mp ho]; exact Int.le_refl _
  generalize [p] = os at nd hos hop hy q
  obtain ⟨as, hB, las, each⟩ := hx
  have lk : ∀ {G : Hp} {pt : Int}, Same H G → 0 ≤ pt ∧ pt < (rows.length : Int) → ∃ (va : Addr) (l : List Int), atI (as.map V.ref) pt = some (.ref va) ∧ SqL K G va (l.map V.int) ∧ ∀ x, x ∈ l ↔ backE rows pt x := fun {G pt} sm hp => by
    obtain ⟨a, ha⟩ : ∃ a, as[pt.toNat]? = some a := ⟨_, List.getElem?_eq_getElem (by omega)⟩
    obtain ⟨bs, h1, _, h2⟩ := each _ a ha
    rw [show ((pt.toNat : Nat) : Int) = pt by omega] at h2
    exact ⟨a, bs, atI_at hp.1 (by rw [List.getElem?_map, ha]; rfl), sqL_same sm h1, h2⟩
  have rng : ∀ q x, backE (resR rows p) q x → 0 ≤ x ∧ x < (rows.length : Int) := fun q x h => ⟨h.1, by have := h.2.1; rw [resR_len] at this; exact this⟩
  have lnk : ∀ {G : Hp}, Same H G → SqL K G B (as.map V.ref) := fun sm => sqL_same sm hB
  have hb : ∀ (j : Nat) (q : Int), Rk (inP os) (backE (resR rows p)) j q → 0 ≤ q ∧ q < (rows.length : Int) := fun j q h => by
    cases j with
    | zero => exact hos q h
    | succ j =>
      obtain ⟨r, _, e⟩ := h
      exact rng r q e
  have hge : ∀ (j : Nat) (q : Int), Rk (inP os) (backE (resR rows p)) j q → p ≤ q := fun j q h => by
    cases j with
    | zero => exact hop q h
    | succ j =>
      obtain ⟨r, _, e⟩ := h
      exact ((mem_resR e.1).mp e.2.2).1
  obtain ⟨ya, rfl, yat⟩ := ints_at hy
  have los := nodup_len rows.length os nd hos
  have hlen := hrw.len
  refine ⟨_, rfl, ya, rfl, ⟨_, yat⟩, fun F hF => ?_⟩
  refine dc_tup (xs := os.map V.int) (fun i G => Same H G ∧ G F = some (.dK ((os.take i).map fun p => (Sum.inl p, V.int 0)))) ⟨same_new hF _, upd_same⟩ (fun i G _ h => sqT_same h.1 yat) (fun i v G hv h => ?_) (fun G h => ?_)
  · obtain ⟨sm, hG⟩ := h
    obtain ⟨n, hn, rfl⟩ := ints_get hv
    have hi : i < os.length := (List.getElem?_eq_some_iff.mp hn).1
    have et : os.take (i + 1) = os.take i ++ [n] := by rw [List.take_add_one, hn]; rfl
    have nin : n ∉ os.take i := fun hm => by
      have nd' := List.Nodup.sublist (List.take_sublist (i + 1) os) nd
      rw [et] at nd'
      exact (List.nodup_append.mp nd').2.2 n hm n (by simp) rfl
    have hnew : valV ((os.take i).map fun p => ((Sum.inl p : Key), V.int 0)) (Sum.inl n) = none := by rw [val0, if_neg nin]
    refine ⟨rfl, yesG ⟨_, rfl, _, Sum.inl n, rfl, hG, Nat.lt_of_lt_of_le (show _ < 1000 by rw [List.length_map, List.length_take]; omega) (small (Nat.le_refl _)), same_upd sm hF, ?_⟩⟩
    rw [upd_same, putK_new _ hnew, et, List.map_append]
    rfl
  obtain ⟨sm, hG⟩ := h
  rw [List.length_map, List.take_length] at hG
  refine ⟨_, rfl, ya, _, rfl, .inr (sqT_same sm yat), fun ed hed => ?_⟩
  have n1 := same_new hed (.lst (os.map V.int))
  have far0 : FarTo (inP os) (backE (resR rows p)) rows.length 0 (os.map fun p => (Sum.inl p, V.int 0)) := by
    refine ⟨fun p v e => ?_, fun p k hk d => ?_, os, by rw [List.map_map]; rfl, nd, hos⟩
    · rw [val0] at e
      by_cases z : p ∈ os
      · rw [if_pos z] at e
        cases e
        exact ⟨0, Nat.le_refl _, rfl, z, fun j hj => by omega⟩
      · rw [if_neg z] at e
        cases e
    · have e : k = 0 := by omega
      subst e
      rw [val0, if_pos (show p ∈ os from d.1)]
      rfl
  have fin : ∀ {G : Hp} {kvs : List (Key × V)} {st : Nat}, Same H G → G F = some (.dK kvs) → FarTo (inP os) (backE (resR rows p)) rows.length st kvs → st ≤ most.toNat → (∀ k x, k ≤ most.toNat → Dk (inP os) (backE (resR rows p)) k x → k ≤ st) → Q (.ref F) G := fun s1 h1 h2 h3 h4 => q F _ _ s1 h1 ⟨fun x v e => by obtain ⟨k, y1, y2⟩ := h2.snd x v e; exact ⟨k, by omega, y2⟩, fun x k hk d => h2.all x k (h4 k x hk d) d, h2.keys⟩
  refine ⟨fun m σ G => ∃ (st : Nat) (ed : Addr) (es : List Int) (kvs : List (Key × V)) (o7 o8 o9 : Option V), m = most.toNat - st ∧ σ = [some (.ref B), some (.ref ya), some (.int p), some (.int most), some (.ref F), some (.ref ed), some (.int (st : Nat)), o7, o8, o9] ∧ st ≤ most.toNat ∧ Same H G ∧ G F = some (.dK kvs) ∧ G ed = some (.lst (es.map V.int)) ∧ FarTo (inP os) (backE (resR rows p)) rows.length st kvs ∧ es.Nodup ∧ ∀ x, x ∈ es ↔ Dk (inP os) (backE (resR rows p)) st x,
    ⟨_, 0, ed, os, _, _, _, _, rfl, rfl, Nat.zero_le _, sm.trans n1, n1 _ _ hG, upd_same, far0, nd, fun p => ⟨fun z => ⟨z, fun j hj => (by omega)⟩, fun d => d.1⟩⟩, ?_⟩
  clear far0 n1 hed hG sm
  rintro m σ G ⟨st, ed, es, kvs, o7, o8, o9, rfl, rfl, lst, sm, hGF, hGe, far, nde, hes⟩
  refine ⟨_, rfl, _, .inl ⟨_, SqL.of hGe, rfl⟩, ?_⟩
  cases hcs : es with
  | nil =>
    refine ifF rfl (ifF rfl ⟨_, rfl, fin sm hGF far lst fun k x _ d => ?_⟩)
    by_cases c : k ≤ st
    · exact c
    · obtain ⟨r, hr'⟩ := d.down (s := st) (by omega)
      have := (hes r).mpr hr'
      rw [hcs] at this
      cases this
  | cons e0 er =>
    rw [← hcs]
    refine ifT (by rw [hcs]; rfl) ⟨_, rfl, _, rfl, _, _, rfl, rfl, _, rfl, ?_⟩
    by_cases c : (st : Int) < most
    · refine ifT (decide_eq_true (by omega)) ⟨fun σ' G' => ∃ m', m' < most.toNat - st ∧ ∃ (st : Nat) (ed : Addr) (es : List Int) (kvs : List (Key × V)) (o7 o8 o9 : Option V), m' = most.toNat - st ∧ σ' = [some (.ref B), some (.ref ya), some (.int p), some (.int most), some (.ref F), some (.ref ed), some (.int (st : Nat)), o7, o8, o9] ∧ st ≤ most.toNat ∧ Same H G' ∧ G' F = some (.dK kvs) ∧ G' ed = some (.lst (es.map V.int)) ∧ FarTo (inP os) (backE (resR rows p)) rows.length st kvs ∧ es.Nodup ∧ ∀ x, x ∈ es ↔ Dk (inP os) (backE (resR rows p)) st x, fun σ' G' h => h, ?_⟩
      refine ⟨_, rfl, _, _, rfl, rfl, small (by show 0 ≤ 1000; decide), fun fr hfr => ?_⟩
      have n2 := same_new hfr (.lst [])
      have fr0 : H fr = none := none_same sm hfr
      have nF : F ≠ fr := ne_of_none hGF hfr
      have ne : ed ≠ fr := ne_of_none hGe hfr
      refine ⟨_, rfl, ed, rfl, ⟨_, SqL.of (n2 _ _ hGe)⟩, ?_⟩
      refine for_list (xs := es.map V.int) (fun i σ G => ∃ (o8 o9 : Option V) (kvs' : List (Key × V)) (fs : List Int), σ = [some (.ref B), some (.ref ya), some (.int p), some (.int most), some (.ref F), some (.ref ed), some (.int (st + 1 : Nat)), some (.ref fr), o8, o9] ∧ Same H G ∧ G F = some (.dK kvs') ∧ G ed = some (.lst (es.map V.int)) ∧ G fr = some (.lst (fs.map V.int)) ∧ MidTo (inP os) (backE (resR rows p)) rows.length st kvs' fs ∧ ∀ q ∈ es.take i, ∀ x, (backE (resR rows p)) q x → (valV kvs' (Sum.inl x)).isSome = true)
        ⟨_, _, kvs, [], rfl, sm.trans n2, n2 _ _ hGF, n2 _ _ hGe, upd_same, far.mid, fun q hq => by simp at hq⟩ (fun i σ G _ h => by obtain ⟨_, _, _, _, _, _, _, h3, _⟩ := h; exact SqL.of h3) (fun i v σ G hv h => ?_) (fun σ G h => ?_)
      · obtain ⟨o8, o9, kvs', fs, rfl, s1, g1, g2, g3, mid, cov⟩ := h
        obtain ⟨pt, hpt, rfl⟩ := ints_get hv
        have dpt := (hes pt).mp (List.mem_of_getElem? hpt)
        have rpt := hb st pt dpt.1
        obtain ⟨va, l, h1, h2, h3⟩ := lk s1 rpt
        obtain ⟨_, l0, h10, h20, h30⟩ := lk (Same.refl H) rpt
        rw [h1] at h10
        cases h10
        have hl0 : ∀ {G2 : Hp}, Same H G2 → SqL K G2 va (l0.map V.int) := fun s2 => sqL_same s2 h20
        refine ⟨_, rfl, _, rfl, B, _, pt, _, rfl, rfl, lnk s1, h1, va, rfl, ⟨_, hl0 s1⟩, ?_⟩
        refine for_list (xs := l0.map V.int) (fun j σ G => ∃ (o9 : Option V) (kvs' : List (Key × V)) (fs : List Int), σ = [some (.ref B), some (.ref ya), some (.int p), some (.int most), some (.ref F), some (.ref ed), some (.int (st + 1 : Nat)), some (.ref fr), some (.int pt), o9] ∧ Same H G ∧ G F = some (.dK kvs') ∧ G ed = some (.lst (es.map V.int)) ∧ G fr = some (.lst (fs.map V.int)) ∧ MidTo (inP os) (backE (resR rows p)) rows.length st kvs' fs ∧ (∀ q ∈ es.take i, ∀ x, (backE (resR rows p)) q x → (valV kvs' (Sum.inl x)).isSome = true) ∧ ∀ x ∈ l0.take j, p ≤ x → (valV kvs' (Sum.inl x)).isSome = true)
          ⟨_, kvs', fs, rfl, s1, g1, g2, g3, mid, cov, fun x hx => by simp at hx⟩ (fun j σ G _ h => by obtain ⟨_, _, _, _, s2, _⟩ := h; exact hl0 s2) (fun j v σ G hv h => ?_) (fun σ G h => ?_)
        · obtain ⟨o9, kvs2, fs2, rfl, s2, g4, g5, g6, mid2, cov2, cov3⟩ := h
          obtain ⟨n, hn, rfl⟩ := ints_get hv
          have en := (h30 n).mp (List.mem_of_getElem? hn)
          have rn : 0 ≤ n ∧ n < (rows.length : Int) := ⟨en.1, en.2.1⟩
          have et : l0.take (j + 1) = l0.take j ++ [n] := by rw [List.take_add_one, hn]; rfl
          have lk2 := key_len mid2.keys
          have lf2 : fs2.length ≤ rows.length := nodup_len _ fs2 mid2.nd fun p hp => hb _ p (mid2.fsh p hp).1.1
          refine ⟨_, rfl, _, rfl, _, _, rfl, rfl, _, rfl, ?_⟩
          by_cases cn : p ≤ n
          case neg =>
            refine ifF (decide_eq_false (by omega)) (ifF rfl ⟨_, kvs2, fs2, rfl, s2, g4, g5, g6, mid2, cov2, fun x hx hxp => ?_⟩)
            rw [et] at hx
            rcases List.mem_append.mp hx with hx | hx
            · exact cov3 x hx hxp
            · rw [List.mem_singleton.mp hx] at hxp
              exact absurd hxp cn
          have en2 : backE (resR rows p) pt n := ⟨en.1, by rw [resR_len]; exact en.2.1, (mem_resR en.1).mpr ⟨cn, hge _ pt dpt.1, en.2.2⟩⟩
          refine ifT (decide_eq_true (by omega)) ⟨_, rfl, _, rfl, F, _, rfl, DGet.k (k := Sum.inl n) g4, _, rfl, ?_⟩
          cases hval : valV kvs2 (Sum.inl n) with
          | some u =>
            refine ifF rfl ⟨_, kvs2, fs2, rfl, s2, g4, g5, g6, mid2, cov2, fun x hp hxp => ?_⟩
            rw [et] at hp
            rcases List.mem_append.mp hp with hp | hp
            · exact cov3 x hp hxp
            · rw [List.mem_singleton.mp hp, hval]
              rfl
          | none =>
            have nFf : F ≠ fr := nF
            refine ifT rfl ⟨_, rfl, _, rfl, _, rfl, F, _, rfl, DPut.k (k := Sum.inl n) g4 (Nat.lt_of_lt_of_le (show kvs2.length < 1000 by omega) (small (Nat.le_refl _))), ?_⟩
            have g6' : (upd G F (.dK (putK kvs2 (Sum.inl n) (.int (st + 1 : Nat))))) fr = some (.lst (fs2.map V.int)) := by rw [upd_ne (Ne.symm nF)]; exact g6
            refine ⟨_, rfl, .inl ⟨rfl, _, SqL.of g6'⟩, _, rfl, fr, _, _, rfl, rfl, g6', Nat.lt_of_lt_of_le (show _ < 1000 by rw [List.length_map]; omega) (small (Nat.le_refl _)), ?_⟩
            have more : ∀ x, (valV kvs2 (Sum.inl x)).isSome = true → (valV (putK kvs2 (Sum.inl n) (.int (st + 1 : Nat))) (Sum.inl x)).isSome = true := fun x hp => by
              rw [valV_put]
              split
              · rfl
              · exact hp
            refine ⟨_, _, fs2 ++ [n], rfl, same_upd (same_upd s2 hF) fr0, by rw [upd_ne nF, upd_same], by rw [upd_ne ne, upd_ne (ne_of g5 g4 (fun z => nomatch z))]; exact g5, by rw [upd_same, List.map_append]; rfl, mid2.add hval dpt en2 rn, fun q hq x e => more x (cov2 q hq x e), fun x hp hxp => ?_⟩
            rw [et] at hp
            rcases List.mem_append.mp hp with hp | hp
            · exact more x (cov3 x hp hxp)
            · rw [List.mem_singleton.mp hp, valV_put, if_pos rfl]
              rfl
        · obtain ⟨o9, kvs2, fs2, rfl, s2, g4, g5, g6, mid2, cov2, cov3⟩ := h
          rw [List.length_map, List.take_length] at cov3
          refine ⟨_, _, kvs2, fs2, rfl, s2, g4, g5, g6, mid2, fun q hq x e => ?_⟩
          rw [List.take_add_one, hpt] at hq
          rcases List.mem_append.mp hq with hq | hq
          · exact cov2 q hq x e
          · rw [show q = pt by simpa using hq] at e
            have e3 := (mem_resR e.1).mp e.2.2
            exact cov3 x ((h30 x).mpr ⟨e.1, (rng _ x e).2, e3.2.2⟩) e3.1
      · obtain ⟨o8, o9, kvs', fs, rfl, s1, g1, g2, g3, mid, cov⟩ := h
        rw [List.length_map, List.take_length] at cov
        obtain ⟨far', iff⟩ := mid.fin fun q hq p e => cov q ((hes q).mpr hq) p e
        exact ⟨_, rfl, most.toNat - (st + 1), by omega, st + 1, fr, fs, kvs', _, _, _, rfl, rfl, by omega, s1, g1, g3, far', mid.nd, iff⟩
    · refine ifF (decide_eq_false (by omega)) ⟨_, rfl, fin sm hGF far lst fun k x hk _ => by omega⟩
end
/-! nearest, shortest, as far as m -/
def NearTo (S : Int → Prop) (E : Int → Int → Prop) (m : Nat) (ps : List Int) (r : V) : Prop :=
  (r = .non ∧ ∀ p ∈ ps, ∀ k, k ≤ m → ¬ Dk S E k p) ∨ ∃ (b : Int) (k : Nat), r = .int b ∧ b ∈ ps ∧ k ≤ m ∧ Dk S E k b ∧ ∀ q ∈ ps, ∀ j, Dk S E j q → k < j ∨ (k = j ∧ b ≤ q)
section
variable {P : Program} {w : World} {K : PySem.W.Frag} {mg : Str → Option Value} {base : Heap} {f : Addr} {fd : FuncData}
def spNearTo (K : PySem.W.Frag) : Sp := fun vs H Q _ => ∃ (S : Int → Prop) (E : Int → Int → Prop) (m : Nat) (x : V) (ps : List Int) (F : Addr) (kvs : List (Key × V)) (n : Nat), vs = [x, .ref F] ∧ Dp K H x (.tuple (ps.map .int)) ∧ ps.Pairwise (· < ·) ∧ H F = some (.dK kvs) ∧ FarTo S E n m kvs ∧ ∀ r, NearTo S E m ps r → Q r H
theorem scNearT : FnScope ["points", "far", "best", "point"] ["points", "far"] (defScope sNear) := ⟨rfl, rfl, rfl, by decide +kernel, rfl, by decide +kernel, by decide +kernel⟩
theorem ok_nearTo {k : Nat} (F : Fun K "nearest" "nearest" sNear f fd) : FnOk P w K mg base CX0 (k + 1) f fd ["points", "far"] (spNearTo K) := by
  refine F.ok scNearT (fun vs H Q E' h => ?_) (fun cdv A outer s H vs Q E' hr h => ?_)
  · obtain ⟨S, E, m, x, ps, F, kvs, n, rfl, _⟩ := h
    rfl
  obtain ⟨S, E, m, x, ps, F, kvs, n, rfl, hx, srt, hF, far, q⟩ := h
  have hu : (A.deeper (PyProof.Rows.envOfC "nearest" (defScope sNear) s.heap.objs.size f cdv)).units + 1 < cLine := Nat.lt_of_le_of_lt (Nat.add_le_add_left (by decide : 1 ≤ 64) _) hr.units
  refine ⟨_, pss_cons (ps_set (i := 2) scNearT.nd rfl (.inl rfl) pe_non)
    (pss_cons (ps_for PassesOwn.never rfl (pi_tup (pv 0)) (pg_name (i := 3) scNearT.nd rfl (.inl rfl))
      (pss_one (ps_if (PW.pt (pw_and (pt_cmp (pc_din hu (pv 3) (pv 1))) (pw_and1 (PW.pt (pw_or (pt_cmpR op_isN (pv 2) pe_non (nomark _)) (pw_or1 (pt_cmpR op_lt (pe_dget hu (pv 1) (pv 3) (fun _ _ => rfl)) (pe_dget hu (pv 1) (pv 2) (fun _ _ => rfl)) (nomark _))))))))
        (pss_one (ps_set (i := 2) scNearT.nd rfl (.inl rfl) (pv 3))) pss_nil)))
    (pss_one (ps_ret (pv 2)))), ?_⟩
  obtain ⟨a, rfl, at_⟩ := ints_at hx
  refine ⟨_, rfl, a, rfl, ⟨_, at_⟩, ?_⟩
  refine for_tup (xs := ps.map V.int) (fun i σ G => ∃ (r : V) (o3 : Option V), σ = [some (.ref a), some (.ref F), some r, o3] ∧ G = H ∧ NearTo S E m (ps.take i) r) ⟨.non, _, rfl, rfl, .inl ⟨rfl, fun p hp => by simp at hp⟩⟩ (fun i σ G _ h => by obtain ⟨_, _, _, rfl, _⟩ := h; exact at_) (fun i v σ G hv h => ?_) (fun σ G h => ?_)
  · obtain ⟨r, o3, rfl, rfl, hn⟩ := h
    obtain ⟨p, hp, rfl⟩ := ints_get hv
    have et : ps.take (i + 1) = ps.take i ++ [p] := by rw [List.take_add_one, hp]; rfl
    have less : ∀ b ∈ ps.take i, b < p := fun b hb => by
      have := srt.sublist (List.take_sublist (i + 1) ps)
      rw [et] at this
      exact (List.pairwise_append.mp this).2.2 b hb p (by simp)
    refine ⟨_, rfl, _, rfl, F, _, rfl, DGet.k (k := Sum.inl p) hF, _, rfl, ?_⟩
    have split2 : ∀ {Pq : Int → Prop}, (∀ q ∈ ps.take i, Pq q) → Pq p → ∀ q ∈ ps.take (i + 1), Pq q := fun h1 h2 q hq => by
      rw [et] at hq
      rcases List.mem_append.mp hq with hq | hq
      · exact h1 q hq
      · rw [List.mem_singleton.mp hq]
        exact h2
    cases hval : valV kvs (Sum.inl p) with
    | none =>
      refine ifF rfl (ifF rfl ⟨r, _, rfl, rfl, ?_⟩)
      have no : ∀ k, k ≤ m → ¬ Dk S E k p := fun k hk d => by
        have := far.all p k hk d
        rw [hval] at this
        cases this
      rcases hn with ⟨e, h1⟩ | ⟨b, k, e, h1, hkm, h2, h3⟩
      · exact .inl ⟨e, split2 h1 no⟩
      · exact .inr ⟨b, k, e, by rw [et]; exact List.mem_append_left _ h1, hkm, h2, split2 h3 fun j d => .inl (by
          by_cases c : j ≤ m
          · exact absurd d (no j c)
          · omega)⟩
    | some u =>
      obtain ⟨kp, hkp, rfl, dp⟩ := far.snd p u hval
      have mp : p ∈ ps.take (i + 1) := by rw [et]; simp
      rcases hn with ⟨e, h1⟩ | ⟨b, k, e, h1, hkm, h2, h3⟩
      · subst e
        refine ifT rfl ⟨_, rfl, rfl, _, rfl, ifT rfl (ifT rfl ⟨_, rfl, _, _, rfl, rfl, .inr ⟨p, kp, rfl, mp, hkp, dp, split2 (fun q hq j d => .inl (by
          by_cases c : j ≤ m
          · exact absurd d (h1 q hq j c)
          · omega)) fun j d => .inr ⟨dp.uniq d, Int.le_refl _⟩⟩⟩)⟩
      · subst e
        have vb := far.all b k hkm h2
        refine ifT rfl ⟨_, rfl, rfl, _, rfl, ifF rfl ⟨_, rfl, _, rfl, F, _, rfl, (by have g := DGet.k (k := Sum.inl p) hF; rw [hval] at g; exact g), _, rfl, _, rfl, F, _, rfl, (by have g := DGet.k (k := Sum.inl b) hF; rw [vb] at g; exact g), _, _, rfl, rfl, _, rfl, ?_⟩⟩
        by_cases c : kp < k
        · refine ifT (decide_eq_true (by omega)) ⟨_, rfl, _, _, rfl, rfl, .inr ⟨p, kp, rfl, mp, hkp, dp, split2 (fun q hq j d => ?_) fun j d => .inr ⟨dp.uniq d, Int.le_refl _⟩⟩⟩
          rcases h3 q hq j d with y | ⟨y, _⟩ <;> exact .inl (by omega)
        · refine ifF (decide_eq_false (by omega)) ⟨_, _, rfl, rfl, .inr ⟨b, k, rfl, by rw [et]; exact List.mem_append_left _ h1, hkm, h2, split2 h3 fun j d => ?_⟩⟩
          have := dp.uniq d
          have := less b h1
          by_cases c2 : k = kp
          · exact .inr ⟨by omega, by omega⟩
          · exact .inl (by omega)
  · obtain ⟨r, o3, rfl, rfl, hn⟩ := h
    rw [List.length_map, List.take_length] at hn
    exact ⟨_, rfl, q r hn⟩
def spShortC (K : PySem.W.Frag) : Sp := fun vs H Q _ => ∃ (x : V) (rows : List (List Int)) (p : Int) (mx : Nat) (F : Addr) (kvs : List (Key × V)) (p0 : Int) (k0 : Nat), vs = [x, .ref F, .int p0] ∧ Dp K H x (chD rows) ∧ RwOk rows ∧ (∀ ns ∈ rows, ns.Pairwise (· < ·)) ∧ H F = some (.dK kvs) ∧ FarTo (inP [p]) (backE (resR rows p)) rows.length mx kvs ∧ 0 ≤ p ∧ p < (rows.length : Int) ∧ k0 ≤ mx ∧ Dk (inP [p]) (backE (resR rows p)) k0 p0 ∧
  ∀ (a : Addr) (ns : List Int) (H' : Hp), Same H H' → SqT K H' a ((p0 :: ns).map V.int) → Greedy (resR rows p) [p] k0 (p0 :: ns) → Q (.ref a) H'
theorem scShortC : FnScope ["chart", "far", "point", "walk"] ["chart", "far", "point"] (defScope sShort) := ⟨rfl, rfl, rfl, by decide +kernel, rfl, by decide +kernel, by decide +kernel⟩
theorem ok_shortC {k : Nat} (F : Fun K "shortest" "shortest" sShort f fd) (T : Free mg) (cN : Cal P w K mg base "nearest" k ["points", "far"] (spNearTo K)) : FnOk P w K mg base CX0 (k + 1) f fd ["chart", "far", "point"] (spShortC K) := by
  refine F.ok scShortC (fun vs H Q E' h => ?_) (fun cdv A outer s H vs Q E' hr h => ?_)
  · obtain ⟨x, rows, p, mx, F, kvs, p0, k0, rfl, _⟩ := h
    rfl
  obtain ⟨x, rows, p, mx, F, kvs, p0, k0, rfl, hx, hrw, srt, hF, far, pz, pn, k0m, d0, q⟩ := h
  have hu : (A.deeper (PyProof.Rows.envOfC "shortest" (defScope sShort) s.heap.objs.size f cdv)).units + 1 < cLine := Nat.lt_of_le_of_lt (Nat.add_le_add_left (by decide : 1 ≤ 64) _) hr.units
  refine ⟨_, pss_cons (ps_set (i := 3) scShortC.nd rfl (.inl rfl) (pe_lst (pa_cons (pv 2) pa_nil)))
    (pss_cons (ps_while PassesOwn.never (pt_cmpR op_gt (pe_dget hu (pv 1) (pv 2) (fun _ _ => rfl)) pe_int (nomark _))
      (pss_cons (ps_set (i := 2) scShortC.nd rfl (.inl rfl) (pe_cal cN hr rfl (pa_cons (pe_ix ix_tup (pv 0) (pv 2) (fun _ _ => rfl)) (pa_cons (pv 1) pa_nil))))
      (pss_one (ps_expr (pe_bm PySem.F.plainAttrs_list PySem.F.slot_list_append PySem.F.type_list_append mt_append (pv 3) (pa_cons (pv 2) pa_nil))))))
    (pss_one (ps_ret (pe_callTy call_tuple_of rfl T.tuple (by decide +kernel) (pa_cons (pv 3) pa_nil))))), ?_⟩
  cases hx with
  | @tup ca cs _ cat ceach =>
  have hlen := hrw.len
  have hb : ∀ (j : Nat) (q : Int), Rk (inP [p]) (backE (resR rows p)) j q → 0 ≤ q ∧ q < (rows.length : Int) := fun j q h => by
    cases j with
    | zero =>
      have h : q ∈ [p] := h
      rw [List.mem_singleton.mp h]
      exact ⟨pz, pn⟩
    | succ j =>
      obtain ⟨r, _, e⟩ := h
      exact ⟨e.1, by have := e.2.1; rw [resR_len] at this; exact this⟩
  have hge : ∀ (j : Nat) (q : Int), Rk (inP [p]) (backE (resR rows p)) j q → p ≤ q := fun j q h => by
    cases j with
    | zero =>
      have h : q ∈ [p] := h
      rw [List.mem_singleton.mp h]
      exact Int.le_refl _
    | succ j =>
      obtain ⟨r, _, e⟩ := h
      exact ((mem_resR e.1).mp e.2.2).1
  have l0 := d0.bound hb
  refine ⟨_, rfl, small (by show 1 ≤ 1000; decide), fun wa hwa => ?_⟩
  have n1 := same_new hwa (.lst [.int p0])
  refine ⟨fun m σ G => ∃ (pt : Int) (k : Nat) (pre : List Int), m = k ∧ σ = [some (.ref ca), some (.ref F), some (.int pt), some (.ref wa)] ∧ Same H G ∧ G wa = some (.lst ((pre ++ [pt]).map V.int)) ∧ Dk (inP [p]) (backE (resR rows p)) k pt ∧ pre.length + k = k0 ∧ ∀ r, Greedy (resR rows p) [p] k (pt :: r) → ∃ t, p0 :: t = pre ++ pt :: r ∧ Greedy (resR rows p) [p] k0 (p0 :: t),
    ⟨_, p0, k0, [], rfl, rfl, n1, upd_same, d0, by simp, fun r h => ⟨r, rfl, h⟩⟩, ?_⟩
  rintro m σ G ⟨pt, _, pre, rfl, rfl, sm, hG, dk, lp, ext⟩
  have vp := far.all pt m (by omega) dk
  have hFG := sm _ _ hF
  refine ⟨_, rfl, _, rfl, F, _, rfl, (by have g := DGet.k (k := Sum.inl pt) hFG; rw [vp] at g; exact g), _, _, rfl, rfl, _, rfl, ?_⟩
  cases m with
  | zero =>
    refine ifF rfl ⟨_, rfl, wa, _, rfl, .inl ⟨SqL.of hG, fun l hl => ?_⟩⟩
    obtain ⟨t, e, g⟩ := ext [] dk.1
    have nl := same_new hl (.tup ((pre ++ [pt]).map V.int))
    exact q l t _ (sm.trans nl) (by rw [e]; exact SqT.of upd_same) g
  | succ k =>
    refine ifT (decide_eq_true (by omega)) ⟨fun σ' G' => ∃ m', m' < k + 1 ∧ ∃ (pt : Int) (k : Nat) (pre : List Int), m' = k ∧ σ' = [some (.ref ca), some (.ref F), some (.int pt), some (.ref wa)] ∧ Same H G' ∧ G' wa = some (.lst ((pre ++ [pt]).map V.int)) ∧ Dk (inP [p]) (backE (resR rows p)) k pt ∧ pre.length + k = k0 ∧ ∀ r, Greedy (resR rows p) [p] k (pt :: r) → ∃ t, p0 :: t = pre ++ pt :: r ∧ Greedy (resR rows p) [p] k0 (p0 :: t), fun σ' G' h => h, ?_⟩
    have rp := hb _ pt dk.1
    have hr' := List.getElem?_eq_getElem (show pt.toNat < rows.length by omega)
    generalize rows[pt.toNat] = row at hr'
    obtain ⟨b, hb', bat⟩ := ch_row ceach hr'
    have hra : rowAt rows pt = row := by
      unfold rowAt
      rw [List.getD_eq_getElem?_getD, hr']
      rfl
    refine ⟨_, rfl, _, rfl, ca, cs, pt, _, rfl, rfl, sqT_same sm cat, atI_at rp.1 hb', _, rfl, inP [p], backE (resR rows p), mx, .ref b, row, F, kvs, rows.length, rfl, .tup (sqT_same sm bat) (dp_ints row), srt row (List.mem_of_getElem? hr'), hFG, far, fun r hn => ?_⟩
    obtain ⟨q0, hq0, e0⟩ := dk.pred
    have q0r : q0 ∈ row := by rw [← hra]; exact ((mem_resR e0.1).mp e0.2.2).2.2
    rcases hn with ⟨_, no⟩ | ⟨b', kb, rfl, mb, _, db, min⟩
    · exact absurd hq0 (no q0 q0r k (by omega))
    · have mb2 : b' ∈ rowAt (resR rows p) pt := (mem_resR rp.1).mpr ⟨hge _ pt dk.1, hge _ b' db.1, by rw [hra]; exact mb⟩
      have ek : kb = k := by
        rcases min q0 q0r k hq0 with y | ⟨y, _⟩
        · exact absurd (show Rk (inP [p]) (backE (resR rows p)) (kb + 1) pt from ⟨b', db.1, rp.1, by rw [resR_len]; exact rp.2, mb2⟩) (dk.2 (kb + 1) (by omega))
        · exact y
      subst ek
      refine ⟨_, rfl, .inl ⟨rfl, _, SqL.of hG⟩, _, rfl, wa, _, _, rfl, rfl, hG, Nat.lt_of_lt_of_le (show _ < 1000 by rw [List.length_map, List.length_append]; show _ + 1 < _; omega) (small (Nat.le_refl _)), kb, Nat.lt_succ_self _, b', kb, pre ++ [pt], rfl, rfl, same_upd sm hwa, by rw [upd_same, List.map_append, List.map_append, List.map_append]; rfl, db, by rw [List.length_append]; show _ + 1 + _ = _; omega, fun r g => ?_⟩
      obtain ⟨t, e, g'⟩ := ext (b' :: r) ⟨dk, mb2, fun x hx dx => by
        rcases min x (by rw [← hra]; exact ((mem_resR rp.1).mp hx).2.2) kb dx with y | ⟨_, y⟩
        · omega
        · exact y, g⟩
      exact ⟨t, by rw [e, List.append_assoc]; rfl, g'⟩
end
/-! least_ranks -/
def cntR (S row : List Int) : Nat := (row.filter fun q => decide (q ∉ S)).length
theorem cnt_out {S row : List Int} {p : Int} (hp : p ∉ row) : cntR (S ++ [p]) row = cntR S row := by
  unfold cntR
  rw [List.filter_congr fun q hq => ?_]
  have : q ≠ p := fun e => hp (by rw [← e]; exact hq)
  simp [this]
theorem cnt_in {S : List Int} {p : Int} (hS : p ∉ S) : ∀ {row : List Int}, row.Nodup → p ∈ row → cntR (S ++ [p]) row + 1 = cntR S row
  | [], _, hp => by cases hp
  | a :: r, nd, hp => by
    obtain ⟨n1, n2⟩ := List.nodup_cons.mp nd
    by_cases e : a = p
    · subst e
      have := cnt_out (S := S) n1
      unfold cntR at this ⊢
      rw [List.filter_cons, List.filter_cons]
      simp only [List.mem_append, List.mem_singleton, or_true, not_true, decide_false, Bool.false_eq_true, if_false, hS, not_false_eq_true, decide_true, if_true, List.length_cons]
      rw [← this]
      simp only [List.mem_append, List.mem_singleton]
    · have hr : p ∈ r := by
        rcases List.mem_cons.mp hp with h | h
        · exact absurd h.symm e
        · exact h
      have ih := cnt_in hS n2 hr
      unfold cntR at ih ⊢
      rw [List.filter_cons, List.filter_cons]
      have c : decide (a ∉ S ++ [p]) = decide (a ∉ S) := by simp [e]
      rw [c]
      by_cases h : a ∈ S
      · simp only [h, not_true, decide_false, Bool.false_eq_true, if_false]
        exact ih
      · simp only [h, not_false_eq_true, decide_true, if_true, List.length_cons]
        omega
theorem cnt_zero {S row : List Int} : cntR S row = 0 ↔ ∀ q ∈ row, q ∈ S := by
  unfold cntR
  rw [List.length_eq_zero_iff, List.filter_eq_nil_iff]
  constructor
  · intro h q hq
    have := h q hq
    simp only [decide_eq_true_eq, Classical.not_not] at this
    exact this
  · intro h q hq
    have := h q hq
    simp [this]
theorem nodup_sub : ∀ (l ds : List Int), l.Nodup → (∀ x ∈ l, x ∈ ds) → l.length ≤ ds.length
  | [], _, _, _ => Nat.zero_le _
  | a :: l, ds, nd, h => by
    obtain ⟨n1, n2⟩ := List.nodup_cons.mp nd
    have ha := h a List.mem_cons_self
    have := nodup_sub l (ds.erase a) n2 fun x hx => (List.mem_erase_of_ne (fun e => n1 (by rw [← e]; exact hx))).mpr (h x (List.mem_cons_of_mem _ hx))
    rw [List.length_erase_of_mem ha] at this
    have hp : 0 < ds.length := List.length_pos_of_mem ha
    rw [List.length_cons]
    omega
theorem rkAt_set {l : List Int} {b x v : Int} (b0 : 0 ≤ b) (x0 : 0 ≤ x) (hb : b < (l.length : Int)) : rkAt (l.set b.toNat v) x = if x = b then v else rkAt l x := by
  unfold rkAt
  rw [List.getD_eq_getElem?_getD, List.getD_eq_getElem?_getD]
  by_cases e : x = b
  · subst e
    rw [if_pos rfl, List.getElem?_set_self (by omega)]
    rfl
  · rw [if_neg e, List.getElem?_set_ne (by omega)]
structure RkInv (rows : List (List Int)) (r : Nat) (ds es rs us : List Int) : Prop where
  nd : (ds ++ es).Nodup
  rng : ∀ p ∈ ds ++ es, 0 ≤ p ∧ p < (rows.length : Int)
  lu : us.length = rows.length
  lr : rs.length = rows.length
  us : ∀ b, 0 ≤ b → b < (rows.length : Int) → rkAt us b = cntR ds (rowAt rows b)
  zero : ∀ b, 0 ≤ b → b < (rows.length : Int) → (cntR ds (rowAt rows b) = 0 ↔ b ∈ ds ++ es)
  rE : ∀ p ∈ es, rkAt rs p = r
  rD : ∀ p ∈ ds, 0 ≤ rkAt rs p ∧ rkAt rs p < (r : Int)
  fix : ∀ p ∈ ds ++ es, rkAt rs p = 0 ∨ ∃ q ∈ rowAt rows p, rkAt rs p = rkAt rs q + 1
  gt : ∀ p ∈ ds ++ es, ∀ q ∈ rowAt rows p, rkAt rs q < rkAt rs p
structure RkMid (rows : List (List Int)) (r : Nat) (ds es rs0 : List Int) (cu : Int → Nat) (rs us fs : List Int) : Prop where
  lu : us.length = rows.length
  lr : rs.length = rows.length
  us : ∀ b, 0 ≤ b → b < (rows.length : Int) → rkAt us b = cu b
  zero : ∀ b, 0 ≤ b → b < (rows.length : Int) → (cu b = 0 ↔ (b ∈ ds ++ es ∨ b ∈ fs))
  nd : fs.Nodup
  fr : ∀ b ∈ fs, (0 ≤ b ∧ b < (rows.length : Int)) ∧ b ∉ ds ++ es ∧ rkAt rs b = r + 1
  old : ∀ b ∈ ds ++ es, 0 ≤ b → rkAt rs b = rkAt rs0 b
section
variable {rows : List (List Int)} {r : Nat} {ds es rs0 us0 : List Int} {cu cu' : Int → Nat} {rs us fs : List Int}
theorem RkInv.mid (h : RkInv rows r ds es rs us) : RkMid rows r ds es rs (fun b => cntR ds (rowAt rows b)) rs us [] :=
  ⟨h.lu, h.lr, h.us, fun b b0 b1 => by rw [h.zero b b0 b1]; simp, List.nodup_nil, (fun b hb => by cases hb), fun b _ _ => rfl⟩
theorem RkMid.cong (h : RkMid rows r ds es rs0 cu rs us fs) (e : ∀ b, 0 ≤ b → b < (rows.length : Int) → cu' b = cu b) : RkMid rows r ds es rs0 cu' rs us fs :=
  ⟨h.lu, h.lr, fun b b0 b1 => by rw [e b b0 b1]; exact h.us b b0 b1, fun b b0 b1 => by rw [e b b0 b1]; exact h.zero b b0 b1, h.nd, h.fr, h.old⟩
theorem RkMid.less (h : RkMid rows r ds es rs0 cu rs us fs) {b : Int} {c : Nat} (b0 : 0 ≤ b) (b1 : b < (rows.length : Int)) (hc : cu b = c + 1) (c0 : c ≠ 0) (e : ∀ x, 0 ≤ x → x < (rows.length : Int) → cu' x = if x = b then c else cu x) : RkMid rows r ds es rs0 cu' rs (us.set b.toNat c) fs := by
  have lu := h.lu
  refine ⟨by rw [List.length_set]; exact lu, h.lr, fun x x0 x1 => ?_, fun x x0 x1 => ?_, h.nd, h.fr, h.old⟩
  · rw [rkAt_set b0 x0 (by omega), e x x0 x1]
    by_cases z : x = b
    · rw [if_pos z, if_pos z]
    · rw [if_neg z, if_neg z]
      exact h.us x x0 x1
  · rw [e x x0 x1]
    by_cases z : x = b
    · rw [if_pos z]
      have := h.zero b b0 b1
      rw [hc] at this
      rw [z, ← this]
      omega
    · rw [if_neg z]
      exact h.zero x x0 x1
theorem RkMid.last (h : RkMid rows r ds es rs0 cu rs us fs) {b : Int} (b0 : 0 ≤ b) (b1 : b < (rows.length : Int)) (hc : cu b = 0 + 1) (e : ∀ x, 0 ≤ x → x < (rows.length : Int) → cu' x = if x = b then 0 else cu x) : RkMid rows r ds es rs0 cu' (rs.set b.toNat (r + 1 : Nat)) (us.set b.toNat (0 : Nat)) (fs ++ [b]) := by
  have lu := h.lu
  have lr := h.lr
  have no := h.zero b b0 b1
  rw [hc] at no
  have nD : b ∉ ds ++ es := fun z => by have := no.mpr (.inl z); omega
  have nF : b ∉ fs := fun z => by have := no.mpr (.inr z); omega
  refine ⟨by rw [List.length_set]; exact lu, by rw [List.length_set]; exact lr, fun x x0 x1 => ?_, fun x x0 x1 => ?_, List.nodup_append.mpr ⟨h.nd, by simp, fun a ha c hc' q => nF (by rw [← List.mem_singleton.mp hc', ← q]; exact ha)⟩, fun x hx => ?_, fun x hx => ?_⟩
  · rw [rkAt_set b0 x0 (by omega), e x x0 x1]
    by_cases z : x = b
    · rw [if_pos z, if_pos z]
    · rw [if_neg z, if_neg z]
      exact h.us x x0 x1
  · rw [e x x0 x1, List.mem_append (s := fs), List.mem_singleton]
    by_cases z : x = b
    · rw [if_pos z]
      exact ⟨fun _ => .inr (.inr z), fun _ => rfl⟩
    · rw [if_neg z, h.zero x x0 x1]
      exact ⟨fun y => y.elim .inl fun y => .inr (.inl y), fun y => y.elim .inl fun y => y.elim .inr fun y => absurd y z⟩
  · rcases List.mem_append.mp hx with hx | hx
    · obtain ⟨y1, y2, y3⟩ := h.fr x hx
      refine ⟨y1, y2, ?_⟩
      rw [rkAt_set b0 y1.1 (by omega), if_neg (fun z => nF (by rw [← z]; exact hx))]
      exact y3
    · rw [List.mem_singleton.mp hx]
      refine ⟨⟨b0, b1⟩, nD, ?_⟩
      rw [rkAt_set b0 b0 (by omega), if_pos rfl]
      omega
  · intro x0
    rw [rkAt_set b0 x0 (by omega), if_neg (fun z => nD (by rw [← z]; exact hx))]
    exact h.old x hx x0
theorem RkMid.fin (h : RkInv rows r ds es rs0 us0) (m : RkMid rows r ds es rs0 cu rs us fs) (hr : RwOk rows) (hc : ∀ b, 0 ≤ b → b < (rows.length : Int) → cu b = cntR (ds ++ es) (rowAt rows b)) : RkInv rows (r + 1) (ds ++ es) fs rs us := by
  have old : ∀ p ∈ ds ++ es, rkAt rs p = rkAt rs0 p := fun p hp => m.old p hp (h.rng p hp).1
  have le : ∀ p ∈ ds ++ es, 0 ≤ rkAt rs p ∧ rkAt rs p ≤ (r : Int) := fun p hp => by
    rw [old p hp]
    rcases List.mem_append.mp hp with hp | hp
    · have := h.rD p hp
      omega
    · have := h.rE p hp
      omega
  have inD : ∀ p ∈ ds ++ es, ∀ q ∈ rowAt rows p, q ∈ ds := fun p hp q hq => by
    obtain ⟨p0, p1⟩ := h.rng p hp
    exact cnt_zero.mp ((h.zero p p0 p1).mpr hp) q hq
  have inE : ∀ p ∈ fs, ∀ q ∈ rowAt rows p, q ∈ ds ++ es := fun p hp q hq => by
    obtain ⟨⟨p0, p1⟩, _, _⟩ := m.fr p hp
    have z := (m.zero p p0 p1).mpr (.inr hp)
    rw [hc p p0 p1] at z
    exact cnt_zero.mp z q hq
  refine ⟨List.nodup_append.mpr ⟨h.nd, m.nd, fun a ha b hb e => (m.fr b hb).2.1 (by rw [← e]; exact ha)⟩, fun p hp => ?_, m.lu, m.lr, fun b b0 b1 => by rw [m.us b b0 b1, hc b b0 b1], fun b b0 b1 => ?_, fun p hp => ?_, fun p hp => ?_, fun p hp => ?_, fun p hp q hq => ?_⟩
  · rcases List.mem_append.mp hp with hp | hp
    · exact h.rng p hp
    · exact (m.fr p hp).1
  · rw [← hc b b0 b1, m.zero b b0 b1, List.mem_append (s := ds ++ es)]
  · have := (m.fr p hp).2.2
    omega
  · have := le p hp
    omega
  · rcases List.mem_append.mp hp with hp | hp
    · rw [old p hp]
      rcases h.fix p hp with y | ⟨q, hq, y⟩
      · exact .inl y
      · refine .inr ⟨q, hq, ?_⟩
        rw [old q (List.mem_append_left _ (inD p hp q hq))]
        exact y
    · obtain ⟨⟨p0, p1⟩, y2, y3⟩ := m.fr p hp
      have nz : ¬ ∀ q ∈ rowAt rows p, q ∈ ds := fun z => y2 ((h.zero p p0 p1).mp (cnt_zero.mpr z))
      obtain ⟨q, hq⟩ := Classical.not_forall.mp nz
      obtain ⟨hq, nq⟩ := Classical.not_imp.mp hq
      have qe : q ∈ es := by
        rcases List.mem_append.mp (inE p hp q hq) with z | z
        · exact absurd z nq
        · exact z
      refine .inr ⟨q, hq, ?_⟩
      rw [y3, old q (List.mem_append_right _ qe), h.rE q qe]
  · rcases List.mem_append.mp hp with hp | hp
    · rw [old p hp, old q (List.mem_append_left _ (inD p hp q hq))]
      exact h.gt p hp q hq
    · have := le q (inE p hp q hq)
      have := (m.fr p hp).2.2
      omega
theorem RkInv.full (h : RkInv rows r ds [] rs us) (e : ds.length = rows.length) : FixR rows rs := by
  have all : ∀ p, 0 ≤ p → p < (rows.length : Int) → p ∈ ds ++ [] := fun p p0 p1 => by
    rw [List.append_nil]
    refine Classical.byContradiction fun c => ?_
    have nd : (p :: ds).Nodup := List.nodup_cons.mpr ⟨c, by have := h.nd; rw [List.append_nil] at this; exact this⟩
    have := nodup_len rows.length (p :: ds) nd fun x hx => by
      rcases List.mem_cons.mp hx with rfl | hx
      · exact ⟨p0, p1⟩
      · exact h.rng x (List.mem_append_left _ hx)
    rw [List.length_cons] at this
    omega
  refine ⟨h.lr, fun p p0 p1 => ?_, fun p p0 p1 => h.gt p (all p p0 p1), fun p p0 p1 => h.fix p (all p p0 p1)⟩
  have := all p p0 p1
  rw [List.append_nil] at this
  exact (h.rD p this).1
theorem RkInv.ring (h : RkInv rows r ds [] rs us) (hr : RwOk rows) (e : ds.length ≠ rows.length) : ∃ ns, RingP rows ns := by
  have hle : ds.length ≤ rows.length := nodup_len rows.length ds (by have := h.nd; rw [List.append_nil] at this; exact this) fun x hx => h.rng x (List.mem_append_left _ hx)
  refine ring_of (U := fun p => (0 ≤ p ∧ p < (rows.length : Int)) ∧ p ∉ ds) (fun p hp => hp.1) ?_ fun p hp => ?_
  · refine Classical.byContradiction fun c => ?_
    have all : ∀ i : Nat, i < rows.length → (i : Int) ∈ ds := fun i hi => Classical.byContradiction fun z => c ⟨i, ⟨by omega, by omega⟩, z⟩
    have : ((List.range rows.length).map fun i : Nat => (i : Int)).length ≤ ds.length := by
      refine nodup_sub _ ds (List.Pairwise.map _ (fun a b h z => h (by omega)) List.nodup_range) fun x hx => ?_
      obtain ⟨i, hi, rfl⟩ := List.mem_map.mp hx
      exact all i (List.mem_range.mp hi)
    rw [List.length_map, List.length_range] at this
    omega
  · obtain ⟨⟨p0, p1⟩, np⟩ := hp
    have nz : ¬ ∀ q ∈ rowAt rows p, q ∈ ds := fun z => np (by have := (h.zero p p0 p1).mp (cnt_zero.mpr z); rw [List.append_nil] at this; exact this)
    obtain ⟨q, hq⟩ := Classical.not_forall.mp nz
    obtain ⟨hq, nq⟩ := Classical.not_imp.mp hq
    exact ⟨q, hq, row_rng hr hq, nq⟩
end
theorem ixN_at {n : Nat} {b : Int} (b0 : 0 ≤ b) (b1 : b < (n : Int)) : ixN n b = some b.toNat := by
  unfold ixN
  rw [if_pos b0, if_pos b1]
theorem rk_get {l : List Int} {b : Int} (b0 : 0 ≤ b) (b1 : b < (l.length : Int)) : (l.map V.int)[b.toNat]? = some (.int (rkAt l b)) := by
  unfold rkAt
  rw [List.getElem?_map, List.getD_eq_getElem?_getD, List.getElem?_eq_getElem (show b.toNat < l.length by omega)]
  rfl
/-! x[i] of a list, by values -/
section
variable {X : Cx}
def rGetL (K : PySem.W.Frag) : V → V → Hp → VK → Prop := fun o i H Q => ∃ (p : Addr) (xs : List V) (k : Int) (v : V), o = .ref p ∧ i = .int k ∧ 0 ≤ k ∧ SqL K H p xs ∧ xs[k.toNat]? = some v ∧ Q v H
theorem get_listP : PGet X (rGetL X.K) := by
  intro pins s σ H o i ov iv Q I ro ri h
  obtain ⟨p, xs, k, v, rfl, rfl, k0, hq, hv, q⟩ := h
  cases ro
  obtain ⟨t, rfl⟩ := ri
  obtain ⟨its, r, pl, hz⟩ := I.list hq
  obtain ⟨u, hu, ru⟩ := r.get hv
  have hk : k.toNat < xs.length := (List.getElem?_eq_some_iff.mp hv).1
  have hn := line63
  exact wpAny_getItem_list pl.isList k0 (by omega) (by simpa using hu) ⟨v, H, I, ru, q⟩
end
def edgeL (rows : List (List Int)) (i : Nat) : List Int := ((List.range i).map fun j : Nat => (j : Int)).filter fun p => (rowAt rows p).isEmpty
theorem edgeL_succ (rows : List (List Int)) (i : Nat) : edgeL rows (i + 1) = edgeL rows i ++ if (rowAt rows (i : Int)).isEmpty = true then [(i : Int)] else [] := by
  unfold edgeL
  rw [List.range_succ, List.map_append, List.filter_append]
  by_cases c : (rowAt rows (i : Int)).isEmpty = true
  · rw [if_pos c, List.map_cons, List.map_nil, List.filter_cons, if_pos c, List.filter_nil]
  · rw [if_neg c, List.map_cons, List.map_nil, List.filter_cons, if_neg c, List.filter_nil]
theorem edgeL_len (rows : List (List Int)) (i : Nat) : (edgeL rows i).length ≤ i := by
  unfold edgeL
  have := List.length_filter_le (fun p : Int => (rowAt rows p).isEmpty) ((List.range i).map fun j : Nat => (j : Int))
  rw [List.length_map, List.length_range] at this
  exact this
theorem edgeL_mem {rows : List (List Int)} {i : Nat} {p : Int} : p ∈ edgeL rows i ↔ (0 ≤ p ∧ p < (i : Int)) ∧ rowAt rows p = [] := by
  unfold edgeL
  rw [List.mem_filter, List.mem_map, List.isEmpty_iff]
  constructor
  · rintro ⟨⟨j, hj, rfl⟩, e⟩
    exact ⟨⟨by omega, by have := List.mem_range.mp hj; omega⟩, e⟩
  · rintro ⟨⟨h0, h1⟩, e⟩
    exact ⟨⟨p.toNat, List.mem_range.mpr (by omega), by omega⟩, e⟩
theorem rk_init (rows : List (List Int)) : RkInv rows 0 [] (edgeL rows rows.length) (List.replicate rows.length 0) (rows.map fun ns => (ns.length : Int)) := by
  have us : ∀ b, 0 ≤ b → b < (rows.length : Int) → rkAt (rows.map fun ns => (ns.length : Int)) b = cntR [] (rowAt rows b) := fun b b0 b1 => by
    unfold rkAt rowAt cntR
    rw [List.getD_eq_getElem?_getD, List.getD_eq_getElem?_getD, List.getElem?_map, List.getElem?_eq_getElem (show b.toNat < rows.length by omega)]
    have e : (fun q : Int => decide (q ∉ ([] : List Int))) = fun _ => true := by funext q; simp
    rw [e, List.filter_eq_self.mpr (fun _ _ => rfl)]
    rfl
  have z0 : ∀ p, rkAt (List.replicate rows.length (0 : Int)) p = 0 := fun p => by
    unfold rkAt
    rw [List.getD_eq_getElem?_getD, List.getElem?_replicate]
    split <;> rfl
  refine ⟨?_, fun p hp => (edgeL_mem.mp hp).1, by rw [List.length_map], List.length_replicate, us, fun b b0 b1 => ?_, fun p hp => z0 p, (fun p hp => by cases hp), fun p hp => .inl (z0 p), fun p hp q hq => ?_⟩
  · show (edgeL rows rows.length).Nodup
    unfold edgeL
    exact List.Nodup.sublist List.filter_sublist (List.Pairwise.map _ (fun a b h z => h (by omega)) List.nodup_range)
  · rw [List.nil_append, edgeL_mem, cnt_zero]
    constructor
    · intro h
      refine ⟨⟨b0, b1⟩, ?_⟩
      cases e : rowAt rows b with
      | nil => rfl
      | cons x r => have := h x (by rw [e]; simp); cases this
    · intro ⟨_, e⟩ q hq
      rw [e] at hq
      cases hq
  · rw [List.nil_append, edgeL_mem] at hp
    rw [hp.2] at hq
    cases hq
section
variable {P : Program} {w : World} {K : PySem.W.Frag} {mg : Str → Option Value} {base : Heap} {f : Addr} {fd : FuncData}
def spRanks (K : PySem.W.Frag) : Sp := fun vs H Q _ => ∃ (x : V) (rows : List (List Int)), vs = [x] ∧ Dp K H x (chD rows) ∧ RwOk rows ∧ (∀ ns ∈ rows, ns.Pairwise (· < ·)) ∧
  ∀ v H', Same H H' → ((∃ (a : Addr) (rs : List Int), v = .ref a ∧ SqT K H' a (rs.map V.int) ∧ FixR rows rs) ∨ (v = .non ∧ ∃ ns, RingP rows ns)) → Q v H'
abbrev rkN : List Str := ["chart", "befores", "ranks", "unranked", "edge", "many", "rank", "fresh", "point", "before", "nexts"]
theorem scRanks : FnScope rkN ["chart"] (defScope sRanks) := ⟨rfl, rfl, rfl, by decide +kernel, rfl, by decide +kernel, by decide +kernel⟩
set_option maxHeartbeats 1000000 in
theorem ok_ranks {k : Nat} (F : Fun K "least_ranks" "least_ranks" sRanks f fd) (T : Free mg) (cB : Cal P w K mg base "befores_of" k ["chart"] (spBef K)) : FnOk P w K mg base CX0 (k + 1) f fd ["chart"] (spRanks K) := by
  refine F.ok scRanks (fun vs H Q E h => ?_) (fun cdv A outer s H vs Q E hr h => ?_)
  · obtain ⟨x, rows, rfl, _⟩ := h
    rfl
  obtain ⟨x, rows, rfl, hx, hrw, srt, q⟩ := h
  refine ⟨_, pss_cons (ps_set (i := 1) scRanks.nd rfl (.inl rfl) (pe_cal cB hr rfl (pa_cons (pv 0) pa_nil)))
    (pss_cons (ps_setLc (i := 2) (own := [("nexts", 10)]) (g := gName 10) (tt := tYes) (te := tC (.int 0)) rfl scRanks.nd rfl rfl rfl (pi_tup (pv 0))
      (blkOk_by (own := [("nexts", 10)]) (N := rkN) (sc := defScope sRanks) (by decide +kernel))
      (fun _ _ _ _ _ => pg_name (i := 10) scRanks.nd rfl (Or.inl rfl)) (fun _ _ _ _ _ => pts_nil) (fun _ _ _ _ _ => pe_int))
    (pss_cons (ps_setLc (i := 3) (own := [("nexts", 10)]) (g := gName 10) (tt := tYes) (te := tCB (rLen K) (tCons (tVar 10) tNil)) rfl scRanks.nd rfl rfl rfl (pi_tup (pv 0))
      (blkOk_by (own := [("nexts", 10)]) (N := rkN) (sc := defScope sRanks) (by decide +kernel))
      (fun _ _ _ _ _ => pg_name (i := 10) scRanks.nd rfl (Or.inl rfl)) (fun _ _ _ _ _ => pts_nil) (fun _ _ _ _ _ => pe_callB call_len_seq rfl T.len PySem.boot_len (pa_cons (pv 10) pa_nil)))
    (pss_cons (ps_setLc (i := 4) (own := [("point", 8)]) (g := gName 8) (tt := tNot (fun σ H Q => tOp (rIxT K) (tVar 0) (tVar 8) σ H fun x H' => ∃ k, TruV K x H' k ∧ Q k H')) (te := tVar 8) rfl scRanks.nd rfl rfl rfl (pi_range1 rfl T.range (pa_cons (pe_callB call_len_seq rfl T.len PySem.boot_len (pa_cons (pv 0) pa_nil)) pa_nil))
      (blkOk_by (own := [("point", 8)]) (N := rkN) (sc := defScope sRanks) (by decide +kernel))
      (fun _ _ _ _ _ => pg_name (i := 8) scRanks.nd rfl (Or.inl rfl)) (fun _ _ _ _ _ => pts_one (pt_not (pt_truth (pe_ix ix_tup (pv 0) (pv 8) (fun _ _ => rfl)) (fun _ => rfl)))) (fun _ _ _ _ _ => pv 8))
    (pss_cons (ps_set (i := 5) scRanks.nd rfl (.inl rfl) pe_int)
    (pss_cons (ps_set (i := 6) scRanks.nd rfl (.inl rfl) pe_int)
    (pss_cons (ps_while PassesOwn.never (pt_truth (pv 4) (fun _ => rfl))
      (pss_cons (ps_aug (i := 5) scRanks.nd rfl (.inl rfl) (pe_callB call_len_seq rfl T.len PySem.boot_len (pa_cons (pv 4) pa_nil)) ip_add (.inr rfl))
      (pss_cons (ps_aug (i := 6) scRanks.nd rfl (.inl rfl) pe_int ip_add (.inr rfl))
      (pss_cons (ps_set (i := 7) scRanks.nd rfl (.inl rfl) (pe_lst pa_nil))
      (pss_cons (ps_for PassesOwn.never rfl (pi_list (pv 4)) (pg_name (i := 8) scRanks.nd rfl (.inl rfl))
        (pss_one (ps_for PassesOwn.never rfl (pi_list (pe_ix ix_list (pv 1) (pv 8) (fun _ _ => rfl))) (pg_name (i := 9) scRanks.nd rfl (.inl rfl))
          (pss_cons (ps_augS (pv 3) (pv 9) get_listP pe_int ip_sub set_list)
          (pss_one (ps_if (pt_cmpR op_eq (pe_ix ix_list (pv 3) (pv 9) (fun _ _ => rfl)) pe_int (nomark _))
            (pss_cons (ps_asg (pv 6) (pg_sub (pv 2) (pv 9) set_list))
            (pss_one (ps_expr (pe_bm PySem.F.plainAttrs_list PySem.F.slot_list_append PySem.F.type_list_append mt_append (pv 7) (pa_cons (pv 9) pa_nil))))) pss_nil))))))
      (pss_one (ps_set (i := 4) scRanks.nd rfl (.inl rfl) (pv 7))))))))
    (pss_one (ps_ret (pe_ifExp (pt_cmpR op_eq (pv 5) (pe_callB call_len_seq rfl T.len PySem.boot_len (pa_cons (pv 0) pa_nil)) (nomark _)) (pe_callTy call_tuple_of rfl T.tuple (by decide +kernel) (pa_cons (pv 2) pa_nil)) pe_non))))))))), ?_⟩
  have hx0 := hx
  cases hx with
  | @tup ca cs _ cat ceach =>
  have lc : cs.length = rows.length := by have := dpAll_len ceach; rw [List.length_map] at this; exact this
  have hlen := hrw.len
  refine ⟨_, rfl, _, rows, rfl, hx0, hrw, srt, fun B H1 s1 hB => ?_⟩
  have cat1 := sqT_same s1 cat
  refine ⟨_, rfl, ca, rfl, ⟨cs, cat1⟩, fun D2 hD2 => ?_⟩
  refine lc_tup (xs := cs) (fun i G => Same H1 G ∧ G D2 = some (.lst ((List.replicate i (0 : Int)).map V.int))) ⟨same_new hD2 _, upd_same⟩ (fun i G _ h => sqT_same h.1 cat1) (fun i v G hv h => ?_) (fun G h => ?_)
  · obtain ⟨sm, hG⟩ := h
    have hi : i < cs.length := (List.getElem?_eq_some_iff.mp hv).1
    refine ⟨rfl, yesG ⟨_, hG, Nat.lt_of_lt_of_le (show _ < 1000 by rw [List.length_map, List.length_replicate]; omega) (small (Nat.le_refl _)), same_upd sm hD2, ?_⟩⟩
    rw [upd_same, List.replicate_succ', List.map_append]
    rfl
  obtain ⟨s2, hG2⟩ := h
  rw [lc] at hG2
  refine ⟨_, rfl, ca, rfl, ⟨cs, sqT_same s2 cat1⟩, fun D3 hD3 => ?_⟩
  have D30 : H1 D3 = none := none_same s2 hD3
  have D23 : D2 ≠ D3 := ne_of_none hG2 hD3
  refine lc_tup (xs := cs) (fun i G => Same H1 G ∧ G D2 = some (.lst ((List.replicate rows.length (0 : Int)).map V.int)) ∧ G D3 = some (.lst (((rows.take i).map fun ns => (ns.length : Int)).map V.int))) ⟨s2.trans (same_new hD3 _), same_new hD3 _ _ _ hG2, upd_same⟩ (fun i G _ h => sqT_same h.1 cat1) (fun i v G hv h => ?_) (fun G h => ?_)
  · obtain ⟨sm, hGa, hG⟩ := h
    have hi : i < cs.length := (List.getElem?_eq_some_iff.mp hv).1
    have hr' := List.getElem?_eq_getElem (show i < rows.length by omega)
    generalize rows[i] = row at hr'
    obtain ⟨b, hb, bat⟩ := ch_row ceach hr'
    rw [hv] at hb
    cases hb
    refine ⟨rfl, yesG ⟨_, rfl, b, _, rfl, .inr (sqT_same (s1.trans sm) bat), _, hG, Nat.lt_of_lt_of_le (show _ < 1000 by rw [List.length_map, List.length_map, List.length_take]; omega) (small (Nat.le_refl _)), same_upd sm D30, by rw [upd_ne D23]; exact hGa, ?_⟩⟩
    rw [upd_same, List.take_add_one, hr', List.map_append, List.map_append, List.length_map]
    rfl
  obtain ⟨s3, hG3a, hG3⟩ := h
  rw [lc, List.take_length] at hG3
  refine ⟨_, rfl, ca, cs, rfl, .inr (sqT_same s3 cat1), _, rfl, by omega, by rw [lc]; omega, fun D4 hD4 => ?_⟩
  rw [show ((cs.length : Nat) : Int).toNat = rows.length by omega]
  have D40 : H1 D4 = none := none_same s3 hD4
  have D24 : D2 ≠ D4 := ne_of_none hG3a hD4
  have D34 : D3 ≠ D4 := ne_of_none hG3 hD4
  refine lc_range (lo := 0) (n := rows.length) (fun i G => Same H1 G ∧ G D2 = some (.lst ((List.replicate rows.length (0 : Int)).map V.int)) ∧ G D3 = some (.lst ((rows.map fun ns => (ns.length : Int)).map V.int)) ∧ G D4 = some (.lst ((edgeL rows i).map V.int))) ⟨s3.trans (same_new hD4 _), same_new hD4 _ _ _ hG3a, same_new hD4 _ _ _ hG3, upd_same⟩ (fun i G hi h => ?_) (fun G h => ?_)
  · obtain ⟨sm, hGa, hGb, hG⟩ := h
    have hr' := List.getElem?_eq_getElem (show i < rows.length by omega)
    generalize rows[i] = row at hr'
    obtain ⟨b, hb, bat⟩ := ch_row ceach hr'
    have hra := rowAt_nat hr'
    have le := edgeL_len rows i
    refine ⟨rfl, _, rfl, _, rfl, ca, cs, 0 + (i : Int), .ref b, rfl, rfl, sqT_same sm cat1, atI_at (by omega) (by rw [show ((0 : Int) + (i : Int)).toNat = i by omega]; exact hb), _, .inr (.inl ⟨_, sqT_same (s1.trans sm) bat, rfl⟩), ?_⟩
    have es := edgeL_succ rows i
    rw [hra] at es
    cases row with
    | nil =>
      refine ifT rfl ⟨_, rfl, _, hG, Nat.lt_of_lt_of_le (show _ < 1000 by rw [List.length_map]; omega) (small (Nat.le_refl _)), same_upd sm D40, by rw [upd_ne D24]; exact hGa, by rw [upd_ne D34]; exact hGb, ?_⟩
      rw [upd_same, es, List.map_append]
      rw [show (0 : Int) + (i : Int) = (i : Int) by omega]
      rfl
    | cons _ _ =>
      refine ifF rfl ⟨sm, hGa, hGb, ?_⟩
      rw [es]
      show G D4 = some (.lst ((edgeL rows i ++ []).map V.int))
      rw [List.append_nil]
      exact hG
  obtain ⟨s4, hG4a, hG4b, hG4⟩ := h
  have D20 : H1 D2 = none := hD2
  obtain ⟨as, hBl, las, each⟩ := hB
  have inv0 := rk_init rows
  refine ⟨fun m σ G => ∃ (r : Nat) (ed : Addr) (ds es rs us : List Int) (o7 o8 o9 o10 : Option V), m = rows.length - ds.length ∧ σ = [some (.ref ca), some (.ref B), some (.ref D2), some (.ref D3), some (.ref ed), some (.int (ds.length : Nat)), some (.int (r : Nat)), o7, o8, o9, o10] ∧ ed ≠ D2 ∧ ed ≠ D3 ∧ Same H1 G ∧ G D2 = some (.lst (rs.map V.int)) ∧ G D3 = some (.lst (us.map V.int)) ∧ G ed = some (.lst (es.map V.int)) ∧ RkInv rows r ds es rs us,
    ⟨_, 0, D4, [], _, _, _, _, _, _, _, rfl, rfl, Ne.symm D24, Ne.symm D34, s4, hG4a, hG4b, hG4, inv0⟩, ?_⟩
  clear inv0 hG4 hG4a hG4b s4 hG3 hG3a s3 hG2 s2 hD4 D40 D24 D34
  rintro m σ G ⟨r, ed, ds, es, rs, us, o7, o8, o9, o10, rfl, rfl, ne2, ne3, sm, hGr, hGu, hGe, inv⟩
  refine ⟨_, rfl, _, .inl ⟨_, SqL.of hGe, rfl⟩, ?_⟩
  cases hcs : es with
  | nil =>
    rw [hcs] at inv
    refine ifF rfl ⟨_, rfl, _, rfl, ca, cs, rfl, .inr (sqT_same sm cat1), rfl, _, rfl, ?_⟩
    by_cases c : ds.length = rows.length
    · refine ifT (decide_eq_true (by rw [c, lc])) ⟨_, rfl, D2, _, rfl, .inl ⟨SqL.of hGr, fun l hl => ?_⟩⟩
      have nl := same_new hl (.tup (rs.map V.int))
      exact q _ _ (s1.trans (sm.trans nl)) (.inl ⟨l, rs, rfl, SqT.of upd_same, inv.full c⟩)
    · refine ifF (decide_eq_false (fun z => c (by injection z with z; omega))) ?_
      exact q _ _ (s1.trans sm) (.inr ⟨rfl, inv.ring hrw c⟩)
  | cons e0 er =>
    rw [← hcs]
    have les : 0 < es.length := by rw [hcs]; simp
    have lall : (ds ++ es).length ≤ rows.length := nodup_len _ _ inv.nd inv.rng
    rw [List.length_append] at lall
    refine ifT (by rw [hcs]; rfl) ⟨fun σ' G' => ∃ m', m' < rows.length - ds.length ∧ ∃ (r : Nat) (ed : Addr) (ds es rs us : List Int) (o7 o8 o9 o10 : Option V), m' = rows.length - ds.length ∧ σ' = [some (.ref ca), some (.ref B), some (.ref D2), some (.ref D3), some (.ref ed), some (.int (ds.length : Nat)), some (.int (r : Nat)), o7, o8, o9, o10] ∧ ed ≠ D2 ∧ ed ≠ D3 ∧ Same H1 G' ∧ G' D2 = some (.lst (rs.map V.int)) ∧ G' D3 = some (.lst (us.map V.int)) ∧ G' ed = some (.lst (es.map V.int)) ∧ RkInv rows r ds es rs us, fun σ' G' h => h, ?_⟩
    refine ⟨_, rfl, _, rfl, ed, _, rfl, .inl (SqL.of hGe), _, _, rfl, rfl, ?_⟩
    refine ⟨_, rfl, _, _, rfl, rfl, small (by show 0 ≤ 1000; decide), fun fr hfr => ?_⟩
    have n2 := same_new hfr (.lst [])
    have fr0 : H1 fr = none := none_same sm hfr
    have nf2 : D2 ≠ fr := ne_of_none hGr hfr
    have nf3 : D3 ≠ fr := ne_of_none hGu hfr
    have nfe : ed ≠ fr := ne_of_none hGe hfr
    rw [List.length_map]
    refine ⟨_, rfl, ed, rfl, ⟨_, SqL.of (n2 _ _ hGe)⟩, ?_⟩
    refine for_list (xs := es.map V.int) (fun i σ G => ∃ (o8 o9 o10 : Option V) (rs' us' fs : List Int), σ = [some (.ref ca), some (.ref B), some (.ref D2), some (.ref D3), some (.ref ed), some (.int ((ds.length : Int) + (es.length : Int))), some (.int (r + 1 : Nat)), some (.ref fr), o8, o9, o10] ∧ Same H1 G ∧ G D2 = some (.lst (rs'.map V.int)) ∧ G D3 = some (.lst (us'.map V.int)) ∧ G ed = some (.lst (es.map V.int)) ∧ G fr = some (.lst (fs.map V.int)) ∧ RkMid rows r ds es rs (fun b => cntR (ds ++ es.take i) (rowAt rows b)) rs' us' fs)
      ⟨_, _, _, rs, us, [], rfl, sm.trans n2, n2 _ _ hGr, n2 _ _ hGu, n2 _ _ hGe, upd_same, inv.mid.cong fun b _ _ => by rw [List.take_zero, List.append_nil]⟩ (fun i σ G _ h => by obtain ⟨_, _, _, _, _, _, _, _, _, _, h5, _⟩ := h; exact SqL.of h5) (fun i v σ G hv h => ?_) (fun σ G h => ?_)
    · obtain ⟨o8, o9, o10, rs', us', fs, rfl, t1, g1, g2, g3, g4, mid⟩ := h
      obtain ⟨pt, hpt, rfl⟩ := ints_get hv
      have hpm : pt ∈ es := List.mem_of_getElem? hpt
      have rpt := inv.rng pt (List.mem_append_right _ hpm)
      have etk : es.take (i + 1) = es.take i ++ [pt] := by rw [List.take_add_one, hpt]; rfl
      have pnew : pt ∉ ds ++ es.take i := fun hm => by
        have nd := inv.nd
        rw [← List.take_append_drop (i + 1) es, etk, ← List.append_assoc, ← List.append_assoc] at nd
        have nd := (List.nodup_append.mp nd).1
        exact (List.nodup_append.mp nd).2.2 pt hm pt (by simp) rfl
      obtain ⟨va, ha⟩ : ∃ a, as[pt.toNat]? = some a := ⟨_, List.getElem?_eq_getElem (by omega)⟩
      obtain ⟨bs, hbs, ndb, hbi⟩ := each _ va ha
      rw [show ((pt.toNat : Nat) : Int) = pt by omega] at hbi
      refine ⟨_, rfl, _, rfl, B, _, pt, _, rfl, rfl, sqL_same t1 hBl, atI_at rpt.1 (by rw [List.getElem?_map, ha]; rfl), va, rfl, ⟨_, sqL_same t1 hbs⟩, ?_⟩
      refine for_list (xs := bs.map V.int) (fun j σ G => ∃ (o9 o10 : Option V) (rs' us' fs : List Int), σ = [some (.ref ca), some (.ref B), some (.ref D2), some (.ref D3), some (.ref ed), some (.int ((ds.length : Int) + (es.length : Int))), some (.int (r + 1 : Nat)), some (.ref fr), some (.int pt), o9, o10] ∧ Same H1 G ∧ G D2 = some (.lst (rs'.map V.int)) ∧ G D3 = some (.lst (us'.map V.int)) ∧ G ed = some (.lst (es.map V.int)) ∧ G fr = some (.lst (fs.map V.int)) ∧ RkMid rows r ds es rs (fun b => if b ∈ bs.take j then cntR (ds ++ es.take (i + 1)) (rowAt rows b) else cntR (ds ++ es.take i) (rowAt rows b)) rs' us' fs)
        ⟨_, _, rs', us', fs, rfl, t1, g1, g2, g3, g4, mid.cong fun b _ _ => by rw [if_neg (by simp)]⟩ (fun j σ G _ h => by obtain ⟨_, _, _, _, _, _, s2, _⟩ := h; exact sqL_same s2 hbs) (fun j v σ G hv h => ?_) (fun σ G h => ?_)
      · obtain ⟨o9, o10, rs', us', fs, rfl, t2, g5, g6, g7, g8, mid2⟩ := h
        obtain ⟨b, hb, rfl⟩ := ints_get hv
        have eb := (hbi b).mp (List.mem_of_getElem? hb)
        have b0 := eb.1
        have b1 := eb.2.1
        have et : bs.take (j + 1) = bs.take j ++ [b] := by rw [List.take_add_one, hb]; rfl
        have bnew : b ∉ bs.take j := fun hm => by
          have nd' := List.Nodup.sublist (List.take_sublist (j + 1) bs) ndb
          rw [et] at nd'
          exact (List.nodup_append.mp nd').2.2 b hm b (by simp) rfl
        have rowNd : (rowAt rows b).Nodup := by
          have hr' := List.getElem?_eq_getElem (show b.toNat < rows.length by omega)
          unfold rowAt
          rw [List.getD_eq_getElem?_getD, hr']
          exact (srt _ (List.getElem_mem _)).imp fun h e => by omega
        have cin := cnt_in pnew rowNd eb.2.2
        rw [List.append_assoc, ← etk] at cin
        have lu2 := mid2.lu
        have lr2 := mid2.lr
        have ub := mid2.us b b0 b1
        rw [if_neg bnew, ← cin] at ub
        have cu' : ∀ x, 0 ≤ x → x < (rows.length : Int) → (if x ∈ bs.take (j + 1) then cntR (ds ++ es.take (i + 1)) (rowAt rows x) else cntR (ds ++ es.take i) (rowAt rows x)) = if x = b then cntR (ds ++ es.take (i + 1)) (rowAt rows b) else (if x ∈ bs.take j then cntR (ds ++ es.take (i + 1)) (rowAt rows x) else cntR (ds ++ es.take i) (rowAt rows x)) := fun x _ _ => by
          rw [et]
          by_cases z : x = b
          · rw [if_pos z, if_pos (by rw [z]; simp), z]
          · rw [if_neg z]
            by_cases y : x ∈ bs.take j
            · rw [if_pos y, if_pos (List.mem_append_left _ y)]
            · rw [if_neg y, if_neg (fun y' => (List.mem_append.mp y').elim y (fun y' => z (List.mem_singleton.mp y')))]
        have hcb : (fun b => if b ∈ bs.take j then cntR (ds ++ es.take (i + 1)) (rowAt rows b) else cntR (ds ++ es.take i) (rowAt rows b)) b = cntR (ds ++ es.take (i + 1)) (rowAt rows b) + 1 := by
          show (if b ∈ bs.take j then _ else _) = _
          rw [if_neg bnew, ← cin]
        generalize cntR (ds ++ es.take (i + 1)) (rowAt rows b) = c at cu' hcb ub
        have lf : fs.length ≤ rows.length := nodup_len _ fs mid2.nd fun x hx => (mid2.fr x hx).1
        refine ⟨_, rfl, _, rfl, D3, _, b, _, rfl, rfl, b0, SqL.of g6, rk_get b0 (by omega), _, _, rfl, rfl, D3, _, b, b.toNat, rfl, rfl, g6, ixN_at b0 (by rw [List.length_map]; omega), ?_⟩
        have eu : (us'.map V.int).set b.toNat (.int (rkAt us' b - 1)) = (us'.set b.toNat (c : Nat)).map V.int := by
          rw [ub, List.map_set]
          congr 2
          omega
        rw [eu]
        have n32 : D2 ≠ D3 := D23
        refine ⟨_, rfl, _, rfl, D3, _, b, _, rfl, rfl, SqL.of upd_same, atI_at b0 (rk_get b0 (by rw [List.length_set]; omega)), rfl, _, rfl, ?_⟩
        rw [rkAt_set b0 b0 (by omega), if_pos rfl]
        have k1 : (upd G D3 (.lst ((us'.set b.toNat (c : Nat)).map V.int))) D2 = some (.lst (rs'.map V.int)) := by rw [upd_ne n32]; exact g5
        have k2 : (upd G D3 (.lst ((us'.set b.toNat (c : Nat)).map V.int))) ed = some (.lst (es.map V.int)) := by rw [upd_ne ne3]; exact g7
        have k3 : (upd G D3 (.lst ((us'.set b.toNat (c : Nat)).map V.int))) fr = some (.lst (fs.map V.int)) := by rw [upd_ne (Ne.symm nf3)]; exact g8
        have k4 : (upd G D3 (.lst ((us'.set b.toNat (c : Nat)).map V.int))) D3 = some (.lst ((us'.set b.toNat (c : Nat)).map V.int)) := upd_same
        have t3 := same_upd (o := .lst ((us'.set b.toNat (c : Nat)).map V.int)) t2 D30
        generalize upd G D3 (.lst ((us'.set b.toNat (c : Nat)).map V.int)) = G3 at k1 k2 k3 k4 t3
        by_cases c0 : c = 0
        · subst c0
          refine ifT rfl ⟨_, rfl, _, rfl, _, rfl, D2, _, b, b.toNat, rfl, rfl, k1, ixN_at b0 (by rw [List.length_map]; omega), ?_⟩
          have er : (rs'.map V.int).set b.toNat (.int (r + 1 : Nat)) = (rs'.set b.toNat (r + 1 : Nat)).map V.int := by rw [List.map_set]
          have k5 : (upd G3 D2 (.lst ((rs'.map V.int).set b.toNat (.int (r + 1 : Nat))))) fr = some (.lst (fs.map V.int)) := by rw [upd_ne (Ne.symm nf2)]; exact k3
          refine ⟨_, rfl, .inl ⟨rfl, _, SqL.of k5⟩, _, rfl, fr, _, _, rfl, rfl, k5, Nat.lt_of_lt_of_le (show _ < 1000 by rw [List.length_map]; omega) (small (Nat.le_refl _)), ?_⟩
          refine ⟨_, _, _, _, fs ++ [b], rfl, same_upd (same_upd t3 D20) fr0, by rw [upd_ne nf2, upd_same, er], by rw [upd_ne nf3, upd_ne (Ne.symm n32)]; exact k4, by rw [upd_ne nfe, upd_ne ne2]; exact k2, by rw [upd_same, List.map_append]; rfl, mid2.last b0 b1 hcb cu'⟩
        · refine ifF (decide_eq_false (fun z => c0 (by injection z with z; omega))) ⟨_, _, _, _, fs, rfl, t3, k1, k4, k2, k3, mid2.less b0 b1 hcb c0 cu'⟩
      · obtain ⟨o9, o10, rs', us', fs, rfl, t2, g5, g6, g7, g8, mid2⟩ := h
        rw [List.length_map, List.take_length] at mid2
        refine ⟨_, _, _, _, _, fs, rfl, t2, g5, g6, g7, g8, mid2.cong fun b b0 b1 => ?_⟩
        by_cases z : b ∈ bs
        · rw [if_pos z]
        · rw [if_neg z, etk, ← List.append_assoc]
          exact cnt_out fun y => z ((hbi b).mpr ⟨b0, b1, y⟩)
    · obtain ⟨o8, o9, o10, rs', us', fs, rfl, t1, g1, g2, g3, g4, mid⟩ := h
      rw [List.length_map, List.take_length] at mid
      have inv' := mid.fin inv hrw fun b _ _ => rfl
      refine ⟨_, rfl, rows.length - (ds ++ es).length, by rw [List.length_append]; omega, r + 1, fr, ds ++ es, fs, rs', us', some (.ref fr), o8, o9, o10, rfl, ?_, Ne.symm nf2, Ne.symm nf3, t1, g1, g2, g4, inv'⟩
      rw [List.length_append]
      rfl
end
/-! least_ring, rounds -/
theorem cut_lastD {xs : List V} : cutV xs none (some (-1)) = xs.dropLast := by
  unfold cutV
  have e : HT.sIx xs.length xs.length (some (-1)) = xs.length - 1 := by
    show (if (-1 : Int) < 0 then ((-1 : Int) + (xs.length : Int)).toNat else min (-1 : Int).toNat xs.length) = _
    rw [if_pos (by decide)]
    omega
  rw [e, HT.sIx_none, List.drop_zero, Nat.sub_zero, List.dropLast_eq_take]
def RvOk (K : PySem.W.Frag) (G : Hp) (v : V) : Option (List Int) → Prop
  | none => v = .non
  | some ns => ∃ a : Addr, v = .ref a ∧ SqT K G a (ns.map V.int)
theorem RvOk.same {K : PySem.W.Frag} {G G' : Hp} {v : V} {r : Option (List Int)} (h : RvOk K G v r) (s : Same G G') : RvOk K G' v r := by
  cases r with
  | none => exact h
  | some ns =>
    obtain ⟨a, e, sq⟩ := h
    exact ⟨a, e, sqT_same s sq⟩
section
variable {P : Program} {w : World} {K : PySem.W.Frag} {mg : Str → Option Value} {base : Heap} {f : Addr} {fd : FuncData}
def spLring (K : PySem.W.Frag) : Sp := fun vs H Q _ => ∃ (x : V) (rows : List (List Int)), vs = [x] ∧ Dp K H x (chD rows) ∧ RwOk rows ∧ (∀ ns ∈ rows, ns.Pairwise (· < ·)) ∧
  ∀ v H', Same H H' → ((∃ (a : Addr) (ns : List Int), v = .ref a ∧ SqT K H' a (ns.map V.int) ∧ LeastR rows ns) ∨ (v = .non ∧ ∀ ns, ¬ RingP rows ns)) → Q v H'
abbrev lrN : List Str := ["chart", "befores", "ring", "fewest", "point", "far", "after"]
theorem scLring : FnScope lrN ["chart"] (defScope sLring) := ⟨rfl, rfl, rfl, by decide +kernel, rfl, by decide +kernel, by decide +kernel⟩
set_option maxHeartbeats 1000000 in
theorem ok_lring {k : Nat} (F : Fun K "least_ring" "least_ring" sLring f fd) (T : Free mg) (cB : Cal P w K mg base "befores_of" k ["chart"] (spBef K)) (cD : Cal P w K mg base "distances" k ["links", "origins", "least", "most"] (spDistR K)) (cN : Cal P w K mg base "nearest" k ["points", "far"] (spNearTo K)) (cS : Cal P w K mg base "shortest" k ["chart", "far", "point"] (spShortC K)) : FnOk P w K mg base CX0 (k + 1) f fd ["chart"] (spLring K) := by
  refine F.ok scLring (fun vs H Q E h => ?_) (fun cdv A outer s H vs Q E hr h => ?_)
  · obtain ⟨x, rows, rfl, _⟩ := h
    rfl
  obtain ⟨x, rows, rfl, hx, hrw, srt, q⟩ := h
  have hu : (A.deeper (PyProof.Rows.envOfC "least_ring" (defScope sLring) s.heap.objs.size f cdv)).units + 1 < cLine := Nat.lt_of_le_of_lt (Nat.add_le_add_left (by decide : 1 ≤ 64) _) hr.units
  refine ⟨_, pss_cons (ps_set (i := 1) scLring.nd rfl (.inl rfl) (pe_cal cB hr rfl (pa_cons (pv 0) pa_nil)))
    (pss_cons (ps_set (i := 2) scLring.nd rfl (.inl rfl) pe_non)
    (pss_cons (ps_set (i := 3) scLring.nd rfl (.inl rfl) (pe_op op_add (pe_callB call_len_seq rfl T.len PySem.boot_len (pa_cons (pv 0) pa_nil)) pe_int))
    (pss_cons (ps_for PassesOwn.never rfl (pi_range1 rfl T.range (pa_cons (pe_callB call_len_seq rfl T.len PySem.boot_len (pa_cons (pv 0) pa_nil)) pa_nil)) (pg_name (i := 4) scLring.nd rfl (.inl rfl))
      (pss_cons (ps_set (i := 5) scLring.nd rfl (.inl rfl) (pe_cal cD hr rfl (pa_cons (pv 1) (pa_cons (pe_tup (pa_cons (pv 4) pa_nil)) (pa_cons (pv 4) (pa_cons (pe_op op_sub (pv 3) pe_int) pa_nil))))))
      (pss_cons (ps_set (i := 6) scLring.nd rfl (.inl rfl) (pe_cal cN hr rfl (pa_cons (pe_ix ix_tup (pv 0) (pv 4) (fun _ _ => rfl)) (pa_cons (pv 5) pa_nil))))
      (pss_one (ps_if (PW.pt (pw_and (pt_cmpR op_notN (pv 6) pe_non (nomark _)) (pw_and1 (pt_cmpR op_lt (pe_op op_add (pe_dget hu (pv 5) (pv 6) (fun _ _ => rfl)) pe_int) (pv 3) (nomark _)))))
        (pss_cons (ps_set (i := 2) scLring.nd rfl (.inl rfl) (pe_op op_catA (pe_tup (pa_cons (pv 4) pa_nil)) (pe_slice sl_tupA (pe_cal cS hr rfl (pa_cons (pv 0) (pa_cons (pv 5) (pa_cons (pv 6) pa_nil)))) po_none (po_some (pe_un un_neg pe_int)))))
        (pss_one (ps_set (i := 3) scLring.nd rfl (.inl rfl) (pe_callB call_len_seq rfl T.len PySem.boot_len (pa_cons (pv 2) pa_nil))))) pss_nil)))))
    (pss_one (ps_ret (pv 2)))))), ?_⟩
  have hx0 := hx
  cases hx with
  | @tup ca cs _ cat ceach =>
  have lc : cs.length = rows.length := by have := dpAll_len ceach; rw [List.length_map] at this; exact this
  have hlen := hrw.len
  refine ⟨_, rfl, _, rows, rfl, hx0, hrw, srt, fun B H1 s1 hB => ?_⟩
  have cat1 := sqT_same s1 cat
  refine ⟨_, rfl, ca, cs, rfl, .inr cat1, _, _, rfl, rfl, ?_⟩
  refine ⟨_, rfl, ca, cs, rfl, .inr cat1, _, rfl, by omega, by rw [lc]; omega, ?_⟩
  rw [show ((cs.length : Nat) : Int).toNat = rows.length by omega, lc]
  have bef : ∀ {G : Hp}, Same H1 G → BefAt K G B rows := fun sm => by
    obtain ⟨as, h1, h2, h3⟩ := hB
    refine ⟨as, sqL_same sm h1, h2, fun i a ha => ?_⟩
    obtain ⟨bs, y1, y2⟩ := h3 i a ha
    exact ⟨bs, sqL_same sm y1, y2⟩
  refine for_range (lo := 0) (n := rows.length) (fun i σ G => ∃ (rv : V) (fw : Nat) (ring : Option (List Int)) (o4 o5 o6 : Option V), σ = [some (.ref ca), some (.ref B), some rv, some (.int (fw : Nat)), o4, o5, o6] ∧ Same H1 G ∧ RvOk K G rv ring ∧ BestTo rows i ring fw)
    ⟨.non, rows.length + 1, none, _, _, _, rfl, Same.refl _, rfl, ⟨fun _ => ⟨rfl, fun q ms hq => absurd hq (Nat.not_lt_zero _)⟩, fun ns e => by cases e⟩⟩ (fun i σ G hi h => ?_) (fun σ G h => ?_)
  · obtain ⟨rv, fw, ring, o4, o5, o6, rfl, sm, rvo, best⟩ := h
    rw [show (0 : Int) + (i : Int) = (i : Int) by omega]
    have fw1 : 1 ≤ fw := by
      cases ring with
      | none => have := (best.non rfl).1; omega
      | some ns => have := (best.som ns rfl); have := this.1.pos; omega
    refine ⟨_, rfl, _, rfl, small (by show 1 ≤ 1000; decide), fun p1 h1 => ⟨_, rfl, _, rfl, _, _, rfl, rfl, ?_⟩⟩
    have n1 := same_new h1 (.tup [.int (i : Int)])
    have sm1 := sm.trans n1
    refine ⟨.ref p1, B, rows, i, _, rfl, bef sm1, hrw, .tup (SqT.of upd_same) (dp_ints [(i : Int)]), by omega, by omega, fun F kvs G2 s2 hF far => ?_⟩
    have sm2 := sm1.trans s2
    have em : ((fw : Int) - 2).toNat = fw - 2 := by omega
    have far : FarTo (inP [(i : Int)]) (backE (resR rows i)) rows.length (fw - 2) kvs := by rw [← em]; exact far
    have hr' := List.getElem?_eq_getElem hi
    generalize rows[i] = row at hr'
    obtain ⟨b, hb, bat⟩ := ch_row ceach hr'
    have hra := rowAt_nat hr'
    refine ⟨_, rfl, _, rfl, ca, cs, i, _, rfl, rfl, sqT_same sm2 cat1, atI_at (by omega) (by rw [show ((i : Int)).toNat = i by omega]; exact hb), _, rfl, inP [(i : Int)], backE (resR rows i), fw - 2, .ref b, row, F, kvs, rows.length, rfl, .tup (sqT_same (s1.trans sm2) bat) (dp_ints row), srt row (List.mem_of_getElem? hr'), hF, far, fun r hn => ?_⟩
    have p0 : (0 : Int) ≤ (i : Int) := by omega
    rcases hn with ⟨rfl, no⟩ | ⟨af, ka, rfl, ma, hka, da, min⟩
    · refine ⟨_, rfl, rfl, _, rfl, ifF rfl (ifF rfl ⟨rv, fw, ring, _, _, _, rfl, sm2, rvo.same (n1.trans s2), best.keep fun ms m => ?_⟩)⟩
      obtain ⟨s, hs, j, hj, d⟩ := m.near hrw p0
      rw [hra] at hs
      by_cases c : fw ≤ ms.length
      · exact c
      · exact absurd d (no s hs j (by omega))
    · have va := far.all af ka hka da
      refine ⟨_, rfl, rfl, _, rfl, ifT rfl ⟨_, rfl, _, rfl, F, _, rfl, (by have g := DGet.k (k := Sum.inl af) hF; rw [va] at g; exact g), _, _, rfl, rfl, _, rfl, _, _, rfl, rfl, _, rfl, ?_⟩⟩
      by_cases c : ka + 1 < fw
      · refine ifT (decide_eq_true (by omega)) ⟨_, rfl, small (by show 1 ≤ 1000; decide), fun p3 h3 => ?_⟩
        have n3 := same_new h3 (.tup [.int (i : Int)])
        have sm3 := sm2.trans n3
        refine ⟨_, rfl, _, rfl, _, rfl, .ref ca, rows, i, fw - 2, F, kvs, af, ka, rfl, dp_ext (ext_same (s1.trans sm3)) _ _ hx0, hrw, srt, n3 _ _ hF, far, by omega, by omega, hka, da, fun a ns G4 s4 ha g => ?_⟩
        have lg := g.len
        have hlt := da.bound (n := rows.length) (fun j q h => by
          cases j with
          | zero =>
            have h : q ∈ [(i : Int)] := h
            rw [List.mem_singleton.mp h]
            omega
          | succ j =>
            obtain ⟨r, _, e⟩ := h
            exact ⟨e.1, by have := e.2.1; rw [resR_len] at this; exact this⟩)
        refine ⟨_, rfl, _, rfl, slA_run ha fun r5 G5 s5 h5 => ?_⟩
        rw [cut_lastD] at h5
        have a3 : SqT K G5 p3 [.int (i : Int)] := sqT_same (s4.trans s5) (SqT.of upd_same)
        have ed : ((af :: ns).map V.int).dropLast = ((af :: ns).dropLast).map V.int := by rw [List.map_dropLast]
        rw [ed] at h5
        have ldl : ((af :: ns).dropLast).length = ka := by rw [List.length_dropLast, lg]; rfl
        refine catA_run a3 h5 (by rw [List.length_map, ldl]; show 1 + ka ≤ 1000; omega) fun r6 G6 s6 h6 => ?_
        have e6 : [V.int (i : Int)] ++ ((af :: ns).dropLast).map V.int = (((i : Int) :: (af :: ns).dropLast)).map V.int := rfl
        rw [e6] at h6
        refine ⟨_, rfl, r6, _, rfl, .inr h6, ?_⟩
        have lring : ((((i : Int) :: (af :: ns).dropLast)).map V.int).length = ka + 1 := by rw [List.length_map, List.length_cons, ldl]
        rw [lring]
        exact ⟨.ref r6, ka + 1, some ((i : Int) :: (af :: ns).dropLast), _, _, _, rfl, sm3.trans (s4.trans (s5.trans s6)), ⟨r6, rfl, h6⟩, best.take hrw hi c (by rw [hra]; exact ma) da (by rw [hra]; exact min) g⟩
      · refine ifF (decide_eq_false (by omega)) ⟨rv, fw, ring, _, _, _, rfl, sm2, rvo.same (n1.trans s2), best.keep fun ms m => ?_⟩
        obtain ⟨s, hs, j, hj, d⟩ := m.near hrw p0
        rw [hra] at hs
        rcases min s hs j d with y | ⟨y, _⟩ <;> omega
  · obtain ⟨rv, fw, ring, o4, o5, o6, rfl, sm, rvo, best⟩ := h
    obtain ⟨d1, d2⟩ := best.done
    refine ⟨_, rfl, q rv G (s1.trans sm) ?_⟩
    cases ring with
    | none => exact .inr ⟨rvo, d2 rfl⟩
    | some ns =>
      obtain ⟨a, e, sq⟩ := rvo
      exact .inl ⟨a, ns, e, sq, d1 ns rfl⟩
end
/-! rounds -/
def RndD (rows : List (List Int)) (d : PyData) : Prop :=
  (∃ ns : List Int, d = .tuple [.str "ring", .tuple (ns.map .int)] ∧ LeastR rows ns) ∨ (∃ rs : List Int, d = .tuple [.str "ranks", .tuple (rs.map .int)] ∧ FixR rows rs)
section
variable {P : Program} {w : World} {K : PySem.W.Frag} {mg : Str → Option Value} {base : Heap} {f : Addr} {fd : FuncData}
structure ChP (K : PySem.W.Frag) (H : Hp) (x : V) (rows : List (List Int)) : Prop where
  ch : Dp K H x (chD rows)
  rw : RwOk rows
  srt : ∀ ns ∈ rows, ns.Pairwise (· < ·)
  cd : chartD (chD rows) = true
theorem ChP.ext {H H' : Hp} {x : V} {rows : List (List Int)} (c : ChP K H x rows) (e : LamX.ExtN H H') : ChP K H' x rows := ⟨dp_ext e _ _ c.ch, c.rw, c.srt, c.cd⟩
def spRounds (K : PySem.W.Frag) (PT : List Addr) : Sp := fun vs H Q _ => ∃ (x : V) (rows : List (List Int)), vs = [x] ∧ ChP K H x rows ∧ TabsG PT H ∧ ∀ v d H', LamX.ExtN H H' → TabsG PT H' → Dp K H' v d → RndD rows d → Q v H'
theorem scRounds : FnScope ["chart", "ranks"] ["chart"] (defScope sRounds) := ⟨rfl, rfl, rfl, by decide +kernel, rfl, by decide +kernel, by decide +kernel⟩
theorem ok_rounds {k : Nat} {PT : List Addr} (F : Fun K "rounds" "rounds" sRounds f fd) (cC : Cal P w K mg base "check_chart" k ["chart"] (spCheckCh K PT)) (cR : Cal P w K mg base "least_ranks" k ["chart"] (spRanks K)) (cL : Cal P w K mg base "least_ring" k ["chart"] (spLring K)) : FnOk P w K mg base CX0 (k + 1) f fd ["chart"] (spRounds K PT) := by
  refine F.ok scRounds (fun vs H Q E h => ?_) (fun cdv A outer s H vs Q E hr h => ?_)
  · obtain ⟨x, rows, rfl, _⟩ := h
    rfl
  obtain ⟨x, rows, rfl, ca, tb, q⟩ := h
  refine ⟨_, pss_cons (ps_expr (pe_cal cC hr rfl (pa_cons (pv 0) pa_nil)))
    (pss_cons (ps_set (i := 1) scRounds.nd rfl (.inl rfl) (pe_cal cR hr rfl (pa_cons (pv 0) pa_nil)))
    (pss_cons (ps_if (pt_cmpR op_isN (pv 1) pe_non (nomark _)) (pss_one (ps_ret (pe_tup (pa_cons pe_str (pa_cons (pe_cal cL hr rfl (pa_cons (pv 0) pa_nil)) pa_nil))))) pss_nil)
    (pss_one (ps_ret (pe_tup (pa_cons pe_str (pa_cons (pv 1) pa_nil))))))), ?_⟩
  refine ⟨_, rfl, x, _, rfl, ca.ch, ca.cd, tb, fun H1 e1 t1 => ?_⟩
  have c1 := ca.ext e1
  refine ⟨_, rfl, x, rows, rfl, c1.ch, c1.rw, c1.srt, fun v H2 s2 hv => ?_⟩
  have c2 := c1.ext (ext_same s2)
  have e2 := e1.trans (ext_same s2)
  have t2 := t1.same s2
  rcases hv with ⟨a, rs, rfl, sq, fx⟩ | ⟨rfl, ns0, rg⟩
  · refine ⟨_, rfl, rfl, _, rfl, ifF rfl ⟨_, rfl, small (by show 2 ≤ 1000; decide), fun p hp => ?_⟩⟩
    have n := same_new hp (.tup [.str "ranks", .ref a])
    exact q _ (.tuple [.str "ranks", .tuple (rs.map .int)]) _ (e2.trans (ext_same n)) (t2.same n) (.tup (SqT.of upd_same) (.cons (.str _) (.cons (.tup (sqT_same n sq) (dp_ints rs)) .nil))) (.inr ⟨rs, rfl, fx⟩)
  · refine ⟨_, rfl, rfl, _, rfl, ifT rfl ⟨_, rfl, x, rows, rfl, c2.ch, c2.rw, c2.srt, fun v H3 s3 hv => ?_⟩⟩
    rcases hv with ⟨a, ns, rfl, sq, lr⟩ | ⟨rfl, no⟩
    · refine ⟨small (by show 2 ≤ 1000; decide), fun p hp => ?_⟩
      have n := same_new hp (.tup [.str "ring", .ref a])
      have s4 := s3.trans n
      exact q _ (.tuple [.str "ring", .tuple (ns.map .int)]) _ (e2.trans (ext_same s4)) (t2.same s4) (.tup (SqT.of upd_same) (.cons (.str _) (.cons (.tup (sqT_same n sq) (dp_ints ns)) .nil))) (.inl ⟨ns, rfl, lr⟩)
    · exact absurd rg (no ns0)
end
/-! a set comprehension whose members are ints -/
section
open PpSet
variable {X : Cx} {target source elem : Expr} {conds : List Expr} {sc : Scope} {mine : List (PySem.Str × Nat)} {at_ at2 : Pos} {wi : TI} {g : TG} {tt : TT} {te : TE}
/-- one turn: the member is put in, or left out -/
def scPut (w : World) (D : Addr) (N : Hp → Prop) (te : TE) (b : Bool) (σ : L2.St) (H : Hp) : Prop := if b = true then te σ H fun y G => ∃ (c : Int) (S : Int → Bool) (n : Nat), y = .int c ∧ G D = some (SetO w D S n) ∧ n + 1 < scanBound ∧ N (upd G D (SetO w D (fun j => S j || decide (j = c)) (if S c = true then n else n + 1))) else N H
def scStep (w : World) (J : It) (D : Addr) (g : TG) (tt : TT) (te : TE) (vs : List Nat) (σ : L2.St) (V : Nat → Nat → Hp → Prop) (Fin : Hp → Prop) (i m : Nat) (G : Hp) : Prop :=
  (J.stop i G ∧ Fin G) ∨ (J.go i G ∧ ∃ N : Hp → Prop, (∀ G', N G' → ∃ m', m' < m ∧ V (i + 1) m' G') ∧ ∀ x G', J.yld i G x G' → g x (wipe σ vs) G' fun τ G2 => wipe τ vs = wipe σ vs ∧ tt τ G2 fun b G3 => scPut w D N te b τ G3)
def tScI (w : World) (wi : TI) (g : TG) (tt : TT) (te : TE) (vs : List Nat) : TE := fun σ H Q => wi σ H fun J Ha => ∀ D, Ha D = none →
  ∃ V : Nat → Nat → Hp → Prop, (∃ m, V 0 m (upd Ha D (SetO w D (fun _ => false) 0))) ∧ ∀ i m G, V i m G → scStep w J D g tt te vs σ V (fun G' => Q (.ref D) G') i m G
theorem pe_scI (calm : X.calm = true) (nd : X.N.Nodup) (it : PI X target source wi) (ok : BlkOk X.N X.env.scope sc mine)
    (pgs : ∀ (s : Shared) (H : Hp) (C : Addr) (cl : List (PySem.Str × Addr)) (fp : List Addr), PG (X.blk s H sc (compEnvC sc cl C X.env) fp) target g)
    (pts : ∀ (s : Shared) (H : Hp) (C : Addr) (cl : List (PySem.Str × Addr)) (fp : List Addr), PTs (X.blk s H sc (compEnvC sc cl C X.env) fp) conds tt)
    (pes : ∀ (s : Shared) (H : Hp) (C : Addr) (cl : List (PySem.Str × Addr)) (fp : List Addr), PE (X.blk s H sc (compEnvC sc cl C X.env) fp) elem te)
    (nof : ∀ x, foldedSetIterable source X.env x = pure x := by intro _; rfl) :
    PE X (.SetComp elem [⟨target, source, conds, 0⟩] sc at_) (tScI X.w wi g tt te (mine.map (·.2))) := by
  refine ⟨fun pins s0 σ H Q I0 h => ?_⟩
  have cellsOk : ∀ y ∈ sc.names, y.2 = .free → ∃ c, X.env.cells.lookup y.1 = some c := fun y hy e => (ok.free y hy e).elim (fun k => I0.ok.has _ (.inl k)) (fun k => I0.ok.has _ (.inr k))
  rw [eval_SetComp]
  refine wpAny_comprehension_free (use := none) rfl nof (closure_ok cellsOk) ok.kind (fun y hy e => by rw [ok.uniq y hy, e]) ?_
  refine thn (it.run pins s0 σ H _ I0 h) fun xv s1 hx => thn hx fun itv sA hA => ?_
  obtain ⟨i0, fp, tn, J, HA, rfl, IA, T, stA, fA, q⟩ := hA
  refine newSet_ok (newEnv_comp ?_)
  -- where the set comes to lie
  obtain ⟨D, eD⟩ : ∃ D, sA.heap.objs.size = D := ⟨_, rfl⟩
  rw [eD]
  have noD : HA D = none := IA.hok.fresh (Nat.le_of_eq eD)
  obtain ⟨V, ⟨m0, v0⟩, each⟩ := q D noD
  obtain ⟨sB, eB⟩ : ∃ sB : Shared, ({ sA with heap := sA.heap.push { cls := .type "set", dict := none, data := .set #[] 0 (.fresh 0 0 (!X.w.params.followText "set-order")) } } : Shared) = sB := ⟨_, rfl⟩
  have hB : sB.heap = sA.heap.push { cls := .type "set", dict := none, data := .set #[] 0 (.fresh 0 0 (!X.w.params.followText "set-order")) } := by rw [← eB]
  have IB : Inv X pins σ (upd HA D (SetO X.w D (fun _ => false) 0)) sB := by
    rw [← eB]
    refine IA.laid (t' := sA.toks) (fun c u e => Heap.get?_push_of_some _ e) (Nat.le_of_eq eD) ?_
    rw [← eD]
    exact setO_new (setR_fresh X.w)
  have under : ∀ c ∈ fp, c < sA.heap.objs.size := fun c hc => by
    obtain ⟨u, e, _⟩ := T.obj _ _ stA c hc
    exact Heap.lt_size e
  have fB : ∀ c ∈ fp, FpOk X pins (upd HA D (SetO X.w D (fun _ => false) 0)) c ∧ c < sB.heap.objs.size := fun c hc => by
    have lt := under c hc
    have ne : c ≠ D := by rw [← eD]; exact Nat.ne_of_lt lt
    exact ⟨⟨by rw [upd_ne ne]; exact (fA c hc).1, (fA c hc).2⟩, by rw [hB, Heap.size_push]; exact Nat.lt_succ_of_lt lt⟩
  have stB : tn 0 sB.heap := T.keep _ _ _ stA fun c _ u e => by rw [hB]; exact Heap.get?_push_of_some _ e
  have IC := block_start IB ok nd fB
  rw [eB]
  have env0 := fun P => (pgs sB P sB.heap.objs.size (cellsFrom (sB.heap.objs.size + 1) sc.names (cloFrom X.env.cells sc.names [])) fp)
  have envT := fun P => (pts sB P sB.heap.objs.size (cellsFrom (sB.heap.objs.size + 1) sc.names (cloFrom X.env.cells sc.names [])) fp)
  have envE := fun P => (pes sB P sB.heap.objs.size (cellsFrom (sB.heap.objs.size + 1) sc.names (cloFrom X.env.cells sc.names [])) fp)
  have pG := env0 (upd HA D (SetO X.w D (fun _ => false) 0))
  have pT := envT (upd HA D (SetO X.w D (fun _ => false) 0))
  have pE := envE (upd HA D (SetO X.w D (fun _ => false) 0))
  clear env0 envT envE
  have noneB : ∀ c ∈ fp, (upd HA D (SetO X.w D (fun _ => false) 0)) c = none := fun c hc => (fB c hc).1.1
  show codeAny _ _ (.compStart (.SetComp elem [⟨target, source, conds, 0⟩] sc at_) 0 (.ref i0) (.ref D) (compEnvC sc (cellsFrom (sB.heap.objs.size + 1) sc.names (cloFrom X.env.cells sc.names [])) sB.heap.objs.size X.env))
    (compPost (model X.prog X.w) X.A X.xe none _ (.ref D) sB.heap.objs.size) { sB with heap := pushCells (sB.heap.push { cls := .type "dict", data := .dict #[] }) sc.names }
  obtain ⟨ce, ece⟩ : ∃ ce, compEnvC sc (cellsFrom (sB.heap.objs.size + 1) sc.names (cloFrom X.env.cells sc.names [])) sB.heap.objs.size X.env = ce := ⟨_, rfl⟩
  rw [ece] at IC pG pT pE ⊢
  have home : ce.locals = sB.heap.objs.size := by rw [← ece]; rfl
  generalize upd HA D (SetO X.w D (fun _ => false) 0) = GB at IB IC pG pT pE v0 noneB fB
  obtain ⟨sC, eC⟩ : ∃ sC : Shared, ({ sB with heap := pushCells (sB.heap.push { cls := .type "dict", data := .dict #[] }) sc.names } : Shared) = sC := ⟨_, rfl⟩
  rw [eC] at IC ⊢
  have stC : tn 0 sC.heap := T.keep _ _ _ stB fun c _ u e => by rw [← eC]; exact pushCells_keeps _ _ _ _ (Heap.get?_push_of_some _ e)
  have quiet : ∀ {σ' : L2.St} {H' : Hp} {s' : Shared}, Inv (X.blk sB GB sc ce fp) [] σ' H' s' → (∀ c ∈ fp, H' c = none) → ∀ c ∈ fp, FpOk (X.blk sB GB sc ce fp) [] H' c :=
    fun {σ' H' s'} J' nn c hc => ⟨nn c hc, (J'.ok.exf c hc).1, J'.ok.exfs c hc, .inl hc, fun x d e => (J'.ok.exf c hc).2 x d e, fun z hz => absurd (show z ∈ ([] : List (Addr × Obj)) ++ [] from hz) (by simp)⟩
  have loop : codeAny (model X.prog X.w) X.A (.compLoop (.SetComp elem [⟨target, source, conds, 0⟩] sc at_) 0 (.ref i0) (.ref D) ce)
      (compPost (model X.prog X.w) X.A X.xe none (fun v s' => ∃ x H', Inv X pins σ H' s' ∧ RelV x v ∧ Q x H') (.ref D) sB.heap.objs.size) sC := by
    refine compLoopS_any (fun n s' => ∃ i H', Inv (X.blk sB GB sc ce fp) [] (wipe σ (mine.map (·.2))) H' s' ∧ tn i s'.heap ∧ (∀ c ∈ fp, H' c = none) ∧ V i n H') ?_ m0 ⟨0, GB, IC, stC, noneB, v0⟩
    rintro n sD ⟨i, HD, ID, stD, nnD, vD⟩
    rcases each i n HD vD with ⟨halt, done⟩ | ⟨go, N, less, turn⟩
    · refine thnF (T.done (X.blk sB GB sc ce fp) rfl rfl rfl calm i [] sD _ HD (fun _ _ => False) ID (quiet ID nnD) stD halt) fun r sF ⟨er, IF⟩ => ?_
      subst er
      have IX : Inv X pins σ HD sF := IB.call' (ch := fp) IF.os IF.base IF.hok IF.bare fun c hc => ⟨(fB c hc).1.2.2.2.1, (fB c hc).1.2.1, (fB c hc).1.2.2.2.2.1, (fB c hc).1.2.2.2.2.2⟩
      have free : HD sB.heap.objs.size = none := by
        have z : HD ce.locals = none := IF.free
        rwa [home] at z
      obtain ⟨m, hn, _⟩ := IF.loc
      have hn : sF.heap.Ns ce.locals m := hn
      rw [home] at hn
      refine ⟨m, hn, fun h2 sb => ?_⟩
      obtain ⟨p0, p1, p2, p3, p4, p5⟩ := IB.fpOk (Nat.le_refl _) free
      exact ⟨.ref D, HD, IX.turned (t' := sF.toks) (fun c u hc e => (sb.2 c hc).trans e) p0 p1 p3 p4 p5, rfl, done⟩
    · refine thnF (T.item (X.blk sB GB sc ce fp) rfl rfl rfl calm i [] sD _ HD (fun _ _ => False) ID (quiet ID nnD) stD go) fun r sE ⟨u, er, hE⟩ => ?_
      subst er
      refine thnF hE fun _ sF ⟨x, HF, IF, rF, yF, stF, nnF⟩ => ?_
      have pinned := IF.pinned (quiet IF nnF) (T.obj _ _ stF)
      refine thnF (pG.run _ sF _ HF x u _ pinned rF (turn x HF yF)) fun _ sG ⟨τ, HG, IG, wG, qG⟩ => ?_
      refine thnF (pT.run _ sG τ HG _ IG qG) fun b sI ⟨HI, II, qI⟩ => ?_
      have next : ∀ {s' : Shared} {H' : Hp}, Inv (X.blk sB GB sc ce fp) ([] ++ pinsAt fp sF.heap) τ H' s' → N H' →
          ∃ m, m < n ∧ ∃ i H', Inv (X.blk sB GB sc ce fp) [] (wipe σ (mine.map (·.2))) H' s' ∧ tn i s'.heap ∧ (∀ c ∈ fp, H' c = none) ∧ V i m H' := fun {s' H'} J' nx => by
        obtain ⟨m', lt, v'⟩ := less H' nx
        have held : ∀ c ∈ fp, ∀ u, sF.heap.get? c = some u → s'.heap.get? c = some u ∧ H' c = none := fun c hc u e => by
          obtain ⟨z1, z2, _⟩ := J'.pin (c, u) (List.mem_append_right _ (List.mem_append_right _ (mem_pinsAt hc e)))
          exact ⟨z1, z2⟩
        refine ⟨m', lt, i + 1, H', (J'.unpinned (pins := [])).weak (by rw [← wG, wipe_length]) (fun j v e => ?_), T.keep _ _ _ stF fun c hc u e => (held c hc u e).1, fun c hc => ?_, v'⟩
        · rw [← wG] at e
          exact (wipe_some e).1
        · obtain ⟨u, e, _⟩ := T.obj _ _ stF c hc
          exact (held c hc u e).2
      have qI : scPut X.w D N te b τ HI := qI
      unfold scPut at qI
      by_cases eb : b = true
      · rw [if_pos eb] at qI ⊢
        refine thnF (pE.run _ sI τ HI _ II qI) fun z sJ ⟨y, HJ, IJ, rJ, cm, S, k, ey, hS, room, nx⟩ => ?_
        subst ey
        obtain ⟨tk, rfl⟩ := rJ
        have R := setO_get (X := X.blk sB GB sc ce fp) IJ hS
        refine setR_add R room fun hx same new => ?_
        have there : ∃ u, hx.get? D = some u := by
          obtain ⟨u, _, _, _, hu, _⟩ := id new
          exact ⟨u, hu⟩
        exact next (IJ.write (e := D) (t' := sJ.toks + 1) (by rw [hS]; trivial) (.inl rfl) (fun c u hc hu => (same.2 c hc).trans hu) there (setO_new new)) nx
      · rw [if_neg eb] at qI ⊢
        exact next II qI
  exact codeAny_compStart_set loop (T.self X.A 0 _ _ _ stC loop)
end
theorem chart_of {rows : List (List Int)} (h : RwOk rows) (s : ∀ ns ∈ rows, ns.Pairwise (· < ·)) : chartD (chD rows) = true := by
  show (rows.map fun ns => PyData.tuple (ns.map .int)).all (pointsD (rows.map fun ns => PyData.tuple (ns.map .int)).length) = true
  rw [List.length_map]
  refine List.all_eq_true.mpr fun d hd => ?_
  obtain ⟨ns, hn, rfl⟩ := List.mem_map.mp hd
  exact (pts_law ns 0).mpr ⟨s ns hn, fun i hi => (h.row ns hn).2 i hi⟩
theorem mem_side {sd : Int × Int → Int} {chs : List (Int × Int)} {me i : Int} : i ∈ sideL sd chs me ↔ (0 ≤ i ∧ i ≤ (chs.length : Int) - 1 ∧ sd (chs.getD i.toNat (0, 0)) = me) := by
  unfold sideL sideN
  rw [List.mem_map]
  constructor
  · rintro ⟨m, hm, rfl⟩
    rw [List.mem_filter, List.mem_range, decide_eq_true_eq] at hm
    refine ⟨by omega, by omega, ?_⟩
    rw [show ((m : Nat) : Int).toNat = m by omega]
    exact hm.2
  · rintro ⟨h0, h1, h2⟩
    refine ⟨i.toNat, ?_, by omega⟩
    rw [List.mem_filter, List.mem_range, decide_eq_true_eq]
    exact ⟨by omega, h2⟩
/-! senders_to, waiting_chart, rounds_of -/
theorem sci_tup {w : World} {K : PySem.W.Frag} {a : Addr} {xs : List V} {g : TG} {tt : TT} {te : TE} {vs : List Nat} {σ : L2.St} {H1 : Hp} {D : Addr} {Fin : Hp → Prop} (Pv : Nat → Hp → Prop) (h0 : Pv 0 (upd H1 D (SetO w D (fun _ => false) 0))) (hl : ∀ i H, i ≤ xs.length → Pv i H → SqT K H a xs)
    (turn : ∀ i x H, xs[i]? = some x → Pv i H → g x (wipe σ vs) H fun τ H2 => wipe τ vs = wipe σ vs ∧ tt τ H2 fun b H3 => scPut w D (Pv (i + 1)) te b τ H3) (end_ : ∀ H, Pv xs.length H → Fin H) :
    ∃ W : Nat → Nat → Hp → Prop, (∃ m, W 0 m (upd H1 D (SetO w D (fun _ => false) 0))) ∧ ∀ i m H, W i m H → scStep w (Itt K a) D g tt te vs σ W Fin i m H := by
  refine ⟨fun i m H => m = xs.length - i ∧ i ≤ xs.length ∧ Pv i H, ⟨xs.length, by simp, Nat.zero_le _, h0⟩, ?_⟩
  rintro i m H ⟨rfl, hi, p⟩
  have q := hl i H hi p
  by_cases lt : i < xs.length
  · refine .inr ⟨⟨xs, xs[i], q, by simp [lt]⟩, Pv (i + 1), fun G p' => ⟨xs.length - (i + 1), by omega, rfl, lt, p'⟩, fun x G y => ?_⟩
    obtain ⟨rfl, y⟩ := y
    exact turn i x _ (y xs q) p
  · obtain rfl : i = xs.length := by omega
    exact .inl ⟨⟨xs, q, Nat.le_refl _⟩, end_ H p⟩
def tkOf (chs : List (Int × Int)) (r : PyData × List Int) : List Int := match r.1 with
  | .tuple [.str z, _, .int m] => if z = "take" then [(chs.getD m.toNat (0, 0)).1] else []
  | _ => []
def sendM (chs : List (Int × Int)) (rs : List (PyData × List Int)) : List Int := rs.flatMap (tkOf chs)
/-- where it takes, it takes from a channel -/
def TkRow (n : Nat) (r : PyData × List Int) : Prop := ∃ z ds, r.1 = .tuple (.str z :: ds) ∧ (z = "take" → ∃ g m, ds = [g, .int m] ∧ 0 ≤ m ∧ m < (n : Int))
theorem sendM_snoc {chs : List (Int × Int)} {rs : List (PyData × List Int)} {i : Nat} {r : PyData × List Int} (h : rs[i]? = some r) : sendM chs (rs.take (i + 1)) = sendM chs (rs.take i) ++ tkOf chs r := by
  unfold sendM
  rw [take_more h, List.flatMap_append, List.flatMap_cons, List.flatMap_nil, List.append_nil]
theorem tkOf_no {chs : List (Int × Int)} {r : PyData × List Int} {z : Str} {ds : List PyData} (e : r.1 = .tuple (.str z :: ds)) (h : z ≠ "take") : tkOf chs r = [] := by
  unfold tkOf
  rw [e]
  split
  · rename_i e
    cases e
    exact if_neg h
  · rfl
theorem deed_take {ss ts : List Int} {ds : List PyData} (h : deedD ss ts (.tuple (.str "take" :: ds)) = true) : ∃ g m, ds = [g, .int m] ∧ m ∈ ts := by
  have h : deedB ss ts "take" ds = true := h
  unfold deedB at h
  rw [show deedK "take" = some [.graph, .out] from rfl] at h
  have h := and3 (show (decide (ds.length = 2) && (fitsAll ss ts [.graph, .out] ds && unlikeB "take" ds)) = true from h)
  match ds, of_decide_eq_true h.1, h.2 with
  | [g, x], _, h2 =>
    have f := and3 (show (fitD ss ts .graph g && (fitD ss ts .out x && true)) = true from (and3 h2).1)
    have fx : intIn ts x = true := (and3 f.2).1
    cases x with
    | int m => exact ⟨g, m, rfl, of_decide_eq_true fx⟩
    | _ => cases fx
theorem flS_tk {ss ts : List Int} {n0 : Nat} (hts : ∀ m ∈ ts, 0 ≤ m ∧ m < (n0 : Int)) {fb : PyData → Int → Int → List (PyData × List Int)} {bl : PyData → Bool} (hf : ∀ (x : PyData) (n b : Int), bl x = true → ∀ r ∈ fb x n b, TkRow n0 r) {d : PyData} {n b : Int} (h : lstB ss ts bl d = true) : ∀ r ∈ flS fb d n b, TkRow n0 r := by
  have tst : ∀ {nm : PyData} {ns : List Int}, TkRow n0 (tstD nm, ns) := fun {nm ns} => ⟨"test", [nm], rfl, fun e => absurd e (by decide +kernel)⟩
  intro r hr
  rcases st_cases h with ⟨hd, nb, z, ds, rfl, hz⟩ | ⟨nm, x, y, rfl, hn, hx, hy, hb⟩ | ⟨nm, x, rfl, hn, hx, hb⟩
  · rw [flS_deed hz] at hr
    rw [List.mem_singleton.mp hr]
    by_cases c : z = "take"
    · subst c
      obtain ⟨g, m, rfl, hm⟩ := deed_take hd
      refine ⟨"take", [g, .int m], ?_, fun _ => ⟨g, m, rfl, hts m hm⟩⟩
      show (if ("take" : Str) ∈ handL then PyData.tuple (.str "take" :: ([g, .int m] ++ [.str "copy"])) else .tuple (.str "take" :: [g, .int m])) = _
      exact if_neg (by decide +kernel)
    · by_cases c2 : z ∈ handL
      · exact ⟨z, ds ++ [.str "copy"], (show (if z ∈ handL then _ else _) = _ from if_pos c2), fun e => absurd e c⟩
      · exact ⟨z, ds, (show (if z ∈ handL then _ else _) = _ from if_neg c2), fun e => absurd e c⟩
  · rw [flS_if] at hr
    unfold ifR at hr
    rcases List.mem_cons.mp hr with rfl | hr
    · exact tst
    · rcases List.mem_append.mp hr with hr | hr
      · exact hf x _ _ hx r hr
      · exact hf y _ _ hy r hr
  · rw [flS_wh] at hr
    unfold whR at hr
    rcases List.mem_cons.mp hr with rfl | hr
    · exact tst
    · exact hf x _ _ hx r hr
theorem flN_tk {ss ts : List Int} {n0 : Nat} (hts : ∀ m ∈ ts, 0 ≤ m ∧ m < (n0 : Int)) : ∀ (k : Nat) {d : PyData} {n b : Int}, lblk ss ts k d = true → ∀ r ∈ flN k d n b, TkRow n0 r
  | 0, d, n, b, h => by cases d <;> cases h
  | k + 1, d, n, b, h => by
    cases d with
    | tuple ds =>
      have hl := and3 (show (decide (ds.length ≤ 12) && ds.all (lstB ss ts (lblk ss ts k))) = true from h)
      intro r hr
      obtain ⟨i, hi, hr⟩ := List.mem_flatMap.mp (show r ∈ flP (flS (flN k)) (manyS (manyN k)) ds n b ds.length from hr)
      have hi := List.mem_range.mp hi
      rw [List.getD_eq_getElem?_getD, List.getElem?_eq_getElem hi] at hr
      exact flS_tk hts (fb := flN k) (bl := lblk ss ts k) (fun x n b hx => flN_tk hts k hx) (List.all_eq_true.mp hl.2 _ (List.getElem_mem hi)) r hr
    | _ => cases h
theorem chan_rng {m : Int} : ∀ {cs : List PyData}, cs.all (chanD m) = true → ∀ c ∈ cs.map pairD, 0 ≤ c.1 ∧ c.1 < m
  | [], _, c, hc => by cases hc
  | d :: cs, h, c, hc => by
    rw [List.all_cons] at h
    have h := and3 h
    rw [List.map_cons] at hc
    rcases List.mem_cons.mp hc with rfl | hc
    · have h1 := h.1
      unfold chanD at h1
      split at h1
      · obtain ⟨i, rfl, i0, i1⟩ := within_int (and3 (and3 h1).1).1
        obtain ⟨j, rfl, _⟩ := within_int (and3 (and3 h1).1).2
        show 0 ≤ i ∧ i < m
        omega
      · cases h1
    · exact chan_rng h.2 c hc
theorem asc_go {m : Int} : ∀ {ns : List Int} {lo : Int}, ns.Pairwise (· < ·) → (∀ b ∈ ns, lo ≤ b ∧ b < m) → lo ≤ m → (ns.length : Int) ≤ m - lo
  | [], lo, _, _, h => by show ((0 : Nat) : Int) ≤ _; omega
  | n :: r, lo, p, h, _ => by
    have p := List.pairwise_cons.mp p
    have hn := h n List.mem_cons_self
    have := asc_go (lo := n + 1) p.2 (fun b hb => ⟨by have := p.1 b hb; omega, (h b (List.mem_cons_of_mem _ hb)).2⟩) (by omega)
    rw [List.length_cons]
    omega
theorem asc_short {n : Nat} {ns : List Int} (p : ns.Pairwise (· < ·)) (h : ∀ b ∈ ns, 0 ≤ b ∧ b < (n : Int)) : ns.length ≤ n := by
  have := asc_go (m := (n : Int)) (lo := 0) p h (by omega)
  omega
/-- who waits for whom -/
structure WaitC (cs as : List PyData) (rows : List (List Int)) : Prop where
  len : rows.length = as.length
  srt : ∀ ns ∈ rows, ns.Pairwise (· < ·)
  mem : ∀ (i : Nat) d ns, as[i]? = some d → rows[i]? = some ns → ∀ k : Int, k ∈ ns ↔ k ∈ sendM (cs.map pairD) (flN 4 d 0 (-1))
theorem sendM_rng {chs : List (Int × Int)} {rs : List (PyData × List Int)} {m : Int} (hc : ∀ c ∈ chs, 0 ≤ c.1 ∧ c.1 < m) (ht : ∀ r ∈ rs, TkRow chs.length r) {k : Int} (h : k ∈ sendM chs rs) : 0 ≤ k ∧ k < m := by
  obtain ⟨r, hr, hk⟩ := List.mem_flatMap.mp h
  obtain ⟨z, ds, er, hz⟩ := ht r hr
  by_cases c : z = "take"
  · obtain ⟨g, j, rfl, j0, j1⟩ := hz c
    have et : tkOf chs r = [(chs.getD j.toNat (0, 0)).1] := by
      unfold tkOf
      rw [er]
      exact if_pos c
    rw [et] at hk
    rw [List.mem_singleton.mp hk, List.getD_eq_getElem?_getD, List.getElem?_eq_getElem (show j.toNat < chs.length by omega)]
    exact hc _ (List.getElem_mem _)
  · rw [tkOf_no er c] at hk
    cases hk
theorem WaitC.ok {cs as : List PyData} {rows : List (List Int)} (hn : netB cs as = true) (W : WaitC cs as rows) : RwOk rows ∧ (∀ ns ∈ rows, ns.Pairwise (· < ·)) ∧ chartD (chD rows) = true := by
  have G := netB_G hn
  have all := (and3 (and3 (show ((decide (cs.length ≤ 6) && (decide (1 ≤ as.length) && decide (as.length ≤ 4))) && (cs.all (chanD as.length) && actsB (cs.map pairD) 0 as)) = true from hn)).2).1
  have rng : ∀ ns ∈ rows, ∀ b ∈ ns, 0 ≤ b ∧ b < (rows.length : Int) := by
    intro ns hns b hb
    obtain ⟨i, hi⟩ := List.getElem?_of_mem hns
    have il := (List.getElem?_eq_some_iff.mp hi).1
    have hd : as[i]? = some (as[i]'(by rw [← W.len]; exact il)) := List.getElem?_eq_getElem _
    obtain ⟨h1, h2⟩ := G.act i _ hd
    have := sendM_rng (chan_rng all) (flN_tk (fun m hm => by have := mem_side.mp hm; omega) 4 h1) ((W.mem i _ ns hd hi b).mp hb)
    rw [W.len]
    exact this
  have l4 := G.l4
  have wl := W.len
  have rw_ : RwOk rows := ⟨by omega, fun ns hns => ⟨asc_short (W.srt ns hns) (rng ns hns), rng ns hns⟩⟩
  exact ⟨rw_, W.srt, chart_of rw_ W.srt⟩
section
open PySem.Spec PyProof.Rows LamX
variable {P : Program} {w : World} {K : PySem.W.Frag} {mg : Str → Option Value} {base : Heap} {f : Addr} {fd : FuncData}
def spSenders (K : PySem.W.Frag) : Sp := fun vs H Q _ => ∃ (x y : V) (chs : List (Int × Int)) (rs : List (PyData × List Int)), vs = [x, y] ∧ Dp K H x (.tuple (chs.map mkCh)) ∧ Dp K H y (rowsD rs) ∧ rs.length ≤ 40 ∧ (∀ r ∈ rs, TkRow chs.length r) ∧
  ∀ (p : Addr) (ns : List Int) (H' : Hp), Same H H' → SqT K H' p (ns.map V.int) → ns.Pairwise (· < ·) → (∀ k : Int, k ∈ ns ↔ k ∈ sendM chs rs) → Q (.ref p) H'
theorem scSenders : FnScope ["channels", "rows", "deed", "nexts"] ["channels", "rows"] (defScope sSendersTo) := ⟨rfl, rfl, rfl, by decide +kernel, rfl, by decide +kernel, by decide +kernel⟩
theorem ok_senders {k : Nat} (F : Fun K "senders_to" "senders_to" sSendersTo f fd) (T : Free mg) (hSo : mg "sorted" = none) : FnOk P w K mg base CX0 (k + 1) f fd ["channels", "rows"] (spSenders K) := by
  refine F.ok scSenders (fun vs H Q E h => ?_) (fun cdv A outer s H vs Q E hr h => ?_)
  · obtain ⟨x, y, chs, rs, rfl, _⟩ := h
    rfl
  obtain ⟨x, y, chs, rs, rfl, hx, hy, l40, tk, q⟩ := h
  refine ⟨_, pss_one (ps_ret (pe_callTy call_tuple_of rfl T.tuple (by decide +kernel) (pa_cons (pe_callB (cr_sortedSet rfl) rfl hSo (by decide +kernel) (pa_cons
    (pe_scI (mine := [("deed", 2), ("nexts", 3)]) (g := gTup K 2 (gCons (gName 2) (gCons (gName 3) gNil))) (tt := tTest (tOp rEq (tOp (rIxT K) (tVar 2) (tC (.int 0))) (tC (.str "take")))) (te := tOp (rIxT K) (tOp (rIxT K) (tVar 0) (tOp (rIxT K) (tVar 2) (tC (.int 2)))) (tC (.int 0))) rfl scSenders.nd (pi_tup (pv 1))
      (blkOk_by (own := [("deed", 2), ("nexts", 3)]) (N := ["channels", "rows", "deed", "nexts"]) (sc := defScope sSendersTo) (by decide +kernel))
      (fun _ _ _ _ _ => pg_tup rfl (pgs_cons (pg_name (i := 2) scSenders.nd rfl (Or.inl rfl)) (pgs_cons (pg_name (i := 3) scSenders.nd rfl (Or.inl rfl)) pgs_nil)))
      (fun _ _ _ _ _ => pts_one (pt_cmpR op_eq (pe_ix ix_tup (pv 2) pe_int (fun _ _ => rfl)) pe_str (nomark _)))
      (fun _ _ _ _ _ => pe_ix ix_tup (pe_ix ix_tup (pv 0) (pe_ix ix_tup (pv 2) pe_int (fun _ _ => rfl)) (fun _ _ => rfl)) pe_int (fun _ _ => rfl))) pa_nil)) pa_nil))), ?_⟩
  cases hx with
  | @tup ca cvs _ cat ceach =>
  cases hy with
  | @tup ya xs _ yat yeach =>
  have lx := dpAll_len yeach
  rw [List.length_map] at lx
  refine ⟨_, rfl, ya, rfl, ⟨xs, yat⟩, fun D hD => ?_⟩
  refine sci_tup (xs := xs) (fun i G => Same H G ∧ ∃ (S : Int → Bool) (n : Nat), G D = some (SetO w D S n) ∧ n ≤ i ∧ ∀ k : Int, S k = true ↔ k ∈ sendM chs (rs.take i)) ⟨same_new hD _, _, 0, upd_same, Nat.le_refl _, fun k => ⟨fun h => (by cases h), fun h => (by cases h)⟩⟩ (fun i G _ h => sqT_same h.1 yat) (fun i v G hv h => ?_) (fun G h => ?_)
  · obtain ⟨sG, S, n, gD, ni, mem⟩ := h
    obtain ⟨e, he, hev⟩ := dpAll_get' (dps_same sG yeach) hv
    rw [List.getElem?_map] at he
    obtain ⟨r, hr', rfl⟩ := Option.map_eq_some_iff.mp he
    have il := (List.getElem?_eq_some_iff.mp hr').1
    obtain ⟨z, ds, er, ht⟩ := tk r (List.mem_of_getElem? hr')
    obtain ⟨ra, y1, y2, rfl, rat, g1, g2⟩ := row_split (d := r.1) (ns := r.2) hev
    rw [er] at g1
    cases g1 with
    | @tup da us0 _ dat deach =>
    cases deach with
    | @cons u us _ _ d1 d2 =>
    cases d1
    refine ⟨ra, _, rfl, rat, rfl, _, _, rfl, _, _, rfl, rfl, rfl, ?_⟩
    refine ⟨_, rfl, da, _, 0, _, rfl, rfl, dat, atI_at (by decide) rfl, rfl, _, rfl, ?_⟩
    unfold scPut
    by_cases c : z = "take"
    · obtain ⟨gn, m, rfl, m0, m1⟩ := ht c
      refine ifT (by rw [c]; exact decide_eq_true rfl) ?_
      cases d2 with
      | @cons v1 _ _ _ k1 k2 =>
      cases k2 with
      | @cons v2 _ _ _ k3 k4 =>
      cases k3
      cases k4
      obtain ⟨cc, hc⟩ : ∃ cc, chs[m.toNat]? = some cc := ⟨_, List.getElem?_eq_getElem (by omega)⟩
      obtain ⟨cv, hcv, hcd⟩ := dpAll_get (dps_same sG ceach) (show (chs.map mkCh)[m.toNat]? = some (mkCh cc) by rw [List.getElem?_map, hc]; rfl)
      have hcd : Dp K G cv (.tuple [.int cc.1, .int cc.2]) := hcd
      cases hcd with
      | @tup pa ps _ pat peach =>
      cases peach with
      | @cons w1 _ _ _ j1 j2 =>
      cases j1
      refine ⟨_, rfl, _, rfl, da, _, 2, .int m, rfl, rfl, dat, atI_at (by decide) rfl, ca, _, m, .ref pa, rfl, rfl, sqT_same sG cat, atI_at m0 hcv, pa, _, 0, .int cc.1, rfl, rfl, pat, atI_at (by decide) rfl, cc.1, S, n, rfl, gD, Nat.lt_of_lt_of_le (show n + 1 < 1000 by omega) (by decide), same_upd2 sG hD, _, _, upd_same, by split <;> omega, fun k => ?_⟩
      have et : tkOf chs r = [cc.1] := by
        unfold tkOf
        rw [er]
        show (if z = "take" then [(chs.getD m.toNat (0, 0)).1] else []) = _
        rw [if_pos c, List.getD_eq_getElem?_getD, hc]
        rfl
      rw [sendM_snoc hr', et, List.mem_append, List.mem_singleton, ← mem k, Bool.or_eq_true, decide_eq_true_eq]
    · refine ifF (by rw [decV]; exact decide_eq_false c) ?_
      refine ⟨sG, S, n, gD, by omega, fun k => ?_⟩
      rw [sendM_snoc hr', tkOf_no er c, List.append_nil]
      exact mem k
  · obtain ⟨sG, S, n, gD, ni, mem⟩ := h
    rw [lx, List.take_length] at mem
    refine ⟨D, S, n, rfl, gD, by omega, fun ns p srt hm _ fp => ?_⟩
    have s1 := same_new fp (.lst (ns.map V.int))
    refine ⟨p, _, rfl, .inl ⟨SqL.of upd_same, fun p2 fp2 => ?_⟩⟩
    exact q p2 ns _ (sG.trans (s1.trans (same_new fp2 _))) (SqT.of upd_same) srt fun k => (hm k).trans (mem k)
def spWaiting (K : PySem.W.Frag) (PT : List Addr) : Sp := fun vs H Q _ => ∃ (x : V) (cs as : List PyData), vs = [x] ∧ Dp K H x (.tuple [.tuple cs, .tuple as]) ∧ netB cs as = true ∧ TabsG PT H ∧ ∀ v rows H', ExtN H H' → TabsG PT H' → Dp K H' v (chD rows) → WaitC cs as rows → Q v H'
theorem scWaiting : FnScope ["net", "code", "rows"] ["net"] (defScope sWaiting) := ⟨rfl, rfl, rfl, by decide +kernel, rfl, by decide +kernel, by decide +kernel⟩
theorem ok_waiting {k : Nat} {c Pc : Addr} {PT : List Addr} (F : Fun K "waiting_chart" "waiting_chart" sWaiting f fd) (hc : fd.code = .ref c) (TB : LamX.TabB base mg c Pc) (hPT : Pc ∈ PT) (T : Free mg) (cF : Cal P w K mg base "flat" (k + 1) ["net"] (spFlat K PT)) (cS : Cal P w K mg base "senders_to" k ["channels", "rows"] (spSenders K)) : FnOk P w K mg base CX0 (k + 2) f fd ["net"] (spWaiting K PT) := by
  refine okC F hc scWaiting (fun vs H Q E h => ?_) (fun A outer s H vs Q E hr h => ?_)
  · obtain ⟨x, cs, as, rfl, _⟩ := h
    rfl
  obtain ⟨x, cs, as, rfl, hx, hn, tb, q⟩ := h
  refine ⟨_, pss_cons (ps_set (i := 1) scWaiting.nd rfl (.inl rfl) (pe_cal cF hr rfl (pa_cons (pv 0) pa_nil)))
    (pss_one (ps_ret (pe_tupG (k := k) (own := [("rows", 2)]) (wi := iTup K (tVar 1)) (g := gName 2) (tt := tYes) (te := tCall (spSenders K) [] E0 (tCons (tOp (rIxT K) (tVar 0) (tC (.int 0))) (tCons (tVar 2) tNil))) scWaiting.nd hr rfl T.tuple (by decide +kernel) TB rfl
      (blkOk_by (own := [("rows", 2)]) (N := ["net", "code", "rows"]) (sc := defScope sWaiting) (by decide +kernel)) (by decide +kernel) rfl rfl (pi_tup (pv 1))
      (fun _ _ _ _ _ _ _ _ _ _ => pg_name (i := 2) scWaiting.nd rfl (Or.inl rfl)) (fun _ _ _ _ _ _ _ _ _ _ => pts_nil)
      (fun _ _ _ _ _ _ _ _ _ hr' => pe_cal cS hr' rfl (pa_cons (pe_ix ix_tup (pv 0) pe_int (fun _ _ => rfl)) (pa_cons (pv 2) pa_nil))) (fun _ => rfl)))), ?_⟩
  have G := netB_G hn
  refine ⟨_, rfl, x, cs, as, rfl, hx, hn, tb, fun cv H1 e1 t1 d1 => ?_⟩
  have hx1 := dp_ext e1 _ _ hx
  cases hx1 with
  | @tup na nvs _ nat neach =>
  cases neach with
  | @cons chv _ _ _ c1 r1 =>
  have d1 : Dp K H1 cv (.tuple ((codeR as).map rowsD)) := d1
  cases d1 with
  | @tup aa avs _ aat aeach =>
  have la := dpAll_len aeach
  rw [List.length_map, List.length_map] at la
  refine ⟨_, rfl, aa, rfl, ⟨_, aat⟩, t1 Pc hPT, fun H2 b2 D hD => ?_⟩
  have e2 := tabbed_ext (t1 Pc hPT) b2
  have t2 := t1.tabbed b2
  have hHD : ∀ u, H2 D = some u → ∃ ps, u = .tbl ps := fun u hu => by rw [hD] at hu; cases hu
  have l4 := G.l4
  refine lc_tup (K := K) (a := aa) (xs := avs) (fun j G' => ExtN H2 G' ∧ TabsG PT G' ∧ ∃ (ws : List V) (rows : List (List Int)), G' D = some (.lst ws) ∧ ws.length = j ∧ DpAll K G' ws (rows.map fun ns => PyData.tuple (ns.map .int)) ∧ WaitC cs (as.take j) rows) ⟨ext_same (same_new hD _), t2.same (same_new hD _), [], [], upd_same, rfl, .nil, ⟨rfl, fun ns h => (by cases h), fun i d ns h => (by cases h)⟩⟩ (fun j G' _ h => sqT_ext (e2.trans h.1) aat) (fun j v G' hv h => ?_) (fun G' h => ?_)
  · obtain ⟨eG, tG, ws, rows, gD, lw, dw, W⟩ := h
    obtain ⟨d0, hd0, hdv⟩ := dpAll_get' (dp_exts (e2.trans eG) _ _ aeach) hv
    rw [List.getElem?_map, List.getElem?_map] at hd0
    obtain ⟨rs, hrs, rfl⟩ := Option.map_eq_some_iff.mp hd0
    obtain ⟨d, hd, rfl⟩ := Option.map_eq_some_iff.mp hrs
    obtain ⟨hb1, hb2⟩ := G.act j d hd
    have chv1 : Dp K G' chv (.tuple ((cs.map pairD).map mkCh)) := by
      have := dp_ext (e2.trans eG) _ _ c1
      rw [G.ch] at this
      exact this
    refine ⟨rfl, yesG ⟨_, rfl, na, _, 0, chv, rfl, rfl, sqT_ext (e2.trans eG) nat, atI_at (by decide) rfl, _, rfl, chv, v, cs.map pairD, flN 4 d 0 (-1), rfl, chv1, hdv, by rw [flN_len 4 hb1]; exact hb2, flN_tk (fun m hm => by have := mem_side.mp hm; omega) 4 hb1, fun p ns G1 s1 sq srt mem => ?_⟩⟩
    have gD1 := s1 _ _ gD
    have tp : tupOnlyAll ((rows ++ [ns]).map fun ns => PyData.tuple (ns.map .int)) = true := tup_all fun z hz => by
      obtain ⟨ms, _, rfl⟩ := List.mem_map.mp hz
      exact ints_tupOnly ms
    have lr : rows.length = j := by rw [W.len, List.length_take]; have := (List.getElem?_eq_some_iff.mp hd).1; omega
    refine ⟨ws, gD1, Nat.lt_of_lt_of_le (show _ < 1000 by have := (List.getElem?_eq_some_iff.mp hd).1; omega) (small (Nat.le_refl _)), ext_upd (eG.trans (ext_same s1)) hHD, tabsG_upd (tG.same s1) gD1, ws ++ [.ref p], rows ++ [ns], upd_same, by rw [List.length_append, lw]; rfl, ?_, ?_⟩
    · refine dpAll_kt (kt_updL gD1) _ _ tp ?_
      rw [List.map_append]
      exact dpAll_app (dps_same s1 dw) (.cons (.tup sq (dp_ints ns)) .nil)
    · refine ⟨by rw [List.length_append, lr, List.length_take]; have := (List.getElem?_eq_some_iff.mp hd).1; show j + 1 = _; omega, fun ms hm => ?_, fun i d' ms hd' hm => ?_⟩
      · rcases List.mem_append.mp hm with hm | hm
        · exact W.srt ms hm
        · rw [List.mem_singleton.mp hm]
          exact srt
      · have il : i < j + 1 := by
          have := (List.getElem?_eq_some_iff.mp hm).1
          rw [List.length_append, lr] at this
          exact this
        rw [List.getElem?_take, if_pos il] at hd'
        by_cases c : i < j
        · rw [List.getElem?_append_left (by omega)] at hm
          exact W.mem i d' ms (by rw [List.getElem?_take, if_pos c]; exact hd') hm
        · obtain rfl : i = j := by omega
          rw [List.getElem?_append_right (by omega), lr, Nat.sub_self] at hm
          cases hm
          rw [hd] at hd'
          cases hd'
          exact mem
  · obtain ⟨eG, tG, ws, rows, gD, lw, dw, W⟩ := h
    rw [la, List.take_length] at W
    exact ⟨_, gD, fun p hp => q _ rows _ (e1.trans (e2.trans (eG.trans (ext_same (same_new hp _))))) (tG.same (same_new hp _)) (.tup (SqT.of upd_same) (dps_same (same_new hp _) dw)) W⟩
def spRoundsOf (K : PySem.W.Frag) (PT : List Addr) : Sp := fun vs H Q _ => ∃ (x : V) (cs as : List PyData), vs = [x] ∧ Dp K H x (.tuple [.tuple cs, .tuple as]) ∧ netB cs as = true ∧ TabsG PT H ∧ ∀ v d rows H', ExtN H H' → TabsG PT H' → Dp K H' v d → WaitC cs as rows → RndD rows d → Q v H'
theorem scRoundsOf : FnScope ["net"] ["net"] (defScope sRoundsOf) := ⟨rfl, rfl, rfl, by decide +kernel, rfl, by decide +kernel, by decide +kernel⟩
theorem ok_roundsOf {k : Nat} {PT : List Addr} (F : Fun K "rounds_of" "rounds_of" sRoundsOf f fd) (cW : Cal P w K mg base "waiting_chart" k ["net"] (spWaiting K PT)) (cR : Cal P w K mg base "rounds" k ["chart"] (spRounds K PT)) : FnOk P w K mg base CX0 (k + 1) f fd ["net"] (spRoundsOf K PT) := by
  refine F.ok scRoundsOf (fun vs H Q E h => ?_) (fun cdv A outer s H vs Q E hr h => ?_)
  · obtain ⟨x, cs, as, rfl, _⟩ := h
    rfl
  obtain ⟨x, cs, as, rfl, hx, hn, tb, q⟩ := h
  refine ⟨_, pss_one (ps_ret (pe_cal cR hr rfl (pa_cons (pe_cal cW hr rfl (pa_cons (pv 0) pa_nil)) pa_nil))), ?_⟩
  refine ⟨_, rfl, x, cs, as, rfl, hx, hn, tb, fun v rows H1 e1 t1 d1 W => ?_⟩
  obtain ⟨h1, h2, h3⟩ := W.ok hn
  exact ⟨v, rows, rfl, ⟨d1, h1, h2, h3⟩, t1, fun u d H2 e2 t2 du rd => q u d rows H2 (e1.trans e2) t2 du W rd⟩
end
/-! _law_block -/
theorem lst_deed {ss ts : List Int} {bl : PyData → Bool} {d : PyData} (h : deedD ss ts d = true) : lstB ss ts bl d = true := by
  unfold lstB
  rw [h]
  rfl
theorem lst_branch {ss ts : List Int} {bl : PyData → Bool} {z x : Str} {args : List PyData} {m : Nat} (hz : brK z = some m) (hx : numNameD (.str x) = true) (hl : args.length = m) (ha : args.all bl = true) : lstB ss ts bl (.tuple (.str z :: .str x :: args)) = true := by
  unfold lstB
  have hb : branchD (.tuple (.str z :: .str x :: args)) = true := by
    show branchB z (.str x :: args) = true
    unfold branchB
    rw [hz]
    show (decide (args.length + 1 = m + 1) && numNameD (.str x)) = true
    rw [decide_eq_true (by omega), hx]
    rfl
  rw [hb]
  show (_ || (true && args.all bl)) = true
  rw [ha]
  exact Bool.or_true _
theorem cut12 (xs : List V) : cutV xs none (some 12) = xs.take 12 := by
  have e : HT.sIx xs.length xs.length (some 12) = min 12 xs.length := HT.sIx_nat xs.length xs.length 12
  show (xs.drop 0).take (HT.sIx xs.length xs.length (some 12) - 0) = xs.take 12
  rw [e, List.drop_zero, Nat.sub_zero]
  by_cases h : 12 ≤ xs.length
  · rw [show min 12 xs.length = 12 by omega]
  · rw [show min 12 xs.length = xs.length by omega, List.take_length, List.take_of_length_le (by omega)]
theorem dpAll_takeN {K : PySem.W.Frag} {H : Hp} : ∀ (n : Nat) {vs : List V} {ds : List PyData}, DpAll K H vs ds → DpAll K H (vs.take n) (ds.take n)
  | 0, _, _, _ => .nil
  | n + 1, _, _, .nil => .nil
  | n + 1, _, _, .cons a b => .cons a (dpAll_takeN n b)
def lnameL : List Str := ["a", "b", "count"]
theorem lnameL_ok : lnameL.all (fun z => numNameD (.str z)) = true := by decide +kernel
section
open PySem.Spec PyProof.Rows LamX
variable {P : Program} {w : World} {K : PySem.W.Frag} {mg : Str → Option Value} {base : Heap} {f : Addr} {fd : FuncData}
/-- n + 1 blocks may stand within one another from here on -/
def spBlock (K : PySem.W.Frag) (n : Nat) : Sp := fun vs H Q _ => ∃ (st sa ta : Addr) (ss ts : List Int) (dp most : Int), vs = [.ref st, .ref sa, .ref ta, .int dp, .int most] ∧ dp = 4 - (n : Int) ∧ 0 ≤ most ∧ most ≤ 8 ∧ StAt H st ∧ sa ≠ st ∧ ta ≠ st ∧ H sa = some (.lst (ss.map V.int)) ∧ H ta = some (.lst (ts.map V.int)) ∧ ss.length ≤ 100 ∧ ts.length ≤ 100 ∧ ∀ v ds H', Mv st H H' → Dp K H' v (.tuple ds) → lblk ss ts (n + 1) (.tuple ds) = true → (ds.length : Int) ≤ 3 * most → Q v H'
def spBlockS (K : PySem.W.Frag) (n : Nat) : Sp := fun vs H Q E => ∃ m, n = m + 1 ∧ spBlock K m vs H Q E
abbrev PBlock : List Str := ["_law_state_here", "_law_sends", "_law_takes_here", "_law_deep", "_law_most"]
abbrev NBlock : List Str := ["_law_state_here", "_law_sends", "_law_takes_here", "_law_deep", "_law_most", "_law_rows", "_law_turn", "_law_kind", "_law_inner", "_law_other", "_law_name"]
theorem scBlock : FnScope NBlock PBlock (defScope sBlock) := ⟨rfl, rfl, rfl, by decide +kernel, rfl, by decide +kernel, by decide +kernel⟩
/-- what stands of the rows -/
structure Bl (K : PySem.W.Frag) (ss ts : List Int) (n : Nat) (st R : Addr) (H G : Hp) (vs : List V) (ds : List PyData) : Prop where
  mv : Mv st H G
  at_ : G R = some (.lst vs)
  dp : DpAll K G vs ds
  ok : ds.all (lstB ss ts (lblk ss ts n)) = true
theorem Bl.move {ss ts : List Int} {n : Nat} {st R : Addr} {H G G' : Hp} {vs : List V} {ds : List PyData} (b : Bl K ss ts n st R H G vs ds) (nR : R ≠ st) (m : Mv st G G') : Bl K ss ts n st R H G' vs ds :=
  ⟨b.mv.trans m, m.kp _ _ nR b.at_, dpAll_kt (m.kp.kt b.mv.sa) _ _ (tup_all fun d hd => lst_tup (List.all_eq_true.mp b.ok d hd)) b.dp, b.ok⟩
theorem Bl.app {ss ts : List Int} {n : Nat} {st R : Addr} {H G : Hp} {vs : List V} {ds : List PyData} {v : V} {d : PyData} (b : Bl K ss ts n st R H G vs ds) (nR : R ≠ st) (hR : H R = none) (hv : Dp K G v d) (hd : lstB ss ts (lblk ss ts n) d = true) : Bl K ss ts n st R H (upd G R (.lst (vs ++ [v]))) (vs ++ [v]) (ds ++ [d]) := by
  have kt : KT G (upd G R (.lst (vs ++ [v]))) := KT.upd b.at_
  refine ⟨⟨fun c u hc hu => ?_, b.mv.sa.upd nR⟩, upd_same, ?_, ?_⟩
  · rw [upd_ne (fun e => by rw [e, hR] at hu; cases hu)]
    exact b.mv.kp c u hc hu
  · exact dpAll_snoc (dp_kt kt _ _ (lst_tup hd) hv) (dpAll_kt kt _ _ (tup_all fun d hd => lst_tup (List.all_eq_true.mp b.ok d hd)) b.dp)
  · rw [List.all_append, b.ok]
    show (true && (lstB ss ts (lblk ss ts n) d && true)) = true
    rw [hd]
    rfl
set_option maxHeartbeats 2000000 in
theorem ok_block {k n : Nat} (hn : n ≤ 3) (F : Fun K "_law_block" "_law_block" sBlock f fd) (T : Free mg) (cC : Cal P w K mg base "_law_choice" k ["_law_state_here", "_law_many_here"] spChoice) (cS : Cal P w K mg base "_law_simple" k ["_law_state_here", "_law_sends", "_law_takes_here"] (spSimple K)) (cB : Cal P w K mg base "_law_block" k PBlock (spBlockS K n)) :
    FnOk P w K mg base CX0 (k + 1) f fd PBlock (spBlock K n) := by
  refine F.ok scBlock (fun vs H Q E h => ?_) (fun cdv A outer s H vs Q E hr h => ?_)
  · obtain ⟨st, sa, ta, ss, ts, dp, most, rfl, _⟩ := h
    rfl
  obtain ⟨st, sa, ta, ss, ts, dp, most, rfl, hdp, m0, m6, hst, nsa, nta, hsa, hta, ls, lt, q⟩ := h
  refine ⟨_, pss_cons (ps_set (i := 5) scBlock.nd rfl (.inl rfl) (pe_lst pa_nil))
    (pss_cons (ps_for PassesOwn.never rfl (pi_range1 rfl T.range (pa_cons (pe_cal cC hr rfl (pa_cons (pv 0) (pa_cons (pe_op op_add (pv 4) pe_int) pa_nil))) pa_nil)) (pg_name (i := 6) scBlock.nd rfl (.inl rfl))
      (pss_cons (ps_set (i := 7) scBlock.nd rfl (.inl rfl) (pe_cal cC hr rfl (pa_cons (pv 0) (pa_cons pe_int pa_nil))))
      (pss_one (ps_if (PW.pt (pw_and (pt_cmpR op_lt (pv 7) pe_int (nomark _)) (pw_and1 (pt_cmpR op_lt (pv 3) pe_int (nomark _)))))
        (pss_cons (ps_set (i := 8) scBlock.nd rfl (.inl rfl) (pe_cal cB hr rfl (pa_cons (pv 0) (pa_cons (pv 1) (pa_cons (pv 2) (pa_cons (pe_op op_add (pv 3) pe_int) (pa_cons pe_int pa_nil)))))))
        (pss_cons (ps_set (i := 9) scBlock.nd rfl (.inl rfl) (pe_cal cB hr rfl (pa_cons (pv 0) (pa_cons (pv 1) (pa_cons (pv 2) (pa_cons (pe_op op_add (pv 3) pe_int) (pa_cons pe_int pa_nil)))))))
        (pss_cons (ps_set (i := 10) scBlock.nd rfl (.inl rfl) (pe_ix ix_list (pe_lst (pa_cons pe_str (pa_cons pe_str (pa_cons pe_str pa_nil)))) (pe_cal cC hr rfl (pa_cons (pv 0) (pa_cons pe_int pa_nil))) (fun _ _ => rfl)))
        (pss_one (ps_if (pt_cmpR op_eq (pv 7) pe_int (nomark _)) (pss_one (ps_expr (pe_bm PySem.F.plainAttrs_list PySem.F.slot_list_append PySem.F.type_list_append mt_append (pv 5) (pa_cons (pe_tup (pa_cons pe_str (pa_cons (pv 10) (pa_cons (pv 8) (pa_cons (pv 9) pa_nil))))) pa_nil))))
          (pss_one (ps_if (pt_cmpR op_eq (pe_cal cC hr rfl (pa_cons (pv 0) (pa_cons pe_int pa_nil))) pe_int (nomark _)) (pss_one (ps_expr (pe_bm PySem.F.plainAttrs_list PySem.F.slot_list_append PySem.F.type_list_append mt_append (pv 5) (pa_cons (pe_tup (pa_cons pe_str (pa_cons (pv 10) (pa_cons (pv 8) pa_nil)))) pa_nil))))
            (pss_cons (ps_expr (pe_bm PySem.F.plainAttrs_list PySem.F.slot_list_append PySem.F.type_list_append mt_append (pv 5) (pa_cons (pe_tup (pa_cons pe_str (pa_cons pe_str (pa_cons (pe_op op_add pe_int (pe_cal cC hr rfl (pa_cons (pv 0) (pa_cons pe_int pa_nil)))) pa_nil)))) pa_nil)))
            (pss_cons (ps_expr (pe_bm PySem.F.plainAttrs_list PySem.F.slot_list_append PySem.F.type_list_append mt_append (pv 5) (pa_cons (pe_tup (pa_cons pe_str (pa_cons pe_str (pa_cons pe_int pa_nil)))) pa_nil)))
            (pss_one (ps_expr (pe_bm PySem.F.plainAttrs_list PySem.F.slot_list_append PySem.F.type_list_append mt_append (pv 5) (pa_cons (pe_tup (pa_cons pe_str (pa_cons pe_str (pa_cons (pe_op op_catA (pv 8) (pe_tup (pa_cons (pe_tup (pa_cons pe_str (pa_cons pe_str (pa_cons pe_str (pa_cons pe_str (pa_cons pe_str pa_nil)))))) pa_nil))) pa_nil)))) pa_nil)))))))))))))
        (pss_one (ps_expr (pe_bm PySem.F.plainAttrs_list PySem.F.slot_list_append PySem.F.type_list_append mt_append (pv 5) (pa_cons (pe_cal cS hr rfl (pa_cons (pv 0) (pa_cons (pv 1) (pa_cons (pv 2) pa_nil)))) pa_nil))))))))
    (pss_one (ps_ret (pe_callTy call_tuple_of rfl T.tuple (by decide +kernel) (pa_cons (pe_slice sl_list (pv 5) po_none (po_some pe_int)) pa_nil))))), ?_⟩
  refine ⟨small (Nat.zero_le _), fun R hR => ?_⟩
  have nR : R ≠ st := hst.ne hR
  have s1 := same_new hR (.lst [])
  refine ⟨_, rfl, _, rfl, _, _, rfl, rfl, st, most + 1, rfl, hst.same s1, by omega, by omega, fun r G0 r0 r1 mv0 => ⟨r, rfl, by omega, by omega, ?_⟩⟩
  have b0 : Bl K ss ts n st R H G0 [] [] := ⟨Mv.trans ⟨Kp.of_same s1, hst.same s1⟩ mv0, mv0.kp _ _ nR upd_same, .nil, rfl⟩
  refine for_range (lo := 0) (n := r.toNat) (fun i σ G => ∃ (vs : List V) (ds : List PyData) (o6 o7 o8 o9 o10 : Option V), σ = [some (.ref st), some (.ref sa), some (.ref ta), some (.int dp), some (.int most), some (.ref R), o6, o7, o8, o9, o10] ∧ Bl K ss ts n st R H G vs ds ∧ ds.length ≤ 3 * i) ⟨[], [], _, _, _, _, _, rfl, b0, Nat.zero_le _⟩ (fun i σ G hi h => ?_) (fun σ G h => ?_)
  · obtain ⟨vs, ds, o6, o7, o8, o9, o10, rfl, b, hl⟩ := h
    have i6 : i < 9 := by omega
    have lv : ∀ {G' : Hp} {vs' : List V} {ds' : List PyData}, Bl K ss ts n st R H G' vs' ds' → ds'.length ≤ 100 → vs'.length < sizeLine := fun b' h => by
      rw [dpAll_len b'.dp]
      exact Nat.lt_of_lt_of_le (show _ < 1000 by omega) (show 1000 ≤ sizeLine by decide)
    refine ⟨_, rfl, st, 9, rfl, b.mv.sa, by decide, by decide, fun kd G1 kd0 kd1 mv1 => ?_⟩
    have b1 := b.move nR mv1
    have sa1 := b1.mv.kp _ _ nsa hsa
    have ta1 := b1.mv.kp _ _ nta hta
    refine ⟨_, rfl, _, _, rfl, rfl, _, rfl, ?_⟩
    by_cases c2 : kd < 2 ∧ dp < 4
    · refine ifT (decide_eq_true c2.1) ⟨_, rfl, _, _, rfl, rfl, _, rfl, ifT (decide_eq_true c2.2) ?_⟩
      obtain ⟨m, rfl⟩ : ∃ m, n = m + 1 := ⟨n - 1, by omega⟩
      refine ⟨_, rfl, _, rfl, _, rfl, _, rfl, _, _, rfl, rfl, m, rfl, st, sa, ta, ss, ts, dp + 1, 3, rfl, by omega, by decide, by decide, b1.mv.sa, nsa, nta, sa1, ta1, ls, lt, fun v1 e1 G2 mv2 dp1 ok1 le1 => ?_⟩
      obtain ⟨a1, rfl⟩ : ∃ a, v1 = .ref a := by cases dp1; exact ⟨_, rfl⟩
      have b2 := b1.move nR mv2
      refine ⟨_, rfl, _, rfl, _, rfl, _, rfl, _, _, rfl, rfl, m, rfl, st, sa, ta, ss, ts, dp + 1, 2, rfl, by omega, by decide, by decide, b2.mv.sa, nsa, nta, b2.mv.kp _ _ nsa hsa, b2.mv.kp _ _ nta hta, ls, lt, fun v2 e2 G3 mv3 dp2 ok2 le2 => ?_⟩
      have b3 := b2.move nR mv3
      have dp1' := dp_kt (mv3.kp.kt b2.mv.sa) _ _ (lblk_tup _ ok1) dp1
      refine ⟨small (by show 3 ≤ 1000; decide), fun pl hpl => ?_⟩
      have sl := same_new hpl (.lst (lnameL.map V.str))
      have npl : pl ≠ st := b3.mv.sa.ne hpl
      have mvl : Mv st G3 (upd G3 pl (.lst (lnameL.map V.str))) := ⟨Kp.of_same sl, b3.mv.sa.same sl⟩
      refine ⟨_, rfl, st, 3, rfl, mvl.sa, by decide, by decide, fun r4 G4 r40 r41 mv4 => ?_⟩
      have mv34 := mvl.trans mv4
      have b4 := b3.move nR mv34
      have hl4 := mv4.kp _ _ npl (show upd G3 pl (.lst (lnameL.map V.str)) pl = _ from upd_same)
      have d14 := dp_kt (mv34.kp.kt b3.mv.sa) _ _ (lblk_tup _ ok1) dp1'
      have d24 := dp_kt (mv34.kp.kt b3.mv.sa) _ _ (lblk_tup _ ok2) dp2
      obtain ⟨nm, hnm⟩ : ∃ z, lnameL[r4.toNat]? = some z := ⟨lnameL[r4.toNat]'(by show r4.toNat < 3; omega), by simp⟩
      have nn : numNameD (.str nm) = true := List.all_eq_true.mp lnameL_ok nm (List.mem_of_getElem? hnm)
      refine ⟨pl, _, r4, .str nm, rfl, rfl, .of hl4, atI_at r40 (by rw [List.getElem?_map, hnm]; rfl), ?_⟩
      refine ⟨_, rfl, rfl, _, rfl, ?_⟩
      by_cases ck : kd = 0
      · refine ifT (by rw [ck]; exact decide_eq_true rfl) ?_
        refine ⟨_, rfl, .inl ⟨rfl, _, SqL.of b4.at_⟩, _, rfl, _, rfl, _, rfl, small (by show 4 ≤ 1000; decide), fun p hp => ?_⟩
        have sp := same_new hp (.tup [.str "if", .str nm, .ref a1, v2])
        have b5 := b4.move nR ⟨Kp.of_same sp, b4.mv.sa.same sp⟩
        have dv : Dp K (upd G4 p (.tup [.str "if", .str nm, .ref a1, v2])) (.ref p) (.tuple [.str "if", .str nm, .tuple e1, .tuple e2]) := .tup (.of upd_same) (.cons (.str _) (.cons (.str _) (.cons (dp_same sp d14) (.cons (dp_same sp d24) .nil))))
        have ok5 : lstB ss ts (lblk ss ts (m + 1)) (.tuple [.str "if", .str nm, .tuple e1, .tuple e2]) = true := lst_branch (m := 2) (by decide +kernel) nn rfl (by show (lblk ss ts (m + 1) _ && (lblk ss ts (m + 1) _ && true)) = true; rw [ok1, ok2]; rfl)
        refine ⟨R, _, _, rfl, rfl, b5.at_, lv b5 (by omega), vs ++ [.ref p], ds ++ [_], _, _, _, _, _, rfl, b5.app nR hR dv ok5, ?_⟩
        rw [List.length_append, List.length_singleton]
        omega
      · refine ifF (decide_eq_false (fun z => ck (by injection z))) ?_
        refine ⟨_, rfl, st, 5, rfl, b4.mv.sa, by decide, by decide, fun r5 G5 r50 r51 mv5 => ⟨rfl, _, rfl, ?_⟩⟩
        have b5 := b4.move nR mv5
        have d15 := dp_kt (mv5.kp.kt b4.mv.sa) _ _ (lblk_tup _ ok1) d14
        by_cases c5 : r5 = 0
        · refine ifT (by rw [c5]; exact decide_eq_true rfl) ?_
          refine ⟨_, rfl, .inl ⟨rfl, _, SqL.of b5.at_⟩, _, rfl, _, rfl, small (by show 3 ≤ 1000; decide), fun p hp => ?_⟩
          have sp := same_new hp (.tup [.str "while", .str nm, .ref a1])
          have b6 := b5.move nR ⟨Kp.of_same sp, b5.mv.sa.same sp⟩
          have dv : Dp K (upd G5 p (.tup [.str "while", .str nm, .ref a1])) (.ref p) (.tuple [.str "while", .str nm, .tuple e1]) := .tup (.of upd_same) (.cons (.str _) (.cons (.str _) (.cons (dp_same sp d15) .nil)))
          have ok6 : lstB ss ts (lblk ss ts (m + 1)) (.tuple [.str "while", .str nm, .tuple e1]) = true := lst_branch (m := 1) (by decide +kernel) nn rfl (by show (lblk ss ts (m + 1) _ && true) = true; rw [ok1]; rfl)
          refine ⟨R, _, _, rfl, rfl, b6.at_, lv b6 (by omega), vs ++ [.ref p], ds ++ [_], _, _, _, _, _, rfl, b6.app nR hR dv ok6, ?_⟩
          rw [List.length_append, List.length_singleton]
          omega
        · refine ifF (decide_eq_false (fun z => c5 (by injection z))) ?_
          refine ⟨_, rfl, .inl ⟨rfl, _, SqL.of b5.at_⟩, _, rfl, st, 3, rfl, b5.mv.sa, by decide, by decide, fun r6 G6 r60 r61 mv6 => ⟨_, _, rfl, rfl, small (by show 3 ≤ 1000; decide), fun p hp => ?_⟩⟩
          have b6 := b5.move nR mv6
          have d16 := dp_kt (mv6.kp.kt b5.mv.sa) _ _ (lblk_tup _ ok1) d15
          have sp := same_new hp (.tup [.str "num", .str "left", .int (1 + r6)])
          have mvp : Mv st G6 (upd G6 p (.tup [.str "num", .str "left", .int (1 + r6)])) := ⟨Kp.of_same sp, b6.mv.sa.same sp⟩
          have b7 := b6.move nR mvp
          have ok7 : deedD ss ts (.tuple [.str "num", .str "left", .int (1 + r6)]) = true := deed_mk (ks := [.name, .number]) (by decide +kernel) rfl (andT (show numNameD (.str "left") = true by decide +kernel) (andT (by show (decide ((-9999 : Int) ≤ 1 + r6) && decide (1 + r6 ≤ 9999)) = true; rw [decide_eq_true (by omega), decide_eq_true (by omega)]; rfl) rfl)) (unl_not (by decide +kernel))
          have b8 := b7.app nR hR (d := .tuple [.str "num", .str "left", .int (1 + r6)]) (v := .ref p) (.tup (.of upd_same) (.cons (.str _) (.cons (.str _) (.cons (.int _) .nil)))) (lst_deed ok7)
          refine ⟨R, _, _, rfl, rfl, b7.at_, lv b7 (by omega), ?_⟩
          have l8 : (ds ++ [PyData.tuple [.str "num", .str "left", .int (1 + r6)]]).length = ds.length + 1 := by rw [List.length_append]; rfl
          refine ⟨_, rfl, .inl ⟨rfl, _, SqL.of b8.at_⟩, small (by show 3 ≤ 1000; decide), fun p2 hp2 => ?_⟩
          have sp2 := same_new hp2 (.tup [.str "num", .str "one", .int 1])
          have b9 := b8.move nR ⟨Kp.of_same sp2, b8.mv.sa.same sp2⟩
          have ok9 : deedD ss ts (.tuple [.str "num", .str "one", .int 1]) = true := deed_mk (ks := [.name, .number]) (by decide +kernel) rfl (andT (show numNameD (.str "one") = true by decide +kernel) (andT (show withinD (-9999) 9999 (.int 1) = true by decide +kernel) rfl)) (unl_not (by decide +kernel))
          have b10 := b9.app nR hR (d := .tuple [.str "num", .str "one", .int 1]) (v := .ref p2) (.tup (.of upd_same) (.cons (.str _) (.cons (.str _) (.cons (.int _) .nil)))) (lst_deed ok9)
          refine ⟨R, _, _, rfl, rfl, b9.at_, lv b9 (by omega), ?_⟩
          have l10 : (ds ++ [PyData.tuple [.str "num", .str "left", .int (1 + r6)]] ++ [PyData.tuple [.str "num", .str "one", .int 1]]).length = ds.length + 2 := by rw [List.length_append, List.length_append]; rfl
          have dfin := dp_kt (((KT.of_same sp).trans (KT.upd b7.at_)).trans ((KT.of_same sp2).trans (KT.upd (l' := vs ++ [.ref p] ++ [.ref p2]) b9.at_))) _ _ (lblk_tup _ ok1) d16
          cases dfin with
          | @tup _ xs1 _ at1 each1 =>
            refine ⟨_, rfl, .inl ⟨rfl, _, SqL.of b10.at_⟩, _, rfl, small (by show 5 ≤ 1000; decide), fun p3 hp3 => ⟨small (by show 1 ≤ 1000; decide), fun p4 hp4 => ?_⟩⟩
            have sp3 := same_new hp3 (.tup [.str "sum", .str "left", .str "left", .str "-", .str "one"])
            have sp4 := same_new hp4 (.tup [.ref p3])
            have s34 := sp3.trans sp4
            refine catA_run (sqT_same s34 at1) (.of upd_same) (by rw [dpAll_len each1]; show _ + 1 ≤ 1000; omega) fun rr G11 s5 hrr => ⟨small (by show 3 ≤ 1000; decide), fun p6 hp6 => ?_⟩
            have sp6 := same_new hp6 (.tup [.str "while", .str "left", .ref rr])
            have s36 := s34.trans (s5.trans sp6)
            have b11 := b10.move nR ⟨Kp.of_same s36, b10.mv.sa.same s36⟩
            have okS : deedD ss ts (.tuple [.str "sum", .str "left", .str "left", .str "-", .str "one"]) = true := deed_mk (ks := [.name, .name, .sign, .name]) (by decide +kernel) rfl (andT (show numNameD (.str "left") = true by decide +kernel) (andT (show numNameD (.str "left") = true by decide +kernel) (andT (show (signs.any fun z => isStrD z (.str "-")) = true by decide +kernel) (andT (show numNameD (.str "one") = true by decide +kernel) rfl)))) (unl_not (by decide +kernel))
            have dS := dp_same (sp4.trans (s5.trans sp6)) (show Dp K _ (.ref p3) (.tuple [.str "sum", .str "left", .str "left", .str "-", .str "one"]) from .tup (.of upd_same) (.cons (.str _) (.cons (.str _) (.cons (.str _) (.cons (.str _) (.cons (.str _) .nil))))))
            have ok1' := and3 (show (decide (e1.length ≤ 12) && e1.all (lstB ss ts (lblk ss ts m))) = true from ok1)
            have okW : lblk ss ts (m + 1) (.tuple (e1 ++ [.tuple [.str "sum", .str "left", .str "left", .str "-", .str "one"]])) = true := by
              show (decide ((e1 ++ [_]).length ≤ 12) && (e1 ++ [_]).all (lstB ss ts (lblk ss ts m))) = true
              rw [List.length_append, List.length_singleton, decide_eq_true (by omega), List.all_append, ok1'.2]
              show (true && (true && (lstB ss ts (lblk ss ts m) _ && true))) = true
              rw [lst_deed okS]
              rfl
            have dW : Dp K (upd G11 p6 (.tup [.str "while", .str "left", .ref rr])) (.ref p6) (.tuple [.str "while", .str "left", .tuple (e1 ++ [.tuple [.str "sum", .str "left", .str "left", .str "-", .str "one"]])]) :=
              .tup (.of upd_same) (.cons (.str _) (.cons (.str _) (.cons (.tup (sqT_same sp6 hrr) (dpAll_snoc dS (dps_same s36 each1))) .nil)))
            have ok12 : lstB ss ts (lblk ss ts (m + 1)) (.tuple [.str "while", .str "left", .tuple (e1 ++ [.tuple [.str "sum", .str "left", .str "left", .str "-", .str "one"]])]) = true := lst_branch (m := 1) (by decide +kernel) (by decide +kernel) rfl (by show (lblk ss ts (m + 1) _ && true) = true; rw [okW]; rfl)
            refine ⟨R, _, _, rfl, rfl, b11.at_, lv b11 (by omega), _, _, _, _, _, _, _, rfl, b11.app nR hR dW ok12, ?_⟩
            rw [List.length_append, List.length_singleton]
            omega
    · by_cases c1 : kd < 2
      · exact ifT (decide_eq_true c1) ⟨_, rfl, _, _, rfl, rfl, _, rfl, ifF (decide_eq_false (fun z => c2 ⟨c1, z⟩)) ⟨_, rfl, .inl ⟨rfl, _, SqL.of b1.at_⟩, _, rfl, _, rfl, _, rfl, st, sa, ta, ss, ts, rfl, b1.mv.sa, nsa, nta, sa1, ta1, ls, lt, fun v d G2 mv2 dpv okd => ⟨R, _, _, rfl, rfl, (b1.move nR mv2).at_, lv (b1.move nR mv2) (by omega), _, _, _, _, _, _, _, rfl, (b1.move nR mv2).app nR hR dpv (lst_deed okd), by rw [List.length_append, List.length_singleton]; omega⟩⟩⟩
      · exact ifF (decide_eq_false c1) (ifF rfl ⟨_, rfl, .inl ⟨rfl, _, SqL.of b1.at_⟩, _, rfl, _, rfl, _, rfl, st, sa, ta, ss, ts, rfl, b1.mv.sa, nsa, nta, sa1, ta1, ls, lt, fun v d G2 mv2 dpv okd => ⟨R, _, _, rfl, rfl, (b1.move nR mv2).at_, lv (b1.move nR mv2) (by omega), _, _, _, _, _, _, _, rfl, (b1.move nR mv2).app nR hR dpv (lst_deed okd), by rw [List.length_append, List.length_singleton]; omega⟩⟩)
  · obtain ⟨vs, ds, o6, o7, o8, o9, o10, rfl, b, hl⟩ := h
    refine ⟨_, rfl, _, rfl, R, vs, rfl, .of b.at_, fun p hp => ?_⟩
    rw [cut12]
    have sp := same_new hp (.lst (vs.take 12))
    refine ⟨p, vs.take 12, rfl, .inl ⟨.of upd_same, fun p2 hp2 => ?_⟩⟩
    have sp2 := same_new hp2 (.tup (vs.take 12))
    have s12 := sp.trans sp2
    refine q _ (ds.take 12) _ ⟨b.mv.kp.trans (Kp.of_same s12), b.mv.sa.same s12⟩ (.tup (.of upd_same) (dpAll_takeN 12 (dps_same s12 b.dp))) ?_ ?_
    · show (decide ((ds.take 12).length ≤ 12) && (ds.take 12).all (lstB ss ts (lblk ss ts n))) = true
      rw [decide_eq_true (by rw [List.length_take]; omega), Bool.true_and, List.all_eq_true]
      exact fun d hd => List.all_eq_true.mp b.ok d (List.mem_of_mem_take hd)
    · rw [List.length_take]
      omega
theorem no_block {k : Nat} : FnOk P w K mg base CX0 k f fd PBlock (spBlockS K 0) := ⟨(fun vs H Q E h => by obtain ⟨m, e, _⟩ := h; cases e), (fun A outer s H args us vs Q E hr he hb hv h => by obtain ⟨m, e, _⟩ := h; cases e)⟩
theorem all_block {k : Nat} (F : Fun K "_law_block" "_law_block" sBlock f fd) (hm : mg "_law_block" = some (.ref f)) (hb : Binds K fd PBlock []) (T : Free mg) (cC : Cal P w K mg base "_law_choice" k ["_law_state_here", "_law_many_here"] spChoice) (cS : Cal P w K mg base "_law_simple" k ["_law_state_here", "_law_sends", "_law_takes_here"] (spSimple K)) :
    ∀ n, n ≤ 3 → FnOk P w K mg base CX0 (k + n + 1) f fd PBlock (spBlock K n)
  | 0, _ => ok_block (by omega) F T cC cS ⟨f, fd, no_block, hm, F.kp, hb⟩
  | n + 1, hn => by
    have ih := all_block F hm hb T cC cS n (by omega)
    exact ok_block (k := k + (n + 1)) hn F T (cC.mono (by omega)) (cS.mono (by omega)) ⟨f, fd, ih.imp (fun vs H Q E z => by obtain ⟨m, e, z⟩ := z; cases e; exact z), hm, F.kp, hb⟩
end
/-! _law_ends, _law_net -/
def sdOf (b : Bool) : Int × Int → Int := if b = true then Prod.snd else Prod.fst
theorem chs_app (chs : List (Int × Int)) (c : Int × Int) : (chs ++ [c]).map mkCh = chs.map mkCh ++ [mkCh c] := by rw [List.map_append]; rfl
theorem chs_tup (chs : List (Int × Int)) : tupOnlyAll (chs.map mkCh) = true := tup_all fun d hd => by
  obtain ⟨c, _, rfl⟩ := List.mem_map.mp hd
  rfl
theorem pairs_of (chs : List (Int × Int)) : (chs.map mkCh).map pairD = chs := by
  rw [List.map_map]
  conv => rhs; rw [← List.map_id chs]
  rfl
theorem chan_ok {m : Int} {c : Int × Int} (h : 0 ≤ c.1 ∧ c.1 < m ∧ 0 ≤ c.2 ∧ c.2 < m ∧ c.1 ≠ c.2) : chanD m (mkCh c) = true := by
  show ((withinD 0 (m - 1) (.int c.1) && withinD 0 (m - 1) (.int c.2)) && intNe (.int c.1) (.int c.2)) = true
  show (((decide ((0 : Int) ≤ c.1) && decide (c.1 ≤ m - 1)) && (decide ((0 : Int) ≤ c.2) && decide (c.2 ≤ m - 1))) && !decide (c.1 = c.2)) = true
  rw [decide_eq_true h.1, decide_eq_true (show c.1 ≤ m - 1 by omega), decide_eq_true h.2.2.1, decide_eq_true (show c.2 ≤ m - 1 by omega), decide_eq_false h.2.2.2.2]
  rfl
theorem cutLast (xs : List V) : cutV xs none (some (-1)) = xs.take (xs.length - 1) := by
  show (xs.drop 0).take (HT.sIx xs.length xs.length (some (-1)) - 0) = _
  rw [List.drop_zero, Nat.sub_zero]
  have e : HT.sIx xs.length xs.length (some (-1)) = ((-1 : Int) + (xs.length : Int)).toNat := by
    unfold HT.sIx
    exact if_pos (by decide)
  rw [e]
  congr 1
  omega
theorem sumM_take {m : PyData → Nat} : ∀ (l : List PyData) (n : Nat), sumM m (l.take n) ≤ sumM m l
  | [], n => by cases n <;> exact Nat.le_refl _
  | d :: l, 0 => Nat.zero_le _
  | d :: l, n + 1 => by
    have := sumM_take (m := m) l n
    show m d + sumM m (l.take n) ≤ m d + sumM m l
    omega
section
open PySem.Spec PyProof.Rows LamX
variable {P : Program} {w : World} {K : PySem.W.Frag} {mg : Str → Option Value} {base : Heap} {f : Addr} {fd : FuncData}
def spEnds (K : PySem.W.Frag) : Sp := fun vs H Q _ => ∃ (L : Addr) (cvs : List V) (chs : List (Int × Int)) (me : Int) (b : Bool), vs = [.ref L, .int me, .int (if b = true then 1 else 0)] ∧ H L = some (.lst cvs) ∧ DpAll K H cvs (chs.map mkCh) ∧ chs.length ≤ 100 ∧ ∀ D H', Same H H' → H D = none → H' D = some (.lst ((sideL (sdOf b) chs me).map V.int)) → Q (.ref D) H'
abbrev NEnds : List Str := ["_law_channels", "_law_actor", "_law_side", "_law_number", "_law_ends_here"]
theorem scEnds : FnScope NEnds ["_law_channels", "_law_actor", "_law_side"] (defScope sEnds) := ⟨rfl, rfl, rfl, by decide +kernel, rfl, by decide +kernel, by decide +kernel⟩
theorem ok_ends {k : Nat} (F : Fun K "_law_ends" "_law_ends" sEnds f fd) (hE : mg "enumerate" = none) : FnOk P w K mg base CX0 (k + 1) f fd ["_law_channels", "_law_actor", "_law_side"] (spEnds K) := by
  refine F.ok scEnds (fun vs H Q E h => ?_) (fun cdv A outer s H vs Q E hr h => ?_)
  · obtain ⟨L, cvs, chs, me, b, rfl, _⟩ := h
    rfl
  obtain ⟨L, cvs, chs, me, b, rfl, hL, hdp, hl, q⟩ := h
  refine ⟨_, pss_one (ps_ret (pe_lc (own := [("_law_number", 3), ("_law_ends_here", 4)]) (g := gTup K 2 (gCons (gName 3) (gCons (gName 4) gNil))) (tt := tTest (tOp rEq (tOp (rIxT K) (tVar 4) (tVar 2)) (tVar 1))) (te := tVar 3) rfl scEnds.nd (pi_enum rfl hE (pa_cons (pv 0) pa_nil))
      (blkOk_by (own := [("_law_number", 3), ("_law_ends_here", 4)]) (N := NEnds) (sc := defScope sEnds) (by decide +kernel))
      (fun _ _ _ _ _ => pg_tup rfl (pgs_cons (pg_name (i := 3) scEnds.nd rfl (Or.inl rfl)) (pgs_cons (pg_name (i := 4) scEnds.nd rfl (Or.inl rfl)) pgs_nil))) (fun _ _ _ _ _ => pts_one (pt_cmpR op_eq (pe_ix ix_tup (pv 4) (pv 2) (fun _ _ => rfl)) (pv 1) (nomark _))) (fun _ _ _ _ _ => pv 3))), ?_⟩
  have lx := dpAll_len hdp
  rw [List.length_map] at lx
  refine ⟨_, rfl, L, cvs, rfl, SqL.of hL, fun D hD => ?_⟩
  refine lc_it (walk_enum (xs := cvs)) (fun i G => Same H G ∧ G D = some (.lst ((sideN (sdOf b) chs me i).map V.int))) ⟨same_new hD _, by rw [upd_same]; rfl⟩ (fun i G _ h => SqL.of (h.1 _ _ hL)) (fun i v G G' hi h y => ?_) (fun G h => ?_)
  · obtain ⟨sm, hG⟩ := h
    obtain ⟨T, x, y', rfl, hT, rfl, ex, ey⟩ := y
    cases ex
    obtain ⟨c, r, hcm, rfl, hr2⟩ := chs_at (dps_same sm hdp) ey
    have nT := same_new hT (.tup [.int (i : Nat), .ref r])
    refine ⟨T, _, rfl, SqT.of upd_same, rfl, _, _, rfl, _, _, rfl, rfl, rfl, ?_⟩
    have nD : D ≠ T := ne_of_none hG hT
    have rd : ∃ xv : Int, xv = sdOf b c ∧ atI [V.int c.1, V.int c.2] (if b = true then 1 else 0) = some (.int xv) := by
      cases b
      · exact ⟨c.1, rfl, rfl⟩
      · exact ⟨c.2, rfl, rfl⟩
    obtain ⟨xv, hxv, hat⟩ := rd
    refine ⟨_, rfl, _, rfl, r, _, _, .int xv, rfl, rfl, sqT_same nT hr2, hat, _, rfl, rfl, _, rfl, ?_⟩
    by_cases hc : xv = me
    · refine ifT (by rw [hc]; exact decide_eq_true rfl) ⟨_, rfl, _, nT _ _ hG, ?_, same_upd2 (sm.trans nT) hD, ?_⟩
      · rw [List.length_map]
        have := sideN_len (sdOf b) chs me i
        exact Nat.lt_of_lt_of_le (show _ < 1000 by omega) (show 1000 ≤ sizeLine by decide)
      · rw [upd_same, sideN_yes hcm (by rw [← hxv]; exact hc), List.map_append]
        rfl
    · refine ifF (decide_eq_false (fun z => hc (by injection z))) ⟨sm.trans nT, ?_⟩
      rw [sideN_no hcm (by rw [← hxv]; exact hc)]
      exact nT _ _ hG
  · obtain ⟨sm, hG⟩ := h
    rw [lx] at hG
    exact q D G sm hD hG
def spNet (K : PySem.W.Frag) : Sp := fun vs H Q _ => ∃ (st : Addr) (M L : Int), vs = [.ref st, .int M, .int L] ∧ 1 ≤ M ∧ M ≤ 4 ∧ 0 ≤ L ∧ L ≤ 8 ∧ StAt H st ∧ ∀ v d H', Mv st H H' → Dp K H' v d → netD d = true → Q v H'
abbrev NNet : List Str := ["_law_state_here", "_law_most", "_law_long", "_law_many_here", "_law_channels", "_law_actors", "_law_turn", "_law_one", "_law_actor", "_law_block_here"]
theorem scNet : FnScope NNet ["_law_state_here", "_law_most", "_law_long"] (defScope sNet) := ⟨rfl, rfl, rfl, by decide +kernel, rfl, by decide +kernel, by decide +kernel⟩
def tNetB (K : PySem.W.Frag) : TS := fun D σ H => ∃ (M L : Int) (H0 : Hp) (st C A : Addr) (r : Int) (cvs : List V) (chs : List (Int × Int)) (o6 o7 o8 o9 : Option V), σ = [some (.ref st), some (.int M), some (.int L), some (.int (1 + r)), some (.ref C), some (.ref A), o6, o7, o8, o9] ∧ 0 ≤ L ∧ L ≤ 8 ∧ StAt H st ∧ C ≠ st ∧ A ≠ st ∧ C ≠ A ∧ H C = some (.lst cvs) ∧ H A = some (.lst []) ∧ DpAll K H cvs (chs.map mkCh) ∧ chs.length ≤ 6 ∧
  (∀ c ∈ chs, 0 ≤ c.1 ∧ c.1 < 1 + r ∧ 0 ≤ c.2 ∧ c.2 < 1 + r ∧ c.1 ≠ c.2) ∧ 0 ≤ r ∧ r < 4 ∧ Kp st H0 H ∧ H0 C = none ∧ H0 A = none ∧ ∀ v d H', Mv st H0 H' → Dp K H' v d → netD d = true → D.rt v H'
set_option maxHeartbeats 2000000 in
theorem ok_net {k : Nat} (F : Fun K "_law_net" "_law_net" sNet f fd) (T : Free mg) (cC : Cal P w K mg base "_law_choice" k ["_law_state_here", "_law_many_here"] spChoice) (cE : Cal P w K mg base "_law_ends" k ["_law_channels", "_law_actor", "_law_side"] (spEnds K)) (cB : Cal P w K mg base "_law_block" k PBlock (spBlock K 3)) (cM : Cal P w K mg base "_law_many" k ["_law_block_here"] (spMany K 4)) :
    FnOk P w K mg base CX0 (k + 1) f fd ["_law_state_here", "_law_most", "_law_long"] (spNet K) := by
  refine F.ok scNet (fun vs H Q E h => ?_) (fun cdv A outer s H vs Q E hr h => ?_)
  · obtain ⟨st, M, L, rfl, _⟩ := h
    rfl
  obtain ⟨st, M, L, rfl, M1, M4, L0, L8, hst, q⟩ := h
  refine ⟨_, pss_cons (ps_par3 (i := 3) (j := 4) (l := 5) rfl scNet.nd rfl rfl rfl (by decide) (by decide) (by decide) rfl rfl rfl (pa_cons (pe_op op_add pe_int (pe_cal cC hr rfl (pa_cons (pv 0) (pa_cons (pv 1) pa_nil)))) (pa_cons (pe_lst pa_nil) (pa_cons (pe_lst pa_nil) pa_nil))) rfl)
    (pss_cons (ps_for PassesOwn.never rfl (pi_range1 rfl T.range (pa_cons (pe_ifExp (pt_cmpR op_gt (pv 3) pe_int (nomark _)) (pe_cal cC hr rfl (pa_cons (pv 0) (pa_cons pe_int pa_nil))) pe_int) pa_nil)) (pg_name (i := 6) scNet.nd rfl (.inl rfl))
      (pss_cons (ps_set (i := 7) scNet.nd rfl (.inl rfl) (pe_cal cC hr rfl (pa_cons (pv 0) (pa_cons (pv 3) pa_nil))))
      (pss_one (ps_expr (pe_bm PySem.F.plainAttrs_list PySem.F.slot_list_append PySem.F.type_list_append mt_append (pv 4) (pa_cons (pe_tup (pa_cons (pv 7) (pa_cons (pe_op op_mod (pe_op op_add (pe_op op_add (pv 7) pe_int) (pe_cal cC hr rfl (pa_cons (pv 0) (pa_cons (pe_op op_sub (pv 3) pe_int) pa_nil)))) (pv 3)) pa_nil))) pa_nil))))))
    (pss_imp (t' := tNetB K) (pss_cons (ps_for PassesOwn.never rfl (pi_range1 rfl T.range (pa_cons (pv 3) pa_nil)) (pg_name (i := 8) scNet.nd rfl (.inl rfl))
      (pss_cons (ps_set (i := 9) scNet.nd rfl (.inl rfl) (pe_cal cB hr rfl (pa_cons (pv 0) (pa_cons (pe_cal cE hr rfl (pa_cons (pv 4) (pa_cons (pv 8) (pa_cons pe_int pa_nil)))) (pa_cons (pe_cal cE hr rfl (pa_cons (pv 4) (pa_cons (pv 8) (pa_cons pe_int pa_nil)))) (pa_cons pe_int (pa_cons (pv 2) pa_nil)))))))
      (pss_cons (ps_while PassesOwn.never (pt_cmpR op_gt (pe_cal cM hr rfl (pa_cons (pv 9) pa_nil)) pe_int (nomark _))
        (pss_one (ps_set (i := 9) scNet.nd rfl (.inl rfl) (pe_slice sl_tupA (pv 9) po_none (po_some (pe_un un_neg pe_int))))))
      (pss_one (ps_expr (pe_bm PySem.F.plainAttrs_list PySem.F.slot_list_append PySem.F.type_list_append mt_append (pv 5) (pa_cons (pv 9) pa_nil)))))))
    (pss_one (ps_ret (pe_tup (pa_cons (pe_callTy call_tuple_of rfl T.tuple (by decide +kernel) (pa_cons (pv 4) pa_nil)) (pa_cons (pe_callTy call_tuple_of rfl T.tuple (by decide +kernel) (pa_cons (pv 5) pa_nil)) pa_nil)))))) ?net)), ?_⟩
  case net =>
    intro D σ H h
    obtain ⟨M, L, H0, st, C, A, r, cvs, chs, o6, o7, o8, o9, rfl, L0, L8, hst, nC, nA, nCA, hC, hA, hdp, hl, hch, r0, r4, k0, hC0, hA0, q⟩ := h
    refine ⟨_, rfl, 1 + r, rfl, by omega, by omega, ?_⟩
    refine for_range (lo := 0) (n := (1 + r).toNat) (fun i σ G => ∃ (ws : List V) (ds : List PyData) (o8 o9 : Option V), σ = [some (.ref st), some (.int M), some (.int L), some (.int (1 + r)), some (.ref C), some (.ref A), o6, o7, o8, o9] ∧ StAt G st ∧ (∀ b u, b ≠ st → b ≠ A → H b = some u → G b = some u) ∧ G A = some (.lst ws) ∧ DpAll K G ws ds ∧ ds.length = i ∧ ∀ (j : Nat) d, ds[j]? = some d → (blkD (sideL Prod.fst chs (0 + j)) (sideL Prod.snd chs (0 + j)) 4 d).isSome = true)
      ⟨[], [], _, _, rfl, hst, fun b u _ _ hu => hu, hA, .nil, rfl, fun j d h => (by cases h)⟩ (fun i σ G hi h => ?_) (fun σ G h => ?_)
    · obtain ⟨ws, ds, o8, o9, rfl, sG, kG, hA2, dpw, ld, okd⟩ := h
      have hC2 := kG _ _ nC nCA hC
      have tupD : tupOnlyAll ds = true := tup_all fun d hd => by
        obtain ⟨j, hj⟩ := List.getElem?_of_mem hd
        have z := okd j d hj
        rw [blk_some] at z
        exact lblk_tup 4 (and3 z).1
      have kt0 : ∀ {G' : Hp}, (∀ b u, b ≠ st → b ≠ A → H b = some u → G' b = some u) → KT H G' := fun {G'} k b u hb n => k b u (fun e => by obtain ⟨l, hl⟩ := hst.some; rw [e, hl] at hb; cases hb; exact n _ rfl) (fun e => by rw [e, hA] at hb; cases hb; exact n _ rfl) hb
      have dpc : ∀ {G' : Hp}, (∀ b u, b ≠ st → b ≠ A → H b = some u → G' b = some u) → DpAll K G' cvs (chs.map mkCh) := fun {G'} k => dpAll_kt (kt0 k) _ _ (chs_tup chs) hdp
      refine ⟨_, rfl, _, rfl, _, rfl, C, cvs, chs, (0 : Int) + (i : Nat), false, rfl, hC2, dpc kG, by omega, fun D1 G1 s1 n1 h1 => ?_⟩
      refine ⟨_, rfl, _, rfl, C, cvs, chs, (0 : Int) + (i : Nat), true, rfl, s1 _ _ hC2, dps_same s1 (dpc kG), by omega, fun D2 G2 s2 n2 h2 => ?_⟩
      have s12 := s1.trans s2
      have sd1 : (sideL (sdOf false) chs ((0 : Int) + (i : Nat))).length ≤ 100 := Nat.le_trans (sideN_len _ _ _ _) (by omega)
      have sd2 : (sideL (sdOf true) chs ((0 : Int) + (i : Nat))).length ≤ 100 := Nat.le_trans (sideN_len _ _ _ _) (by omega)
      refine ⟨_, rfl, st, D1, D2, _, _, 1, L, rfl, by decide, L0, L8, sG.same s12, sG.ne n1, (sG.same s1).ne n2, s2 _ _ h1, h2, sd1, sd2, fun v e G3 mv3 dp3 ok3 le3 => ?_⟩
      -- behind the block
      have kG3 : ∀ b u, b ≠ st → G b = some u → G3 b = some u := fun b u nb hb => mv3.kp _ _ nb (s12 _ _ hb)
      refine ⟨fun m σ G4 => ∃ (v : V) (e : List PyData), m = e.length ∧ σ = [some (.ref st), some (.int M), some (.int L), some (.int (1 + r)), some (.ref C), some (.ref A), o6, o7, some (.int ((0 : Int) + (i : Nat))), some v] ∧ Same G3 G4 ∧ Dp K G4 v (.tuple e) ∧ lblk (sideL Prod.fst chs ((0 : Int) + (i : Nat))) (sideL Prod.snd chs ((0 : Int) + (i : Nat))) 4 (.tuple e) = true, ⟨_, v, e, rfl, rfl, Same.refl _, dp3, ok3⟩, fun m σ G4 w4 => ?_⟩
      obtain ⟨v, e, rfl, rfl, s34, dpv, okv⟩ := w4
      refine ⟨_, rfl, v, .tuple e, _, _, rfl, dpv, okv, fun G5 s5 => ⟨_, _, rfl, rfl, _, rfl, ?_⟩⟩
      have s35 := s34.trans s5
      by_cases h40 : 40 < manyN 4 (.tuple e)
      · refine ifT (decide_eq_true (by omega)) ⟨_, fun σ' H' h => h, ?_⟩
        have e0 : e.length ≠ 0 := fun z => by
          have : e = [] := List.length_eq_zero_iff.mp z
          subst this
          cases h40
        cases dp_same s5 dpv with
        | @tup ea evs _ eat eeach =>
          refine ⟨_, rfl, _, rfl, _, rfl, slA_run eat fun rr G6 s6 hrr => ?_⟩
          rw [cutLast, dpAll_len eeach] at hrr
          have okc := and3 (show (decide (e.length ≤ 12) && e.all (lstB (sideL Prod.fst chs ((0 : Int) + (i : Nat))) (sideL Prod.snd chs ((0 : Int) + (i : Nat))) (lblk (sideL Prod.fst chs ((0 : Int) + (i : Nat))) (sideL Prod.snd chs ((0 : Int) + (i : Nat))) 3))) = true from okv)
          refine ⟨(e.take (e.length - 1)).length, by rw [List.length_take]; omega, _, e.take (e.length - 1), rfl, rfl, s35.trans s6, .tup hrr (dpAll_takeN _ (dps_same s6 eeach)), ?_⟩
          show (decide ((e.take (e.length - 1)).length ≤ 12) && (e.take (e.length - 1)).all (lstB _ _ (lblk _ _ 3))) = true
          rw [decide_eq_true (by rw [List.length_take]; have := of_decide_eq_true okc.1; omega), Bool.true_and, List.all_eq_true]
          exact fun d hd => List.all_eq_true.mp okc.2 d (List.mem_of_mem_take hd)
      · refine ifF (decide_eq_false (by omega)) ?_
        have hA5 := s35 _ _ (kG3 _ _ nA hA2)
        have kt35 : KT G G5 := fun b u hb n => s35 _ _ (kG3 b u (fun z => by obtain ⟨l, hl⟩ := sG.some; rw [z, hl] at hb; cases hb; exact n _ rfl) hb)
        refine ⟨_, rfl, .inl ⟨rfl, _, SqL.of hA5⟩, _, rfl, A, ws, v, rfl, rfl, hA5, ?_, ?_⟩
        · rw [dpAll_len dpw, ld]
          exact Nat.lt_of_lt_of_le (show _ < 1000 by omega) (show 1000 ≤ sizeLine by decide)
        have ktA : KT G5 (upd G5 A (.lst (ws ++ [v]))) := KT.upd hA5
        have dv5 := dp_kt ktA _ _ (lblk_tup 4 okv) (dp_same s5 dpv)
        refine ⟨ws ++ [v], ds ++ [.tuple e], _, _, rfl, (mv3.sa.same s35).upd nA, fun b u nb nbA hb => ?_, upd_same, dpAll_snoc dv5 (dpAll_kt ktA _ _ tupD (dpAll_kt kt35 _ _ tupD dpw)), by rw [List.length_append, ld]; rfl, fun j d hj => ?_⟩
        · rw [upd_ne nbA]
          exact s35 _ _ (kG3 b u nb (kG b u nb nbA hb))
        · rcases Nat.lt_or_ge j ds.length with hjl | hjl
          · rw [List.getElem?_append_left hjl] at hj
            exact okd j d hj
          · rw [List.getElem?_append_right hjl] at hj
            have hj0 : j - ds.length = 0 := by
              by_cases z : j - ds.length = 0
              · exact z
              · have : ([PyData.tuple e])[j - ds.length]? = none := List.getElem?_eq_none (by show 1 ≤ _; omega)
                rw [this] at hj
                cases hj
            rw [hj0] at hj
            cases hj
            have ej : j = i := by omega
            subst ej
            rw [blk_some, okv, decide_eq_true (by omega)]
            rfl
    · obtain ⟨ws, ds, o8, o9, rfl, sG, kG, hA2, dpw, ld, okd⟩ := h
      have hC2 := kG _ _ nC nCA hC
      have tupD : tupOnlyAll ds = true := tup_all fun d hd => by
        obtain ⟨j, hj⟩ := List.getElem?_of_mem hd
        have z := okd j d hj
        rw [blk_some] at z
        exact lblk_tup 4 (and3 z).1
      have kt0 : KT H G := fun b u hb n => kG b u (fun e => by obtain ⟨l, hl⟩ := hst.some; rw [e, hl] at hb; cases hb; exact n _ rfl) (fun e => by rw [e, hA] at hb; cases hb; exact n _ rfl) hb
      have dpc := dpAll_kt kt0 _ _ (chs_tup chs) hdp
      refine ⟨_, rfl, C, cvs, rfl, .inl ⟨.of hC2, fun p hp => ?_⟩⟩
      have sp := same_new hp (.tup cvs)
      refine ⟨_, rfl, A, ws, rfl, .inl ⟨.of (sp _ _ hA2), fun p2 hp2 => ⟨small (by show 2 ≤ 1000; decide), fun p3 hp3 => ?_⟩⟩⟩
      have sp2 := same_new hp2 (.tup ws)
      have sp3 := same_new hp3 (.tup [.ref p, .ref p2])
      have s23 := sp2.trans sp3
      have s13 := sp.trans s23
      refine q _ (.tuple [.tuple (chs.map mkCh), .tuple ds]) _ ⟨fun b u nb hb => s13 _ _ (kG b u nb (fun e => by rw [e, hA0] at hb; cases hb) (k0 b u nb hb)), sG.same s13⟩ (.tup (.of upd_same) (.cons (.tup (sqT_same s23 (.of upd_same)) (dps_same s13 dpc)) (.cons (.tup (sqT_same sp3 (.of upd_same)) (dps_same s13 dpw)) .nil))) ?_
      show ((decide ((chs.map mkCh).length ≤ 6) && (decide (1 ≤ ds.length) && decide (ds.length ≤ 4))) && ((chs.map mkCh).all (chanD ds.length) && actsB ((chs.map mkCh).map pairD) 0 ds)) = true
      rw [List.length_map, decide_eq_true hl, decide_eq_true (show 1 ≤ ds.length by omega), decide_eq_true (show ds.length ≤ 4 by omega), pairs_of, acts_yes (me := 0) okd, Bool.and_true, Bool.and_true, Bool.and_true, Bool.true_and, List.all_eq_true]
      intro d hd
      obtain ⟨c, hc, rfl⟩ := List.mem_map.mp hd
      have h := hch c hc
      exact chan_ok ⟨h.1, by omega, h.2.2.1, by omega, h.2.2.2.2⟩
  refine ⟨_, rfl, _, rfl, st, M, rfl, hst, by omega, by omega, fun r G0 r0 rM mv0 => ⟨_, _, rfl, rfl, small (Nat.zero_le _), fun C hC => ⟨small (Nat.zero_le _), fun A hA => ⟨_, _, _, rfl, ?_⟩⟩⟩⟩
  have r4 : r < 4 := by omega
  have sC := same_new hC (.lst [])
  have sA := same_new hA (.lst [])
  have nC : C ≠ st := mv0.sa.ne hC
  have nA : A ≠ st := (mv0.sa.same sC).ne hA
  have nCA : C ≠ A := fun e => by rw [← e, upd_same] at hA; cases hA
  have s0 := sC.trans sA
  have mv1 : Mv st H (upd (upd G0 C (.lst [])) A (.lst [])) := mv0.trans ⟨Kp.of_same s0, mv0.sa.same s0⟩
  have hC0 : H C = none := mv0.kp.free nC hC
  have hA0 : H A = none := mv0.kp.free nA (none_of_same sC hA)
  generalize hG1 : upd (upd G0 C (.lst [])) A (.lst []) = G1
  rw [hG1] at mv1
  have hC1 : G1 C = some (.lst []) := by rw [← hG1]; exact sA _ _ upd_same
  have hA1 : G1 A = some (.lst []) := by rw [← hG1]; exact upd_same
  refine ⟨_, rfl, _, _, rfl, rfl, _, rfl, ?_⟩
  by_cases hr0 : 0 < r
  · refine ifT (decide_eq_true (by omega)) ⟨_, rfl, st, 7, rfl, mv1.sa, by decide, by decide, fun r2 G2 r20 r21 mv2 => ⟨r2, rfl, by omega, by omega, ?_⟩⟩
    refine for_range (lo := 0) (n := r2.toNat) (fun i σ G => ∃ (cvs : List V) (chs : List (Int × Int)) (o6 o7 : Option V), σ = [some (.ref st), some (.int M), some (.int L), some (.int (1 + r)), some (.ref C), some (.ref A), o6, o7, none, none] ∧ Mv st H G ∧ G C = some (.lst cvs) ∧ G A = some (.lst []) ∧ DpAll K G cvs (chs.map mkCh) ∧ chs.length = i ∧ ∀ c ∈ chs, 0 ≤ c.1 ∧ c.1 < 1 + r ∧ 0 ≤ c.2 ∧ c.2 < 1 + r ∧ c.1 ≠ c.2)
      ⟨[], [], _, _, rfl, mv1.trans mv2, mv2.kp _ _ nC hC1, mv2.kp _ _ nA hA1, .nil, rfl, fun c hc => (by cases hc)⟩ (fun i σ G hi h => ?_) (fun σ G h => ?_)
    · obtain ⟨cvs, chs, o6, o7, rfl, mvG, hCG, hAG, dpG, lG, okG⟩ := h
      refine ⟨_, rfl, _, rfl, st, 1 + r, rfl, mvG.sa, by omega, by omega, fun one G3 on0 on1 mv3 => ?_⟩
      have hC3 := mv3.kp _ _ nC hCG
      refine ⟨_, rfl, .inl ⟨rfl, _, SqL.of hC3⟩, _, rfl, _, rfl, _, _, rfl, rfl, _, rfl, _, rfl, _, _, rfl, rfl, st, 1 + r - 1, rfl, mv3.sa, by omega, by omega, fun t G4 t0 t1 mv4 => ?_⟩
      have mv34 := mv3.trans mv4
      have hC4 := mv4.kp _ _ nC hC3
      have dp4 := dpAll_kt (mv34.kp.kt mvG.sa) _ _ (chs_tup chs) dpG
      refine ⟨_, _, rfl, rfl, _, rfl, _, _, rfl, rfl, (by show 0 < 1 + r; omega), small (by show 2 ≤ 1000; decide), fun p hp => ?_⟩
      have sp := same_new hp (.tup [.int one, .int ((one + 1 + t) % (1 + r))])
      have hC5 := sp _ _ hC4
      have ktC : KT _ (upd (upd G4 p (.tup [.int one, .int ((one + 1 + t) % (1 + r))])) C (.lst (cvs ++ [.ref p]))) := KT.upd hC5
      have hm0 : 0 ≤ (one + 1 + t) % (1 + r) := Int.emod_nonneg _ (by omega)
      have hm1 : (one + 1 + t) % (1 + r) < 1 + r := Int.emod_lt_of_pos _ (by omega)
      have hne : one ≠ (one + 1 + t) % (1 + r) := by
        by_cases z : one + 1 + t < 1 + r
        · rw [Int.emod_eq_of_lt (by omega) z]
          omega
        · have e : (one + 1 + t) % (1 + r) = one + 1 + t - (1 + r) := by
            rw [← Int.sub_emod_right, Int.emod_eq_of_lt (by omega) (by omega)]
          rw [e]
          omega
      refine ⟨C, cvs, _, rfl, rfl, hC5, ?_, ?_⟩
      · rw [dpAll_len dpG, List.length_map, lG]
        exact Nat.lt_of_lt_of_le (show _ < 1000 by omega) (show 1000 ≤ sizeLine by decide)
      refine ⟨cvs ++ [.ref p], chs ++ [(one, (one + 1 + t) % (1 + r))], _, _, rfl, ⟨fun b u nb hb => ?_, ((mvG.trans mv34).sa.same sp).upd nC⟩, upd_same, ?_, ?_, by rw [List.length_append, lG]; rfl, fun c hc => ?_⟩
      · rw [upd_ne (fun e => by rw [e, hC0] at hb; cases hb)]
        exact sp _ _ ((mvG.trans mv34).kp b u nb hb)
      · rw [upd_ne nCA.symm]
        exact sp _ _ (mv34.kp _ _ nA hAG)
      · rw [chs_app]
        exact dpAll_snoc (dp_kt ktC _ _ rfl (show Dp K _ (.ref p) (mkCh (one, (one + 1 + t) % (1 + r))) from .tup (.of upd_same) (.cons (.int _) (.cons (.int _) .nil)))) (dpAll_kt ktC _ _ (chs_tup chs) (dps_same sp dp4))
      · rcases List.mem_append.mp hc with hc | hc
        · exact okG c hc
        · rw [List.mem_singleton.mp hc]
          exact ⟨on0, on1, hm0, hm1, hne⟩
    · obtain ⟨cvs, chs, o6, o7, rfl, mvG, hCG, hAG, dpG, lG, okG⟩ := h
      exact ⟨M, L, H, st, C, A, r, cvs, chs, _, _, _, _, rfl, L0, L8, mvG.sa, nC, nA, nCA, hCG, hAG, dpG, by omega, okG, r0, r4, mvG.kp, hC0, hA0, q⟩
  · refine ifF (decide_eq_false (by omega)) ⟨0, rfl, by decide, by decide, ?_⟩
    refine for_range (lo := 0) (n := (0 : Int).toNat) (fun i σ G => σ = [some (.ref st), some (.int M), some (.int L), some (.int (1 + r)), some (.ref C), some (.ref A), none, none, none, none] ∧ G = G1) ⟨rfl, rfl⟩ (fun i σ G hi h => absurd hi (Nat.not_lt_zero _)) (fun σ G h => ?_)
    obtain ⟨rfl, rfl⟩ := h
    exact ⟨M, L, H, st, C, A, r, [], [], _, _, _, _, rfl, L0, L8, mv1.sa, nC, nA, nCA, hC1, hA1, .nil, by show 0 ≤ 6; decide, fun c hc => (by cases hc), r0, r4, mv1.kp, hC0, hA0, q⟩
end
def maxI (d : Int) : List Int → Int
  | [] => d
  | n :: r => r.foldl max n
theorem call_maxD {X : Cx} (hc : X.calm = true) (hu : X.A.units + 64 < cLine) : CallRK X (.builtin "max") ["default"] (fun xs zs H Q => ∃ (a : Addr) (ns : List Int) (d : Int), xs = [.ref a] ∧ zs = [.int d] ∧ SqL X.K H a (ns.map V.int) ∧ Q (.int (maxI d ns)) H) := by
  intro pins s σ H xs zs us ws Q I r rz h
  obtain ⟨a, ns, d, rfl, rfl, hs, q⟩ := h
  obtain ⟨u, rfl, ru⟩ := vals1 r
  obtain ⟨w', rfl, rw'⟩ := vals1 rz
  cases ru
  obtain ⟨t, rfl⟩ := rw'
  obtain ⟨its, rv, pl, hz⟩ := I.list hs
  have da : ∀ ns : List Int, DpAll X.K H (ns.map V.int) (ns.map PyData.int) := fun ns => by
    induction ns with
    | nil => exact .nil
    | cons n r ih => exact .cons (.int n) ih
  obtain ⟨as, hr, _⟩ := Dp.rds I (ns.map PyData.int) _ its (da ns) rv
  have dp0 : ∀ ns : List Int, PyData.depthAll (ns.map PyData.int) = 0 := fun ns => by
    induction ns with
    | nil => simp [PyData.depthAll]
    | cons n r ih => simp [PyData.depthAll, PyData.depth, ih]
  refine PySem.W.max_list_default (vs := its.toArray) (I.ok.hd hc) pl.isList hr ⟨fun x hx y hy => ?_, fun x hx => ?_⟩ (by rw [dp0]; omega) (fun e h' tk hk => ?_) (fun y ys i v h' tk bs e hv hrd hk => ?_)
  · obtain ⟨i, _, rfl⟩ := List.mem_map.mp hx
    obtain ⟨j, _, rfl⟩ := List.mem_map.mp hy
    simp [PySem.W.alike]
  · obtain ⟨i, _, rfl⟩ := List.mem_map.mp hx
    intro z
    cases z
  · cases ns with
    | nil => exact ⟨.int d, H, I.kept hk, ⟨t, rfl⟩, q⟩
    | cons n r => cases e
  · cases ns with
    | nil => cases e
    | cons n r =>
      cases e
      rw [PySem.W.maxD_ints] at hrd
      cases hrd
      exact ⟨.int (r.foldl max n), H, I.kept hk, ⟨_, rfl⟩, q⟩
/-! sorted(xs), xs a list of data -/
section
open PySem.Spec PyProof.Rows
variable {X : Cx}
theorem each_vals : ∀ {bs : List (V × PyData)} {us : List Value}, Vals (bs.map (·.1)) us → PySem.W.EachIs (fun v (b : V × PyData) => RelV b.1 v) us bs
  | [], _, h => by
    have h : Vals [] _ := h
    cases h
    exact .nil
  | b :: bs, _, h => by
    have h : Vals (b.1 :: bs.map (·.1)) _ := h
    cases h with
    | cons r t => exact .cons r (each_vals t)
theorem vals_each : ∀ {bs : List (V × PyData)} {us : List Value}, PySem.W.EachIs (fun v (b : V × PyData) => RelV b.1 v) us bs → Vals (bs.map (·.1)) us
  | _, _, .nil => .nil
  | _, _, .cons r t => .cons r (vals_each t)
end
/-! a length and a row -/
theorem eqvT_ints : ∀ (ns ms : List Int), PyData.eqv (.tuple (ns.map .int)) (.tuple (ms.map .int)) = decide (ns = ms)
  | [], [] => by simp [PyData.eqv, PyData.eqvAll]
  | [], m :: ms => by simp [PyData.eqv, PyData.eqvAll]
  | n :: ns, [] => by simp [PyData.eqv, PyData.eqvAll]
  | n :: ns, m :: ms => by
    have ih := eqvT_ints ns ms
    simp only [PyData.eqv] at ih
    simp only [List.map_cons, PyData.eqv, PyData.eqvAll, ih, List.cons.injEq]
    by_cases h : n = m <;> simp [h]
theorem alikeT (ns ms : List Int) : PySem.W.alike (.tuple (ns.map .int)) (.tuple (ms.map .int)) = true := by
  simp only [PySem.W.alike]
  exact PySem.W.alike_ints ns ms
theorem nlt_lexP : ∀ {a b : List Int}, a.length = b.length → ¬ b < a → lexP a b
  | [], [], _, _ => trivial
  | [], _ :: _, l, _ => by cases l
  | _ :: _, [], l, _ => by cases l
  | x :: r, y :: s, l, h => by
    rw [List.cons_lt_cons_iff] at h
    rcases Int.lt_trichotomy x y with c | c | c
    · exact .inl c
    · exact .inr ⟨c, nlt_lexP (Nat.succ.inj l) fun z => h (.inr ⟨c.symm, z⟩)⟩
    · exact absurd (.inl c) h
def closesB (rows : List (List Int)) (l : List Int) : Bool := decide (l.headD 0 ∈ rowAt rows (l.getLastD 0))
theorem closes_iff {rows : List (List Int)} {l : List Int} (h : 0 < l.length) : closesB rows l = true ↔ closes rows l := by
  cases l with
  | nil => cases h
  | cons a r =>
    unfold closesB closes
    rw [decide_eq_true_eq]
    have e : (a :: r).getLast? = some ((a :: r).getLastD 0) := by
      rw [List.getLast?_eq_some_getLast (by simp), List.getLastD_cons, List.getLast_eq_getLastD]
    constructor
    · intro m
      exact ⟨a, _, rfl, e, m⟩
    · rintro ⟨a', z, e1, e2, m⟩
      cases e1
      rw [e] at e2
      cases e2
      exact m
/-! how many rows there are -/
def bndR : Nat → Nat
  | 0 => 1
  | k + 1 => bndR k * (8 - k)
theorem bndR_le (k : Nat) (h : k ≤ 9) : bndR k ≤ 40320 := by
  have : ∀ k : Fin 10, bndR k.1 ≤ 40320 := by decide
  exact this ⟨k, by omega⟩
theorem fil_len {rows : List (List Int)} (hr : RwOk rows) (n8 : rows.length ≤ 8) {k : Nat} {l row : List Int} (hl : PathN rows k l) (nd : row.Nodup) (hrow : ∀ i ∈ row, 0 ≤ i ∧ i < (rows.length : Int)) : (row.filter fun n => !decide (n ∈ l)).length ≤ 8 - k := by
  have nd2 : (row.filter (fun n => !decide (n ∈ l)) ++ l).Nodup := List.nodup_append.mpr ⟨List.Nodup.sublist List.filter_sublist nd, hl.2.1, fun a ha b hb e => by
    have := (List.mem_filter.mp ha).2
    rw [e] at this
    simp [hb] at this⟩
  have := nodup_len rows.length _ nd2 fun x hx => by
    rcases List.mem_append.mp hx with hx | hx
    · exact hrow x (List.mem_filter.mp hx).1
    · exact hl.2.2.1 x hx
  rw [List.length_append, hl.1] at this
  omega
abbrev rowL (l : List Int) : PyData := .tuple (l.map .int)
theorem dpAll_ext {K : PySem.W.Frag} {H H' : Hp} {xs : List V} {ds : List PyData} (s : Same H H') (h : DpAll K H xs ds) : DpAll K H' xs ds := dp_exts (ext_same s) _ _ h
theorem rows_at {K : PySem.W.Frag} {H : Hp} {xs : List V} {ps : List (List Int)} {i : Nat} {x : V} (h : DpAll K H xs (ps.map rowL)) (hx : xs[i]? = some x) : ∃ (l : List Int) (b : Addr), ps[i]? = some l ∧ x = .ref b ∧ SqT K H b (l.map V.int) := by
  obtain ⟨d, hd, hdx⟩ := dpAll_get' h hx
  rw [List.getElem?_map] at hd
  cases e : ps[i]? with
  | none => rw [e] at hd; cases hd
  | some l =>
    rw [e] at hd
    cases hd
    obtain ⟨b, rfl, hb⟩ := ints_at hdx
    exact ⟨l, b, rfl, rfl, hb⟩
theorem dpAll_len' {K : PySem.W.Frag} {H : Hp} {xs : List V} {ps : List (List Int)} {f : List Int → PyData} (h : DpAll K H xs (ps.map f)) : xs.length = ps.length := by
  have := dpAll_len h
  rw [List.length_map] at this
  exact this
theorem dpAll_mem {K : PySem.W.Frag} {H : Hp} : ∀ {xs : List V} {ds : List PyData}, DpAll K H xs ds → ∀ b ∈ xs.zip ds, Dp K H b.1 b.2
  | _, _, .nil, b, hb => by cases hb
  | _, _, .cons a t, b, hb => by
    rcases List.mem_cons.mp hb with rfl | hb
    · exact a
    · exact dpAll_mem t b hb
theorem tup_ints : ∀ l : List Int, tupOnlyAll (l.map PyData.int) = true
  | [] => by simp [tupOnlyAll]
  | n :: r => by simp [tupOnlyAll, tupOnly, tup_ints r]
theorem tup_rows : ∀ ps : List (List Int), tupOnlyAll (ps.map rowL) = true
  | [] => by simp [tupOnlyAll]
  | l :: r => by simp [tupOnlyAll, tupOnly, tup_rows r, tup_ints l]
section
open PySem.Spec PyProof.Rows
variable {X : Cx}
def rMinT (K : PySem.W.Frag) : List V → Hp → VK → Prop := fun vs H Q => ∃ (a : Addr) (xs : List V) (ls : List (List Int)), vs = [V.ref a] ∧ SqL K H a xs ∧ DpAll K H xs (ls.map fun l => .tuple (l.map .int)) ∧ 0 < ls.length ∧ (∀ l ∈ ls, ∀ m ∈ ls, l.length = m.length) ∧
  ∀ (i : Nat) x l, xs[i]? = some x → ls[i]? = some l → (∀ m ∈ ls, lexP l m) → Q x H
theorem listLt_yes : ∀ {a b : List Int}, a.length = b.length → PySem.W.listLt a b = true → lexP a b
  | [], [], _, _ => trivial
  | [], _ :: _, l, _ => by cases l
  | _ :: _, [], l, _ => by cases l
  | x :: r, y :: s, l, h => by
    have hl : r.length = s.length := Nat.succ.inj l
    rw [PySem.W.listLt] at h
    by_cases e : x = y
    · rw [if_pos e] at h
      exact .inr ⟨e, listLt_yes hl h⟩
    · rw [if_neg e] at h
      have h : decide (x < y) = true := h
      exact .inl (of_decide_eq_true h)
theorem listLt_lexP : ∀ {a b : List Int}, a.length = b.length → PySem.W.listLt b a = false → lexP a b
  | [], [], _, _ => trivial
  | [], _ :: _, l, _ => by cases l
  | _ :: _, [], l, _ => by cases l
  | x :: r, y :: s, l, h => by
    have hl : r.length = s.length := Nat.succ.inj l
    rw [PySem.W.listLt] at h
    by_cases e : y = x
    · rw [if_pos e] at h
      exact .inr ⟨e.symm, listLt_lexP hl h⟩
    · rw [if_neg e] at h
      have h : decide (y < x) = false := h
      have := of_decide_eq_false h
      exact .inl (by omega)
theorem min_fold : ∀ (xs : List (PySem.W.Tup Int)) (x : PySem.W.Tup Int), (∀ y ∈ xs, y.items.length = x.items.length) → (PySem.W.minOf x xs).items.length = x.items.length ∧ lexP (PySem.W.minOf x xs).items x.items ∧ ∀ y ∈ xs, lexP (PySem.W.minOf x xs).items y.items
  | [], x, _ => ⟨rfl, lexP_refl _, fun y hy => by cases hy⟩
  | y :: ys, x, h => by
    have ly := h y List.mem_cons_self
    have e : PySem.W.minOf x (y :: ys) = PySem.W.minOf (if PySem.W.DatumOrd.lt y x = true then y else x) ys := rfl
    rw [e]
    by_cases c : PySem.W.DatumOrd.lt y x = true
    · rw [if_pos c]
      obtain ⟨h1, h2, h3⟩ := min_fold ys y fun z hz => (h z (List.mem_cons_of_mem _ hz)).trans ly.symm
      refine ⟨h1.trans ly, lexP_trans h2 (listLt_yes ly c), fun z hz => ?_⟩
      rcases List.mem_cons.mp hz with rfl | hz
      · exact h2
      · exact h3 z hz
    · rw [if_neg c]
      obtain ⟨h1, h2, h3⟩ := min_fold ys x fun z hz => h z (List.mem_cons_of_mem _ hz)
      refine ⟨h1, h2, fun z hz => ?_⟩
      rcases List.mem_cons.mp hz with rfl | hz
      · exact lexP_trans h2 (listLt_lexP ly.symm (by
          cases q : PySem.W.listLt z.items x.items with
          | false => rfl
          | true => exact absurd q c))
      · exact h3 z hz
theorem intsD_inj : ∀ {a b : List Int}, a.map PyData.int = b.map PyData.int → a = b
  | [], [], _ => rfl
  | [], _ :: _, h => by cases h
  | _ :: _, [], h => by cases h
  | x :: r, y :: s, h => by
    rw [List.map_cons, List.map_cons, List.cons.injEq] at h
    have h1 := h.1
    injection h1 with h1
    rw [h1, intsD_inj h.2]
theorem cr_minT (hc : X.calm = true) (hu : X.A.units + 64 < cLine) : CallR X (.builtin "min") (rMinT X.K) := by
  intro pins s σ H vs us Q I r h
  obtain ⟨a, xs, ls, rfl, hs, hx, h0, len, q⟩ := h
  obtain ⟨its, rv, hli, hz⟩ := I.list hs
  obtain ⟨as, hra, _⟩ := Dp.rds I _ xs its hx rv
  rw [Vals.ref1 r]
  obtain ⟨l0, ls', rfl⟩ : ∃ l0 ls', ls = l0 :: ls' := by
    cases ls with
    | nil => cases h0
    | cons a b => exact ⟨a, b, rfl⟩
  have eA : ((l0 :: ls').map fun l => PyData.tuple (l.map .int)) = (PySem.W.Tup.mk l0 :: ls'.map PySem.W.Tup.mk).map PySem.W.Datum.toD := by
    rw [List.map_cons, List.map_cons, List.map_map]
    rfl
  rw [eA] at hra
  have hu' : X.A.units + 1 + PySem.W.Datum.depth (PySem.W.Tup Int) < cLine := by
    show X.A.units + 1 + (0 + 1) < cLine
    omega
  refine PySem.W.min_list_datum (x := PySem.W.Tup.mk l0) (xs := ls'.map PySem.W.Tup.mk) (I.ok.hd hc) hli.isList ⟨_, hra⟩ hu' fun i v h' tk hi hold hk => ?_
  have hi' : its[i]? = some v := by simpa using hi
  have iv := (List.getElem?_eq_some_iff.mp hi').1
  obtain ⟨x, hxi⟩ : ∃ x, xs[i]? = some x := ⟨_, List.getElem?_eq_getElem (by rw [rv.length]; exact iv)⟩
  obtain ⟨u, hu2, ru⟩ := rv.get hxi
  rw [hi'] at hu2
  cases hu2
  obtain ⟨bs, rd, il, _, _⟩ := PySem.W.readsAll_at hra i v hi'
  have il2 : i < (l0 :: ls').length := by
    rw [List.length_map] at il
    simpa using il
  obtain ⟨l, hl⟩ : ∃ l, (l0 :: ls')[i]? = some l := ⟨_, List.getElem?_eq_getElem il2⟩
  have eg : ((PySem.W.Tup.mk l0 :: ls'.map PySem.W.Tup.mk).map PySem.W.Datum.toD).getD i .none = PySem.W.Datum.toD (PySem.W.Tup.mk l) := by
    rw [← eA, List.getD_eq_getElem?_getD, List.getElem?_map, hl]
    rfl
  rw [eg] at rd
  obtain ⟨cs, rm⟩ := hold
  have same := PySem.W.alike_unique _ _ v _ _ (PySem.W.DatumOrd.alike _ _) (PySem.W.reads_keeps hk rd) rm
  have same : PyData.tuple (l.map .int) = .tuple ((PySem.W.minOf (PySem.W.Tup.mk l0) (ls'.map PySem.W.Tup.mk)).items.map .int) := same
  injection same with same
  have el : l = (PySem.W.minOf (PySem.W.Tup.mk l0) (ls'.map PySem.W.Tup.mk)).items := intsD_inj same
  obtain ⟨m1, m2, m3⟩ := min_fold (ls'.map PySem.W.Tup.mk) (PySem.W.Tup.mk l0) fun y hy => by
    obtain ⟨z, hz, rfl⟩ := List.mem_map.mp hy
    exact len z (List.mem_cons_of_mem _ hz) l0 List.mem_cons_self
  refine ⟨x, H, I.kept hk, ru, q i x l hxi hl fun m hm => ?_⟩
  rw [el]
  rcases List.mem_cons.mp hm with rfl | hm
  · exact m2
  · exact m3 _ (List.mem_map.mpr ⟨m, hm, rfl⟩)
end
theorem RndD.uniq {rows : List (List Int)} (hr : RwOk rows) {d d' : PyData} (h : RndD rows d) (h' : RndD rows d') : d = d' := by
  rcases h with ⟨ns, rfl, l⟩ | ⟨rs, rfl, l⟩
  · rcases h' with ⟨ns', rfl, l'⟩ | ⟨rs', rfl, l'⟩
    · rw [l.uniq l']
    · exact (l'.none l.1).elim
  · rcases h' with ⟨ns', rfl, l'⟩ | ⟨rs', rfl, l'⟩
    · exact (l.none l'.1).elim
    · rw [l.uniq hr l']
/-! no ring: walks are short, ranks come to rest -/
section
variable {rows : List (List Int)}
theorem chain_cut : ∀ {a : List Int} {z v : Int} {t : List Int}, chainP rows (a ++ z :: v :: t) → chainP rows (a ++ [z]) ∧ v ∈ rowAt rows z
  | [], _, _, _, h => ⟨trivial, h.1⟩
  | [_], _, _, _, h => ⟨⟨h.1, trivial⟩, h.2.1⟩
  | _ :: y :: a, _, _, _, h => ⟨⟨h.1, (chain_cut (a := y :: a) h.2).1⟩, (chain_cut (a := y :: a) h.2).2⟩
theorem chain_tail : ∀ {v : Int} {l : List Int}, chainP rows (v :: l) → chainP rows l
  | _, [], _ => trivial
  | _, _ :: _, h => h.2
theorem walk_nodup (no : ∀ ns, ¬ RingP rows ns) : ∀ {l : List Int}, (∀ p ∈ l, 0 ≤ p ∧ p < (rows.length : Int)) → chainP rows l → l.Nodup
  | [], _, _ => List.nodup_nil
  | v :: l, hr, hc => by
    have ih := walk_nodup no (fun p hp => hr p (List.mem_cons_of_mem _ hp)) (chain_tail hc)
    refine List.nodup_cons.mpr ⟨fun hm => ?_, ih⟩
    obtain ⟨s, t, rfl⟩ := List.append_of_mem hm
    have ne : v :: s ≠ [] := by simp
    have e := List.dropLast_concat_getLast ne
    have hc2 : chainP rows ((v :: s).dropLast ++ ((v :: s).getLast ne) :: v :: t) := by
      have : (v :: s).dropLast ++ ((v :: s).getLast ne) :: v :: t = v :: (s ++ v :: t) := by
        rw [show ((v :: s).getLast ne) :: v :: t = [(v :: s).getLast ne] ++ v :: t from rfl, ← List.append_assoc, e]
        rfl
      rw [this]
      exact hc
    obtain ⟨c1, c2⟩ := chain_cut hc2
    rw [e] at c1
    have nd := List.nodup_append.mp ih
    refine no (v :: s) ⟨fun p hp => hr p (by rcases List.mem_cons.mp hp with rfl | hp <;> simp [*]), List.nodup_cons.mpr ⟨fun hs => nd.2.2 v hs v List.mem_cons_self rfl, nd.1⟩, c1, v, _, rfl, List.getLast?_eq_some_getLast ne, c2⟩
theorem fold_max : ∀ (r : List Int) (n : Int), (r.foldl max n = n ∨ r.foldl max n ∈ r) ∧ n ≤ r.foldl max n ∧ ∀ x ∈ r, x ≤ r.foldl max n
  | [], n => ⟨.inl rfl, Int.le_refl _, fun x h => by cases h⟩
  | a :: r, n => by
    obtain ⟨h1, h2, h3⟩ := fold_max r (max n a)
    rw [List.foldl_cons]
    refine ⟨?_, by omega, fun x hx => ?_⟩
    · rcases h1 with h1 | h1
      · rw [h1]
        by_cases c : n ≤ a
        · exact .inr (by rw [Int.max_eq_right c]; exact List.mem_cons_self)
        · exact .inl (Int.max_eq_left (by omega))
      · exact .inr (List.mem_cons_of_mem _ h1)
    · rcases List.mem_cons.mp hx with rfl | hx
      · omega
      · exact h3 x hx
theorem maxI_mem {d : Int} {l : List Int} (h : l ≠ []) : maxI d l ∈ l ∧ ∀ x ∈ l, x ≤ maxI d l := by
  cases l with
  | nil => exact absurd rfl h
  | cons n r =>
    obtain ⟨h1, h2, h3⟩ := fold_max r n
    refine ⟨?_, fun x hx => ?_⟩
    · rcases h1 with h1 | h1
      · show r.foldl max n ∈ n :: r
        rw [h1]
        exact List.mem_cons_self
      · exact List.mem_cons_of_mem _ h1
    · rcases List.mem_cons.mp hx with rfl | hx
      · exact h2
      · exact h3 x hx
def stepK (rows : List (List Int)) (rs : List Int) : List Int := rows.map fun ns => maxI 0 (ns.map fun q => rkAt rs q + 1)
def itK (rows : List (List Int)) : Nat → List Int
  | 0 => rows.map fun _ => 0
  | t + 1 => stepK rows (itK rows t)
theorem itK_len : ∀ t, (itK rows t).length = rows.length
  | 0 => List.length_map _
  | t + 1 => List.length_map _
theorem rk_map {f : List Int → Int} {p : Int} (p0 : 0 ≤ p) (p1 : p < (rows.length : Int)) : rkAt (rows.map f) p = f (rowAt rows p) := by
  have h : rows[p.toNat]? = some (rows[p.toNat]'(by omega)) := List.getElem?_eq_getElem _
  unfold rkAt rowAt
  rw [List.getD_eq_getElem?_getD, List.getD_eq_getElem?_getD, List.getElem?_map, h]
  rfl
theorem itK_zero {p : Int} (p0 : 0 ≤ p) (p1 : p < (rows.length : Int)) : rkAt (itK rows 0) p = 0 := rk_map (f := fun _ => 0) p0 p1
theorem itK_succ {t : Nat} {p : Int} (p0 : 0 ≤ p) (p1 : p < (rows.length : Int)) : rkAt (itK rows (t + 1)) p = maxI 0 ((rowAt rows p).map fun q => rkAt (itK rows t) q + 1) := rk_map (f := fun ns => maxI 0 (ns.map fun q => rkAt (itK rows t) q + 1)) p0 p1
theorem itK_walk (hr : RwOk rows) : ∀ (t : Nat) {p : Int}, 0 ≤ p → p < (rows.length : Int) → rkAt (itK rows (t + 1)) p ≠ rkAt (itK rows t) p → ∃ l : List Int, l.length = t + 1 ∧ (∀ x ∈ p :: l, 0 ≤ x ∧ x < (rows.length : Int)) ∧ chainP rows (p :: l)
  | 0, p, p0, p1, h => by
    rw [itK_succ p0 p1, itK_zero p0 p1] at h
    cases e : rowAt rows p with
    | nil => rw [e] at h; exact absurd rfl h
    | cons q r =>
      have hq : q ∈ rowAt rows p := by rw [e]; exact List.mem_cons_self
      refine ⟨[q], rfl, fun x hx => ?_, hq, trivial⟩
      rcases List.mem_cons.mp hx with rfl | hx
      · exact ⟨p0, p1⟩
      · rw [List.mem_singleton.mp hx]
        exact row_rng hr hq
  | t + 1, p, p0, p1, h => by
    have : ∃ q ∈ rowAt rows p, rkAt (itK rows (t + 1)) q ≠ rkAt (itK rows t) q := by
      refine Classical.byContradiction fun no => h ?_
      rw [itK_succ p0 p1, itK_succ p0 p1]
      congr 1
      refine List.map_congr_left fun q hq => ?_
      refine Classical.byContradiction fun ne => no ⟨q, hq, fun e => ne (by rw [e])⟩
    obtain ⟨q, hq, hne⟩ := this
    obtain ⟨q0, q1⟩ := row_rng hr hq
    obtain ⟨l, l1, l2, l3⟩ := itK_walk hr t q0 q1 hne
    refine ⟨q :: l, by rw [List.length_cons, l1], fun x hx => ?_, hq, l3⟩
    rcases List.mem_cons.mp hx with rfl | hx
    · exact ⟨p0, p1⟩
    · exact l2 x hx
theorem itK_pos (hr : RwOk rows) : ∀ (t : Nat) {p : Int}, 0 ≤ p → p < (rows.length : Int) → 0 ≤ rkAt (itK rows t) p
  | 0, p, p0, p1 => by rw [itK_zero p0 p1]; exact Int.le_refl _
  | t + 1, p, p0, p1 => by
    rw [itK_succ p0 p1]
    cases e : rowAt rows p with
    | nil => exact Int.le_refl _
    | cons q r =>
      obtain ⟨h1, h2⟩ := maxI_mem (d := 0) (l := (q :: r).map fun q => rkAt (itK rows t) q + 1) (by simp)
      have hq : q ∈ rowAt rows p := by rw [e]; exact List.mem_cons_self
      obtain ⟨q0, q1⟩ := row_rng hr hq
      have := h2 _ (List.mem_map.mpr ⟨q, List.mem_cons_self, rfl⟩)
      have := itK_pos hr t q0 q1
      omega
theorem itK_fix (hr : RwOk rows) (no : ∀ ns, ¬ RingP rows ns) : FixR rows (itK rows rows.length) := by
  have same : ∀ {p : Int}, 0 ≤ p → p < (rows.length : Int) → rkAt (itK rows (rows.length + 1)) p = rkAt (itK rows rows.length) p := fun {p} p0 p1 => Classical.byContradiction fun ne => by
    obtain ⟨l, l1, l2, l3⟩ := itK_walk hr rows.length p0 p1 ne
    have := nodup_len rows.length (p :: l) (walk_nodup no l2 l3) l2
    rw [List.length_cons, l1] at this
    omega
  refine ⟨itK_len _, fun p p0 p1 => itK_pos hr _ p0 p1, fun p p0 p1 q hq => ?_, fun p p0 p1 => ?_⟩
  · have e := same p0 p1
    rw [itK_succ p0 p1] at e
    obtain ⟨_, h2⟩ := maxI_mem (d := 0) (l := (rowAt rows p).map fun q => rkAt (itK rows rows.length) q + 1) (fun z => by rw [List.map_eq_nil_iff.mp z] at hq; cases hq)
    have := h2 _ (List.mem_map.mpr ⟨q, hq, rfl⟩)
    omega
  · have e := same p0 p1
    rw [itK_succ p0 p1] at e
    cases c : rowAt rows p with
    | nil => rw [c] at e; exact .inl e.symm
    | cons q r =>
      obtain ⟨h1, _⟩ := maxI_mem (d := 0) (l := (rowAt rows p).map fun q => rkAt (itK rows rows.length) q + 1) (by rw [c]; simp)
      obtain ⟨q', hq', e'⟩ := List.mem_map.mp h1
      rw [c] at hq'
      exact .inr ⟨q', hq', by omega⟩
end
/-! _law_rounds -/
section
open PySem.Spec PyProof.Rows LamX
variable {P : Program} {w : World} {K : PySem.W.Frag} {mg : Str → Option Value} {base : Heap} {f : Addr} {fd : FuncData}
def spLRounds (K : PySem.W.Frag) : Sp := fun vs H Q _ => ∃ (L : Addr) (cs : List V) (rows : List (List Int)), vs = [.ref L] ∧ H L = some (.lst cs) ∧ DpAll K H cs (rows.map rowL) ∧ RwOk rows ∧ (∀ ns ∈ rows, ns.Pairwise (· < ·)) ∧ rows.length ≤ 8 ∧
  ∀ (v : V) (d : PyData) (H' : Hp), Same H H' → Dp K H' v d → RndD rows d → Q v H'
abbrev roN60 : List Str := ["_law_chart", "_law_rows", "_law_long", "_law_rings", "_law_more", "_law_row", "_law_ranks", "_law_turn", "_law_point", "_law_to", "_law_nexts"]
theorem scLRounds : FnScope roN60 ["_law_chart"] (defScope sLRounds) := ⟨rfl, rfl, rfl, by decide +kernel, rfl, by decide +kernel, by decide +kernel⟩
abbrev scR60 : Scope := { kind := .function, names := [(".0", .local), ("_law_nexts", .local), ("max", .globalImplicit), ("_law_ranks", .free)], isGenerator := false, isCoroutine := false, more := [] }
/-- the ranks, where no ring is -/
def tRanks (K : PySem.W.Frag) : TS := fun D σ G => ∃ (L : Addr) (cs : List V) (rows : List (List Int)) (o1 o2 o3 o4 o5 o6 o7 o8 o9 o10 : Option V), σ = [some (.ref L), o1, o2, o3, o4, o5, o6, o7, o8, o9, o10] ∧ G L = some (.lst cs) ∧ DpAll K G cs (rows.map rowL) ∧ RwOk rows ∧ rows.length ≤ 8 ∧ (∀ ns, ¬ RingP rows ns) ∧ ∀ (v : V) (d : PyData) (H' : Hp), Same G H' → Dp K H' v d → RndD rows d → D.rt v H'
def tRankE (K : PySem.W.Frag) : TE := tCKw (fun xs zs H Q => ∃ (a : Addr) (ns : List Int) (d : Int), xs = [.ref a] ∧ zs = [.int d] ∧ SqL K H a (ns.map V.int) ∧ Q (.int (maxI d ns)) H) (tCons (tLc (iTup K (tVar 10)) (gName 9) tYes (tOp (rI0 fun i j => .int (i + j)) (tOp (rIxL K) (tVar 6) (tVar 9)) (tC (.int 1))) [9]) tNil) (tCons (tC (.int 0)) tNil)
set_option maxHeartbeats 2000000 in
theorem ok_lrounds {k : Nat} (F : Fun K "_law_rounds" "_law_rounds" sLRounds f fd) (T : Free mg) : FnOk P w K mg base CX0 (k + 1) f fd ["_law_chart"] (spLRounds K) := by
  refine F.ok scLRounds (fun vs H Q E h => ?_) (fun cdv A outer s H vs Q E hr h => ?_)
  · obtain ⟨L, cs, rows, rfl, _⟩ := h
    rfl
  obtain ⟨L, cs, rows, rfl, hL, ceach, hrw, srt, n8, q⟩ := h
  refine ⟨_, pss_cons (ps_setLc (i := 1) (own := [("_law_point", 8)]) (g := gName 8) (tt := tYes) (te := tTup (tCons (tVar 8) tNil)) rfl scLRounds.nd rfl rfl rfl (pi_range1 rfl T.range (pa_cons (pe_callB call_len_seq rfl T.len PySem.boot_len (pa_cons (pv 0) pa_nil)) pa_nil))
        (blkOk_by (own := [("_law_point", 8)]) (N := roN60) (sc := defScope sLRounds) (by decide +kernel))
        (fun _ _ _ _ _ => pg_name (i := 8) scLRounds.nd rfl (Or.inl rfl)) (fun _ _ _ _ _ => pts_nil) (fun _ _ _ _ _ => pe_tup (pa_cons (pv 8) pa_nil)))
    (pss_cons (ps_for PassesOwn.never rfl (pi_range1 rfl T.range (pa_cons (pe_callB call_len_seq rfl T.len PySem.boot_len (pa_cons (pv 0) pa_nil)) pa_nil)) (pg_name (i := 2) scLRounds.nd rfl (.inl rfl))
      (pss_cons (ps_setLc (i := 3) (own := [("_law_row", 5)]) (g := gName 5) (tt := tTest (tOp (rIn K false) (tOp (rIxT K) (tVar 5) (tC (.int 0))) (tOp (rIxL K) (tVar 0) (tOp (rIxT K) (tVar 5) (tUn (rU fun i => .int (-i)) (tC (.int 1))))))) (te := tVar 5) rfl scLRounds.nd rfl rfl rfl (pi_list (pv 1))
        (blkOk_by (own := [("_law_row", 5)]) (N := roN60) (sc := defScope sLRounds) (by decide +kernel))
        (fun _ _ _ _ _ => pg_name (i := 5) scLRounds.nd rfl (Or.inl rfl)) (fun _ _ _ _ _ => pts_one (pt_cmpR op_in_seq (pe_ix ix_tup (pv 5) pe_int (fun _ _ => rfl)) (pe_ix ix_list (pv 0) (pe_ix ix_tup (pv 5) (pe_un un_neg pe_int) (fun _ _ => rfl)) (fun _ _ => rfl)) rfl))
        (fun _ _ _ _ _ => pv 5))
      (pss_cons (ps_if (pt_cmpR (op_neLE hr.units) (pv 3) (pe_lst pa_nil) (nomark _)) (pss_one (ps_ret (pe_tup (pa_cons pe_str (pa_cons (pe_callB (cr_minT rfl hr.units) rfl T.min (by decide +kernel) (pa_cons (pv 3) pa_nil)) pa_nil))))) pss_nil)
      (pss_cons (ps_set (i := 4) scLRounds.nd rfl (.inl rfl) (pe_lst pa_nil))
      (pss_cons (ps_for PassesOwn.never rfl (pi_list (pv 1)) (pg_name (i := 5) scLRounds.nd rfl (.inr rfl))
        (pss_one (ps_set (i := 4) scLRounds.nd rfl (.inl rfl) (pe_op op_cat (pv 4) (pe_lc (own := [("_law_to", 9)]) (g := gName 9) (tt := tTest (tOp (rIn K true) (tVar 9) (tVar 5))) (te := tOp (rCatA K) (tVar 5) (tTup (tCons (tVar 9) tNil))) rfl scLRounds.nd (pi_tup (pe_ix ix_list (pv 0) (pe_ix ix_tup (pv 5) (pe_un un_neg pe_int) (fun _ _ => rfl)) (fun _ _ => rfl)))
          (blkOk_by (own := [("_law_to", 9)]) (N := roN60) (sc := defScope sLRounds) (by decide +kernel))
          (fun _ _ _ _ _ => pg_name (i := 9) scLRounds.nd rfl (Or.inl rfl)) (fun _ _ _ _ _ => pts_one (pt_cmpR op_notIn_seq (pv 9) (pv 5) rfl)) (fun _ _ _ _ _ => pe_op op_catA (pv 5) (pe_tup (pa_cons (pv 9) pa_nil))))))))
      (pss_one (ps_set (i := 1) scLRounds.nd rfl (.inl rfl) (pv 4))))))))
    (pss_imp (t' := tRanks K) (pss_cons (ps_set (i := 6) scLRounds.nd rfl (.inr rfl) (pe_op op_rep (pe_lst (pa_cons pe_int pa_nil)) (pe_callB call_len_seq rfl T.len PySem.boot_len (pa_cons (pv 0) pa_nil))))
    (pss_cons (ps_for PassesOwn.never rfl (pi_list (pv 0)) (pg_name (i := 7) scLRounds.nd rfl (.inl rfl))
      (pss_one (ps_set (i := 6) scLRounds.nd rfl (.inr rfl) (pe_lc (own := [("_law_nexts", 10)]) (g := gName 10) (tt := tYes) (te := tRankE K) rfl scLRounds.nd (pi_list (pv 0))
        (blkOk_by (own := [("_law_nexts", 10)]) (N := roN60) (sc := defScope sLRounds) (by decide +kernel))
        (fun _ _ _ _ _ => pg_name (i := 10) scLRounds.nd rfl (Or.inl rfl)) (fun _ _ _ _ _ => pts_nil)
        (fun _ _ _ _ _ => pe_callBK (call_maxD rfl hr.units) rfl T.max (by decide +kernel) (pa_cons (pe_lc (own := [("_law_to", 9)]) (g := gName 9) (tt := tYes) (te := tOp (rI0 fun i j => .int (i + j)) (tOp (rIxL K) (tVar 6) (tVar 9)) (tC (.int 1))) rfl scLRounds.nd (pi_tup (pv 10))
          (blkOk_by (own := [("_law_to", 9)]) (N := roN60) (sc := relS scR60 (defScope sLRounds)) (by decide +kernel))
          (fun _ _ _ _ _ => pg_name (i := 9) scLRounds.nd rfl (Or.inl rfl)) (fun _ _ _ _ _ => pts_nil) (fun _ _ _ _ _ => pe_op op_add (pe_ix ix_list (pv 6) (pv 9) (fun _ _ => rfl)) pe_int)) pa_nil) (pk_cons pe_int pk_nil))))))
    (pss_one (ps_ret (pe_tup (pa_cons pe_str (pa_cons (pe_callTy call_tuple_of rfl T.tuple (by decide +kernel) (pa_cons (pv 6) pa_nil)) pa_nil))))))) (fun D σ G h => ?ranks))), ?main⟩
  case ranks =>
    obtain ⟨L, cs, rows, o1, o2, o3, o4, o5, o6, o7, o8, o9, o10, rfl, hL, ceach, hrw, n8, no, q⟩ := h
    have lc : cs.length = rows.length := dpAll_len' ceach
    refine ⟨small (by show 1 ≤ 1000; decide), fun p1 f1 => ?_⟩
    have s1 := same_new f1 (.lst [.int 0])
    refine ⟨_, rfl, L, cs, rfl, .inl (SqL.of (s1 _ _ hL)), p1, _, _, rfl, rfl, upd_same, by omega, by omega, small (by show 1 * _ ≤ 1000; omega), fun p2 f2 => ?_⟩
    have e0 : (List.replicate ((cs.length : Nat) : Int).toNat [V.int 0]).flatten = (itK rows 0).map V.int := by
      rw [show ((cs.length : Nat) : Int).toNat = rows.length by omega]
      show _ = (rows.map fun _ => (0 : Int)).map V.int
      rw [List.map_map]
      clear lc ceach hrw no q n8
      induction rows with
      | nil => rfl
      | cons r rows ih => rw [List.length_cons, List.replicate_succ, List.flatten_cons, ih]; rfl
    rw [e0]
    have s2 := s1.trans (same_new f2 (.lst ((itK rows 0).map V.int)))
    have h2 : upd (upd G p1 (.lst [.int 0])) p2 (.lst ((itK rows 0).map V.int)) p2 = some (.lst ((itK rows 0).map V.int)) := upd_same
    generalize upd (upd G p1 (.lst [.int 0])) p2 (.lst ((itK rows 0).map V.int)) = G2 at s2 h2 ⊢
    have hL2 := s2 _ _ hL
    refine ⟨_, rfl, L, rfl, ⟨_, SqL.of hL2⟩, ?_⟩
    refine for_list (xs := cs) (fun i σ G' => ∃ (R : Addr) (o7 o8 o9 o10 : Option V), σ = [some (.ref L), o1, o2, o3, o4, o5, some (.ref R), o7, o8, o9, o10] ∧ Same G2 G' ∧ G' R = some (.lst ((itK rows i).map V.int)))
      ⟨p2, _, _, _, _, rfl, Same.refl _, h2⟩ (fun i σ G' _ h => by obtain ⟨_, _, _, _, _, _, s3, _⟩ := h; exact SqL.of (s3 _ _ hL2)) (fun i v σ G' hv h => ?_) (fun σ G' h => ?_)
    · obtain ⟨R, o7, o8, o9, o10, rfl, s3, hR⟩ := h
      have hL3 := s3 _ _ hL2
      refine ⟨_, rfl, L, rfl, ⟨_, SqL.of hL3⟩, fun D2 hD => ?_⟩
      refine lc_list (xs := cs) (fun m X => Same G' X ∧ X D2 = some (.lst (((itK rows (i + 1)).take m).map V.int))) ⟨same_new hD _, by rw [upd_same]; rfl⟩ (fun m X _ h => SqL.of (h.1 _ _ hL3)) (fun m rv X hrv h => ?_) (fun X h => ?_)
      · obtain ⟨sX, gD⟩ := h
        obtain ⟨l, b, hl, rfl, bat⟩ := rows_at (dpAll_ext (s2.trans (s3.trans sX)) ceach) hrv
        have ml := (List.getElem?_eq_some_iff.mp hl).1
        have lrow := hrw.row l (List.mem_of_getElem? hl)
        have hit : (itK rows (i + 1))[m]? = some (maxI 0 (l.map fun q => rkAt (itK rows i) q + 1)) := by
          show (rows.map fun ns => maxI 0 (ns.map fun q => rkAt (itK rows i) q + 1))[m]? = _
          rw [List.getElem?_map, hl]
          rfl
        refine ⟨rfl, yesG ⟨_, rfl, b, rfl, ⟨_, bat⟩, fun D3 hD3 => ?_⟩⟩
        refine lc_tup (xs := l.map V.int) (fun n Y => Same X Y ∧ Y D3 = some (.lst (((l.map fun q => rkAt (itK rows i) q + 1).take n).map V.int))) ⟨same_new hD3 _, by rw [upd_same]; rfl⟩ (fun n Y _ h => sqT_same h.1 bat) (fun n nv Y hnv h => ?_) (fun Y h => ?_)
        · obtain ⟨sY, gD3⟩ := h
          obtain ⟨q0, hq0, rfl⟩ := ints_get hnv
          have rq := lrow.2 q0 (List.mem_of_getElem? hq0)
          have hat : ((itK rows i).map V.int)[q0.toNat]? = some (.int (rkAt (itK rows i) q0)) := by
            have z : (itK rows i)[q0.toNat]? = some ((itK rows i)[q0.toNat]'(by rw [itK_len]; omega)) := List.getElem?_eq_getElem _
            rw [List.getElem?_map, z]
            unfold rkAt
            rw [List.getD_eq_getElem?_getD, z]
            rfl
          have nl : n < l.length := (List.getElem?_eq_some_iff.mp hq0).1
          refine ⟨rfl, yesG ⟨_, rfl, _, rfl, R, _, q0, _, rfl, rfl, SqL.of ((sX.trans sY) _ _ hR), atI_at rq.1 hat, _, _, rfl, rfl, _, gD3, ?_, same_upd2 sY hD3, ?_⟩⟩
          · rw [List.length_map, List.length_take]
            exact Nat.lt_of_lt_of_le (show _ < 1000 by omega) (small (Nat.le_refl _))
          · rw [upd_same, take_more (show (l.map fun q => rkAt (itK rows i) q + 1)[n]? = some (rkAt (itK rows i) q0 + 1) by rw [List.getElem?_map, hq0]; rfl), List.map_append]
            rfl
        · obtain ⟨sY, gD3⟩ := h
          rw [show (l.map V.int).length = (l.map fun q => rkAt (itK rows i) q + 1).length by rw [List.length_map, List.length_map], List.take_length] at gD3
          refine ⟨D3, _, 0, rfl, rfl, SqL.of gD3, _, sY _ _ gD, ?_, same_upd2 (sX.trans sY) hD, ?_⟩
          · rw [List.length_map, List.length_take]
            exact Nat.lt_of_lt_of_le (show _ < 1000 by omega) (small (Nat.le_refl _))
          · rw [upd_same, take_more hit, List.map_append]
            rfl
      · obtain ⟨sX, gD⟩ := h
        rw [show cs.length = (itK rows (i + 1)).length by rw [itK_len, lc], List.take_length] at gD
        exact ⟨D2, _, _, _, _, rfl, s3.trans sX, gD⟩
    · obtain ⟨R, o7, o8, o9, o10, rfl, s3, hR⟩ := h
      rw [lc] at hR
      refine ⟨_, rfl, R, _, rfl, .inl ⟨SqL.of hR, fun p fp => ⟨small (by show 2 ≤ 1000; decide), fun p3 fp3 => ?_⟩⟩⟩
      have s4 := same_new fp (.tup ((itK rows rows.length).map V.int))
      have s5 := same_new fp3 (.tup [.str "ranks", .ref p])
      exact q _ _ _ (s2.trans (s3.trans (s4.trans s5))) (.tup (SqT.of upd_same) (.cons (.str _) (.cons (.tup (SqT.of (s5 _ _ upd_same)) (dp_ints _)) .nil))) (.inr ⟨_, rfl, itK_fix hrw no⟩)
  case main =>
    have lc : cs.length = rows.length := dpAll_len' ceach
    have hlen := hrw.len
    have rowOf : ∀ {z : Int}, 0 ≤ z → z < (rows.length : Int) → ∃ (br : Addr), cs[z.toNat]? = some (.ref br) ∧ SqT K H br ((rowAt rows z).map V.int) := fun {z} z0 z1 => by
      have hr' := List.getElem?_eq_getElem (show z.toNat < rows.length by omega)
      generalize rows[z.toNat] = row at hr'
      obtain ⟨b, hb, bat⟩ := ch_row ceach hr'
      have hra : rowAt rows z = row := by
        unfold rowAt
        rw [List.getD_eq_getElem?_getD, hr']
        rfl
      exact ⟨b, hb, by rw [hra]; exact bat⟩
    have rowNd : ∀ {z : Int}, 0 ≤ z → z < (rows.length : Int) → (rowAt rows z).Nodup := fun {z} z0 z1 => by
      have hr' := List.getElem?_eq_getElem (show z.toNat < rows.length by omega)
      unfold rowAt
      rw [List.getD_eq_getElem?_getD, hr']
      exact (srt _ (List.getElem_mem _)).imp fun h e => by omega
    have endsOf : ∀ {k : Nat} {l : List Int}, 1 ≤ k → PathN rows k l → (l.map V.int)[0]? = some (.int (l.headD 0)) ∧ (l.map V.int)[(l.map V.int).length - 1]? = some (.int (l.getLastD 0)) ∧ 0 ≤ l.getLastD 0 ∧ l.getLastD 0 < (rows.length : Int) ∧ l.getLast? = some (l.getLastD 0) := fun {k l} hk hl => by
      have hll := hl.1
      have ne : l ≠ [] := fun e => by rw [e] at hll; simp at hll; omega
      have el : l.getLast? = some (l.getLastD 0) := by
        cases l with
        | nil => exact absurd rfl ne
        | cons a r => rw [List.getLast?_eq_some_getLast (by simp), List.getLastD_cons, List.getLast_eq_getLastD]
      have rg := hl.2.2.1 _ (List.mem_of_getLast? el)
      refine ⟨?_, ?_, rg.1, rg.2, el⟩
      · cases l with
        | nil => exact absurd rfl ne
        | cons a r => rfl
      · rw [List.length_map, List.getElem?_map, ← List.getLast?_eq_getElem?, el]
        rfl
    refine ⟨_, rfl, L, cs, rfl, .inl (SqL.of hL), _, rfl, by omega, by rw [lc]; omega, fun R0 hR0 => ?_⟩
    rw [show ((cs.length : Nat) : Int).toNat = rows.length by omega]
    refine lc_range (lo := 0) (n := rows.length) (fun i G => Same H G ∧ ∃ xs : List V, G R0 = some (.lst xs) ∧ DpAll K G xs (((List.range i).map fun j : Nat => [(j : Int)]).map rowL)) ⟨same_new hR0 _, [], upd_same, .nil⟩ (fun i G hi h => ?_) (fun G h => ?_)
    · obtain ⟨sm, xs, hR, dx⟩ := h
      have lx := dpAll_len' dx
      rw [List.length_map, List.length_range] at lx
      refine ⟨rfl, yesG ⟨_, rfl, small (by show 1 ≤ 1000; decide), fun p hp => ⟨xs, same_new hp _ _ _ hR, Nat.lt_of_lt_of_le (show _ < 1000 by omega) (small (Nat.le_refl _)), ?_⟩⟩⟩
      have n1 := same_new hp (.tup [.int (0 + (i : Int))])
      have k1 : KT (upd G p (.tup [.int (0 + (i : Int))])) (upd (upd G p (.tup [.int (0 + (i : Int))])) R0 (.lst (xs ++ [.ref p]))) := KT.upd (n1 _ _ hR)
      refine ⟨same_upd (sm.trans n1) hR0, xs ++ [.ref p], upd_same, ?_⟩
      rw [List.range_succ, List.map_append, List.map_append]
      refine dpAll_app (dpAll_kt k1 _ _ (tup_rows _) (dpAll_ext n1 dx)) (.cons (.tup (sqT_kt k1 (SqT.of upd_same)) ?_) .nil)
      rw [show (0 : Int) + (i : Int) = (i : Int) by omega]
      exact dp_ints [(i : Int)]
    obtain ⟨sm0, xs0, hR00, dx0⟩ := h
    refine ⟨_, rfl, L, cs, rfl, .inl (SqL.of (sm0 _ _ hL)), _, rfl, by omega, by rw [lc]; omega, ?_⟩
    rw [show ((cs.length : Nat) : Int).toNat = rows.length by omega]
    refine for_range (lo := 0) (n := rows.length) (fun j σ G => ∃ (R : Addr) (xs : List V) (ps : List (List Int)) (o2 o3 o4 o5 o6 o7 o8 o9 o10 : Option V), σ = [some (.ref L), some (.ref R), o2, o3, o4, o5, o6, o7, o8, o9, o10] ∧ Same H G ∧ G R = some (.lst xs) ∧ DpAll K G xs (ps.map rowL) ∧ ps.length ≤ bndR (j + 1) ∧ (∀ l, l ∈ ps ↔ PathN rows (j + 1) l) ∧ ∀ ns, RingP rows ns → j + 1 ≤ ns.length)
      ⟨R0, xs0, _, _, _, _, _, _, _, _, _, _, rfl, sm0, hR00, dx0, by rw [List.length_map, List.length_range]; exact n8, fun l => ?_, fun ns h => h.pos⟩ (fun j σ G hj h => ?_) (fun σ G h => ?_)
    · rw [List.mem_map]
      constructor
      · rintro ⟨j, hj, rfl⟩
        have := List.mem_range.mp hj
        exact ⟨rfl, by simp, fun p hp => by rw [List.mem_singleton.mp hp]; omega, trivial⟩
      · rintro ⟨h1, h2, h3, h4⟩
        match l, h1 with
        | [a], _ =>
          have := h3 a (by simp)
          exact ⟨a.toNat, List.mem_range.mpr (by omega), by rw [show ((a.toNat : Nat) : Int) = a by omega]⟩
    · obtain ⟨R, xs, ps, o2, o3, o4, o5, o6, o7, o8, o9, o10, rfl, sm4, hR4, dx4, lps, mem, low⟩ := h
      obtain ⟨k, ek⟩ : ∃ k, j + 1 = k := ⟨_, rfl⟩
      rw [ek] at lps mem low
      have k1 : 1 ≤ k := by omega
      have k8 : k ≤ 8 := by omega
      have k9 : k ≤ 9 := by omega
      have lx := dpAll_len' dx4
      have lb := bndR_le k k9
      clear dx0 hR00 sm0 hR0
      refine ⟨_, rfl, R, rfl, ⟨_, SqL.of hR4⟩, fun D hD => ?_⟩
      refine lc_list (xs := xs) (fun i G' => Same G G' ∧ ∃ zs : List V, G' D = some (.lst zs) ∧ DpAll K G' zs (((ps.take i).filter (closesB rows)).map rowL)) ⟨same_new hD _, [], upd_same, .nil⟩ (fun i G' _ h => SqL.of (h.1 _ _ hR4)) (fun i v G' hv h => ?_) (fun G5 h => ?_)
      · obtain ⟨s5, zs, hz, dz⟩ := h
        obtain ⟨l, b, hl, rfl, bat⟩ := rows_at dx4 hv
        have hpl := (mem l).mp (List.mem_of_getElem? hl)
        obtain ⟨e0, e1, z0, z1, _⟩ := endsOf k1 hpl
        obtain ⟨br, hbr, brow⟩ := rowOf z0 z1
        have b5 := sqT_same s5 bat
        have lz : zs.length ≤ 40320 := by
          have := dpAll_len' dz
          have h2 := List.length_filter_le (closesB rows) (ps.take i)
          have h3 := List.length_take_le' i ps
          omega
        refine ⟨rfl, _, rfl, b, _, 0, _, rfl, rfl, b5, atI_at (by decide) e0, _, rfl, _, rfl, _, rfl, b, _, -1, _, rfl, rfl, b5, atI_last (by rw [List.length_map, hpl.1]; omega) e1, L, cs, _, _, rfl, rfl, SqL.of ((sm4.trans s5) _ _ hL), atI_at z0 hbr, br, _, rfl, .inr (sqT_same (sm4.trans s5) brow), rfl, flat_ints _, _, rfl, ?_⟩
        rw [if_neg (show ¬ (false = true) by decide), inV_ints]
        have et : (ps.take (i + 1)).filter (closesB rows) = (ps.take i).filter (closesB rows) ++ if closesB rows l = true then [l] else [] := by
          rw [List.take_add_one, hl, List.filter_append]
          show _ ++ List.filter (closesB rows) [l] = _
          by_cases c : closesB rows l = true
          · rw [if_pos c, List.filter_cons_of_pos c, List.filter_nil]
          · rw [if_neg c, List.filter_cons_of_neg c, List.filter_nil]
        have ec : closesB rows l = decide (l.headD 0 ∈ rowAt rows (l.getLastD 0)) := rfl
        rw [ec] at et
        by_cases c : l.headD 0 ∈ rowAt rows (l.getLastD 0)
        · rw [if_pos (decide_eq_true c)] at et
          refine ifT (decide_eq_true c) ⟨_, rfl, zs, hz, Nat.lt_of_lt_of_le (show _ < 1000000 by omega) (big (Nat.le_refl _)), ?_⟩
          have kk : KT G' (upd G' D (.lst (zs ++ [.ref b]))) := KT.upd hz
          refine ⟨same_upd s5 hD, zs ++ [.ref b], upd_same, ?_⟩
          rw [et, List.map_append]
          exact dpAll_app (dpAll_kt kk _ _ (tup_rows _) dz) (.cons (.tup (sqT_kt kk b5) (dp_ints l)) .nil)
        · rw [if_neg (by rw [decide_eq_false c]; decide), List.append_nil] at et
          exact ifF (decide_eq_false c) ⟨s5, zs, hz, by rw [et]; exact dz⟩
      · obtain ⟨s5, zs, hz, dz⟩ := h
        rw [lx, List.take_length] at dz
        have lz := dpAll_len' dz
        have lz2 : zs.length ≤ 40320 := by
          have h2 := List.length_filter_le (closesB rows) ps
          omega
        refine ⟨_, rfl, small (by show 0 ≤ 1000; decide), fun p6 f6 => ?_⟩
        have n6 := same_new f6 (.lst [])
        refine ⟨D, p6, _, rfl, rfl, SqL.of (n6 _ _ hz), SqL.of upd_same, _, rfl, ?_⟩
        have sm6 := (sm4.trans s5).trans n6
        have h6 := n6 _ _ hz
        have hR6 := (s5.trans n6) _ _ hR4
        have dx6 := dpAll_ext (s5.trans n6) dx4
        have dz6 := dpAll_ext n6 dz
        generalize upd G5 p6 (.lst []) = G7 at sm6 h6 hR6 dx6 dz6
        clear n6 f6 hz dz s5 hD hR4 dx4
        generalize hqs : ps.filter (closesB rows) = qs at lz dz6
        have memq : ∀ l, l ∈ qs ↔ PathN rows k l ∧ closes rows l := fun l => by
          rw [← hqs, List.mem_filter, mem l]
          constructor
          · rintro ⟨h1, h2⟩
            exact ⟨h1, (closes_iff (by rw [h1.1]; omega)).mp h2⟩
          · rintro ⟨h1, h2⟩
            exact ⟨h1, (closes_iff (by rw [h1.1]; omega)).mpr h2⟩
        cases hzs : zs with
        | cons z0 zr =>
          have lzp : 0 < zs.length := by rw [hzs]; simp
          refine ifT rfl ⟨_, rfl, D, zs, qs, rfl, SqL.of h6, dz6, by omega, fun l hl m hm => by rw [((memq l).mp hl).1.1, ((memq m).mp hm).1.1], fun i x l hx hl least => ⟨small (by show 2 ≤ 1000; decide), fun p7 f7 => ?_⟩⟩
          have n7 := same_new f7 (.tup [.str "ring", x])
          obtain ⟨dl, hdl, hdx⟩ := dpAll_get' dz6 hx
          rw [List.getElem?_map, hl] at hdl
          cases hdl
          have hq1 := (memq l).mp (List.mem_of_getElem? hl)
          refine q (.ref p7) (.tuple [.str "ring", .tuple (l.map .int)]) _ (sm6.trans n7) (.tup (SqT.of upd_same) (.cons (.str _) (.cons (dp_same n7 hdx) .nil))) (.inl ⟨l, rfl, ring_iff.mpr ⟨by rw [hq1.1.1]; exact hq1.1, hq1.2⟩, fun ms hms => ?_⟩)
          have hk := low ms hms
          have l1k := hq1.1.1
          by_cases ekk : ms.length = k
          · obtain ⟨i1, i2⟩ := ring_iff.mp hms
            rw [ekk] at i1
            exact .inr ⟨by omega, least ms ((memq ms).mpr ⟨i1, i2⟩)⟩
          · exact .inl (by omega)
        | nil =>
          have eqs : qs = [] := List.eq_nil_of_length_eq_zero (by rw [← lz, hzs]; rfl)
          have low' : ∀ ns, RingP rows ns → k + 1 ≤ ns.length := fun ns h => by
            have h1 := low ns h
            by_cases e : ns.length = k
            · obtain ⟨i1, i2⟩ := ring_iff.mp h
              rw [e] at i1
              have := (memq ns).mpr ⟨i1, i2⟩
              rw [eqs] at this
              cases this
            · omega
          refine ifF rfl ⟨small (by show 0 ≤ 1000; decide), fun M0 fM => ?_⟩
          have nM := same_new fM (.lst [])
          have sm8 := sm6.trans nM
          have hR8 := nM _ _ hR6
          have dx8 := dpAll_ext nM dx6
          have hM8 : (upd G7 M0 (.lst [])) M0 = some (.lst ([] : List V)) := upd_same
          generalize upd G7 M0 (.lst []) = G8 at sm8 hR8 dx8 hM8
          clear nM fM h6 hR6 dx6 dz6 sm6 lz lz2
          refine ⟨_, rfl, R, rfl, ⟨_, SqL.of hR8⟩, ?_⟩
          refine for_list (xs := xs) (fun i σ G' => ∃ (M : Addr) (o5 o6 o7 o8 o9 o10 : Option V) (ys : List V) (nx : List (List Int)), σ = [some (.ref L), some (.ref R), some (.int (0 + (j : Int))), some (.ref D), some (.ref M), o5, o6, o7, o8, o9, o10] ∧ Same G8 G' ∧ G' M = some (.lst ys) ∧ DpAll K G' ys (nx.map rowL) ∧ nx.length ≤ i * (8 - k) ∧ ∀ l, l ∈ nx ↔ ∃ r ∈ ps.take i, ∃ z x, r.getLast? = some z ∧ x ∈ rowAt rows z ∧ x ∉ r ∧ l = r ++ [x])
            ⟨M0, _, _, _, _, _, _, [], [], rfl, Same.refl _, hM8, .nil, Nat.zero_le _, fun l => ⟨fun z => (by cases z), fun ⟨r, hr', _⟩ => (by simp at hr')⟩⟩ (fun i σ G' _ h => by obtain ⟨_, _, _, _, _, _, _, _, _, _, s1, _⟩ := h; exact SqL.of (s1 _ _ hR8)) (fun i v σ G' hv h => ?_) (fun σ G' h => ?_)
          · obtain ⟨M, o5, o6, o7, o8, o9, o10, ys, nx, rfl, s1, hM, dy, lnx, memn⟩ := h
            obtain ⟨l, b, hl, rfl, bat⟩ := rows_at dx8 hv
            have hpl := (mem l).mp (List.mem_of_getElem? hl)
            obtain ⟨e0, e1, z0, z1, elast⟩ := endsOf k1 hpl
            obtain ⟨br, hbr, brow⟩ := rowOf z0 z1
            have nd := rowNd z0 z1
            have b9 := sqT_same s1 bat
            have hi : i < ps.length := (List.getElem?_eq_some_iff.mp hl).1
            have ly := dpAll_len' dy
            generalize hz : l.getLastD 0 = z at e1 z0 z1 elast hbr brow nd
            generalize hrz : rowAt rows z = rz at brow nd
            have rgz : ∀ n ∈ rz, 0 ≤ n ∧ n < (rows.length : Int) := fun n hn => row_rng hrw (a := z) (by rw [hrz]; exact hn)
            have lrz := nodup_len rows.length rz nd rgz
            refine ⟨_, rfl, _, rfl, _, rfl, _, rfl, b, _, -1, _, rfl, rfl, b9, atI_last (by rw [List.length_map, hpl.1]; omega) e1, L, cs, _, _, rfl, rfl, SqL.of ((sm8.trans s1) _ _ hL), atI_at z0 hbr, br, rfl, ⟨_, sqT_same (sm8.trans s1) brow⟩, fun D hD => ?_⟩
            refine lc_tup (xs := rz.map V.int) (fun j G9 => Same G' G9 ∧ ∃ ws : List V, G9 D = some (.lst ws) ∧ DpAll K G9 ws ((((rz.take j).filter fun n => !decide (n ∈ l)).map fun n => l ++ [n]).map rowL)) ⟨same_new hD _, [], upd_same, .nil⟩ (fun j G9 _ h => sqT_same ((sm8.trans s1).trans h.1) brow) (fun j v G9 hv h => ?_) (fun G9 h => ?_)
            · obtain ⟨s9, ws, hw, dw⟩ := h
              obtain ⟨n, hn, rfl⟩ := ints_get hv
              have b10 := sqT_same s9 b9
              have lw : ws.length ≤ 8 := by
                have := dpAll_len' dw
                rw [List.length_map] at this
                have h2 := List.length_filter_le (fun n => !decide (n ∈ l)) (rz.take j)
                have h3 := List.length_take_le' j rz
                omega
              refine ⟨rfl, _, rfl, _, rfl, b, _, rfl, .inr b10, rfl, flat_ints l, _, rfl, ?_⟩
              rw [if_pos rfl, inV_ints]
              have et : rz.take (j + 1) = rz.take j ++ [n] := by rw [List.take_add_one, hn]; rfl
              rw [et, List.filter_append]
              by_cases c : n ∈ l
              · rw [decide_eq_true c, List.filter_cons_of_neg (by rw [decide_eq_true c]; decide), List.filter_nil, List.append_nil]
                exact ifF rfl ⟨s9, ws, hw, dw⟩
              · rw [decide_eq_false c, List.filter_cons_of_pos (by rw [decide_eq_false c]; rfl), List.filter_nil]
                refine ifT rfl ⟨_, rfl, _, rfl, small (by show 1 ≤ 1000; decide), fun p hp => ?_⟩
                have n10 := same_new hp (.tup [.int n])
                refine catA_run (sqT_same n10 b10) (SqT.of upd_same) (by rw [List.length_map, hpl.1]; show k + 1 ≤ 1000; omega) fun r11 G11 s11 h11 => ?_
                have sA := n10.trans s11
                have kk : KT G11 (upd G11 D (.lst (ws ++ [.ref r11]))) := KT.upd (sA _ _ hw)
                refine ⟨ws, sA _ _ hw, Nat.lt_of_lt_of_le (show _ < 1000 by omega) (small (Nat.le_refl _)), same_upd (s9.trans sA) hD, ws ++ [.ref r11], upd_same, ?_⟩
                rw [List.map_append, List.map_append]
                refine dpAll_app (dpAll_kt kk _ _ (tup_rows _) (dpAll_ext sA dw)) (.cons (.tup (sqT_kt kk h11) ?_) .nil)
                have := dp_ints (K := K) (H := upd G11 D (.lst (ws ++ [.ref r11]))) (l ++ [n])
                rw [List.map_append] at this
                exact this
            · obtain ⟨s9, ws, hw, dw⟩ := h
              rw [List.length_map, List.take_length] at dw
              have fl := fil_len hrw n8 hpl nd rgz
              have lw := dpAll_len' dw
              rw [List.length_map] at lw
              have lall : nx.length + (rz.filter fun n => !decide (n ∈ l)).length ≤ (i + 1) * (8 - k) := by
                rw [Nat.add_mul, Nat.one_mul]
                omega
              have lall2 : (i + 1) * (8 - k) ≤ 40320 := Nat.le_trans (Nat.le_trans (Nat.mul_le_mul_right _ (show i + 1 ≤ bndR k by omega)) (Nat.le_refl (bndR (k + 1)))) (bndR_le (k + 1) (by omega))
              refine ⟨M, D, _, _, rfl, rfl, s9 _ _ hM, hw, big (by omega), fun M2 f2 => ?_⟩
              have n12 := same_new f2 (.lst (ys ++ ws))
              refine ⟨M2, _, _, _, _, _, _, ys ++ ws, nx ++ (rz.filter fun n => !decide (n ∈ l)).map fun n => l ++ [n], rfl, s1.trans (s9.trans n12), upd_same, ?_, by rw [List.length_append, List.length_map]; exact lall, fun l' => ?_⟩
              · rw [List.map_append]
                exact dpAll_app (dpAll_ext (s9.trans n12) dy) (dpAll_ext n12 dw)
              · rw [List.mem_append, memn l', List.take_add_one, hl]
                constructor
                · rintro (⟨r, hr1, hr2⟩ | hm)
                  · exact ⟨r, List.mem_append_left _ hr1, hr2⟩
                  · obtain ⟨n, hn, rfl⟩ := List.mem_map.mp hm
                    obtain ⟨n1, n2⟩ := List.mem_filter.mp hn
                    refine ⟨l, List.mem_append_right _ (by simp), z, n, elast, by rw [hrz]; exact n1, ?_, rfl⟩
                    simpa using n2
                · rintro ⟨r, hr1, z', x', h1, h2, h3, rfl⟩
                  rcases List.mem_append.mp hr1 with hr1 | hr1
                  · exact .inl ⟨r, hr1, z', x', h1, h2, h3, rfl⟩
                  · have er : r = l := by simpa using hr1
                    subst er
                    rw [elast] at h1
                    cases h1
                    refine .inr (List.mem_map.mpr ⟨x', List.mem_filter.mpr ⟨by rw [← hrz]; exact h2, ?_⟩, rfl⟩)
                    rw [decide_eq_false h3]
                    rfl
          · obtain ⟨M, o5, o6, o7, o8, o9, o10, ys, nx, rfl, s1, hM, dy, lnx, memn⟩ := h
            rw [lx, List.take_length] at memn
            rw [lx] at lnx
            rw [ek]
            refine ⟨_, rfl, M, ys, nx, _, _, _, _, _, _, _, _, _, rfl, sm8.trans s1, hM, dy, Nat.le_trans lnx (Nat.mul_le_mul_right _ lps), fun l => ?_, low'⟩
            rw [memn l, PathN.more hrw (by omega)]
            constructor
            · rintro ⟨r, hr1, z, x, h1⟩
              exact ⟨r, z, x, (mem r).mp hr1, h1⟩
            · rintro ⟨r, z, x, hr1, h1⟩
              exact ⟨r, (mem r).mpr hr1, z, x, h1⟩
    · obtain ⟨R, xs, ps, o2, o3, o4, o5, o6, o7, o8, o9, o10, rfl, sm, hR, dx, lps, mem, low⟩ := h
      refine ⟨L, cs, rows, _, _, _, _, _, _, _, _, _, _, rfl, sm _ _ hL, dpAll_ext sm ceach, hrw, n8, fun ns h => ?_, fun v d H' s' dv rd => q v d H' (sm.trans s') dv rd⟩
      have := low ns h
      have := nodup_len rows.length ns h.2.1 h.1
      omega
end
/-! _law_takes -/
def intL : PyData → List Int
  | .int m => [m]
  | _ => []
def takeZ (tb : PyData → List Int) (z : Str) : List PyData → List Int
  | [_, x] => if z = "take" then intL x else if z = "while" then tb x else []
  | [_, x, y] => if z = "if" then tb x ++ tb y else []
  | _ => []
def takeS (tb : PyData → List Int) : PyData → List Int
  | .tuple (.str z :: ds) => takeZ tb z ds
  | _ => []
def takeN : Nat → PyData → List Int
  | k + 1, .tuple ds => ds.flatMap (takeS (takeN k))
  | _, _ => []
def nthS (chs : List (Int × Int)) (m : Int) : Int := (chs.getD m.toNat (0, 0)).1
theorem takeS_take {tb : PyData → List Int} {g : PyData} {m : Int} : takeS tb (.tuple [.str "take", g, .int m]) = [m] := by
  show (if ("take" : Str) = "take" then intL (.int m) else if ("take" : Str) = "while" then tb (.int m) else []) = [m]
  rw [if_pos rfl]
  rfl
theorem takeS_no {tb : PyData → List Int} {z : Str} {ds : List PyData} (h1 : z ≠ "take") (h2 : z ∉ brL) : takeS tb (.tuple (.str z :: ds)) = [] := by
  have h3 : z ≠ "if" := fun e => h2 (by rw [e]; decide +kernel)
  have h4 : z ≠ "while" := fun e => h2 (by rw [e]; decide +kernel)
  show takeZ tb z ds = []
  match ds with
  | [] => rfl
  | [_] => rfl
  | [_, x] =>
    show (if z = "take" then intL x else if z = "while" then tb x else []) = []
    rw [if_neg h1, if_neg h4]
  | [_, x, y] => exact if_neg h3
  | _ :: _ :: _ :: _ :: _ => rfl
theorem takeS_if {tb : PyData → List Int} {nm x y : PyData} : takeS tb (.tuple [.str "if", nm, x, y]) = tb x ++ tb y := by
  show (if ("if" : Str) = "if" then tb x ++ tb y else []) = _
  exact if_pos rfl
theorem takeS_wh {tb : PyData → List Int} {nm x : PyData} : takeS tb (.tuple [.str "while", nm, x]) = tb x := by
  show (if ("while" : Str) = "take" then intL x else if ("while" : Str) = "while" then tb x else []) = _
  rw [if_neg (by decide +kernel), if_pos rfl]
theorem blk_is {ss ts : List Int} {n : Nat} {x : PyData} (h : lblk ss ts n x = true) : ∃ es, x = .tuple es := by
  cases n with
  | zero => cases x <;> cases h
  | succ n =>
    cases x with
    | tuple es => exact ⟨es, rfl⟩
    | _ => cases h
theorem sendM_app {chs : List (Int × Int)} (a b : List (PyData × List Int)) : sendM chs (a ++ b) = sendM chs a ++ sendM chs b := List.flatMap_append
theorem flS_send {ss ts : List Int} {chs : List (Int × Int)} {fb : PyData → Int → Int → List (PyData × List Int)} {tb : PyData → List Int} {q : Nat} (hf : ∀ (x : PyData) (n b : Int), lblk ss ts q x = true → ∀ k : Int, k ∈ sendM chs (fb x n b) ↔ ∃ m ∈ tb x, k = nthS chs m) {d : PyData} {n b : Int} (h : lstB ss ts (lblk ss ts q) d = true) (k : Int) : k ∈ sendM chs (flS fb d n b) ↔ ∃ m ∈ takeS tb d, k = nthS chs m := by
  have tst : ∀ {nm : PyData} {ns : List Int} {l : List (PyData × List Int)}, sendM chs ((tstD nm, ns) :: l) = sendM chs l := fun {nm ns l} => by
    show tkOf chs (tstD nm, ns) ++ sendM chs l = _
    rw [tkOf_no (z := "test") (ds := [nm]) rfl (by decide +kernel)]
    rfl
  have one : ∀ {r : PyData × List Int}, sendM chs [r] = tkOf chs r := fun {r} => by
    show tkOf chs r ++ [] = _
    rw [List.append_nil]
  rcases st_cases h with ⟨hd, nb, z, ds, rfl, hz⟩ | ⟨nm, x, y, rfl, hn, hx, hy, hb⟩ | ⟨nm, x, rfl, hn, hx, hb⟩
  · rw [flS_deed hz, one]
    by_cases c : z = "take"
    · subst c
      obtain ⟨g, m, rfl, hm⟩ := deed_take hd
      have e : cpD (.tuple (.str "take" :: [g, .int m])) = .tuple (.str "take" :: [g, .int m]) := by
        show (if ("take" : Str) ∈ handL then PyData.tuple (.str "take" :: ([g, .int m] ++ [.str "copy"])) else .tuple (.str "take" :: [g, .int m])) = _
        exact if_neg (by decide +kernel)
      rw [e, takeS_take]
      have et : tkOf chs (PyData.tuple (.str "take" :: [g, .int m]), [b]) = [nthS chs m] := by
        show (if ("take" : Str) = "take" then [(chs.getD m.toNat (0, 0)).1] else []) = _
        exact if_pos rfl
      rw [et]
      simp
    · rw [takeS_no c hz]
      have : tkOf chs (cpD (.tuple (.str z :: ds)), [b]) = [] := by
        by_cases c2 : z ∈ handL
        · have e : cpD (.tuple (.str z :: ds)) = .tuple (.str z :: (ds ++ [.str "copy"])) := if_pos c2
          rw [e]
          exact tkOf_no (z := z) (ds := ds ++ [.str "copy"]) rfl c
        · have e : cpD (.tuple (.str z :: ds)) = .tuple (.str z :: ds) := if_neg c2
          rw [e]
          exact tkOf_no (z := z) (ds := ds) rfl c
      rw [this]
      simp
  · rw [flS_if, takeS_if]
    unfold ifR
    rw [tst, sendM_app, List.mem_append, hf x _ _ hx, hf y _ _ hy]
    constructor
    · rintro (⟨m, h1, h2⟩ | ⟨m, h1, h2⟩)
      · exact ⟨m, List.mem_append_left _ h1, h2⟩
      · exact ⟨m, List.mem_append_right _ h1, h2⟩
    · rintro ⟨m, h1, h2⟩
      rcases List.mem_append.mp h1 with h1 | h1
      · exact .inl ⟨m, h1, h2⟩
      · exact .inr ⟨m, h1, h2⟩
  · obtain ⟨es, rfl⟩ := blk_is hx
    rw [flS_wh, takeS_wh]
    unfold whR
    rw [tst, hf _ _ _ hx]
theorem flN_send {ss ts : List Int} {chs : List (Int × Int)} : ∀ (q : Nat) {d : PyData} {n b : Int}, lblk ss ts q d = true → ∀ k : Int, k ∈ sendM chs (flN q d n b) ↔ ∃ m ∈ takeN q d, k = nthS chs m
  | 0, d, n, b, h, k => by cases d <;> cases h
  | q + 1, d, n, b, h, k => by
    cases d with
    | tuple ds =>
      have hl := and3 (show (decide (ds.length ≤ 12) && ds.all (lstB ss ts (lblk ss ts q))) = true from h)
      have each : ∀ (i : Nat) (hi : i < ds.length) (n b k : Int), k ∈ sendM chs (flS (flN q) ds[i] n b) ↔ ∃ m ∈ takeS (takeN q) ds[i], k = nthS chs m := fun i hi n b k => flS_send (tb := takeN q) (fun x n b hx k => flN_send q hx k) (List.all_eq_true.mp hl.2 _ (List.getElem_mem hi)) k
      show k ∈ sendM chs (flP (flS (flN q)) (manyS (manyN q)) ds n b ds.length) ↔ ∃ m ∈ ds.flatMap (takeS (takeN q)), k = nthS chs m
      constructor
      · intro hk
        obtain ⟨r, hr, hk⟩ := List.mem_flatMap.mp hk
        obtain ⟨i, hi, hr⟩ := List.mem_flatMap.mp hr
        have hi := List.mem_range.mp hi
        rw [List.getD_eq_getElem?_getD, List.getElem?_eq_getElem hi] at hr
        obtain ⟨m, h1, h2⟩ := (each i hi _ _ k).mp (List.mem_flatMap.mpr ⟨r, hr, hk⟩)
        exact ⟨m, List.mem_flatMap.mpr ⟨_, List.getElem_mem hi, h1⟩, h2⟩
      · rintro ⟨m, hm, e⟩
        obtain ⟨d, hd, h1⟩ := List.mem_flatMap.mp hm
        obtain ⟨i, hi, rfl⟩ := List.getElem_of_mem hd
        obtain ⟨r, hr, hk⟩ := List.mem_flatMap.mp ((each i hi (n + (sumM (manyS (manyN q)) (ds.take i) : Nat)) (if i + 1 < ds.length then n + (sumM (manyS (manyN q)) (ds.take (i + 1)) : Nat) else b) k).mpr ⟨m, h1, e⟩)
        refine List.mem_flatMap.mpr ⟨r, List.mem_flatMap.mpr ⟨i, List.mem_range.mpr hi, ?_⟩, hk⟩
        rw [List.getD_eq_getElem?_getD, List.getElem?_eq_getElem hi]
        exact hr
    | _ => cases h
theorem takeN_rng {ss ts : List Int} {n0 : Nat} (hts : ∀ m ∈ ts, 0 ≤ m ∧ m < (n0 : Int)) : ∀ (q : Nat) {d : PyData}, lblk ss ts q d = true → ∀ m ∈ takeN q d, 0 ≤ m ∧ m < (n0 : Int)
  | 0, d, h, m, hm => by cases d <;> cases h
  | q + 1, d, h, m, hm => by
    cases d with
    | tuple ds =>
      have hl := and3 (show (decide (ds.length ≤ 12) && ds.all (lstB ss ts (lblk ss ts q))) = true from h)
      obtain ⟨e, he, hm⟩ := List.mem_flatMap.mp (show m ∈ ds.flatMap (takeS (takeN q)) from hm)
      rcases st_cases (List.all_eq_true.mp hl.2 e he) with ⟨hd, nb, z, ds, rfl, hz⟩ | ⟨nm, x, y, rfl, hn, hx, hy, hb⟩ | ⟨nm, x, rfl, hn, hx, hb⟩
      · by_cases c : z = "take"
        · subst c
          obtain ⟨g, m', rfl, hm'⟩ := deed_take hd
          rw [takeS_take] at hm
          rw [List.mem_singleton.mp hm]
          exact hts m' hm'
        · rw [takeS_no c hz] at hm
          cases hm
      · rw [takeS_if] at hm
        rcases List.mem_append.mp hm with hm | hm
        · exact takeN_rng hts q hx m hm
        · exact takeN_rng hts q hy m hm
      · rw [takeS_wh] at hm
        exact takeN_rng hts q hx m hm
    | _ => cases h
def szL : List (Nat × PyData) → Nat
  | [] => 0
  | p :: l => (2 * manyN p.1 p.2 + 1) + szL l
def cntL : List (Nat × PyData) → Nat
  | [] => 0
  | p :: l => manyN p.1 p.2 + cntL l
theorem szL_app : ∀ (a b : List (Nat × PyData)), szL (a ++ b) = szL a + szL b
  | [], b => by show szL b = 0 + szL b; omega
  | p :: a, b => by
    show (2 * manyN p.1 p.2 + 1) + szL (a ++ b) = ((2 * manyN p.1 p.2 + 1) + szL a) + szL b
    rw [szL_app a b]
    omega
theorem cntL_app : ∀ (a b : List (Nat × PyData)), cntL (a ++ b) = cntL a + cntL b
  | [], b => by show cntL b = 0 + cntL b; omega
  | p :: a, b => by
    show manyN p.1 p.2 + cntL (a ++ b) = (manyN p.1 p.2 + cntL a) + cntL b
    rw [cntL_app a b]
    omega
theorem szL_len : ∀ l : List (Nat × PyData), l.length ≤ szL l
  | [] => Nat.le_refl _
  | p :: l => by
    have := szL_len l
    show l.length + 1 ≤ (2 * manyN p.1 p.2 + 1) + szL l
    omega
def InT (ls : List (Nat × PyData)) (k : Int) : Prop := ∃ p ∈ ls, k ∈ takeN p.1 p.2
theorem InT_app {a b : List (Nat × PyData)} {k : Int} : InT (a ++ b) k ↔ InT a k ∨ InT b k := by
  constructor
  · rintro ⟨p, hp, h⟩
    rcases List.mem_append.mp hp with hp | hp
    · exact .inl ⟨p, hp, h⟩
    · exact .inr ⟨p, hp, h⟩
  · rintro (⟨p, hp, h⟩ | ⟨p, hp, h⟩)
    · exact ⟨p, List.mem_append_left _ hp, h⟩
    · exact ⟨p, List.mem_append_right _ hp, h⟩
section
open PySem.Spec PyProof.Rows LamX
variable {P : Program} {w : World} {K : PySem.W.Frag} {mg : Str → Option Value} {base : Heap} {f : Addr} {fd : FuncData}
def spLTakes (K : PySem.W.Frag) : Sp := fun vs H Q _ => ∃ (x : V) (d : PyData) (ss ts : List Int), vs = [x] ∧ Dp K H x d ∧ lblk ss ts 4 d = true ∧ manyN 4 d ≤ 40 ∧ ∀ (R : Addr) (ms : List Int) (H' : Hp), Same H H' → H' R = some (.lst (ms.map V.int)) → ms.length ≤ 40 → (∀ k : Int, k ∈ ms ↔ k ∈ takeN 4 d) → Q (.ref R) H'
abbrev ltN : List Str := ["_law_block_here", "_law_found", "_law_line", "_law_one"]
theorem scLTakes : FnScope ltN ["_law_block_here"] (defScope sLTakes) := ⟨rfl, rfl, rfl, by decide +kernel, rfl, by decide +kernel, by decide +kernel⟩
structure LtI (K : PySem.W.Frag) (ss ts : List Int) (H G : Hp) (F Ln : Addr) (ms : List Int) (vs : List V) (ls : List (Nat × PyData)) : Prop where
  sm : Same H G
  nF : H F = none
  nL : H Ln = none
  ne : F ≠ Ln
  gF : G F = some (.lst (ms.map V.int))
  gL : G Ln = some (.lst vs)
  dp : DpAll K H vs (ls.map (·.2))
  ok : ∀ p ∈ ls, lblk ss ts p.1 p.2 = true
set_option maxHeartbeats 1000000 in
theorem ok_ltakes {k : Nat} (F0 : Fun K "_law_takes" "_law_takes" sLTakes f fd) (T : Free mg) : FnOk P w K mg base CX0 (k + 1) f fd ["_law_block_here"] (spLTakes K) := by
  refine F0.ok scLTakes (fun vs H Q E h => ?_) (fun cdv A outer s H vs Q E hr h => ?_)
  · obtain ⟨x, d, ss, ts, rfl, _⟩ := h
    rfl
  obtain ⟨x, d, ss, ts, rfl, hx, hl, h40, q⟩ := h
  refine ⟨_, pss_cons (ps_par (i := 1) (j := 2) rfl scLTakes.nd rfl rfl (by decide) rfl rfl (pa_cons (pe_lst pa_nil) (pa_cons (pe_lst (pa_cons (pv 0) pa_nil)) pa_nil)) rfl)
    (pss_cons (ps_while PassesOwn.never (pt_cmpR (op_neLE hr.units) (pv 2) (pe_lst pa_nil) (nomark _))
      (pss_one (ps_for PassesOwn.never rfl (pi_tup (pe_bm0 PySem.F.plainAttrs_list PySem.F.slot_list_pop PySem.F.type_list_pop mt_pop (pv 2))) (pg_name (i := 3) scLTakes.nd rfl (.inl rfl))
        (pss_one (ps_if (pt_cmpR op_eq (pe_ix ix_tup (pv 3) pe_int (fun _ _ => rfl)) pe_str (nomark _))
          (pss_one (ps_expr (pe_bm PySem.F.plainAttrs_list PySem.F.slot_list_append PySem.F.type_list_append mt_append (pv 1) (pa_cons (pe_ix ix_tup (pv 3) pe_int (fun _ _ => rfl)) pa_nil))))
          (pss_one (ps_if (pt_cmpR op_in_seq (pe_ix ix_tup (pv 3) pe_int (fun _ _ => rfl)) (pe_tup (pa_cons pe_str (pa_cons pe_str pa_nil))) rfl)
            (pss_one (ps_set (i := 2) scLTakes.nd rfl (.inl rfl) (pe_op op_cat (pv 2) (pe_callTy call_list_of rfl T.list (by decide +kernel) (pa_cons (pe_slice sl_tupA (pv 3) (po_some pe_int) po_none) pa_nil)))))
            pss_nil)))))))
    (pss_one (ps_ret (pv 1)))), ?_⟩
  refine ⟨small (Nat.zero_le _), fun F hF => ⟨_, rfl, small (by show 1 ≤ 1000; decide), fun Ln hLn => ⟨_, _, rfl, ?_⟩⟩⟩
  have s1 := same_new hF (.lst [])
  have s2 := same_new hLn (.lst [x])
  have neFL : F ≠ Ln := fun e => by
    rw [← e, upd_same] at hLn
    cases hLn
  have ok0 : ∀ p ∈ [((4 : Nat), d)], lblk ss ts p.1 p.2 = true := fun p hp => by
    rw [List.mem_singleton.mp hp]
    exact hl
  refine ⟨fun m σ G => ∃ (F Ln : Addr) (ms : List Int) (vs : List V) (ls : List (Nat × PyData)) (o3 : Option V), m = szL ls ∧ σ = [some x, some (.ref F), some (.ref Ln), o3] ∧ LtI K ss ts H G F Ln ms vs ls ∧ szL ls ≤ 81 ∧ ms.length + cntL ls ≤ 40 ∧ ∀ k : Int, (k ∈ ms ∨ InT ls k) ↔ k ∈ takeN 4 d,
    ⟨_, F, Ln, [], [x], [(4, d)], _, rfl, rfl, ⟨s1.trans s2, hF, none_of_same s1 hLn, neFL, s2 _ _ upd_same, upd_same, .cons hx .nil, ok0⟩, (by show (2 * manyN 4 d + 1) + 0 ≤ 81; omega), (by show 0 + (manyN 4 d + 0) ≤ 40; omega), fun k => ⟨fun h => ?_, fun h => .inr ⟨(4, d), List.mem_cons_self, h⟩⟩⟩, ?_⟩
  · rcases h with h | ⟨p, hp, h⟩
    · cases h
    · rw [List.mem_singleton.mp hp] at h
      exact h
  clear s1 s2 hF hLn neFL ok0
  rintro m σ G ⟨F, Ln, ms, vs, ls, o3, rfl, rfl, I, c81, c40, mem⟩
  refine ⟨_, rfl, small (Nat.zero_le _), fun p6 f6 => ?_⟩
  have n6 := same_new f6 (.lst [])
  have gL6 := n6 _ _ I.gL
  refine ⟨Ln, p6, _, rfl, rfl, SqL.of gL6, SqL.of upd_same, _, rfl, ?_⟩
  have lv := dpAll_len I.dp
  rw [List.length_map] at lv
  rcases List.eq_nil_or_concat ls with rfl | ⟨ls', p, rfl⟩
  · have ev : vs = [] := List.eq_nil_of_length_eq_zero lv
    subst ev
    refine ifF rfl ⟨_, rfl, q F ms _ (I.sm.trans n6) (n6 _ _ I.gF) (by have : cntL [] = 0 := rfl; omega) fun k => ⟨fun h => (mem k).mp (.inl h), fun h => ?_⟩⟩
    rcases (mem k).mpr h with h | ⟨p, hp, _⟩
    · exact h
    · cases hp
  · rw [List.concat_eq_append] at *
    have dpI := I.dp
    rw [List.map_append] at dpI
    obtain ⟨vs', v, rfl, d1, d2⟩ := dpAll_split dpI
    have okp := I.ok p (by simp)
    obtain ⟨es, ees⟩ := blk_is okp
    obtain ⟨pn, pd⟩ := p
    have ees : pd = .tuple es := ees
    subst ees
    obtain ⟨n, rfl⟩ : ∃ n, pn = n + 1 := by
      cases pn with
      | zero => cases okp
      | succ n => exact ⟨n, rfl⟩
    have hes := and3 (show (decide (es.length ≤ 12) && es.all (lstB ss ts (lblk ss ts n))) = true from okp)
    have d2 : Dp K H v (.tuple es) := d2
    cases d2 with
    | @tup ta xs _ tat teach =>
    have lx := dpAll_len teach
    refine ifT (by cases vs' <;> rfl) ⟨fun σ' G' => ∃ m', m' < szL (ls' ++ [(n + 1, .tuple es)]) ∧ ∃ (F Ln : Addr) (ms : List Int) (vs : List V) (ls : List (Nat × PyData)) (o3 : Option V), m' = szL ls ∧ σ' = [some x, some (.ref F), some (.ref Ln), o3] ∧ LtI K ss ts H G' F Ln ms vs ls ∧ szL ls ≤ 81 ∧ ms.length + cntL ls ≤ 40 ∧ ∀ k : Int, (k ∈ ms ∨ InT ls k) ↔ k ∈ takeN 4 d, fun σ' G' h => h, ?_⟩
    refine ⟨_, rfl, .inl ⟨rfl, _, SqL.of gL6⟩, Ln, _, .ref ta, rfl, rfl, gL6, by rw [List.length_append]; simp, ta, rfl, ⟨xs, ?_⟩, ?_⟩
    · exact sqT_same (same_upd2 (I.sm.trans n6) I.nL) tat
    have dl : (vs' ++ [V.ref ta]).dropLast = vs' := List.dropLast_concat
    rw [dl]
    have sm0 : Same H (upd (upd G p6 (.lst [])) Ln (.lst vs')) := same_upd2 (I.sm.trans n6) I.nL
    have gF0 : upd (upd G p6 (.lst [])) Ln (.lst vs') F = some (.lst (ms.map V.int)) := by
      rw [upd_ne I.ne]
      exact n6 _ _ I.gF
    have ok' : ∀ p ∈ ls', lblk ss ts p.1 p.2 = true := fun p hp => I.ok p (List.mem_append_left _ hp)
    have c40' : ms.length + cntL ls' + manyN (n + 1) (.tuple es) ≤ 40 := by
      rw [cntL_app] at c40
      have : cntL [((n + 1 : Nat), PyData.tuple es)] = manyN (n + 1) (.tuple es) + 0 := rfl
      omega
    have hsz : szL (ls' ++ [(n + 1, .tuple es)]) = szL ls' + (2 * manyN (n + 1) (.tuple es) + 1) := by
      rw [szL_app]
      rfl
    rw [hsz]
    rw [hsz] at c81
    refine for_tup (xs := xs) (fun i σ G' => ∃ (Ln : Addr) (ms2 : List Int) (vs2 : List V) (ls2 : List (Nat × PyData)) (o3 : Option V), σ = [some x, some (.ref F), some (.ref Ln), o3] ∧ LtI K ss ts H G' F Ln ms2 vs2 ls2 ∧ szL ls2 ≤ szL ls' + 2 * sumM (manyS (manyN n)) (es.take i) ∧ ms2.length + cntL ls2 ≤ ms.length + cntL ls' + sumM (manyS (manyN n)) (es.take i) ∧ ∀ k : Int, (k ∈ ms2 ∨ InT ls2 k) ↔ ((k ∈ ms ∨ InT ls' k) ∨ k ∈ (es.take i).flatMap (takeS (takeN n))))
      ⟨Ln, ms, vs', ls', _, rfl, ⟨sm0, I.nF, I.nL, I.ne, gF0, upd_same, d1, ok'⟩, by omega, by omega, fun k => ⟨fun h => .inl h, fun h => h.elim id fun z => by cases z⟩⟩ (fun i σ G' _ h => by obtain ⟨_, _, _, _, _, _, J, _⟩ := h; exact sqT_same J.sm tat) (fun i sv σ G' hv h => ?_) (fun σ G' h => ?_)
    · obtain ⟨L2, ms2, vs2, ls2, o3', rfl, J, hs, hc, hm⟩ := h
      obtain ⟨d', hd, hdv⟩ := dpAll_get' teach hv
      have hst := List.all_eq_true.mp hes.2 d' (List.mem_of_getElem? hd)
      have sle : sumM (manyS (manyN n)) (es.take (i + 1)) ≤ manyN (n + 1) (.tuple es) := sumM_takes es (i + 1)
      have ssn : sumM (manyS (manyN n)) (es.take (i + 1)) = sumM (manyS (manyN n)) (es.take i) + manyS (manyN n) d' := by rw [take_more hd, sumM_snoc]
      have fsn : ∀ k : Int, k ∈ (es.take (i + 1)).flatMap (takeS (takeN n)) ↔ (k ∈ (es.take i).flatMap (takeS (takeN n)) ∨ k ∈ takeS (takeN n) d') := fun k => by
        rw [take_more hd, List.flatMap_append, List.mem_append, List.flatMap_cons, List.flatMap_nil, List.append_nil]
      have key : ∃ z ds, d' = .tuple (.str z :: ds) ∧ ((z ∉ brL ∧ deedD ss ts (.tuple (.str z :: ds)) = true ∧ manyS (manyN n) d' = 1) ∨ (z ∈ brL ∧ z ≠ "take" ∧ ∃ nm as, ds = nm :: as ∧ as.length ≤ 2 ∧ (∀ a ∈ as, lblk ss ts n a = true) ∧ szL (as.map fun a => (n, a)) ≤ 2 * manyS (manyN n) d' ∧ cntL (as.map fun a => (n, a)) ≤ manyS (manyN n) d' ∧ ∀ k : Int, InT (as.map fun a => (n, a)) k ↔ k ∈ takeS (takeN n) d')) := by
        rcases st_cases hst with ⟨h1, nb, z, ds, rfl, hz⟩ | ⟨nm, a, b, rfl, hn, ha, hb, br⟩ | ⟨nm, a, rfl, hn, ha, br⟩
        · exact ⟨z, ds, rfl, .inl ⟨hz, h1, manyS_deed nb⟩⟩
        · refine ⟨_, _, rfl, .inr ⟨by decide +kernel, by decide +kernel, nm, [a, b], rfl, Nat.le_refl 2, fun c hc => ?_, ?_, ?_, fun k => ?_⟩⟩
          · simp only [List.mem_cons, List.not_mem_nil, or_false] at hc
            rcases hc with rfl | rfl
            · exact ha
            · exact hb
          · rw [manyS_if br]
            show (2 * manyN n a + 1) + ((2 * manyN n b + 1) + 0) ≤ _
            omega
          · rw [manyS_if br]
            show manyN n a + (manyN n b + 0) ≤ _
            omega
          · rw [takeS_if, List.mem_append]
            constructor
            · rintro ⟨p, hp, h⟩
              simp only [List.map_cons, List.map_nil, List.mem_cons, List.not_mem_nil, or_false] at hp
              rcases hp with rfl | rfl
              · exact .inl h
              · exact .inr h
            · rintro (h | h)
              · exact ⟨(n, a), by simp, h⟩
              · exact ⟨(n, b), by simp, h⟩
        · refine ⟨_, _, rfl, .inr ⟨by decide +kernel, by decide +kernel, nm, [a], rfl, by show 1 ≤ 2; decide, fun c hc => ?_, ?_, ?_, fun k => ?_⟩⟩
          · rw [List.mem_singleton.mp hc]
            exact ha
          · rw [manyS_wh br]
            show (2 * manyN n a + 1) + 0 ≤ _
            omega
          · rw [manyS_wh br]
            show manyN n a + 0 ≤ _
            omega
          · rw [takeS_wh]
            constructor
            · rintro ⟨p, hp, h⟩
              rw [List.map_cons, List.map_nil] at hp
              rw [List.mem_singleton.mp hp] at h
              exact h
            · intro h
              exact ⟨(n, a), by simp, h⟩
      obtain ⟨z, ds, rfl, kind⟩ := key
      cases hdv with
      | @tup da zs _ dat deach =>
      cases deach with
      | @cons u us _ _ e1 e2 =>
      cases e1
      have dat' := sqT_same J.sm dat
      refine ⟨_, rfl, da, _, 0, _, rfl, rfl, dat', atI_at (by decide) rfl, rfl, _, rfl, ?_⟩
      rcases kind with ⟨hz, hdd, h1⟩ | ⟨hz, nt, nm, as, rfl, l2, oka, sza, cna, ina⟩
      · by_cases c : z = "take"
        · subst c
          obtain ⟨g, m, rfl, _⟩ := deed_take hdd
          cases e2 with
          | @cons gv _ _ _ j1 j2 =>
          cases j2 with
          | @cons mv _ _ _ j3 j4 =>
          cases j3
          cases j4
          refine ifT (decide_eq_true rfl) ⟨_, rfl, .inl ⟨rfl, _, SqL.of J.gF⟩, _, rfl, da, _, 2, .int m, rfl, rfl, dat', atI_at (by decide) rfl, F, _, _, rfl, rfl, J.gF, ?_, L2, ms2 ++ [m], vs2, ls2, _, rfl, ⟨same_upd2 J.sm J.nF, J.nF, J.nL, J.ne, by rw [upd_same, List.map_append]; rfl, by rw [upd_ne J.ne.symm]; exact J.gL, J.dp, J.ok⟩, by omega, by rw [List.length_append, List.length_singleton]; omega, fun k => ?_⟩
          · rw [List.length_map]
            exact Nat.lt_of_lt_of_le (show _ < 1000 by omega) (small (Nat.le_refl _))
          · rw [fsn k, takeS_take, List.mem_append, ← or_assoc, ← hm k]
            constructor
            · rintro ((h | h) | h)
              · exact .inl (.inl h)
              · exact .inr h
              · exact .inl (.inr h)
            · rintro ((h | h) | h)
              · exact .inl (.inl h)
              · exact .inr h
              · exact .inl (.inr h)
        · refine ifF (by rw [decV]; exact decide_eq_false c) ⟨_, rfl, da, _, 0, _, rfl, rfl, dat', atI_at (by decide) rfl, small (by show 2 ≤ 1000; decide), fun p hp => ⟨p, _, rfl, .inr (SqT.of upd_same), rfl, flat_strs brL, _, rfl, ?_⟩⟩
          have sp := same_new hp (.tup (brL.map V.str))
          rw [if_neg (by decide), show inV (V.str z) [V.str "if", V.str "while"] = decide (z ∈ brL) from inV_strs z brL]
          refine ifF (decide_eq_false hz) ⟨L2, ms2, vs2, ls2, _, rfl, ⟨J.sm.trans sp, J.nF, J.nL, J.ne, sp _ _ J.gF, sp _ _ J.gL, J.dp, J.ok⟩, by omega, by omega, fun k => ?_⟩
          rw [fsn k, takeS_no c hz, ← or_assoc, ← hm k]
          exact ⟨fun h => .inl h, fun h => h.elim id fun z => by cases z⟩
      · refine ifF (by rw [decV]; exact decide_eq_false nt) ⟨_, rfl, da, _, 0, _, rfl, rfl, dat', atI_at (by decide) rfl, small (by show 2 ≤ 1000; decide), fun p hp => ⟨p, _, rfl, .inr (SqT.of upd_same), rfl, flat_strs brL, _, rfl, ?_⟩⟩
        have sp := same_new hp (.tup (brL.map V.str))
        rw [if_neg (by decide), show inV (V.str z) [V.str "if", V.str "while"] = decide (z ∈ brL) from inV_strs z brL]
        cases e2 with
        | @cons nv ws _ _ j1 j2 =>
        have lws := dpAll_len j2
        refine ifT (decide_eq_true hz) ⟨_, rfl, _, rfl, _, rfl, noP (slA_run (sqT_same sp dat') fun r G1 s1 hr1 => ?_)⟩
        rw [cut_from0 (by decide)] at hr1
        have hr1 : SqT K G1 r ws := hr1
        refine ⟨r, ws, rfl, .inr hr1, fun p2 q2 => ?_⟩
        have s2 := same_new q2 (.lst ws)
        have sA := sp.trans (s1.trans s2)
        have lv2 := dpAll_len J.dp
        rw [List.length_map] at lv2
        have lls := szL_len ls2
        refine ⟨L2, p2, vs2, ws, rfl, rfl, sA _ _ J.gL, upd_same, ?_, fun p3 q3 => ?_⟩
        · exact small (by omega)
        have s3 := same_new q3 (.lst (vs2 ++ ws))
        have sB := sA.trans s3
        have n3 : H p3 = none := none_of_same (J.sm.trans sA) q3
        refine ⟨p3, ms2, vs2 ++ ws, ls2 ++ as.map (fun a => (n, a)), _, rfl, ⟨J.sm.trans sB, J.nF, n3, fun e => ?_, sB _ _ J.gF, upd_same, ?_, fun p hp => ?_⟩, by rw [szL_app]; omega, by rw [cntL_app]; omega, fun k => ?_⟩
        · rw [← e, sA _ _ J.gF] at q3
          cases q3
        · rw [List.map_append, List.map_map]
          refine dpAll_app J.dp ?_
          rw [show (as.map ((·.2) ∘ fun a => ((n : Nat), a))) = as from List.map_id' as]
          exact j2
        · rcases List.mem_append.mp hp with hp | hp
          · exact J.ok p hp
          · obtain ⟨a, ha, rfl⟩ := List.mem_map.mp hp
            exact oka a ha
        · rw [fsn k, InT_app, ina k, ← or_assoc, ← or_assoc, ← hm k]
    · obtain ⟨L2, ms2, vs2, ls2, o3', rfl, J, hs, hc, hm⟩ := h
      rw [lx, List.take_length] at hs hc hm
      have e : sumM (manyS (manyN n)) es = manyN (n + 1) (.tuple es) := rfl
      rw [e] at hs hc
      refine ⟨_, by omega, F, L2, ms2, vs2, ls2, _, rfl, rfl, J, by omega, by omega, fun k => ?_⟩
      rw [hm k, ← mem k, InT_app, or_assoc]
      constructor
      · rintro (h | h | h)
        · exact .inl h
        · exact .inr (.inl h)
        · exact .inr (.inr ⟨(n + 1, .tuple es), by simp, h⟩)
      · rintro (h | h | ⟨p, hp, h⟩)
        · exact .inl h
        · exact .inr (.inl h)
        · rw [List.mem_singleton.mp hp] at h
          exact .inr (.inr h)
end
/-- the script, which nobody writes -/
def ScrOk (K : PySem.W.Frag) (H : Hp) (a : Addr) (xs : List V) : Prop := (∃ o, H a = some (.frz o (.lst xs))) ∨
  ∃ (o : Obj) (its : Array Value) (n : Nat), K.lookup a = some o ∧ o.cls = .type "list" ∧ o.dict = none ∧ o.data = .seq its n ∧ its.size ≤ sizeLine ∧ Vals xs its.toList
theorem ScrOk.kt {K : PySem.W.Frag} {H H' : Hp} {a : Addr} {xs : List V} (h : ScrOk K H a xs) (k : KT H H') : ScrOk K H' a xs := by
  rcases h with ⟨o, z⟩ | z
  · exact .inl ⟨o, k _ _ z (fun l q => by cases q)⟩
  · exact .inr z
theorem ScrOk.sq {K : PySem.W.Frag} {H : Hp} {a : Addr} {xs : List V} (h : ScrOk K H a xs) : SqL K H a xs := by
  rcases h with h | h
  · exact .inl (.inr h)
  · exact .inr h
/-! repr, where sys.modules stands in the base: no list and no dict of the law's is it -/
section
variable {X : Cx} {pins : List (Addr × Obj)} {σ : L2.St} {H : Hp} {s : Shared}
def SysB (base : Heap) : Prop := ∃ mm, base.Ns sysModules mm
theorem list_ne_sys (I : Inv X pins σ H s) (hs : SysB X.base) {r : Addr} {us : List V} (h : SqL X.K H r us) : r ≠ sysModules := by
  obtain ⟨mm, o0, es, ep, e0, d0, _⟩ := hs
  have hn := (I.bs _ _ e0).2
  intro e
  rw [e] at h
  rcases h with (z | ⟨o, z⟩) | ⟨o, its, n, hk, hc, hdn, hd, _⟩
  · rw [hn] at z
    cases z
  · rw [hn] at z
    cases z
  · have z := I.mod.kin _ _ hk
    rw [e0] at z
    cases z
    rw [d0] at hd
    cases hd
mutual
theorem Dp.rdS (I : Inv X pins σ H s) (hs : SysB X.base) : ∀ (d : PyData) (v : V) (u : Value), Dp X.K H v d → RelV v u → ∃ as, Reads s.heap u d as ∧ sysModules ∉ as
  | .none, v, u, h, r => by cases h; cases r; exact ⟨_, .none, fun z => nomatch z⟩
  | .bool b, v, u, h, r => by cases h; cases r; exact ⟨_, .bool b, fun z => nomatch z⟩
  | .int i, v, u, h, r => by cases h; obtain ⟨t, rfl⟩ := r; exact ⟨_, .int i t, fun z => nomatch z⟩
  | .str x, v, u, h, r => by cases h; obtain ⟨t, rfl⟩ := r; exact ⟨_, .str x t, fun z => nomatch z⟩
  | .list es, v, u, h, r => by
    cases h with
    | lst at_ each =>
      cases r
      have ne := list_ne_sys I hs at_
      obtain ⟨its, rv, ⟨o, n, ho, hc, _, hd⟩, _⟩ := I.list at_
      obtain ⟨as, hr, hn⟩ := Dp.rdsS I hs es _ its each rv
      refine ⟨_, .list ho hc hd hr, fun z => ?_⟩
      rcases List.mem_cons.mp z with z | z
      · exact ne z.symm
      · exact hn z
  | .tuple es, v, u, h, r => by
    cases h with
    | tup at_ each =>
      cases r
      obtain ⟨its, rv, ⟨o, ho, hc, n, hd⟩, _⟩ := I.tuple at_
      obtain ⟨as, hr, hn⟩ := Dp.rdsS I hs es _ its each rv
      exact ⟨_, .tuple ho hc hd hr, hn⟩
  | .dict kvs, v, u, h, r => by
    cases h with
    | dct at_ =>
      cases r
      obtain ⟨_, _, _, _, _, _, ns, rd⟩ := dct_reads I at_
      exact ⟨_, rd, fun z => by
        have z : sysModules ∈ [_] := z
        exact ns (List.mem_singleton.mp z).symm⟩
theorem Dp.rdsS (I : Inv X pins σ H s) (hs : SysB X.base) : ∀ (ds : List PyData) (vs : List V) (us : List Value), DpAll X.K H vs ds → Vals vs us → ∃ as, ReadsAll s.heap us ds as ∧ sysModules ∉ as
  | [], vs, us, h, r => by cases h; cases r; exact ⟨_, .nil, fun z => nomatch z⟩
  | d :: ds, vs, us, h, r => by
    cases h with
    | cons one more =>
      cases r with
      | cons r1 r2 =>
        obtain ⟨as, q1, n1⟩ := Dp.rdS I hs d _ _ one r1
        obtain ⟨bs, q2, n2⟩ := Dp.rdsS I hs ds _ _ more r2
        refine ⟨_, .cons q1 q2, fun hm => ?_⟩
        rcases List.mem_append.mp hm with hm | hm
        · exact n1 hm
        · exact n2 hm
end
end
theorem call_reprS {X : Cx} (hs : SysB X.base) (hg : X.A.guards = some []) (hu : X.A.units + 80 < cLine) : CallR X (.builtin "repr") (fun xs H Q => ∃ (a : Addr) (d : PyData), xs = [.ref a] ∧ Dp X.K H (.ref a) d ∧ d.showable = true ∧ d.depth ≤ 64 ∧ d.shown.length ≤ sizeLine ∧ Q (.str d.shown) H) := by
  intro pins s σ H xs us Q I r h
  obtain ⟨a, d, rfl, hd, h1, h3, h4, q⟩ := h
  obtain ⟨u, rfl, ru⟩ := vals1 r
  cases ru
  obtain ⟨as, hr, hn⟩ := Dp.rdS I hs d (.ref a) (.ref a) hd rfl
  exact repr_of_reads' hr h1 (fun _ => hn) hg (by omega) (fun _ _ e => e) (fun h' u tk hk => ⟨.str d.shown, H, I.kept hk, ⟨u, rfl⟩, q⟩) h4
theorem call_reprA {X : Cx} (hs : SysB X.base) (hg : X.A.guards = some []) (hu : X.A.units + 80 < cLine) : CallR X (.builtin "repr") (fun xs H Q => ∃ (v : V) (d : PyData), xs = [v] ∧ Dp X.K H v d ∧ d.showable = true ∧ d.depth ≤ 64 ∧ d.shown.length ≤ sizeLine ∧ Q (.str d.shown) H) := by
  intro pins s σ H xs us Q I r h
  obtain ⟨v, d, rfl, hd, h1, h3, h4, q⟩ := h
  have refs : ∀ a : Addr, v = .ref a → wpAny (model X.prog X.w) X.A (call (.builtin "repr") us) (EP X pins σ Q) X.xe s := fun a e => by
    subst e
    exact call_reprS hs hg hu pins s σ H _ us Q I r ⟨a, d, rfl, hd, h1, h3, h4, q⟩
  cases hd with
  | non =>
    obtain ⟨u, rfl, ru⟩ := vals1 r
    cases ru
    exact PySem.P.repr_of_none ⟨.str _, H, I.tok _, ⟨_, rfl⟩, q⟩
  | bl b =>
    obtain ⟨u, rfl, ru⟩ := vals1 r
    cases ru
    exact PySem.P.repr_of_bool ⟨.str _, H, I.tok _, ⟨_, rfl⟩, by simpa only [PyData.shown] using q⟩
  | int i =>
    obtain ⟨u, rfl, t, rfl⟩ := vals1 r
    exact PySem.P.repr_of_int (of_decide_eq_true (by simpa only [PyData.showable] using h1)) ⟨.str _, H, I.tok _, ⟨_, rfl⟩, by simpa only [PyData.shown] using q⟩
  | str x =>
    obtain ⟨u, rfl, t, rfl⟩ := vals1 r
    exact PySem.P.repr_of_str ⟨.str _, H, I.tok _, ⟨_, rfl⟩, by simpa only [PyData.shown] using q⟩ (by simpa only [PyData.shown] using h4)
  | lst _ _ => exact refs _ rfl
  | tup _ _ => exact refs _ rfl
  | dct _ => exact refs _ rfl
/-! the end of a law whose defs hold lambdas: the tables of their code are tracked, too -/
section
open PySem.Spec PyProof.Rows LamX
theorem run_law2 {P : Program} {w : World} {K : PySem.W.Frag} {mg : Str → Option Value} {base : Heap} {fa a : Addr} {fd : FuncData} {st : Stmt} {N : List Str} {k : Nat} {s : Shared} {H : Hp} {nm par : Str}
    (F : Fun K nm nm st fa fd) (S : FnScope N [par] (defScope st)) (room : Room (k + 1) callerA) (at0 : Env0 P w K mg base callerA [] s H) (bd : BindsTo s fd ⟨[.ref a], []⟩ [(par, .ref a)])
    (body : ∀ cdv, fd.code = cdv → Room k (callerA.deeper (envOfC nm (defScope st) s.heap.objs.size fa cdv)) →
      ∃ t, PSs (cxOf CX0 P w K mg base N nm (defScope st) fa cdv callerA [] s H E0).nox (defBody st) t ∧ t { nx := fun _ _ => False, rt := fun v _ => v = .bl true } (L2.start N [.ref a]) H) :
    codeAny (model P w) callerA (.call (.ref fa) ⟨[.ref a], []⟩) (CR CX0 [] P w H s (fun v _ => v = .bl true) E0) s := by
  obtain ⟨oc, od, kV, doc, pm, an, cdv, ct, osl, rfl, found, code⟩ := F.ex
  have kin : K.In s.heap := at0.mod.kin.keeps fun b o e => (at0.bs b o e).1
  have unl : s.heap.NoLimit := at0.mod.nolimit.keeps fun b o e => (at0.bs b o e).1
  have kinds : ∀ y ∈ [(par, Value.ref a)], (defScope st).names.lookup y.1 = some .local ∨ ((defScope st).names.lookup y.1 = some .cell ∧ ((cellsFrom (s.heap.objs.size + 1) (defScope st).names []).lookup y.1).isSome = true) := by
    intro y hy
    rcases List.mem_cons.mp hy with rfl | hy
    · rcases S.par par List.mem_cons_self with q | q
      · exact .inl q
      · exact .inr ⟨q, PySem.W.cellsFrom_some _ _ _ (.inl q)⟩
    · cases hy
  refine codeAny_call_function room.depth (kin _ _ found) rfl S.co S.gen rfl (PySem.W.codeRec_of kin code) (bd _ _ _ _ ?_)
  refine wpAny_newFunctionEnv_cells S.kind kinds fun env he s1 ic => ?_
  subst he
  refine ⟨unl.keeps ic.toInCall.keep, codeAny_func ?_⟩
  obtain ⟨t, ht, hq⟩ := body cdv rfl (room.deeper _)
  have start_ok := inv_start (CX := CX0) (E := E0) (us := [.ref a]) (vs := [.ref a]) S room.hd at0 rfl (.cons rfl .nil) ic
  refine wpAny_mono (ht.nox.run [] s1 _ H _ start_ok hq) (fun fl s' out => ?_) fun e s' out => out
  cases fl with
  | ret u =>
    obtain ⟨v, σ', H', J, rv, q⟩ := out
    exact ⟨v, H', J.os, J.bare, J.base, J.hok, rv, q⟩
  | next =>
    obtain ⟨_, _, _, q⟩ := out
    exact q.elim
  | brk =>
    obtain ⟨_, _, _, q⟩ := out
    exact q.elim
  | cont =>
    obtain ⟨_, _, _, q⟩ := out
    exact q.elim
/-- what the module's head leaves of tables -/
structure TabsAt (K : PySem.W.Frag) (mg : Str → Option Value) (h : Heap) (cs : List (Addr × Addr)) : Prop where
  empty : ∀ p ∈ cs, h.get? p.2 = some { cls := .none, data := .fields #[] }
  out : ∀ p ∈ cs, K.lookup p.2 = none
  heads : ∀ p ∈ cs, PySem.W.CodeHd h p.1 p.2
  sys : SysB h
  blt : ∃ (bm : Addr) (ob : Obj), mg "__builtins__" = some (.ref bm) ∧ bm ≠ builtinsNs ∧ h.get? bm = some ob ∧ ob.cls = .type "module" ∧ ob.dict = some builtinsNs ∧ ob.data = .plain
theorem law_endT {P : Program} {w : World} {K : PySem.W.Frag} {mg mb : Str → Option Value} {fa a : Addr} {cs : List (Addr × Addr)} {fd : FuncData} {st : Stmt} {N : List Str} {k : Nat} {s : Shared} {nm par : Str} {vs : List Value} {ns : List Int}
    (kin : K.In s.heap) (gl : s.heap.Ns mainGlobals mg) (bl : s.heap.Ns builtinsNs mb) (blb : ∀ x : Str, x ≠ "__name__" → mb x = bootBuiltins x) (unl : s.heap.NoLimit) (gens : s.gens = #[]) (TA : TabsAt K mg s.heap cs)
    (ha : s.heap.get? a = some { cls := .type "list", data := .seq vs.toArray }) (hi : IntsAre vs ns) (hl : ns.length ≤ sizeLine) (room : Room (k + 1) callerA)
    (F : Fun K nm nm st fa fd) (S : FnScope N [par] (defScope st)) (bd : ∀ (s : Shared) (u : Value), BindsTo s fd ⟨[u], []⟩ [(par, u)])
    (body : ∀ (base : Heap), K.In base → base.Ns mainGlobals mg → SysB base → (∀ p ∈ cs, TabB base mg p.1 p.2) → ∀ (H : Hp) cdv, fd.code = cdv → (∀ p ∈ cs, H p.2 = some (.tbl #[])) → ScrOk K H a (ns.map V.int) → Room k (callerA.deeper (envOfC nm (defScope st) s.heap.objs.size fa cdv)) →
      ∃ t, PSs (cxOf CX0 P w K mg base N nm (defScope st) fa cdv callerA [] s H E0).nox (defBody st) t ∧ t { nx := fun _ _ => False, rt := fun v _ => v = .bl true } (L2.start N [.ref a]) H) :
    codeAny (model P w) callerA (.call (.ref fa) ⟨[.ref a], []⟩) (fun r s' => r = .ok (.ret (.bool true)) ∧ OldK s.heap s'.heap ∧ s'.os = s.os ∧ AllBare s'.gens) s := by
  have vals := vals_ints hi
  have len := hi.length
  have no_tab : ∀ p ∈ cs, p.2 ≠ a := fun p hp z => by
    have e := TA.empty p hp
    rw [z, ha] at e
    have e : Data.seq vs.toArray _ = Data.fields #[] := congrArg Obj.data (Option.some.inj e)
    cases e
  -- whatever of the script is tracked
  have main : ∀ H : Hp, (∀ p ∈ cs, H p.2 = some (.tbl #[])) → ScrOk K H a (ns.map V.int) → HOk P w H s.heap →
      (∀ b u, H b = some u → (b = a ∧ K.lookup a = none ∧ ∃ o xs, u = .frz o (.lst xs)) ∨ ∃ p ∈ cs, b = p.2) →
      codeAny (model P w) callerA (.call (.ref fa) ⟨[.ref a], []⟩) (fun r s' => r = .ok (.ret (.bool true)) ∧ OldK s.heap s'.heap ∧ s'.os = s.os ∧ AllBare s'.gens) s := by
    intro H tabs scr hok alone
    have off : ∀ {b : Addr} {o : Obj}, s.heap.get? b = some o → (∀ us n, o.data ≠ .seq us n) → o.data ≠ .fields #[] → H b = none := by
      intro b o e n1 n2
      cases q : H b with
      | none => rfl
      | some u =>
        rcases alone b u q with ⟨rfl, _⟩ | ⟨p, hp, rfl⟩
        · rw [ha] at e
          cases e
          exact absurd rfl (n1 _ _)
        · rw [TA.empty p hp] at e
          cases e
          exact absurd rfl n2
    have spaces : ∀ {b : Addr} {m : Str → Option Value}, s.heap.Ns b m → (hidT s.heap H).Ns b m := by
      intro b m ⟨o, es, ep, e, d, r⟩
      refine ⟨o, es, ep, hidT_get e (off e (fun us n z => ?_) fun z => ?_), d, r⟩
      · rw [d] at z
        cases z
      · rw [d] at z
        cases z
    have kinB : K.In (hidT s.heap H) := by
      intro b o e
      refine hidT_get (kin b o e) ?_
      cases q : H b with
      | none => rfl
      | some u =>
        rcases alone b u q with ⟨rfl, z, _⟩ | ⟨p, hp, rfl⟩
        · rw [z] at e
          cases e
        · rw [TA.out p hp] at e
          cases e
    have TB : ∀ p ∈ cs, TabB (hidT s.heap H) mg p.1 p.2 := by
      intro p hp
      constructor
      · obtain ⟨o, us, x1, x2, x3, x4, x5, x6, x7, e, y1, y2, y3, y4⟩ := TA.heads p hp
        refine ⟨o, us, x1, x2, x3, x4, x5, x6, x7, hidT_get e (off e (fun vs n z => ?_) fun z => ?_), y1, y2, y3, y4⟩
        · rw [y2] at z
          cases z
        · rw [y2] at z
          cases z
          simp at y3
      · obtain ⟨bm, ob, g1, g2, g3, g4, g5, g6⟩ := TA.blt
        refine ⟨bm, ob, g1, g2, fun z => ?_, fun z => ?_, hidT_get g3 (off g3 (fun vs n z => ?_) fun z => ?_), g4, g5, g6⟩
        · obtain ⟨o, es, ep, e, d, _⟩ := gl
          rw [z, e] at g3
          cases g3
          rw [d] at g6
          cases g6
        · rw [z, TA.empty p hp] at g3
          cases g3
          cases g6
        · rw [g6] at z
          cases z
        · rw [g6] at z
          cases z
      · intro z
        obtain ⟨o, es, ep, e, d, _⟩ := gl
        rw [z, TA.empty p hp] at e
        cases e
        cases d
    obtain ⟨mc, un1, un2⟩ := unl
    have md : Mod K mg (hidT s.heap H) := ⟨kinB, spaces gl, ⟨mb, spaces bl, blb⟩, ⟨mc, spaces un1, un2⟩⟩
    have at0 : Env0 P w K mg (hidT s.heap H) callerA [] s H := by
      refine ⟨rfl, md, fun b o e => of_hidT e, Nat.le_of_eq (hidT_size _ _), trivial, fun b hb => ?_, hok, .of_eq gens⟩
      cases (show b ∈ ([] : List Addr) from hb)
    refine codeAny_mono (run_law2 F S room at0 (bd s (.ref a)) fun cdv hc hr => body _ kinB (spaces gl) (let ⟨mm, z⟩ := TA.sys; ⟨mm, spaces z⟩) TB H cdv hc tabs scr hr) fun r s' res => ?_
    match r, res with
    | .error e, res => exact (show False from res).elim
    | .ok .next, res => exact (show False from res).elim
    | .ok .brk, res => exact (show False from res).elim
    | .ok .cont, res => exact (show False from res).elim
    | .ok (.ret u), res =>
      obtain ⟨v, H', os, bare, un, hok', rv, q⟩ := res
      obtain rfl : v = .bl true := q
      obtain rfl : u = Value.bool true := rv
      have stays : ∀ b o, (∀ p ∈ cs, b ≠ p.2) → s.heap.get? b = some o → s'.heap.get? b = some o := by
        intro b o nb e
        cases q : H b with
        | none =>
          refine un.keep b o e q (fun z => ?_) (by simp)
          cases (show b ∈ ([] : List Addr) from z)
        | some u =>
          rcases alone b u q with ⟨_, _, ob, xs, rfl⟩ | ⟨p, hp, z⟩
          · obtain ⟨e1, _⟩ := hok b _ q
            obtain ⟨e2, _⟩ := hok' b _ (un.frzs b ob _ q)
            rw [e] at e1
            cases e1
            exact e2
          · exact absurd z (nb p hp)
      have grows : ∀ p ∈ cs, ∃ more : Array Value, s'.heap.get? p.2 = some { cls := .none, data := .fields more } := by
        intro p hp
        obtain ⟨more, z⟩ := un.tbls p.2 #[] (tabs p hp)
        exact ⟨_, hok' p.2 _ z⟩
      refine ⟨rfl, ⟨fun b o e => ?_, fun b o e => ?_⟩, os, bare⟩
      · by_cases nb : ∀ p ∈ cs, b ≠ p.2
        · exact .inl (stays b o nb e)
        · obtain ⟨p, hp, z⟩ : ∃ p ∈ cs, b = p.2 := by
            refine Classical.byContradiction fun no => nb fun p hp z => no ⟨p, hp, z⟩
          subst z
          obtain ⟨more, hm⟩ := grows p hp
          have e0 := TA.empty p hp
          rw [e0] at e
          cases e
          refine .inr (.inl ⟨((TA.heads p hp).tab (ps := #[]) e0).isCodeTable, rfl, #[], more, rfl, ?_⟩)
          rw [Array.empty_append]
          exact hm
      · by_cases nb : ∀ p ∈ cs, b ≠ p.2
        · exact ⟨o, stays b o nb e⟩
        · obtain ⟨p, hp, z⟩ : ∃ p ∈ cs, b = p.2 := by
            refine Classical.byContradiction fun no => nb fun p hp z => no ⟨p, hp, z⟩
          subst z
          obtain ⟨more, hm⟩ := grows p hp
          exact ⟨_, hm⟩
  -- the tables, and the script where it isn't written
  let tb : Addr → Bool := fun b => cs.any fun p => decide (b = p.2)
  have tb_in : ∀ {b}, tb b = true → ∃ p ∈ cs, b = p.2 := fun {b} z => by
    obtain ⟨p, hp, e⟩ := List.any_eq_true.mp z
    exact ⟨p, hp, of_decide_eq_true e⟩
  have in_tb : ∀ p ∈ cs, tb p.2 = true := fun p hp => List.any_eq_true.mpr ⟨p, hp, decide_eq_true rfl⟩
  cases hk : K.lookup a with
  | some o =>
    have e := kin a o hk
    rw [ha] at e
    cases e
    refine main (fun b => if tb b = true then some (.tbl #[]) else none) (fun p hp => if_pos (in_tb p hp)) (.inr ⟨_, vs.toArray, _, hk, rfl, rfl, rfl, by rw [List.size_toArray, len]; exact hl, by simpa using vals⟩) (fun b u z => ?_) (fun b u z => ?_)
    · by_cases c : tb b = true
      · obtain ⟨p, hp, rfl⟩ := tb_in c
        have z := (if_pos c).symm.trans z
        cases z
        exact TA.empty p hp
      · have z := (if_neg c).symm.trans z
        cases z
    · by_cases c : tb b = true
      · exact .inr (tb_in c)
      · have z := (if_neg c).symm.trans z
        cases z
  | none =>
    refine main (fun b => if b = a then some (.frz { cls := .type "list", data := .seq vs.toArray } (.lst (ns.map V.int))) else if tb b = true then some (.tbl #[]) else none) (fun p hp => (if_neg (no_tab p hp)).trans (if_pos (in_tb p hp))) (.inl ⟨_, if_pos rfl⟩) (fun b u z => ?_) (fun b u z => ?_)
    · by_cases c0 : b = a
      · have z := (if_pos c0).symm.trans z
        cases z
        rw [c0]
        exact ⟨ha, by rw [List.length_map]; exact hl, vs, _, vals, ha⟩
      · have z := (if_neg c0).symm.trans z
        by_cases c : tb b = true
        · obtain ⟨p, hp, rfl⟩ := tb_in c
          have z := (if_pos c).symm.trans z
          cases z
          exact TA.empty p hp
        · have z := (if_neg c).symm.trans z
          cases z
    · by_cases c0 : b = a
      · have z := (if_pos c0).symm.trans z
        exact .inl ⟨c0, hk, _, _, (Option.some.inj z).symm⟩
      · have z := (if_neg c0).symm.trans z
        by_cases c : tb b = true
        · exact .inr (tb_in c)
        · have z := (if_neg c).symm.trans z
          cases z
end
section
open PySem.Spec PyProof.Rows LamX
theorem mn_ext {st : Addr} {H H' : Hp} (e : ExtN H H') : ExtN (mn st H) (mn st H') := fun b o h n => by
  obtain ⟨n1, h1⟩ := mn_some h
  exact mn_at n1 (e b o h1 n)
theorem st_ext {st : Addr} {H H' : Hp} (h : StAt H st) (e : ExtN H H') : StAt H' st := by
  obtain ⟨x, y, z, h, ok⟩ := h
  exact ⟨x, y, z, e _ _ h (fun ps q => by cases q), ok⟩
theorem scr_ext {K : PySem.W.Frag} {H H' : Hp} {a : Addr} {xs : List V} (h : ScrOk K H a xs) (e : ExtN H H') : ScrOk K H' a xs := by
  rcases h with ⟨o, z⟩ | z
  · exact .inl ⟨o, e _ _ z (fun ps q => by cases q)⟩
  · exact .inr z
end
def tKw (m : Nat) (sp : Sp) (gV : List V → List V → List V) (tk : TA) : TE := fun σ H Q => tk σ H fun zs H2 => zs.length = m ∧ sp (gV [] zs) H2 Q E0
def CalK (P : Program) (w : World) (K : PySem.W.Frag) (mg : Str → Option Value) (base : Heap) (x : Str) (k : Nat) (ps ks : List Str) (g : List Value → List Value → List Value) (gV : List V → List V → List V) (sp : Sp) : Prop :=
  ∃ (f : Addr) (fd : FuncData), FnOk P w K mg base CX0 k f fd ps sp ∧ mg x = some (.ref f) ∧ PySem.W.keepIn K (.ref f) = true ∧ KBn K fd ps 0 ks g gV
theorem pe_kw {X : Cx} {x : Str} {p pos : Pos} {k : Nat} {ps ks : List Str} {g : List Value → List Value → List Value} {gV : List V → List V → List V} {sp : Sp} {kws : List Keyword} {tk : TA}
    (C : CalK X.prog X.w X.K X.mg X.base x k ps ks g gV sp) (hr : Room k X.A) (hg : Gl X x) (hkw : PK X kws tk)
    (h1 : (backToKw pos (keywordEach kws X.env)).all (·.1.isSome) = true := by rfl) (h2 : (backToKw pos (keywordEach kws X.env)).filterMap (·.1) = ks := by rfl) (h3 : (x == ("__debug__" : Str)) = false := by decide)
    (h4 : ((backTo pos (starEach [] X.env)).any (·.1) || (backToKw pos (keywordEach kws X.env)).any (·.1.isNone)) = false := by rfl) :
    PE X (.Call (.Name x p) [] kws pos) (tKw ks.length sp gV tk) := by
  obtain ⟨f, fd, F, hm, hk, hb⟩ := C
  constructor
  intro pins s σ H Q I h
  refine wpAny_Call_Name_kw (ld_glob I hg hm ?_ h3)
  refine PySem.W.callWith_KW0 (h₀ := X.base) I.ok.mod.kin hk h1 ?_ h4
  refine thn (hkw.run pos pins s σ H _ I h) ?_
  rintro ws s2 ⟨zs, H2, I2, rz, l2, q2⟩
  refine ⟨I2.kIn, ?_⟩
  rw [h2]
  exact run_fnN (us := []) (vs := []) F hr hb pass0 I2 .nil rz rfl l2 q2
/-! set(l), l a list of ints -/
section
open PySem.Spec PyProof.Rows
abbrev setObj (w : World) : Obj := { cls := .type "set", dict := none, data := .set #[] 0 (.fresh 0 0 (!w.params.followText "set-order")) }
set_option maxHeartbeats 3200000 in
theorem set_of_list {prog : Program} {w : World} {A : Around} {E : Value → Shared → Prop} {s : Shared} {l : Addr} {its : Array Value} (ns : List Int) {Q : Value → Shared → Prop} (calm : A.handled = none) (isL : s.heap.IsList l its) (hInt : IntsAre its.toList ns) (room : ns.length + 1 < scanBound)
    (k : ∀ (h' : Heap) (tk c : Nat), SetR w h' s.heap.objs.size (fun j => decide (j ∈ ns)) c → c ≤ ns.length → (∀ b o, s.heap.get? b = some o → h'.get? b = some o) → Q (.ref s.heap.objs.size) { s with heap := h', toks := tk }) :
    wpAny (model prog w) A (call (.type "set") [.ref l]) Q E s := by
  have len : its.size = ns.length := by rw [← Array.length_toList]; exact IntsAre.length hInt
  obtain ⟨_, _, mro⟩ := F.called_set.mro
  have f1 := F.called_set.made; have f2 := F.called_set.sub; have f3 := F.called_set.notType; have f4 := F.called_set.canCreate; have f5 := F.typeCall_set_1 (.ref l)
  refine wpAny_call (codeAny_of_tree (show wpAny _ _ (callAny (.type "set") _) _ _ _ from wpAny_pure ⟨Code.quiet_builtin _ (by decide +kernel), codeAny_builtin F.entry_type_call ?_⟩))
  rw [Around.under_plain (weight_type_call_type "set" [.ref l] []) rfl]
  repeat (any_goals (first | assumption | wp_step))
  refine codeAny_mono (code_set_led1 (.ref l) (E := E) (Q₁ := fun obj u => obj = .ref s.heap.objs.size ∧ u = { s with heap := s.heap.push (setObj w) }) ⟨rfl, rfl⟩) fun r u hr => ?_
  match r, hr with
  | .error e, hr => exact hr
  | .ok .next, hr => exact hr.elim
  | .ok .brk, hr => exact hr.elim
  | .ok .cont, hr => exact hr.elim
  | .ok (.ret obj), hr =>
    obtain ⟨rfl, rfl⟩ := hr
    have atS : (s.heap.push (setObj w)).get? s.heap.objs.size = some (setObj w) := Heap.get?_push_size _ rfl
    have isS : Shared.TypeIs { s with heap := s.heap.push (setObj w) } (.ref s.heap.objs.size) "set" := ⟨_, atS, rfl⟩
    have f6 := F.called_set.init.lookup; have f7 := F.called_set.init.bind (.ref s.heap.objs.size)
    repeat (any_goals (first | assumption | wp_step))
    refine codeAny_mono (codeAny_call_builtin (R := wants (fun r u => r = .none ∧ ∃ h' tk c, u = { s with heap := h', toks := tk } ∧ SetR w h' s.heap.objs.size (fun j => decide (j ∈ ns)) c ∧ c ≤ ns.length ∧ ∀ b o, s.heap.get? b = some o → h'.get? b = some o) E) F.called_set.init.plain F.entry_set_init (check_set_init_1 isS ?_)) fun r2 u2 hr2 => ?_
    · obtain ⟨⟨oc, od, oda, osl⟩, ho, hcl, nl, hdl⟩ := isL
      dsimp only at hcl hdl
      subst hcl hdl
      have ho' : (s.heap.push (setObj w)).get? l = some { cls := .type "list", dict := od, data := .seq its nl, slots := osl } := Heap.get?_push_of_some _ ho
      have g1 := F.sub_list_set; have g2 := F.sub_list_frozenset
      have g3 : (Value.type "list" == Value.type "dict") = false := by decide
      have isL1 : (s.heap.push (setObj w)).IsList l its := ⟨_, ho', rfl, nl, rfl⟩
      have below : l < s.heap.objs.size := Heap.lt_size ho
      have sz : (s.heap.push (setObj w)).objs.size = s.heap.objs.size + 1 := Heap.size_push ..
      unfold Builtin.«set.__init__» noKeywords Builtin.Frozenset.updateFrom
      generalize hPI : pyIter = PI
      wp_walk
      subst hPI
      refine wpAny_pyIter_list isL1 (wpAny_bind (wpAny_runValue ?_))
      refine set_update_ints ((Walks.list (show A.in1.in1.in1.handled = none by simp [calm]) _ l (by rw [sz]; exact Nat.ne_of_lt (Nat.lt_succ_of_lt below)) its).toS) s.heap.objs.size
        (by rw [sz]; simp only [List.mem_cons, List.mem_singleton, List.not_mem_nil, or_false, not_or]; exact ⟨Nat.ne_of_lt (Nat.lt_succ_self _), Nat.ne_of_gt below⟩) ns len room (fun i v hv => ?_) (its.size - 0) 0 _ (by omega) (Nat.zero_le _)
        ⟨⟨_, Heap.get?_push_size _ rfl, rfl, rfl⟩, isL1.push _⟩ ⟨0, Nat.le_refl 0, setR_new_at (Heap.get?_push_of_some _ atS)⟩ fun u' c' moved hc' hS' => ?_
      · have hi : i < ns.length := by rw [← len]; exact (Array.getElem?_eq_some_iff.mp hv).1
        obtain ⟨t, e⟩ := IntsAre.int_at hInt i v (by rw [Array.getElem?_toList]; exact hv)
        refine ⟨ns[i], t, List.getElem?_eq_getElem hi, ?_⟩
        rw [e, List.getD_eq_getElem?_getD, List.getElem?_eq_getElem hi] <;> rfl
      · obtain ⟨h', g', d', tk', os'⟩ := u'
        obtain rfl : g' = s.gens := moved.gens
        obtain rfl : d' = s.drawn := moved.drawn
        obtain rfl : os' = s.os := moved.os
        show wpAny _ _ _ _ _ _
        refine wpAny_pure (show wpAny _ _ (ret Value.none) _ _ _ from wpAny_pure ⟨rfl, h', tk', c', rfl, hS', by omega, fun b o e => ?_⟩)
        have lt := Heap.lt_size e
        exact moved.heap b o (by rw [sz]; simp only [List.mem_cons, List.mem_singleton, List.not_mem_nil, or_false, not_or]; exact ⟨Nat.ne_of_lt lt, Nat.ne_of_lt (Nat.lt_succ_of_lt lt)⟩) (Heap.get?_push_of_some _ (Heap.get?_push_of_some _ e))
    · match r2, hr2 with
      | .error e, hr2 => exact hr2
      | .ok .next, hr2 => exact hr2.elim
      | .ok .brk, hr2 => exact hr2.elim
      | .ok .cont, hr2 => exact hr2.elim
      | .ok (.ret v), hr2 =>
        obtain ⟨rfl, h', tk, c', rfl, hS', hc', keep⟩ := hr2
        repeat (any_goals (first | assumption | wp_step))
        exact k _ _ _ hS' hc' keep
variable {X : Cx}
def rSetLI (K : PySem.W.Frag) (w : World) : List V → Hp → VK → Prop := fun xs H Q => ∃ (a : Addr) (ns : List Int), xs = [.ref a] ∧ SqL K H a (ns.map V.int) ∧ ns.length < 60 ∧ ∀ (p : Addr) (c : Nat), c ≤ ns.length → H p = none → Q (.ref p) (upd H p (SetO w p (fun j => decide (j ∈ ns)) c))
theorem cr_setLI (hc : X.calm = true) : CallR X (.type "set") (rSetLI X.K X.w) := by
  intro pins s σ H vs us Q I r h
  obtain ⟨a, ns, rfl, ha, hl, q⟩ := h
  rw [Vals.ref1 r]
  obtain ⟨its, rv, ⟨o1, n1, g1, c1, _, d1⟩, hz⟩ := I.list ha
  refine set_of_list ns (I.ok.hd hc) ⟨o1, g1, c1, n1, d1⟩ (by simpa using intsAre_of rv) (by unfold scanBound; omega) fun h' tk c R hc' hk => ?_
  exact ⟨.ref _, _, I.laid (t' := tk) (o := SetO X.w s.heap.objs.size (fun j => decide (j ∈ ns)) c) hk (Nat.le_refl _) (setO_new R), rfl, q _ c hc' (I.hok.fresh (Nat.le_refl _))⟩
end
theorem TabsG.kp {PT : List Addr} {H H' : Hp} {st : Addr} (t : TabsG PT H) (sa : StAt H st) (k : Kp st H H') : TabsG PT H' := fun P hP => by
  obtain ⟨l, hl⟩ := sa.some
  obtain ⟨ps, h1, h2⟩ := t P hP
  exact ⟨ps, k _ _ (fun z => by rw [z, hl] at h1; cases h1) h1, h2⟩
theorem show12 {z : PyData} (b : Bd 10000 40 z) (h3 : z.bulk ≤ 10000) (h4 : z.depth ≤ 20) : z.showable = true ∧ z.depth ≤ 64 ∧ z.shown.length ≤ sizeLine := by
  have l := PyData.shown_le_bulk 40 (by decide) z (b.sho (by decide))
  exact ⟨b.shw (by decide), Nat.le_trans h4 (by decide), big (by omega)⟩
theorem net_tupO {d : PyData} (h : netD d = true) : tupOnly d = true := by
  obtain ⟨cs, as, rfl, nb, _⟩ := net_bd h
  have nb := and3 (show ((decide (cs.length ≤ 6) && (decide (1 ≤ as.length) && decide (as.length ≤ 4))) && (cs.all (chanD as.length) && actsB (cs.map pairD) 0 as)) = true from nb)
  have n2 := and3 nb.2
  have e := chans_of n2.1
  have hc : tupOnlyAll cs = true := by
    rw [e]
    generalize cs.map pairD = l
    induction l with
    | nil => rfl
    | cons c l ih => show (tupOnly (mkCh c) && tupOnlyAll (l.map mkCh)) = true; rw [ih]; rfl
  show (tupOnlyAll cs && (tupOnlyAll as && true)) = true
  rw [hc, Bool.true_and, Bool.and_true]
  have : ∀ {as : List PyData} {me : Int} {chs : List (Int × Int)}, actsB chs me as = true → tupOnlyAll as = true := fun {as} => by
    induction as with
    | nil => intro _ _ _; rfl
    | cons d as ih =>
      intro me chs h
      have h := and3 (show ((blkD _ _ 4 d).isSome && actsB chs (me + 1) as) = true from h)
      have h1 := h.1
      rw [blk_some] at h1
      show (tupOnly d && tupOnlyAll as) = true
      rw [lblk_tup 4 (and3 h1).1, ih h.2]
      rfl
  exact this n2.2
theorem FixR.chainL {rows : List (List Int)} {rs : List Int} (hr : RwOk rows) (h : FixR rows rs) : ∀ (k : Nat) (p : Int), 0 ≤ p → p < (rows.length : Int) → rkAt rs p = k → ∃ l : List Int, l.length = k + 1 ∧ l.Nodup ∧ ∀ x ∈ l, (0 ≤ x ∧ x < (rows.length : Int)) ∧ rkAt rs x ≤ k
  | 0, p, p0, p1, e => ⟨[p], rfl, by simp, fun x hx => by rw [List.mem_singleton.mp hx]; exact ⟨⟨p0, p1⟩, by omega⟩⟩
  | k + 1, p, p0, p1, e => by
    rcases h.eq p p0 p1 with z | ⟨q, hq, z⟩
    · omega
    · obtain ⟨q0, q1⟩ := row_rng hr hq
      obtain ⟨l, h1, h2, h3⟩ := FixR.chainL hr h k q q0 q1 (by omega)
      refine ⟨p :: l, by rw [List.length_cons, h1], List.nodup_cons.mpr ⟨fun hp => ?_, h2⟩, fun x hx => ?_⟩
      · have := (h3 p hp).2
        omega
      · rcases List.mem_cons.mp hx with rfl | hx
        · exact ⟨⟨p0, p1⟩, by omega⟩
        · have := h3 x hx
          exact ⟨this.1, by omega⟩
theorem FixR.lt {rows : List (List Int)} {rs : List Int} (hr : RwOk rows) (h : FixR rows rs) : ∀ i ∈ rs, 0 ≤ i ∧ i < (rows.length : Int) := fun i hi => by
  obtain ⟨m, hm⟩ := List.getElem?_of_mem hi
  have lm := (List.getElem?_eq_some_iff.mp hm).1
  have ll := h.len
  have e : rkAt rs (m : Int) = i := by
    unfold rkAt
    rw [show ((m : Int)).toNat = m by omega, List.getD_eq_getElem?_getD, hm]
    rfl
  have p0 := h.pos (m : Int) (by omega) (by omega)
  obtain ⟨l, h1, h2, h3⟩ := h.chainL hr (rkAt rs (m : Int)).toNat (m : Int) (by omega) (by omega) (by omega)
  have := nodup_len rows.length l h2 fun x hx => (h3 x hx).1
  omega
theorem lt_ext : ∀ {a b : List Int}, a.Pairwise (· < ·) → b.Pairwise (· < ·) → (∀ p, p ∈ a ↔ p ∈ b) → a = b
  | [], [], _, _, _ => rfl
  | [], y :: s, _, _, h => by cases (h y).mpr List.mem_cons_self
  | x :: r, [], _, _, h => by cases (h x).mp List.mem_cons_self
  | x :: r, y :: s, h1, h2, h => by
    obtain ⟨a1, a2⟩ := List.pairwise_cons.mp h1
    obtain ⟨b1, b2⟩ := List.pairwise_cons.mp h2
    have e : x = y := by
      rcases List.mem_cons.mp ((h x).mp List.mem_cons_self) with c | c
      · exact c
      · rcases List.mem_cons.mp ((h y).mpr List.mem_cons_self) with d | d
        · exact d.symm
        · have := b1 x c
          have := a1 y d
          omega
    subst e
    rw [lt_ext a2 b2 fun p => ⟨fun hp => ?_, fun hp => ?_⟩]
    · rcases List.mem_cons.mp ((h p).mp (List.mem_cons_of_mem _ hp)) with c | c
      · have := a1 p hp
        omega
      · exact c
    · rcases List.mem_cons.mp ((h p).mpr (List.mem_cons_of_mem _ hp)) with c | c
      · have := b1 p hp
        omega
      · exact c
/-! the law -/
theorem kb_roundsOf {K : PySem.W.Frag} {f : Addr} {fd : FuncData} (F : Fun K "rounds_of" "rounds_of" sRoundsOf f fd) : KBn K fd ["net"] 0 ["net"] (fun _ ws => ws) (fun _ zs => zs) := by
  obtain ⟨oc, od, kV, doc, pm, an, cdv, ct, osl, rfl, lk, hcd⟩ := F.ex
  refine ⟨fun s us ws _ l1 l2 => ?_, fun _ r => r⟩
  match us, ws, l1, l2 with
  | [], [a], _, _ => exact .of_eq rfl
theorem WaitC.uniq {cs as : List PyData} {a b : List (List Int)} (h : WaitC cs as a) (g : WaitC cs as b) : a = b := by
  refine List.ext_getElem? fun i => ?_
  have la := h.len
  have lb := g.len
  by_cases c : i < as.length
  · have hd := List.getElem?_eq_getElem c
    have ha := List.getElem?_eq_getElem (show i < a.length by omega)
    have hb := List.getElem?_eq_getElem (show i < b.length by omega)
    rw [ha, hb]
    congr 1
    exact lt_ext (h.srt _ (List.mem_of_getElem? ha)) (g.srt _ (List.mem_of_getElem? hb)) fun p => (h.mem i _ _ hd ha p).trans (g.mem i _ _ hd hb p).symm
  · rw [List.getElem?_eq_none (by omega), List.getElem?_eq_none (by omega)]
theorem chart_bd {rows : List (List Int)} (h : RwOk rows) (n8 : rows.length ≤ 8) : Bd 10000 40 (chD rows) ∧ (chD rows).bulk ≤ 200 ∧ (chD rows).depth ≤ 2 := by
  have each : ∀ z ∈ rows.map (fun ns => PyData.tuple (ns.map .int)), Bd 10000 40 z ∧ z.bulk ≤ 16 ∧ z.depth ≤ 1 := fun z hz => by
    obtain ⟨ns, hn, rfl⟩ := List.mem_map.mp hz
    obtain ⟨r1, r2⟩ := h.row ns hn
    obtain ⟨b1, b2, b3⟩ := ints_bd (ns := ns) (c := 10000) (fun i hi => by have := r2 i hi; omega) (by omega)
    exact ⟨b1, by rw [bulk_tup]; omega, by rw [depth_tup]; omega⟩
  have hb := bulk_each (k := 16) fun z hz => (each z hz).2.1
  rw [List.length_map] at hb
  refine ⟨.tup (by rw [List.length_map]; omega) fun z hz => (each z hz).1, ?_, ?_⟩
  · show (PyData.tuple _).bulk ≤ _
    rw [bulk_tup]
    omega
  · show (PyData.tuple _).depth ≤ _
    rw [depth_tup]
    have := dAll_le (k := 1) fun z hz => (each z hz).2.2
    omega
theorem rnd_bd {rows : List (List Int)} (h : RwOk rows) (n8 : rows.length ≤ 8) {d : PyData} (r : RndD rows d) : Bd 10000 40 d ∧ d.bulk ≤ 200 ∧ d.depth ≤ 3 := by
  have go : ∀ (w : Str) (ns : List Int), (∀ z ∈ w.cps.toList, z < 128) ∧ w.cps.toList.length ≤ 10 ∧ (PyData.str w).bulk ≤ 50 → ns.length ≤ 8 → (∀ i ∈ ns, i.natAbs < 10000) → Bd 10000 40 (.tuple [.str w, .tuple (ns.map .int)]) ∧ (PyData.tuple [.str w, .tuple (ns.map .int)]).bulk ≤ 200 ∧ (PyData.tuple [.str w, .tuple (ns.map .int)]).depth ≤ 3 := fun w ns hw l hn => by
    obtain ⟨b1, b2, b3⟩ := ints_bd (ns := ns) (c := 10000) hn (by omega)
    refine ⟨.tup (by simp) fun z hz => ?_, ?_, ?_⟩
    · simp only [List.mem_cons, List.not_mem_nil, or_false] at hz
      rcases hz with rfl | rfl
      · exact .str hw.1
      · exact b1
    · rw [bulk_tup]
      simp only [PyData.bulkAll]
      rw [bulk_tup]
      have := hw.2.2
      omega
    · rw [depth_tup]
      simp only [PyData.depthAll]
      rw [depth_tup]
      have : (PyData.str w).depth = 0 := by simp [PyData.depth]
      omega
  rcases r with ⟨ns, rfl, l⟩ | ⟨rs, rfl, l⟩
  · exact go "ring" ns (by decide +kernel) (by have := l.1.le; omega) fun i hi => by have := l.1.1 i hi; omega
  · exact go "ranks" rs (by decide +kernel) (by have := l.len; omega) fun i hi => by have := l.lt h i hi; omega
section
open PySem.Spec PyProof.Rows LamX
variable {P : Program} {w : World} {K : PySem.W.Frag} {mg : Str → Option Value} {base : Heap} {f : Addr} {fd : FuncData} {PT : List Addr}
abbrev NLaw : List Str := ["_law_script", "_law_k", "_law_state_here", "_law_turn", "_law_mesh", "_law_chart", "_law_kept", "_law_block_here", "_law_due", "_law_again", "_law_number"]
theorem scLaw : FnScope NLaw ["_law_script"] (defScope sLaw) := ⟨rfl, rfl, rfl, by decide +kernel, rfl, by decide +kernel, by decide +kernel⟩
structure Law60 (P : Program) (w : World) (K : PySem.W.Frag) (mg : Str → Option Value) (base : Heap) (PT : List Addr) (k : Nat) : Prop where
  cSt : Cal P w K mg base "_law_state" k ["_law_script", "_law_k"] (spState K)
  cN : Cal P w K mg base "_law_net" k ["_law_state_here", "_law_most", "_law_long"] (spNet K)
  cT : Cal P w K mg base "_law_takes" k ["_law_block_here"] (spLTakes K)
  cR : Cal P w K mg base "_law_rounds" k ["_law_chart"] (spLRounds K)
  cW : Cal P w K mg base "waiting_chart" k ["net"] (spWaiting K PT)
  cO : Cal P w K mg base "rounds_of" k ["net"] (spRoundsOf K PT)
  kO : CalK P w K mg base "rounds_of" k ["net"] ["net"] (fun _ ws => ws) (fun _ zs => zs) (spRoundsOf K PT)
set_option maxHeartbeats 0 in
theorem law_body {k : Nat} {cdv : Value} {s : Shared} {H : Hp} {a : Addr} {ns : List Int} (T : Free mg) (hSo : mg "sorted" = none) (hSe : mg "set" = none) (sys : SysB base) (scr : ScrOk K H a (ns.map V.int)) (h63 : ns.length ≤ 63) (tbs : TabsG PT H)
    (hr : Room k (callerA.deeper (envOfC "law" (defScope sLaw) s.heap.objs.size f cdv))) (L : Law60 P w K mg base PT k) :
    ∃ t, PSs (cxOf CX0 P w K mg base NLaw "law" (defScope sLaw) f cdv callerA [] s H E0).nox (defBody sLaw) t ∧ t { nx := fun _ _ => False, rt := fun v _ => v = .bl true } (L2.start NLaw [.ref a]) H := by
  have hu : (callerA.deeper (envOfC "law" (defScope sLaw) s.heap.objs.size f cdv)).units + 80 < cLine := by
    have := hr.un
    omega
  refine ⟨_, pss_cons (ps_for PassesOwn.never rfl (pi_range1 rfl T.range (pa_cons (pe_callB (call_max2 rfl) rfl T.max (by decide +kernel) (pa_cons pe_int (pa_cons (pe_callB (call_min2 rfl) rfl T.min (by decide +kernel)
        (pa_cons (pe_callB call_len_seq rfl T.len PySem.boot_len (pa_cons (pv 0) pa_nil)) (pa_cons pe_int pa_nil))) pa_nil))) pa_nil)) (pg_name (i := 1) scLaw.nd rfl (.inl rfl))
    (pss_cons (ps_set (i := 2) scLaw.nd rfl (.inl rfl) (pe_cal L.cSt hr rfl (pa_cons (pv 0) (pa_cons (pv 1) pa_nil))))
    (pss_one (ps_for PassesOwn.never rfl (pi_range1 rfl T.range (pa_cons pe_int pa_nil)) (pg_name (i := 3) scLaw.nd rfl (.inl rfl))
      (pss_cons (ps_set (i := 4) scLaw.nd rfl (.inr rfl) (pe_cal L.cN hr rfl (pa_cons (pv 2) (pa_cons pe_int (pa_cons pe_int pa_nil)))))
      (pss_cons (ps_par (i := 5) (j := 6) rfl scLaw.nd rfl rfl (by decide) rfl rfl (pa_cons (pe_lst pa_nil) (pa_cons (pe_callB (call_reprA sys rfl hu) rfl T.repr (by decide +kernel) (pa_cons (pv 4) pa_nil)) pa_nil)) rfl)
      (pss_cons (ps_for PassesOwn.never rfl (pi_tup (pe_ix ix_tup (pv 4) pe_int (fun _ _ => rfl))) (pg_name (i := 7) scLaw.nd rfl (.inl rfl))
        (pss_one (ps_expr (pe_bm PySem.F.plainAttrs_list PySem.F.slot_list_append PySem.F.type_list_append mt_append (pv 5) (pa_cons (pe_callTy call_tuple_of rfl T.tuple (by decide +kernel) (pa_cons (pe_callB (cr_sortedSet rfl) rfl hSo (by decide +kernel) (pa_cons (pe_callTy (cr_setLI rfl) rfl hSe (by decide +kernel) (pa_cons
          (pe_lc (own := [("_law_number", 10)]) (g := gName 10) (tt := tYes) (te := tOp (rIxT K) (tOp (rIxT K) (tOp (rIxT K) (tVar 4) (tC (.int 0))) (tVar 10)) (tC (.int 0))) rfl scLaw.nd (pi_list (pe_cal L.cT hr rfl (pa_cons (pv 7) pa_nil)))
            (blkOk_by (own := [("_law_number", 10)]) (N := NLaw) (sc := defScope sLaw) (by decide +kernel))
            (fun _ _ _ _ _ => pg_name (i := 10) scLaw.nd rfl (Or.inl rfl)) (fun _ _ _ _ _ => pts_nil) (fun _ _ _ _ _ => pe_ix ix_tup (pe_ix ix_tup (pe_ix ix_tup (pv 4) pe_int (fun _ _ => rfl)) (pv 10) (fun _ _ => rfl)) pe_int (fun _ _ => rfl))) pa_nil)) pa_nil)) pa_nil)) pa_nil)))))
      (pss_cons (ps_set (i := 8) scLaw.nd rfl (.inl rfl) (pe_cal L.cR hr rfl (pa_cons (pv 5) pa_nil)))
      (pss_cons (ps_for PassesOwn.never rfl (pi_range1 rfl T.range (pa_cons pe_int pa_nil)) (pg_name (i := 9) scLaw.nd rfl (.inl rfl))
        (pss_one (ps_if (PW.pt (pw_or (pt_cmpR op_ne (pe_callB (call_reprA sys rfl hu) rfl T.repr (by decide +kernel) (pa_cons (pe_cal L.cW hr rfl (pa_cons (pv 4) pa_nil)) pa_nil)) (pe_callB (call_reprA sys rfl hu) rfl T.repr (by decide +kernel) (pa_cons (pe_callTy call_tuple_of rfl T.tuple (by decide +kernel) (pa_cons (pv 5) pa_nil)) pa_nil)) (nomark _))
            (pw_or1 (pt_cmpR op_ne (pe_callB (call_reprA sys rfl hu) rfl T.repr (by decide +kernel) (pa_cons (pe_cal L.cO hr rfl (pa_cons (pv 4) pa_nil)) pa_nil)) (pe_callB (call_reprA sys rfl hu) rfl T.repr (by decide +kernel) (pa_cons (pv 8) pa_nil)) (nomark _))))) (pss_one (ps_ret pe_bl)) pss_nil)))
      (pss_one (ps_if (PW.pt (pw_or (pt_cmpR op_ne (pe_callB (call_reprA sys rfl hu) rfl T.repr (by decide +kernel) (pa_cons (pe_kw L.kO hr rfl (pk_cons (pv 4) pk_nil)) pa_nil)) (pe_callB (call_reprA sys rfl hu) rfl T.repr (by decide +kernel) (pa_cons (pv 8) pa_nil)) (nomark _))
          (pw_or1 (pt_cmpR op_ne (pe_callB (call_reprA sys rfl hu) rfl T.repr (by decide +kernel) (pa_cons (pv 4) pa_nil)) (pv 6) (nomark _))))) (pss_one (ps_ret pe_bl)) pss_nil)))))))))))
    (pss_one (ps_ret pe_bl)), ?main⟩
  case main =>
    have ll : (ns.map V.int).length = ns.length := List.length_map _
    have hm : 0 ≤ (if (if (8 : Int) < ((ns.map V.int).length : Int) then 8 else ((ns.map V.int).length : Int)) > 1 then (if (8 : Int) < ((ns.map V.int).length : Int) then 8 else ((ns.map V.int).length : Int)) else 1) ∧
        (if (if (8 : Int) < ((ns.map V.int).length : Int) then 8 else ((ns.map V.int).length : Int)) > 1 then (if (8 : Int) < ((ns.map V.int).length : Int) then 8 else ((ns.map V.int).length : Int)) else 1) ≤ 8 := by
      split <;> split <;> omega
    refine ⟨_, rfl, a, _, rfl, .inl scr.sq, _, _, rfl, _, _, rfl, _, rfl, by omega, by omega, ?_⟩
    refine for_range (lo := 0) (fun i σ H' => ∃ o1 o2 o3 o4 o5 o6 o7 o8 o9 o10, σ = [some (.ref a), o1, o2, o3, o4, o5, o6, o7, o8, o9, o10] ∧ ScrOk K H' a (ns.map V.int) ∧ TabsG PT H') ⟨_, _, _, _, _, _, _, _, _, _, rfl, scr, tbs⟩ (fun i σ H' hi h => ?_) (fun σ H' h => rfl)
    obtain ⟨o1, o2, o3, o4, o5, o6, o7, o8, o9, o10, rfl, sc, tb'⟩ := h
    refine ⟨_, rfl, _, rfl, a, ns, 0 + (i : Int), rfl, sc.sq, by omega, fun st x y z hst ok => ?_⟩
    have s0 := same_new hst (.lst [.int x, .int y, .int z])
    have sa0 : StAt (upd H' st (.lst [.int x, .int y, .int z])) st := ⟨x, y, z, upd_same, ok⟩
    have sc0 := scr_ext sc (ext_same s0)
    have tb0 := tb'.same s0
    generalize upd H' st (.lst [.int x, .int y, .int z]) = H0 at sa0 sc0 tb0 ⊢
    clear s0
    refine ⟨2, rfl, by decide, by decide, ?_⟩
    refine for_range (lo := 0) (n := 2) (fun l σ H2 => ∃ o3 o4 o5 o6 o7 o8 o9 o10, σ = [some (.ref a), some (.int (0 + (i : Int))), some (.ref st), o3, o4, o5, o6, o7, o8, o9, o10] ∧ ScrOk K H2 a (ns.map V.int) ∧ TabsG PT H2 ∧ StAt H2 st)
      ⟨_, _, _, _, _, _, _, _, rfl, sc0, tb0, sa0⟩ (fun l σ H2 hl h => ?_) (fun σ H2 h => ?_)
    · obtain ⟨o3, o4, o5, o6, o7, o8, o9, o10, rfl, sc2, tb2, sa2⟩ := h
      refine ⟨_, rfl, st, 4, 8, rfl, by decide, by decide, by decide, by decide, sa2, fun v d G mv hdv isN => ?_⟩
      have scG := sc2.kt (mv.kp.kt sa2)
      have tG := tb2.kp sa2 mv.kp
      have saG := mv.sa
      obtain ⟨cs, as, rfl, nb, bd, blk, dep⟩ := net_bd isN
      have NG := netB_G nb
      have l4 := NG.l4
      obtain ⟨w1, w2, w3⟩ := show12 (bd.mono (by decide) (by decide)) (by omega) (by omega)
      refine ⟨small (Nat.zero_le _), fun R hR => ?_⟩
      have sR := same_new hR (.lst [])
      refine ⟨_, rfl, v, _, rfl, dp_same sR hdv, w1, w2, w3, ?_⟩
      refine ⟨_, _, rfl, ?_⟩
      have hdv1 := dp_same sR hdv
      cases hdv1 with
      | @tup na nvs _ nat neach =>
      cases neach with
      | @cons cv _ _ _ h1 r1 =>
      cases r1 with
      | @cons av _ _ _ h2 r2 =>
      cases r2
      have chv : Dp K (upd G R (.lst [])) cv (.tuple ((cs.map pairD).map mkCh)) := by
        have := h1
        rw [NG.ch] at this
        exact this
      cases chv with
      | @tup ca cvs _ cat ceach =>
      cases h2 with
      | @tup aa avs _ aat aeach =>
      have la := dpAll_len aeach
      refine ⟨_, rfl, na, _, 1, _, rfl, rfl, nat, atI_at (by decide) rfl, aa, rfl, ⟨_, aat⟩, ?_⟩
      have hvG : ∀ {G' : Hp}, ExtN G G' → Dp K G' (.ref na) (.tuple [.tuple cs, .tuple as]) := fun e => dp_ext e _ _ hdv
      have tupA : tupOnlyAll as = true := by
        have := net_tupO isN
        exact (and3 (and3 (show (tupOnlyAll cs && (tupOnlyAll as && true)) = true from this)).2).1
      have tupC : tupOnlyAll ((cs.map pairD).map mkCh) = true := chs_tup _
      have tR := tG.same sR
      have eR : ExtN G (upd G R (.lst [])) := ext_same sR
      have hRn : ∀ u, G R = some u → ∃ ps, u = .tbl ps := fun u hu => by rw [hR] at hu; cases hu
      refine for_tup (xs := avs) (fun j σ G' => ∃ (ws : List V) (rows : List (List Int)) (o7 o10 : Option V), σ = [some (.ref a), some (.int (0 + (i : Int))), some (.ref st), some (.int (0 + (l : Int))), some (.ref na), some (.ref R), some (.str (PyData.tuple [.tuple cs, .tuple as]).shown), o7, o8, o9, o10] ∧ ExtN G G' ∧ TabsG PT G' ∧ SqT K G' aa avs ∧ DpAll K G' avs as ∧ SqT K G' na [.ref ca, .ref aa] ∧ SqT K G' ca cvs ∧ DpAll K G' cvs ((cs.map pairD).map mkCh) ∧ G' R = some (.lst ws) ∧ ws.length = j ∧ DpAll K G' ws (rows.map rowL) ∧ WaitC cs (as.take j) rows)
        ⟨[], [], _, _, rfl, eR, tR, aat, aeach, nat, cat, ceach, upd_same, rfl, .nil, ⟨rfl, fun ns h => (by cases h), fun i d ns h => (by cases h)⟩⟩ (fun j σ G' _ h => by obtain ⟨_, _, _, _, _, _, _, e, _⟩ := h; exact e) (fun j bv σ G' hbv h => ?_) (fun σ G' h => ?_)
      · obtain ⟨ws, rows, o7, o10, rfl, e1, t1, at1, ea1, nat1, cat1, ec1, gR, lw, dw, W⟩ := h
        obtain ⟨d, hd, hdb⟩ := dpAll_get' ea1 hbv
        have jl := (List.getElem?_eq_some_iff.mp hd).1
        obtain ⟨hb1, hb2⟩ := NG.act j d hd
        refine ⟨_, rfl, .inl ⟨rfl, _, SqL.of gR⟩, _, rfl, bv, d, _, _, rfl, hdb, hb1, hb2, fun Rm ms G1 s1 gm lm mm => ?_⟩
        refine ⟨Rm, rfl, ⟨_, SqL.of gm⟩, fun D hD => ?_⟩
        have rng : ∀ m ∈ ms, 0 ≤ m ∧ m < ((cs.map pairD).length : Int) := fun m hm => takeN_rng (fun q hq => by have := mem_side.mp hq; omega) 4 hb1 m ((mm m).mp hm)
        refine lc_list (xs := ms.map V.int) (fun m X => Same G1 X ∧ X D = some (.lst (((ms.take m).map (nthS (cs.map pairD))).map V.int))) ⟨same_new hD _, by rw [upd_same]; rfl⟩ (fun m X _ h => SqL.of (h.1 _ _ gm)) (fun m mv X hmv h => ?_) (fun X h => ?_)
        · obtain ⟨sX, gD⟩ := h
          obtain ⟨q, hq, rfl⟩ := ints_get hmv
          obtain ⟨q0, q1⟩ := rng q (List.mem_of_getElem? hq)
          have ml := (List.getElem?_eq_some_iff.mp hq).1
          obtain ⟨cc, hc⟩ : ∃ cc, (cs.map pairD)[q.toNat]? = some cc := ⟨_, List.getElem?_eq_getElem (by omega)⟩
          obtain ⟨pv_, hpv, hpd⟩ := dpAll_get (dps_same (s1.trans sX) ec1) (show ((cs.map pairD).map mkCh)[q.toNat]? = some (mkCh cc) by rw [List.getElem?_map, hc]; rfl)
          have hpd : Dp K X pv_ (.tuple [.int cc.1, .int cc.2]) := hpd
          cases hpd with
          | @tup pa ps _ pat peach =>
          cases peach with
          | @cons w1 _ _ _ j1 j2 =>
          cases j1
          have en : nthS (cs.map pairD) q = cc.1 := by
            unfold nthS
            rw [List.getD_eq_getElem?_getD, hc]
            rfl
          refine ⟨rfl, yesG ⟨_, rfl, na, _, 0, _, rfl, rfl, sqT_same (s1.trans sX) nat1, atI_at (by decide) rfl, _, rfl, ca, _, q, .ref pa, rfl, rfl, sqT_same (s1.trans sX) cat1, atI_at q0 hpv, pa, _, 0, .int cc.1, rfl, rfl, pat, atI_at (by decide) rfl, _, gD, ?_, same_upd2 sX hD, ?_⟩⟩
          · rw [List.length_map, List.length_map, List.length_take]
            exact Nat.lt_of_lt_of_le (show _ < 1000 by omega) (small (Nat.le_refl _))
          · rw [upd_same, take_more hq, List.map_append, List.map_append]
            show some (HO.lst (_ ++ [V.int cc.1])) = some (HO.lst (_ ++ [V.int (nthS (cs.map pairD) q)]))
            rw [en]
        · obtain ⟨sX, gD⟩ := h
          rw [List.length_map, List.take_length] at gD
          refine ⟨D, _, rfl, SqL.of gD, by rw [List.length_map]; omega, fun p c hc fp => ?_⟩
          have s2 := same_new fp (SetO w p (fun j => decide (j ∈ ms.map (nthS (cs.map pairD)))) c)
          rw [List.length_map] at hc
          refine ⟨p, _, c, rfl, upd_same, by omega, fun ss p3 srt hm _ f3 => ?_⟩
          have s3 := same_new f3 (.lst (ss.map V.int))
          refine ⟨p3, _, rfl, .inl ⟨SqL.of upd_same, fun p4 f4 => ?_⟩⟩
          have s4 := same_new f4 (.tup (ss.map V.int))
          have sA := s1.trans (sX.trans (s2.trans (s3.trans s4)))
          have gR2 := sA _ _ gR
          have kt := kt_updL (l' := ws ++ [.ref p4]) gR2
          have lr : rows.length = j := by rw [W.len, List.length_take]; omega
          refine ⟨R, ws, _, rfl, rfl, gR2, Nat.lt_of_lt_of_le (show _ < 1000 by omega) (small (Nat.le_refl _)), ws ++ [.ref p4], rows ++ [ss], _, _, rfl, ext_upd (e1.trans (ext_same sA)) hRn, tabsG_upd (t1.same sA) gR2, sqT_kt kt (sqT_same sA at1), dpAll_kt kt _ _ tupA (dps_same sA ea1), sqT_kt kt (sqT_same sA nat1), sqT_kt kt (sqT_same sA cat1), dpAll_kt kt _ _ tupC (dps_same sA ec1), upd_same, by rw [List.length_append, lw]; rfl, ?_, ?_⟩
          · refine dpAll_kt kt _ _ (tup_rows _) ?_
            rw [List.map_append]
            exact dpAll_app (dps_same sA dw) (.cons (.tup (SqT.of upd_same) (dp_ints ss)) .nil)
          · refine ⟨by rw [List.length_append, lr, List.length_take]; show j + 1 = _; omega, fun q hq => ?_, fun i' d' q hd' hq => ?_⟩
            · rcases List.mem_append.mp hq with hq | hq
              · exact W.srt q hq
              · rw [List.mem_singleton.mp hq]
                exact srt
            · have il : i' < j + 1 := by
                have := (List.getElem?_eq_some_iff.mp hq).1
                rw [List.length_append, lr] at this
                exact this
              rw [List.getElem?_take, if_pos il] at hd'
              by_cases c : i' < j
              · rw [List.getElem?_append_left (by omega)] at hq
                exact W.mem i' d' q (by rw [List.getElem?_take, if_pos c]; exact hd') hq
              · obtain rfl : i' = j := by omega
                rw [List.getElem?_append_right (by omega), lr, Nat.sub_self] at hq
                cases hq
                rw [hd] at hd'
                cases hd'
                intro k'
                rw [flN_send 4 hb1 k', hm k', decide_eq_true_eq, List.mem_map]
                constructor
                · rintro ⟨m, h1, h2⟩
                  exact ⟨m, (mm m).mp h1, h2.symm⟩
                · rintro ⟨m, h1, h2⟩
                  exact ⟨m, (mm m).mpr h1, h2.symm⟩
      · obtain ⟨ws, rows, o7, o10, rfl, e1, t1, at1, ea1, nat1, cat1, ec1, gR, lw, dw, W⟩ := h
        rw [la, List.take_length] at W
        clear lw at1 ea1 nat1 cat1 ec1
        obtain ⟨rw_, srt, _⟩ := W.ok nb
        have n8 : rows.length ≤ 8 := by rw [W.len]; omega
        refine ⟨_, rfl, R, ws, rows, rfl, gR, dw, rw_, srt, n8, fun dv dd G1 s1 hdd rd => ?_⟩
        obtain ⟨c1, c2, c3⟩ := chart_bd rw_ n8
        obtain ⟨u1, u2, u3⟩ := show12 c1 (by omega) (by omega)
        obtain ⟨b1, b2, b3⟩ := rnd_bd rw_ n8 rd
        obtain ⟨x1, x2, x3⟩ := show12 b1 (by omega) (by omega)
        have e2 := e1.trans (ext_same s1)
        have t2 := t1.same s1
        refine ⟨2, rfl, by decide, by decide, ?_⟩
        refine for_range (lo := 0) (n := 2) (fun l' σ G2 => ∃ o9 : Option V, σ = [some (.ref a), some (.int (0 + (i : Int))), some (.ref st), some (.int (0 + (l : Int))), some (.ref na), some (.ref R), some (.str (PyData.tuple [.tuple cs, .tuple as]).shown), o7, some dv, o9, o10] ∧ ExtN G G2 ∧ TabsG PT G2 ∧ G2 R = some (.lst ws) ∧ DpAll K G2 ws (rows.map rowL) ∧ Dp K G2 dv dd)
          ⟨_, rfl, e2, t2, s1 _ _ gR, dps_same s1 dw, hdd⟩ (fun l' σ G2 hl' h => ?_) (fun σ G2 h => ?_)
        · obtain ⟨o9, rfl, e3, t3, gR3, dw3, hdd3⟩ := h
          refine ⟨_, rfl, .ref na, cs, as, rfl, hvG e3, nb, t3, fun wv rows' G4 e4 t4 dwv W' => ?_⟩
          have er := W'.uniq W
          subst er
          have gR4 := ext_lst e4 gR3
          have dw4 := dp_exts e4 _ _ dw3
          refine ⟨wv, _, rfl, dwv, u1, u2, u3, _, rfl, R, ws, rfl, .inl ⟨SqL.of gR4, fun p2 q2 => ?_⟩⟩
          have s5 := same_new q2 (.tup ws)
          refine ⟨.ref p2, chD rows', rfl, .tup (SqT.of upd_same) (dps_same s5 dw4), u1, u2, u3, rfl, _, rfl, ?_⟩
          have e5 := (e3.trans e4).trans (ext_same s5)
          have t5 := t4.same s5
          refine ifF (by rw [decide_eq_true rfl]; rfl) ⟨_, rfl, .ref na, cs, as, rfl, hvG e5, nb, t5, fun ov od rows2 G6 e6 t6 hod W2 rd2 => ?_⟩
          have er2 := W2.uniq W
          subst er2
          have eo := rd2.uniq rw_ rd
          subst eo
          have hdd6 := dp_ext e6 _ _ (dp_same s5 (dp_ext e4 _ _ hdd3))
          refine ⟨ov, _, rfl, hod, x1, x2, x3, _, rfl, dv, _, rfl, hdd6, x1, x2, x3, rfl, _, rfl, ?_⟩
          refine ifF (by rw [decide_eq_true rfl]; rfl) ⟨_, rfl, e5.trans e6, t6, ext_lst e6 (s5 _ _ gR4), dp_exts e6 _ _ (dps_same s5 dw4), hdd6⟩
        · obtain ⟨o9, rfl, e3, t3, gR3, dw3, hdd3⟩ := h
          refine ⟨_, rfl, rfl, .ref na, cs, as, rfl, hvG e3, nb, t3, fun ov od rows2 G6 e6 t6 hod W2 rd2 => ?_⟩
          have er2 := W2.uniq W
          subst er2
          have eo := rd2.uniq rw_ rd
          subst eo
          have e36 := e3.trans e6
          refine ⟨ov, _, rfl, hod, x1, x2, x3, _, rfl, dv, _, rfl, dp_ext e6 _ _ hdd3, x1, x2, x3, rfl, _, rfl, ?_⟩
          refine ifF (by rw [decide_eq_true rfl]; rfl) ⟨_, rfl, .ref na, _, rfl, hvG e36, w1, w2, w3, _, rfl, rfl, _, rfl, ?_⟩
          refine ifF (by rw [decide_eq_true rfl]; rfl) ?_
          exact ⟨_, _, _, _, _, _, _, _, rfl, scr_ext scG e36, t6, st_ext saG e36⟩
    · obtain ⟨o3, o4, o5, o6, o7, o8, o9, o10, rfl, sc2, tb2, sa2⟩ := h
      exact ⟨_, _, _, _, _, _, _, _, _, _, rfl, sc2, tb2⟩
end
/-! what the top's tables hold -/
section
variable {K : PySem.W.Frag} {w : World}
/-- an entry of a table with text keys -/
def Ent (P : Params) (p : Str × Value) (e : DictEntry) : Prop := ∃ t, e = ⟨PyData.keyHash P p.1, .str p.1 t, p.2⟩
theorem ent_lit {P : Params} : ∀ {l : List (Str × Value)} {es : List DictEntry}, Paired (Ent P) l es → PySem.W.KeysLit P es
  | _, _, .nil => trivial
  | _, _, .cons h t => by
    obtain ⟨tk, rfl⟩ := h
    exact ⟨⟨_, tk, rfl, rfl⟩, ent_lit t⟩
theorem ent_find {P : Params} (z : Str) : ∀ {l : List (Str × Value)} {es : List DictEntry}, Paired (Ent P) l es → (es.find? (·.key.isStr z)).map (·.val) = l.lookup z ∧ es.any (·.refKey) = false
  | _, _, .nil => ⟨rfl, rfl⟩
  | (x, v) :: l, _, .cons h t => by
    obtain ⟨tk, rfl⟩ := h
    obtain ⟨i1, i2⟩ := ent_find z t
    refine ⟨?_, ?_⟩
    · rw [List.find?_cons, List.lookup_cons]
      have e : (Value.str x tk).isStr z = (z == x) := by
        show (x == z) = (z == x)
        rw [beq_sd, beq_sd]
        exact decide_eq_decide.mpr eq_comm
      show Option.map _ (match (Value.str x tk).isStr z with | true => some (⟨PyData.keyHash P x, .str x tk, v⟩ : DictEntry) | false => _) = _
      rw [e]
      cases z == x with
      | true => rfl
      | false => exact i1
    · rw [List.any_cons, i2]
      rfl
theorem ent_ns {d : Addr} {es : Array DictEntry} {n : Nat} {l : List (Str × Value)} (lk : K.lookup d = some ⟨.type "dict", none, .dict es n, #[]⟩) (h : Paired (Ent w.params) l es.toList) (z : Str) : PySem.W.nsIn K d z = some (l.lookup z) := by
  obtain ⟨h1, h2⟩ := ent_find z h
  unfold PySem.W.nsIn
  rw [lk]
  show (match es.toList.find? (·.key.isStr z) with | some e => some (some e.val) | none => if es.toList.any (·.refKey) = true then none else some none) = _
  cases hf : es.toList.find? (·.key.isStr z) with
  | some e =>
    rw [hf] at h1
    rw [← h1]
    rfl
  | none =>
    rw [hf] at h1
    rw [← h1, h2]
    rfl
theorem pair_look {α β γ : Type} [BEq α] [LawfulBEq α] {R : β → γ → Prop} (z : α) : ∀ {l : List (α × β)} {m : List (α × γ)}, Paired (fun p q => p.1 = q.1 ∧ R p.2 q.2) l m → (l.lookup z = none → m.lookup z = none) ∧ ∀ b, l.lookup z = some b → ∃ c, m.lookup z = some c ∧ R b c
  | _, _, .nil => ⟨fun _ => rfl, fun b h => by cases h⟩
  | (x, b) :: l, (y, c) :: m, .cons h t => by
    obtain ⟨i1, i2⟩ := pair_look z t
    obtain ⟨e, r⟩ := h
    have e : x = y := e
    subst e
    rw [List.lookup_cons, List.lookup_cons]
    cases z == x with
    | true => exact ⟨(fun q => by cases q), fun b' q => by cases q; exact ⟨c, rfl, r⟩⟩
    | false => exact ⟨i1, i2⟩
theorem deedT_of {d : Addr} {es : Array DictEntry} {n : Nat} {l : List (Str × Value)} (lk : K.lookup d = some ⟨.type "dict", none, .dict es n, #[]⟩) (low : (d == sysModules) = false) (h : Paired (Ent w.params) l es.toList) (hl : Paired (fun (p : Str × List Kd) (q : Str × Value) => p.1 = q.1 ∧ ∃ a, q.2 = .ref a ∧ SqK K a (p.2.map fun k => V.str (kdS k))) deedL l) : DeedT K w d := by
  refine ⟨⟨es, n, lk, ent_lit h, low⟩, fun z hz => ?_, fun z ks hz => ?_⟩
  · rw [ent_ns lk h, (pair_look (R := fun (p : List Kd) (q : Value) => ∃ a, q = .ref a ∧ SqK K a (p.map fun k => V.str (kdS k))) z hl).1 hz]
  · obtain ⟨c, h1, a, h2, h3⟩ := (pair_look (R := fun (p : List Kd) (q : Value) => ∃ a, q = .ref a ∧ SqK K a (p.map fun k => V.str (kdS k))) z hl).2 ks hz
    refine ⟨a, ?_, h3⟩
    rw [ent_ns lk h, h1, h2]
def brLst : List (Str × Nat) := [("if", 2), ("while", 1)]
theorem brK_look (z : Str) : brK z = brLst.lookup z := by
  unfold brK brLst
  rw [List.lookup_cons]
  by_cases e : z = "if"
  · rw [if_pos e, e]
    rfl
  · rw [if_neg e, show (z == ("if" : Str)) = false from beq_eq_false_iff_ne.mpr e]
    show _ = List.lookup z [(("while" : Str), 1)]
    rw [List.lookup_cons]
    by_cases e2 : z = "while"
    · rw [if_pos e2, e2]
      rfl
    · rw [if_neg e2, show (z == ("while" : Str)) = false from beq_eq_false_iff_ne.mpr e2]
      rfl
theorem branchT_of {d : Addr} {es : Array DictEntry} {n : Nat} {l : List (Str × Value)} (lk : K.lookup d = some ⟨.type "dict", none, .dict es n, #[]⟩) (low : (d == sysModules) = false) (h : Paired (Ent w.params) l es.toList) (hl : Paired (fun (p : Str × Nat) (q : Str × Value) => p.1 = q.1 ∧ ∃ t, q.2 = .int (p.2 : Nat) t) brLst l) : BranchT K w d := by
  refine ⟨⟨es, n, lk, ent_lit h, low⟩, fun z hz => ?_, fun z m hz => ?_⟩
  · rw [brK_look] at hz
    rw [ent_ns lk h, (pair_look (R := fun (p : Nat) (q : Value) => ∃ t, q = .int (p : Nat) t) z hl).1 hz]
  · rw [brK_look] at hz
    obtain ⟨c, h1, t, h2⟩ := (pair_look (R := fun (p : Nat) (q : Value) => ∃ t, q = .int (p : Nat) t) z hl).2 m hz
    refine ⟨t, ?_⟩
    rw [ent_ns lk h, h1, h2]
end
/-- a def of the text that stands under its name -/
structure Std0 (K : PySem.W.Frag) (mg : Str → Option Value) (x : Str) (st : Stmt) (f : Addr) (fd : FuncData) : Prop where
  fn : Fun K x x st f fd
  nm : mg x = some (.ref f)
structure Std (K : PySem.W.Frag) (mg : Str → Option Value) (x : Str) (st : Stmt) (ps : List Str) (f : Addr) (fd : FuncData) : Prop where
  fn : Fun K x x st f fd
  nm : mg x = some (.ref f)
  bi : Binds K fd ps []
theorem Std.cal {P : Program} {w : World} {K : PySem.W.Frag} {mg : Str → Option Value} {base : Heap} {x : Str} {st : Stmt} {ps : List Str} {f : Addr} {fd : FuncData} {k j : Nat} {sp : Sp} (D : Std K mg x st ps f fd) (F : FnOk P w K mg base CX0 k f fd ps sp) (h : k ≤ j := by omega) : Cal P w K mg base x j ps sp :=
  ⟨f, fd, F.mono h, D.nm, D.fn.kp, D.bi⟩
section
open PySem.Spec PyProof.Rows LamX
theorem all_cals {P : Program} {w : World} {K : PySem.W.Frag} {mg : Str → Option Value} {base : Heap} {PA1 cA1 PA2 cA2 PA3 cA3 PA4 cA4 PA5 cA5 PA6 cA6 PA7 cA7 PA8 cA8 PA9 cA9 : Addr} {adS adU adH dtD dtB : Addr} (T : Free mg) (C : Cst mg) (e0 : mg "all" = none) (e1 : mg "str" = none) (e2 : mg "zip" = none) (e3 : mg "enumerate" = none) (e4 : mg "sorted" = none) (e5 : mg "set" = none)
    (mS : mg "SIGNS" = some (.ref adS)) (hS : SqK K adS (signs.map V.str)) (mU : mg "UNLIKE" = some (.ref adU)) (hU : SqK K adU (unlikeL.map V.str)) (mH : mg "HANDING" = some (.ref adH)) (hH : SqK K adH (handL.map V.str)) (mD : mg "DEEDS" = some (.ref dtD)) (hD : DeedT K w dtD) (mB : mg "BRANCHES" = some (.ref dtB)) (hB : BranchT K w dtB)
    {f0 : Addr} {d0 : FuncData} (D0 : Std K mg "is_whole" sWhole ["thing"] f0 d0) {f1 : Addr} {d1 : FuncData} (D1 : Std K mg "is_within" sWithin ["thing", "least", "most"] f1 d1) {f2 : Addr} {d2 : FuncData} (D2 : Std K mg "is_tuple" sTuple ["thing", "least", "most"] f2 d2) {f3 : Addr} {d3 : FuncData} (D3 : Std K mg "is_number" sNumber ["thing"] f3 d3) {f4 : Addr} {d4 : FuncData} (D4 : Std K mg "is_place" sPlace ["thing"] f4 d4) {f5 : Addr} {d5 : FuncData} (D5 : Std K mg "are_small" sSmall ["text"] f5 d5) {f6 : Addr} {d6 : FuncData} (D6 : Std K mg "is_number_name" sNumName ["thing"] f6 d6) {f7 : Addr} {d7 : FuncData} (D7 : Std K mg "is_graph_name" sGraphName ["thing"] f7 d7) {f8 : Addr} {d8 : FuncData} (D8 : Std K mg "fits" sFits ["kind", "part", "sends", "takes"] f8 d8) {f9 : Addr} {d9 : FuncData} (D9 : Std K mg "word_of" sWordOf ["thing"] f9 d9) {f10 : Addr} {d10 : FuncData} (D10 : Std K mg "is_deed" sIsDeed ["thing", "sends", "takes"] f10 d10) {f11 : Addr} {d11 : FuncData} (D11 : Std K mg "is_branch" sIsBranch ["thing"] f11 d11) {f12 : Addr} {d12 : FuncData} (D12 : Std K mg "statement_size" sStSize ["thing", "level", "sends", "takes"] f12 d12) {f13 : Addr} {d13 : FuncData} (D13 : Std K mg "block_size" sBlSize ["thing", "level", "sends", "takes"] f13 d13) {f14 : Addr} {d14 : FuncData} (D14 : Std K mg "is_channel" sIsChan ["thing", "actors"] f14 d14) {f15 : Addr} {d15 : FuncData} (D15 : Std K mg "sends_of" sSends ["channels", "actor"] f15 d15) {f16 : Addr} {d16 : FuncData} (D16 : Std K mg "takes_of" sTakes ["channels", "actor"] f16 d16) {f17 : Addr} {d17 : FuncData} (D17 : Std K mg "is_net" sIsNet ["thing"] f17 d17) {f18 : Addr} {d18 : FuncData} (D18 : Std K mg "check_net" sCheckNet ["net"] f18 d18) {f19 : Addr} {d19 : FuncData} (D19 : Std K mg "hands_on" sHands ["deed"] f19 d19) {f20 : Addr} {d20 : FuncData} (D20 : Std K mg "size_of" sSizeOf ["statement"] f20 d20) {f21 : Addr} {d21 : FuncData} (D21 : Std K mg "flat_block" sFlatBl ["block", "first", "behind"] f21 d21) {f22 : Addr} {d22 : FuncData} (D22 : Std K mg "flat_statement" sFlatSt ["statement", "number", "behind"] f22 d22) {f23 : Addr} {d23 : FuncData} (D23 : Std K mg "flat_if" sFlatIf ["statement", "number", "behind"] f23 d23) {f24 : Addr} {d24 : FuncData} (D24 : Std K mg "flat_while" sFlatWh ["statement", "number", "behind"] f24 d24) {f25 : Addr} {d25 : FuncData} (D25 : Std K mg "flat" sFlat ["net"] f25 d25) {f26 : Addr} {d26 : FuncData} (D26 : Std K mg "are_points" sPoints ["thing", "many"] f26 d26) {f27 : Addr} {d27 : FuncData} (D27 : Std K mg "is_chart" sIsChart ["thing"] f27 d27) {f28 : Addr} {d28 : FuncData} (D28 : Std K mg "check_chart" sCheckCh ["chart"] f28 d28) {f29 : Addr} {d29 : FuncData} (D29 : Std K mg "befores_of" sBefores ["chart"] f29 d29) {f30 : Addr} {d30 : FuncData} (D30 : Std K mg "distances" sDist ["links", "origins", "least", "most"] f30 d30) {f31 : Addr} {d31 : FuncData} (D31 : Std K mg "nearest" sNear ["points", "far"] f31 d31) {f32 : Addr} {d32 : FuncData} (D32 : Std K mg "shortest" sShort ["chart", "far", "point"] f32 d32) {f33 : Addr} {d33 : FuncData} (D33 : Std K mg "least_ranks" sRanks ["chart"] f33 d33) {f34 : Addr} {d34 : FuncData} (D34 : Std K mg "least_ring" sLring ["chart"] f34 d34) {f35 : Addr} {d35 : FuncData} (D35 : Std K mg "rounds" sRounds ["chart"] f35 d35) {f36 : Addr} {d36 : FuncData} (D36 : Std K mg "senders_to" sSendersTo ["channels", "rows"] f36 d36) {f37 : Addr} {d37 : FuncData} (D37 : Std K mg "waiting_chart" sWaiting ["net"] f37 d37) {f38 : Addr} {d38 : FuncData} (D38 : Std K mg "rounds_of" sRoundsOf ["net"] f38 d38) {f39 : Addr} {d39 : FuncData} (D39 : Std K mg "_law_cell_at" sCell ["_law_script", "_law_k"] f39 d39) {f40 : Addr} {d40 : FuncData} (D40 : Std K mg "_law_state" sState ["_law_script", "_law_k"] f40 d40) {f41 : Addr} {d41 : FuncData} (D41 : Std K mg "_law_choice" sChoice ["_law_state_here", "_law_many_here"] f41 d41) {f42 : Addr} {d42 : FuncData} (D42 : Std K mg "_law_many" sMany ["_law_block_here"] f42 d42) {f43 : Addr} {d43 : FuncData} (D43 : Std K mg "_law_simple" sSimple ["_law_state_here", "_law_sends", "_law_takes_here"] f43 d43) {f44 : Addr} {d44 : FuncData} (D44 : Std K mg "_law_block" sBlock ["_law_state_here", "_law_sends", "_law_takes_here", "_law_deep", "_law_most"] f44 d44) {f45 : Addr} {d45 : FuncData} (D45 : Std K mg "_law_ends" sEnds ["_law_channels", "_law_actor", "_law_side"] f45 d45) {f46 : Addr} {d46 : FuncData} (D46 : Std K mg "_law_net" sNet ["_law_state_here", "_law_most", "_law_long"] f46 d46) {f47 : Addr} {d47 : FuncData} (D47 : Std K mg "_law_takes" sLTakes ["_law_block_here"] f47 d47) {f48 : Addr} {d48 : FuncData} (D48 : Std K mg "_law_rounds" sLRounds ["_law_chart"] f48 d48)
    (cdA1 : d5.code = .ref cA1) (TA1 : LamX.TabB base mg cA1 PA1) (cdA2 : d10.code = .ref cA2) (TA2 : LamX.TabB base mg cA2 PA2) (cdA3 : d14.code = .ref cA3) (TA3 : LamX.TabB base mg cA3 PA3) (cdA4 : d15.code = .ref cA4) (TA4 : LamX.TabB base mg cA4 PA4) (cdA5 : d16.code = .ref cA5) (TA5 : LamX.TabB base mg cA5 PA5) (cdA6 : d17.code = .ref cA6) (TA6 : LamX.TabB base mg cA6 PA6) (cdA7 : d27.code = .ref cA7) (TA7 : LamX.TabB base mg cA7 PA7) (cdA8 : d25.code = .ref cA8) (TA8 : LamX.TabB base mg cA8 PA8) (cdA9 : d37.code = .ref cA9) (TA9 : LamX.TabB base mg cA9 PA9) : Law60 P w K mg base [PA1, PA2, PA3, PA4, PA5, PA6, PA7, PA8, PA9] 24 := by
  have mA1 : PA1 ∈ [PA1, PA2, PA3, PA4, PA5, PA6, PA7, PA8, PA9] := List.mem_cons_self
  have mA2 : PA2 ∈ [PA1, PA2, PA3, PA4, PA5, PA6, PA7, PA8, PA9] := (List.mem_cons_of_mem _ List.mem_cons_self)
  have mA3 : PA3 ∈ [PA1, PA2, PA3, PA4, PA5, PA6, PA7, PA8, PA9] := (List.mem_cons_of_mem _ (List.mem_cons_of_mem _ List.mem_cons_self))
  have mA4 : PA4 ∈ [PA1, PA2, PA3, PA4, PA5, PA6, PA7, PA8, PA9] := (List.mem_cons_of_mem _ (List.mem_cons_of_mem _ (List.mem_cons_of_mem _ List.mem_cons_self)))
  have mA5 : PA5 ∈ [PA1, PA2, PA3, PA4, PA5, PA6, PA7, PA8, PA9] := (List.mem_cons_of_mem _ (List.mem_cons_of_mem _ (List.mem_cons_of_mem _ (List.mem_cons_of_mem _ List.mem_cons_self))))
  have mA6 : PA6 ∈ [PA1, PA2, PA3, PA4, PA5, PA6, PA7, PA8, PA9] := (List.mem_cons_of_mem _ (List.mem_cons_of_mem _ (List.mem_cons_of_mem _ (List.mem_cons_of_mem _ (List.mem_cons_of_mem _ List.mem_cons_self)))))
  have mA7 : PA7 ∈ [PA1, PA2, PA3, PA4, PA5, PA6, PA7, PA8, PA9] := (List.mem_cons_of_mem _ (List.mem_cons_of_mem _ (List.mem_cons_of_mem _ (List.mem_cons_of_mem _ (List.mem_cons_of_mem _ (List.mem_cons_of_mem _ List.mem_cons_self))))))
  have mA8 : PA8 ∈ [PA1, PA2, PA3, PA4, PA5, PA6, PA7, PA8, PA9] := (List.mem_cons_of_mem _ (List.mem_cons_of_mem _ (List.mem_cons_of_mem _ (List.mem_cons_of_mem _ (List.mem_cons_of_mem _ (List.mem_cons_of_mem _ (List.mem_cons_of_mem _ List.mem_cons_self)))))))
  have mA9 : PA9 ∈ [PA1, PA2, PA3, PA4, PA5, PA6, PA7, PA8, PA9] := (List.mem_cons_of_mem _ (List.mem_cons_of_mem _ (List.mem_cons_of_mem _ (List.mem_cons_of_mem _ (List.mem_cons_of_mem _ (List.mem_cons_of_mem _ (List.mem_cons_of_mem _ (List.mem_cons_of_mem _ List.mem_cons_self))))))))
  have cW := D0.cal (j := 1) (ok_whole (P := P) (w := w) (base := base) (k := 0) D0.fn T)
  have cWi := D1.cal (j := 2) (ok_within D1.fn cW)
  have cTu := D2.cal (j := 1) (ok_tuple (P := P) (w := w) (base := base) (k := 0) D2.fn T)
  have cNu := D3.cal (j := 3) (ok_number D3.fn C cWi)
  have cPl := D4.cal (j := 3) (ok_placeD D4.fn C cWi)
  have cSm := D5.cal (j := 2) (ok_small (P := P) (w := w) (base := base) (k := 0) (PT := [PA1, PA2, PA3, PA4, PA5, PA6, PA7, PA8, PA9]) D5.fn cdA1 TA1 mA1 e0)
  have cNN := D6.cal (j := 3) (ok_numName D6.fn T e1 C cSm)
  have cGN := D7.cal (j := 3) (ok_graphName D7.fn T e1 C cSm)
  have cFi := D8.cal (j := 4) (ok_fits (k := 3) D8.fn mS hS cNN cGN cNu cPl (cW.mono (by omega)))
  have cWo := D9.cal (j := 1) (ok_wordOf (P := P) (w := w) (base := base) (k := 0) D9.fn T e1)
  have cDe := D10.cal (j := 6) (ok_isDeed (k := 4) D10.fn cdA2 TA2 mA2 T e0 e2 mD hD mU hU (cWo.mono (by omega)) cFi)
  have cBr := D11.cal (j := 4) (ok_isBranch (k := 3) D11.fn T mB hB (cWo.mono (by omega)) cNN)
  have cBl := D13.cal (j := 15) (all_blk (k := 6) (PT := [PA1, PA2, PA3, PA4, PA5, PA6, PA7, PA8, PA9]) D13.fn D12.fn D13.nm D12.nm D13.bi D12.bi C (cTu.mono (by omega)) cDe (cBr.mono (by omega)) 4 (by omega))
  have cCn := D14.cal (j := 4) (ok_isChan (k := 2) (PT := [PA1, PA2, PA3, PA4, PA5, PA6, PA7, PA8, PA9]) D14.fn cdA3 TA3 mA3 e0 (cTu.mono (by omega)) cWi)
  have cSd := D15.cal (j := 2) (ok_sSends (P := P) (w := w) (base := base) (k := 0) (PT := [PA1, PA2, PA3, PA4, PA5, PA6, PA7, PA8, PA9]) D15.fn cdA4 TA4 mA4 T)
  have cTk := D16.cal (j := 2) (ok_sTakes (P := P) (w := w) (base := base) (k := 0) (PT := [PA1, PA2, PA3, PA4, PA5, PA6, PA7, PA8, PA9]) D16.fn cdA5 TA5 mA5 T)
  have cIn := D17.cal (j := 17) (ok_isNet (k := 15) D17.fn cdA6 TA6 mA6 T C e0 e3 (cTu.mono (by omega)) (cCn.mono (by omega)) (cSd.mono (by omega)) (cTk.mono (by omega)) cBl)
  have cCk := D18.cal (j := 18) (ok_checkNet (k := 17) D18.fn cIn)
  have cHa := D19.cal (j := 1) (ok_hands (P := P) (w := w) (base := base) (k := 0) D19.fn mH hH)
  have cSz : ∀ n, n ≤ 3 → Cal P w K mg base "size_of" 4 ["statement"] (spSizeOf K n) := fun n hn => D20.cal (j := 4) (all_size (P := P) (w := w) (base := base) (k := 0) D20.fn D20.nm D20.bi T n)
  have cFb := D21.cal (j := 16) (all_fb (k := 4) D21.fn D22.fn D23.fn D24.fn D21.nm D22.nm D23.nm D24.nm D21.bi D22.bi D23.bi D24.bi T e3 cSz (cHa.mono (by omega)) 4 (by omega))
  have oF := ok_flat (k := 18) D25.fn cdA8 TA8 mA8 T C cCk (cFb.mono (by omega))
  have cFl := D25.cal (j := 20) oF
  have cCh := D41.cal (j := 1) (ok_choice (P := P) (w := w) (base := base) (mg := mg) (k := 0) D41.fn)
  have cCe := D39.cal (j := 1) (ok_cell (P := P) (w := w) (base := base) (k := 0) D39.fn T)
  have cMa : ∀ n, n ≤ 4 → Cal P w K mg base "_law_many" 4 ["_law_block_here"] (spMany K n) := fun n hn => D42.cal (j := 4) (all_many (P := P) (w := w) (base := base) (k := 0) D42.fn D42.nm D42.bi T n)
  have cSi := D43.cal (j := 2) (ok_simple (k := 1) D43.fn T cCh)
  have cLb := D44.cal (j := 6) (all_block (k := 2) D44.fn D44.nm D44.bi T (cCh.mono (by omega)) cSi 3 (by omega))
  have cEn := D45.cal (j := 1) (ok_ends (P := P) (w := w) (base := base) (k := 0) D45.fn e3)
  have cPo := D26.cal (j := 3) (ok_points D26.fn T cWi)
  have cIs := D27.cal (j := 5) (ok_isChart (PT := [PA1, PA2, PA3, PA4, PA5, PA6, PA7, PA8, PA9]) D27.fn cdA7 TA7 mA7 T e0 cPo)
  have cCkC := D28.cal (j := 6) (ok_checkCh D28.fn cIs)
  have cBe := D29.cal (j := 1) (ok_bef (P := P) (w := w) (base := base) (k := 0) D29.fn e3)
  have cDi := D30.cal (j := 1) (ok_distR (P := P) (w := w) (base := base) (k := 0) D30.fn T)
  have cNe := D31.cal (j := 1) (ok_nearTo (P := P) (w := w) (base := base) (mg := mg) (k := 0) D31.fn)
  have cSh := D32.cal (j := 2) (ok_shortC (k := 1) D32.fn T cNe)
  have cRk := D33.cal (j := 6) (ok_ranks (k := 1) D33.fn T cBe)
  have cLg := D34.cal (j := 6) (ok_lring (k := 2) D34.fn T (cBe.mono (by omega)) (cDi.mono (by omega)) (cNe.mono (by omega)) cSh)
  have cRd := D35.cal (j := 7) (ok_rounds (k := 6) (PT := [PA1, PA2, PA3, PA4, PA5, PA6, PA7, PA8, PA9]) D35.fn cCkC cRk cLg)
  have cSe := D36.cal (j := 1) (ok_senders (P := P) (w := w) (base := base) (k := 0) D36.fn T e4)
  have cWt := D37.cal (j := 21) (ok_waiting (k := 19) D37.fn cdA9 TA9 mA9 T cFl (cSe.mono (by omega)))
  have oO := ok_roundsOf (k := 21) (PT := [PA1, PA2, PA3, PA4, PA5, PA6, PA7, PA8, PA9]) D38.fn cWt (cRd.mono (by omega))
  exact {
    cSt := D40.cal (ok_state D40.fn T cCe)
    cN := D46.cal (ok_net (k := 6) D46.fn T (cCh.mono (by omega)) (cEn.mono (by omega)) cLb ((cMa 4 (by omega)).mono (by omega)))
    cT := D47.cal (ok_ltakes (P := P) (w := w) (base := base) (k := 0) D47.fn T)
    cR := D48.cal (ok_lrounds (P := P) (w := w) (base := base) (k := 0) D48.fn T)
    cW := cWt.mono (by omega)
    cO := D38.cal oO
    kO := ⟨_, _, oO.mono (by omega), D38.nm, D38.fn.kp, kb_roundsOf D38.fn⟩ }
/-- a def with its code's table -/
def Coded (K : PySem.W.Frag) (mg : Str → Option Value) (x : Str) (st : Stmt) (c Pt : Addr) : Prop := ∃ (f : Addr) (fd : FuncData) (oT : Obj) (vT : Array Value), mg x = some (.ref f) ∧ Fun K x x st f fd ∧ fd.code = .ref c ∧ K.lookup c = some oT ∧ oT.data = .fields vT ∧ vT[11]? = some (.ref Pt) ∧ K.lookup Pt = none
/-- what the top leaves -/
def Left60 (K : PySem.W.Frag) (w : World) (mg : Str → Option Value) (fa : Addr) : Prop := ∃ (fd : FuncData) (cA1 PA1 cA2 PA2 cA3 PA3 cA4 PA4 cA5 PA5 cA6 PA6 cA7 PA7 cA8 PA8 cA9 PA9 : Addr), Fun K "law" "law" sLaw fa fd ∧ (∀ (s : Shared) (v : Value), BindsTo s fd ⟨[v], []⟩ [("_law_script", v)]) ∧ Free mg ∧ mg "all" = none ∧ mg "str" = none ∧ mg "zip" = none ∧ mg "enumerate" = none ∧ mg "sorted" = none ∧ mg "set" = none ∧ 
  Coded K mg "are_small" sSmall cA1 PA1 ∧ Coded K mg "is_deed" sIsDeed cA2 PA2 ∧ Coded K mg "is_channel" sIsChan cA3 PA3 ∧ Coded K mg "sends_of" sSends cA4 PA4 ∧ Coded K mg "takes_of" sTakes cA5 PA5 ∧ Coded K mg "is_net" sIsNet cA6 PA6 ∧ Coded K mg "is_chart" sIsChart cA7 PA7 ∧ Coded K mg "flat" sFlat cA8 PA8 ∧ Coded K mg "waiting_chart" sWaiting cA9 PA9 ∧
  ∀ (P : Program) (base : Heap), LamX.TabB base mg cA1 PA1 → LamX.TabB base mg cA2 PA2 → LamX.TabB base mg cA3 PA3 → LamX.TabB base mg cA4 PA4 → LamX.TabB base mg cA5 PA5 → LamX.TabB base mg cA6 PA6 → LamX.TabB base mg cA7 PA7 → LamX.TabB base mg cA8 PA8 → LamX.TabB base mg cA9 PA9 → Law60 P w K mg base [PA1, PA2, PA3, PA4, PA5, PA6, PA7, PA8, PA9] 24
set_option maxHeartbeats 8000000 in
theorem all_mk {K : PySem.W.Frag} {w : World} {h : Heap} {mg : Str → Option Value} {fa : Addr} (X : K.In h) (G : h.Ns mainGlobals mg) (hfa : mg "law" = some (.ref fa))
    {f0 : Addr} {od0 an0 : Option Addr} {sl0 : Array (Option Value)} {oc0 kV0 dc0 pm0 ct0 : Value} {cd0 : Value}
    (a0 : PySem.W.nsIn K mainGlobals "is_whole" = some (some (.ref f0))) (l0 : K.lookup f0 = some ⟨oc0, od0, .func (PySem.W.fnOf "is_whole" "is_whole" (defArgs sWhole) (defBody sWhole) (defScope sWhole) .none kV0 dc0 pm0 an0 cd0 ct0), sl0⟩) (c0 : PySem.W.codeIn K cd0 "is_whole" = true) (k0 : PySem.W.keepIn K (.ref f0) = true)
    {f1 : Addr} {od1 an1 : Option Addr} {sl1 : Array (Option Value)} {oc1 kV1 dc1 pm1 ct1 : Value} {cd1 : Value}
    (a1 : PySem.W.nsIn K mainGlobals "is_within" = some (some (.ref f1))) (l1 : K.lookup f1 = some ⟨oc1, od1, .func (PySem.W.fnOf "is_within" "is_within" (defArgs sWithin) (defBody sWithin) (defScope sWithin) .none kV1 dc1 pm1 an1 cd1 ct1), sl1⟩) (c1 : PySem.W.codeIn K cd1 "is_within" = true) (k1 : PySem.W.keepIn K (.ref f1) = true)
    {f2 : Addr} {od2 an2 : Option Addr} {sl2 : Array (Option Value)} {oc2 kV2 dc2 pm2 ct2 : Value} {cd2 : Value}
    (a2 : PySem.W.nsIn K mainGlobals "is_tuple" = some (some (.ref f2))) (l2 : K.lookup f2 = some ⟨oc2, od2, .func (PySem.W.fnOf "is_tuple" "is_tuple" (defArgs sTuple) (defBody sTuple) (defScope sTuple) .none kV2 dc2 pm2 an2 cd2 ct2), sl2⟩) (c2 : PySem.W.codeIn K cd2 "is_tuple" = true) (k2 : PySem.W.keepIn K (.ref f2) = true)
    {f3 : Addr} {od3 an3 : Option Addr} {sl3 : Array (Option Value)} {oc3 kV3 dc3 pm3 ct3 : Value} {cd3 : Value}
    (a3 : PySem.W.nsIn K mainGlobals "is_number" = some (some (.ref f3))) (l3 : K.lookup f3 = some ⟨oc3, od3, .func (PySem.W.fnOf "is_number" "is_number" (defArgs sNumber) (defBody sNumber) (defScope sNumber) .none kV3 dc3 pm3 an3 cd3 ct3), sl3⟩) (c3 : PySem.W.codeIn K cd3 "is_number" = true) (k3 : PySem.W.keepIn K (.ref f3) = true)
    {f4 : Addr} {od4 an4 : Option Addr} {sl4 : Array (Option Value)} {oc4 kV4 dc4 pm4 ct4 : Value} {cd4 : Value}
    (a4 : PySem.W.nsIn K mainGlobals "is_place" = some (some (.ref f4))) (l4 : K.lookup f4 = some ⟨oc4, od4, .func (PySem.W.fnOf "is_place" "is_place" (defArgs sPlace) (defBody sPlace) (defScope sPlace) .none kV4 dc4 pm4 an4 cd4 ct4), sl4⟩) (c4 : PySem.W.codeIn K cd4 "is_place" = true) (k4 : PySem.W.keepIn K (.ref f4) = true)
    {f5 : Addr} {od5 an5 : Option Addr} {sl5 : Array (Option Value)} {oc5 kV5 dc5 pm5 ct5 : Value} {cc5 : Addr}
    (a5 : PySem.W.nsIn K mainGlobals "are_small" = some (some (.ref f5))) (l5 : K.lookup f5 = some ⟨oc5, od5, .func (PySem.W.fnOf "are_small" "are_small" (defArgs sSmall) (defBody sSmall) (defScope sSmall) .none kV5 dc5 pm5 an5 (.ref cc5) ct5), sl5⟩) (c5 : PySem.W.codeIn K (.ref cc5) "are_small" = true) (k5 : PySem.W.keepIn K (.ref f5) = true)
    {f6 : Addr} {od6 an6 : Option Addr} {sl6 : Array (Option Value)} {oc6 kV6 dc6 pm6 ct6 : Value} {cd6 : Value}
    (a6 : PySem.W.nsIn K mainGlobals "is_number_name" = some (some (.ref f6))) (l6 : K.lookup f6 = some ⟨oc6, od6, .func (PySem.W.fnOf "is_number_name" "is_number_name" (defArgs sNumName) (defBody sNumName) (defScope sNumName) .none kV6 dc6 pm6 an6 cd6 ct6), sl6⟩) (c6 : PySem.W.codeIn K cd6 "is_number_name" = true) (k6 : PySem.W.keepIn K (.ref f6) = true)
    {f7 : Addr} {od7 an7 : Option Addr} {sl7 : Array (Option Value)} {oc7 kV7 dc7 pm7 ct7 : Value} {cd7 : Value}
    (a7 : PySem.W.nsIn K mainGlobals "is_graph_name" = some (some (.ref f7))) (l7 : K.lookup f7 = some ⟨oc7, od7, .func (PySem.W.fnOf "is_graph_name" "is_graph_name" (defArgs sGraphName) (defBody sGraphName) (defScope sGraphName) .none kV7 dc7 pm7 an7 cd7 ct7), sl7⟩) (c7 : PySem.W.codeIn K cd7 "is_graph_name" = true) (k7 : PySem.W.keepIn K (.ref f7) = true)
    {f8 : Addr} {od8 an8 : Option Addr} {sl8 : Array (Option Value)} {oc8 kV8 dc8 pm8 ct8 : Value} {cd8 : Value}
    (a8 : PySem.W.nsIn K mainGlobals "fits" = some (some (.ref f8))) (l8 : K.lookup f8 = some ⟨oc8, od8, .func (PySem.W.fnOf "fits" "fits" (defArgs sFits) (defBody sFits) (defScope sFits) .none kV8 dc8 pm8 an8 cd8 ct8), sl8⟩) (c8 : PySem.W.codeIn K cd8 "fits" = true) (k8 : PySem.W.keepIn K (.ref f8) = true)
    {f9 : Addr} {od9 an9 : Option Addr} {sl9 : Array (Option Value)} {oc9 kV9 dc9 pm9 ct9 : Value} {cd9 : Value}
    (a9 : PySem.W.nsIn K mainGlobals "word_of" = some (some (.ref f9))) (l9 : K.lookup f9 = some ⟨oc9, od9, .func (PySem.W.fnOf "word_of" "word_of" (defArgs sWordOf) (defBody sWordOf) (defScope sWordOf) .none kV9 dc9 pm9 an9 cd9 ct9), sl9⟩) (c9 : PySem.W.codeIn K cd9 "word_of" = true) (k9 : PySem.W.keepIn K (.ref f9) = true)
    {f10 : Addr} {od10 an10 : Option Addr} {sl10 : Array (Option Value)} {oc10 kV10 dc10 pm10 ct10 : Value} {cc10 : Addr}
    (a10 : PySem.W.nsIn K mainGlobals "is_deed" = some (some (.ref f10))) (l10 : K.lookup f10 = some ⟨oc10, od10, .func (PySem.W.fnOf "is_deed" "is_deed" (defArgs sIsDeed) (defBody sIsDeed) (defScope sIsDeed) .none kV10 dc10 pm10 an10 (.ref cc10) ct10), sl10⟩) (c10 : PySem.W.codeIn K (.ref cc10) "is_deed" = true) (k10 : PySem.W.keepIn K (.ref f10) = true)
    {f11 : Addr} {od11 an11 : Option Addr} {sl11 : Array (Option Value)} {oc11 kV11 dc11 pm11 ct11 : Value} {cd11 : Value}
    (a11 : PySem.W.nsIn K mainGlobals "is_branch" = some (some (.ref f11))) (l11 : K.lookup f11 = some ⟨oc11, od11, .func (PySem.W.fnOf "is_branch" "is_branch" (defArgs sIsBranch) (defBody sIsBranch) (defScope sIsBranch) .none kV11 dc11 pm11 an11 cd11 ct11), sl11⟩) (c11 : PySem.W.codeIn K cd11 "is_branch" = true) (k11 : PySem.W.keepIn K (.ref f11) = true)
    {f12 : Addr} {od12 an12 : Option Addr} {sl12 : Array (Option Value)} {oc12 kV12 dc12 pm12 ct12 : Value} {cd12 : Value}
    (a12 : PySem.W.nsIn K mainGlobals "statement_size" = some (some (.ref f12))) (l12 : K.lookup f12 = some ⟨oc12, od12, .func (PySem.W.fnOf "statement_size" "statement_size" (defArgs sStSize) (defBody sStSize) (defScope sStSize) .none kV12 dc12 pm12 an12 cd12 ct12), sl12⟩) (c12 : PySem.W.codeIn K cd12 "statement_size" = true) (k12 : PySem.W.keepIn K (.ref f12) = true)
    {f13 : Addr} {od13 an13 : Option Addr} {sl13 : Array (Option Value)} {oc13 kV13 dc13 pm13 ct13 : Value} {cd13 : Value}
    (a13 : PySem.W.nsIn K mainGlobals "block_size" = some (some (.ref f13))) (l13 : K.lookup f13 = some ⟨oc13, od13, .func (PySem.W.fnOf "block_size" "block_size" (defArgs sBlSize) (defBody sBlSize) (defScope sBlSize) .none kV13 dc13 pm13 an13 cd13 ct13), sl13⟩) (c13 : PySem.W.codeIn K cd13 "block_size" = true) (k13 : PySem.W.keepIn K (.ref f13) = true)
    {f14 : Addr} {od14 an14 : Option Addr} {sl14 : Array (Option Value)} {oc14 kV14 dc14 pm14 ct14 : Value} {cc14 : Addr}
    (a14 : PySem.W.nsIn K mainGlobals "is_channel" = some (some (.ref f14))) (l14 : K.lookup f14 = some ⟨oc14, od14, .func (PySem.W.fnOf "is_channel" "is_channel" (defArgs sIsChan) (defBody sIsChan) (defScope sIsChan) .none kV14 dc14 pm14 an14 (.ref cc14) ct14), sl14⟩) (c14 : PySem.W.codeIn K (.ref cc14) "is_channel" = true) (k14 : PySem.W.keepIn K (.ref f14) = true)
    {f15 : Addr} {od15 an15 : Option Addr} {sl15 : Array (Option Value)} {oc15 kV15 dc15 pm15 ct15 : Value} {cc15 : Addr}
    (a15 : PySem.W.nsIn K mainGlobals "sends_of" = some (some (.ref f15))) (l15 : K.lookup f15 = some ⟨oc15, od15, .func (PySem.W.fnOf "sends_of" "sends_of" (defArgs sSends) (defBody sSends) (defScope sSends) .none kV15 dc15 pm15 an15 (.ref cc15) ct15), sl15⟩) (c15 : PySem.W.codeIn K (.ref cc15) "sends_of" = true) (k15 : PySem.W.keepIn K (.ref f15) = true)
    {f16 : Addr} {od16 an16 : Option Addr} {sl16 : Array (Option Value)} {oc16 kV16 dc16 pm16 ct16 : Value} {cc16 : Addr}
    (a16 : PySem.W.nsIn K mainGlobals "takes_of" = some (some (.ref f16))) (l16 : K.lookup f16 = some ⟨oc16, od16, .func (PySem.W.fnOf "takes_of" "takes_of" (defArgs sTakes) (defBody sTakes) (defScope sTakes) .none kV16 dc16 pm16 an16 (.ref cc16) ct16), sl16⟩) (c16 : PySem.W.codeIn K (.ref cc16) "takes_of" = true) (k16 : PySem.W.keepIn K (.ref f16) = true)
    {f17 : Addr} {od17 an17 : Option Addr} {sl17 : Array (Option Value)} {oc17 kV17 dc17 pm17 ct17 : Value} {cc17 : Addr}
    (a17 : PySem.W.nsIn K mainGlobals "is_net" = some (some (.ref f17))) (l17 : K.lookup f17 = some ⟨oc17, od17, .func (PySem.W.fnOf "is_net" "is_net" (defArgs sIsNet) (defBody sIsNet) (defScope sIsNet) .none kV17 dc17 pm17 an17 (.ref cc17) ct17), sl17⟩) (c17 : PySem.W.codeIn K (.ref cc17) "is_net" = true) (k17 : PySem.W.keepIn K (.ref f17) = true)
    {f18 : Addr} {od18 an18 : Option Addr} {sl18 : Array (Option Value)} {oc18 kV18 dc18 pm18 ct18 : Value} {cd18 : Value}
    (a18 : PySem.W.nsIn K mainGlobals "check_net" = some (some (.ref f18))) (l18 : K.lookup f18 = some ⟨oc18, od18, .func (PySem.W.fnOf "check_net" "check_net" (defArgs sCheckNet) (defBody sCheckNet) (defScope sCheckNet) .none kV18 dc18 pm18 an18 cd18 ct18), sl18⟩) (c18 : PySem.W.codeIn K cd18 "check_net" = true) (k18 : PySem.W.keepIn K (.ref f18) = true)
    {f19 : Addr} {od19 an19 : Option Addr} {sl19 : Array (Option Value)} {oc19 kV19 dc19 pm19 ct19 : Value} {cd19 : Value}
    (a19 : PySem.W.nsIn K mainGlobals "hands_on" = some (some (.ref f19))) (l19 : K.lookup f19 = some ⟨oc19, od19, .func (PySem.W.fnOf "hands_on" "hands_on" (defArgs sHands) (defBody sHands) (defScope sHands) .none kV19 dc19 pm19 an19 cd19 ct19), sl19⟩) (c19 : PySem.W.codeIn K cd19 "hands_on" = true) (k19 : PySem.W.keepIn K (.ref f19) = true)
    {f20 : Addr} {od20 an20 : Option Addr} {sl20 : Array (Option Value)} {oc20 kV20 dc20 pm20 ct20 : Value} {cd20 : Value}
    (a20 : PySem.W.nsIn K mainGlobals "size_of" = some (some (.ref f20))) (l20 : K.lookup f20 = some ⟨oc20, od20, .func (PySem.W.fnOf "size_of" "size_of" (defArgs sSizeOf) (defBody sSizeOf) (defScope sSizeOf) .none kV20 dc20 pm20 an20 cd20 ct20), sl20⟩) (c20 : PySem.W.codeIn K cd20 "size_of" = true) (k20 : PySem.W.keepIn K (.ref f20) = true)
    {f21 : Addr} {od21 an21 : Option Addr} {sl21 : Array (Option Value)} {oc21 kV21 dc21 pm21 ct21 : Value} {cd21 : Value}
    (a21 : PySem.W.nsIn K mainGlobals "flat_block" = some (some (.ref f21))) (l21 : K.lookup f21 = some ⟨oc21, od21, .func (PySem.W.fnOf "flat_block" "flat_block" (defArgs sFlatBl) (defBody sFlatBl) (defScope sFlatBl) .none kV21 dc21 pm21 an21 cd21 ct21), sl21⟩) (c21 : PySem.W.codeIn K cd21 "flat_block" = true) (k21 : PySem.W.keepIn K (.ref f21) = true)
    {f22 : Addr} {od22 an22 : Option Addr} {sl22 : Array (Option Value)} {oc22 kV22 dc22 pm22 ct22 : Value} {cd22 : Value}
    (a22 : PySem.W.nsIn K mainGlobals "flat_statement" = some (some (.ref f22))) (l22 : K.lookup f22 = some ⟨oc22, od22, .func (PySem.W.fnOf "flat_statement" "flat_statement" (defArgs sFlatSt) (defBody sFlatSt) (defScope sFlatSt) .none kV22 dc22 pm22 an22 cd22 ct22), sl22⟩) (c22 : PySem.W.codeIn K cd22 "flat_statement" = true) (k22 : PySem.W.keepIn K (.ref f22) = true)
    {f23 : Addr} {od23 an23 : Option Addr} {sl23 : Array (Option Value)} {oc23 kV23 dc23 pm23 ct23 : Value} {cd23 : Value}
    (a23 : PySem.W.nsIn K mainGlobals "flat_if" = some (some (.ref f23))) (l23 : K.lookup f23 = some ⟨oc23, od23, .func (PySem.W.fnOf "flat_if" "flat_if" (defArgs sFlatIf) (defBody sFlatIf) (defScope sFlatIf) .none kV23 dc23 pm23 an23 cd23 ct23), sl23⟩) (c23 : PySem.W.codeIn K cd23 "flat_if" = true) (k23 : PySem.W.keepIn K (.ref f23) = true)
    {f24 : Addr} {od24 an24 : Option Addr} {sl24 : Array (Option Value)} {oc24 kV24 dc24 pm24 ct24 : Value} {cd24 : Value}
    (a24 : PySem.W.nsIn K mainGlobals "flat_while" = some (some (.ref f24))) (l24 : K.lookup f24 = some ⟨oc24, od24, .func (PySem.W.fnOf "flat_while" "flat_while" (defArgs sFlatWh) (defBody sFlatWh) (defScope sFlatWh) .none kV24 dc24 pm24 an24 cd24 ct24), sl24⟩) (c24 : PySem.W.codeIn K cd24 "flat_while" = true) (k24 : PySem.W.keepIn K (.ref f24) = true)
    {f25 : Addr} {od25 an25 : Option Addr} {sl25 : Array (Option Value)} {oc25 kV25 dc25 pm25 ct25 : Value} {cc25 : Addr}
    (a25 : PySem.W.nsIn K mainGlobals "flat" = some (some (.ref f25))) (l25 : K.lookup f25 = some ⟨oc25, od25, .func (PySem.W.fnOf "flat" "flat" (defArgs sFlat) (defBody sFlat) (defScope sFlat) .none kV25 dc25 pm25 an25 (.ref cc25) ct25), sl25⟩) (c25 : PySem.W.codeIn K (.ref cc25) "flat" = true) (k25 : PySem.W.keepIn K (.ref f25) = true)
    {f26 : Addr} {od26 an26 : Option Addr} {sl26 : Array (Option Value)} {oc26 kV26 dc26 pm26 ct26 : Value} {cd26 : Value}
    (a26 : PySem.W.nsIn K mainGlobals "are_points" = some (some (.ref f26))) (l26 : K.lookup f26 = some ⟨oc26, od26, .func (PySem.W.fnOf "are_points" "are_points" (defArgs sPoints) (defBody sPoints) (defScope sPoints) .none kV26 dc26 pm26 an26 cd26 ct26), sl26⟩) (c26 : PySem.W.codeIn K cd26 "are_points" = true) (k26 : PySem.W.keepIn K (.ref f26) = true)
    {f27 : Addr} {od27 an27 : Option Addr} {sl27 : Array (Option Value)} {oc27 kV27 dc27 pm27 ct27 : Value} {cc27 : Addr}
    (a27 : PySem.W.nsIn K mainGlobals "is_chart" = some (some (.ref f27))) (l27 : K.lookup f27 = some ⟨oc27, od27, .func (PySem.W.fnOf "is_chart" "is_chart" (defArgs sIsChart) (defBody sIsChart) (defScope sIsChart) .none kV27 dc27 pm27 an27 (.ref cc27) ct27), sl27⟩) (c27 : PySem.W.codeIn K (.ref cc27) "is_chart" = true) (k27 : PySem.W.keepIn K (.ref f27) = true)
    {f28 : Addr} {od28 an28 : Option Addr} {sl28 : Array (Option Value)} {oc28 kV28 dc28 pm28 ct28 : Value} {cd28 : Value}
    (a28 : PySem.W.nsIn K mainGlobals "check_chart" = some (some (.ref f28))) (l28 : K.lookup f28 = some ⟨oc28, od28, .func (PySem.W.fnOf "check_chart" "check_chart" (defArgs sCheckCh) (defBody sCheckCh) (defScope sCheckCh) .none kV28 dc28 pm28 an28 cd28 ct28), sl28⟩) (c28 : PySem.W.codeIn K cd28 "check_chart" = true) (k28 : PySem.W.keepIn K (.ref f28) = true)
    {f29 : Addr} {od29 an29 : Option Addr} {sl29 : Array (Option Value)} {oc29 kV29 dc29 pm29 ct29 : Value} {cd29 : Value}
    (a29 : PySem.W.nsIn K mainGlobals "befores_of" = some (some (.ref f29))) (l29 : K.lookup f29 = some ⟨oc29, od29, .func (PySem.W.fnOf "befores_of" "befores_of" (defArgs sBefores) (defBody sBefores) (defScope sBefores) .none kV29 dc29 pm29 an29 cd29 ct29), sl29⟩) (c29 : PySem.W.codeIn K cd29 "befores_of" = true) (k29 : PySem.W.keepIn K (.ref f29) = true)
    {f30 : Addr} {od30 an30 : Option Addr} {sl30 : Array (Option Value)} {oc30 kV30 dc30 pm30 ct30 : Value} {cd30 : Value}
    (a30 : PySem.W.nsIn K mainGlobals "distances" = some (some (.ref f30))) (l30 : K.lookup f30 = some ⟨oc30, od30, .func (PySem.W.fnOf "distances" "distances" (defArgs sDist) (defBody sDist) (defScope sDist) .none kV30 dc30 pm30 an30 cd30 ct30), sl30⟩) (c30 : PySem.W.codeIn K cd30 "distances" = true) (k30 : PySem.W.keepIn K (.ref f30) = true)
    {f31 : Addr} {od31 an31 : Option Addr} {sl31 : Array (Option Value)} {oc31 kV31 dc31 pm31 ct31 : Value} {cd31 : Value}
    (a31 : PySem.W.nsIn K mainGlobals "nearest" = some (some (.ref f31))) (l31 : K.lookup f31 = some ⟨oc31, od31, .func (PySem.W.fnOf "nearest" "nearest" (defArgs sNear) (defBody sNear) (defScope sNear) .none kV31 dc31 pm31 an31 cd31 ct31), sl31⟩) (c31 : PySem.W.codeIn K cd31 "nearest" = true) (k31 : PySem.W.keepIn K (.ref f31) = true)
    {f32 : Addr} {od32 an32 : Option Addr} {sl32 : Array (Option Value)} {oc32 kV32 dc32 pm32 ct32 : Value} {cd32 : Value}
    (a32 : PySem.W.nsIn K mainGlobals "shortest" = some (some (.ref f32))) (l32 : K.lookup f32 = some ⟨oc32, od32, .func (PySem.W.fnOf "shortest" "shortest" (defArgs sShort) (defBody sShort) (defScope sShort) .none kV32 dc32 pm32 an32 cd32 ct32), sl32⟩) (c32 : PySem.W.codeIn K cd32 "shortest" = true) (k32 : PySem.W.keepIn K (.ref f32) = true)
    {f33 : Addr} {od33 an33 : Option Addr} {sl33 : Array (Option Value)} {oc33 kV33 dc33 pm33 ct33 : Value} {cd33 : Value}
    (a33 : PySem.W.nsIn K mainGlobals "least_ranks" = some (some (.ref f33))) (l33 : K.lookup f33 = some ⟨oc33, od33, .func (PySem.W.fnOf "least_ranks" "least_ranks" (defArgs sRanks) (defBody sRanks) (defScope sRanks) .none kV33 dc33 pm33 an33 cd33 ct33), sl33⟩) (c33 : PySem.W.codeIn K cd33 "least_ranks" = true) (k33 : PySem.W.keepIn K (.ref f33) = true)
    {f34 : Addr} {od34 an34 : Option Addr} {sl34 : Array (Option Value)} {oc34 kV34 dc34 pm34 ct34 : Value} {cd34 : Value}
    (a34 : PySem.W.nsIn K mainGlobals "least_ring" = some (some (.ref f34))) (l34 : K.lookup f34 = some ⟨oc34, od34, .func (PySem.W.fnOf "least_ring" "least_ring" (defArgs sLring) (defBody sLring) (defScope sLring) .none kV34 dc34 pm34 an34 cd34 ct34), sl34⟩) (c34 : PySem.W.codeIn K cd34 "least_ring" = true) (k34 : PySem.W.keepIn K (.ref f34) = true)
    {f35 : Addr} {od35 an35 : Option Addr} {sl35 : Array (Option Value)} {oc35 kV35 dc35 pm35 ct35 : Value} {cd35 : Value}
    (a35 : PySem.W.nsIn K mainGlobals "rounds" = some (some (.ref f35))) (l35 : K.lookup f35 = some ⟨oc35, od35, .func (PySem.W.fnOf "rounds" "rounds" (defArgs sRounds) (defBody sRounds) (defScope sRounds) .none kV35 dc35 pm35 an35 cd35 ct35), sl35⟩) (c35 : PySem.W.codeIn K cd35 "rounds" = true) (k35 : PySem.W.keepIn K (.ref f35) = true)
    {f36 : Addr} {od36 an36 : Option Addr} {sl36 : Array (Option Value)} {oc36 kV36 dc36 pm36 ct36 : Value} {cd36 : Value}
    (a36 : PySem.W.nsIn K mainGlobals "senders_to" = some (some (.ref f36))) (l36 : K.lookup f36 = some ⟨oc36, od36, .func (PySem.W.fnOf "senders_to" "senders_to" (defArgs sSendersTo) (defBody sSendersTo) (defScope sSendersTo) .none kV36 dc36 pm36 an36 cd36 ct36), sl36⟩) (c36 : PySem.W.codeIn K cd36 "senders_to" = true) (k36 : PySem.W.keepIn K (.ref f36) = true)
    {f37 : Addr} {od37 an37 : Option Addr} {sl37 : Array (Option Value)} {oc37 kV37 dc37 pm37 ct37 : Value} {cc37 : Addr}
    (a37 : PySem.W.nsIn K mainGlobals "waiting_chart" = some (some (.ref f37))) (l37 : K.lookup f37 = some ⟨oc37, od37, .func (PySem.W.fnOf "waiting_chart" "waiting_chart" (defArgs sWaiting) (defBody sWaiting) (defScope sWaiting) .none kV37 dc37 pm37 an37 (.ref cc37) ct37), sl37⟩) (c37 : PySem.W.codeIn K (.ref cc37) "waiting_chart" = true) (k37 : PySem.W.keepIn K (.ref f37) = true)
    {f38 : Addr} {od38 an38 : Option Addr} {sl38 : Array (Option Value)} {oc38 kV38 dc38 pm38 ct38 : Value} {cd38 : Value}
    (a38 : PySem.W.nsIn K mainGlobals "rounds_of" = some (some (.ref f38))) (l38 : K.lookup f38 = some ⟨oc38, od38, .func (PySem.W.fnOf "rounds_of" "rounds_of" (defArgs sRoundsOf) (defBody sRoundsOf) (defScope sRoundsOf) .none kV38 dc38 pm38 an38 cd38 ct38), sl38⟩) (c38 : PySem.W.codeIn K cd38 "rounds_of" = true) (k38 : PySem.W.keepIn K (.ref f38) = true)
    {f39 : Addr} {od39 an39 : Option Addr} {sl39 : Array (Option Value)} {oc39 kV39 dc39 pm39 ct39 : Value} {cd39 : Value}
    (a39 : PySem.W.nsIn K mainGlobals "_law_cell_at" = some (some (.ref f39))) (l39 : K.lookup f39 = some ⟨oc39, od39, .func (PySem.W.fnOf "_law_cell_at" "_law_cell_at" (defArgs sCell) (defBody sCell) (defScope sCell) .none kV39 dc39 pm39 an39 cd39 ct39), sl39⟩) (c39 : PySem.W.codeIn K cd39 "_law_cell_at" = true) (k39 : PySem.W.keepIn K (.ref f39) = true)
    {f40 : Addr} {od40 an40 : Option Addr} {sl40 : Array (Option Value)} {oc40 kV40 dc40 pm40 ct40 : Value} {cd40 : Value}
    (a40 : PySem.W.nsIn K mainGlobals "_law_state" = some (some (.ref f40))) (l40 : K.lookup f40 = some ⟨oc40, od40, .func (PySem.W.fnOf "_law_state" "_law_state" (defArgs sState) (defBody sState) (defScope sState) .none kV40 dc40 pm40 an40 cd40 ct40), sl40⟩) (c40 : PySem.W.codeIn K cd40 "_law_state" = true) (k40 : PySem.W.keepIn K (.ref f40) = true)
    {f41 : Addr} {od41 an41 : Option Addr} {sl41 : Array (Option Value)} {oc41 kV41 dc41 pm41 ct41 : Value} {cd41 : Value}
    (a41 : PySem.W.nsIn K mainGlobals "_law_choice" = some (some (.ref f41))) (l41 : K.lookup f41 = some ⟨oc41, od41, .func (PySem.W.fnOf "_law_choice" "_law_choice" (defArgs sChoice) (defBody sChoice) (defScope sChoice) .none kV41 dc41 pm41 an41 cd41 ct41), sl41⟩) (c41 : PySem.W.codeIn K cd41 "_law_choice" = true) (k41 : PySem.W.keepIn K (.ref f41) = true)
    {f42 : Addr} {od42 an42 : Option Addr} {sl42 : Array (Option Value)} {oc42 kV42 dc42 pm42 ct42 : Value} {cd42 : Value}
    (a42 : PySem.W.nsIn K mainGlobals "_law_many" = some (some (.ref f42))) (l42 : K.lookup f42 = some ⟨oc42, od42, .func (PySem.W.fnOf "_law_many" "_law_many" (defArgs sMany) (defBody sMany) (defScope sMany) .none kV42 dc42 pm42 an42 cd42 ct42), sl42⟩) (c42 : PySem.W.codeIn K cd42 "_law_many" = true) (k42 : PySem.W.keepIn K (.ref f42) = true)
    {f43 : Addr} {od43 an43 : Option Addr} {sl43 : Array (Option Value)} {oc43 kV43 dc43 pm43 ct43 : Value} {cd43 : Value}
    (a43 : PySem.W.nsIn K mainGlobals "_law_simple" = some (some (.ref f43))) (l43 : K.lookup f43 = some ⟨oc43, od43, .func (PySem.W.fnOf "_law_simple" "_law_simple" (defArgs sSimple) (defBody sSimple) (defScope sSimple) .none kV43 dc43 pm43 an43 cd43 ct43), sl43⟩) (c43 : PySem.W.codeIn K cd43 "_law_simple" = true) (k43 : PySem.W.keepIn K (.ref f43) = true)
    {f44 : Addr} {od44 an44 : Option Addr} {sl44 : Array (Option Value)} {oc44 kV44 dc44 pm44 ct44 : Value} {cd44 : Value}
    (a44 : PySem.W.nsIn K mainGlobals "_law_block" = some (some (.ref f44))) (l44 : K.lookup f44 = some ⟨oc44, od44, .func (PySem.W.fnOf "_law_block" "_law_block" (defArgs sBlock) (defBody sBlock) (defScope sBlock) .none kV44 dc44 pm44 an44 cd44 ct44), sl44⟩) (c44 : PySem.W.codeIn K cd44 "_law_block" = true) (k44 : PySem.W.keepIn K (.ref f44) = true)
    {f45 : Addr} {od45 an45 : Option Addr} {sl45 : Array (Option Value)} {oc45 kV45 dc45 pm45 ct45 : Value} {cd45 : Value}
    (a45 : PySem.W.nsIn K mainGlobals "_law_ends" = some (some (.ref f45))) (l45 : K.lookup f45 = some ⟨oc45, od45, .func (PySem.W.fnOf "_law_ends" "_law_ends" (defArgs sEnds) (defBody sEnds) (defScope sEnds) .none kV45 dc45 pm45 an45 cd45 ct45), sl45⟩) (c45 : PySem.W.codeIn K cd45 "_law_ends" = true) (k45 : PySem.W.keepIn K (.ref f45) = true)
    {f46 : Addr} {od46 an46 : Option Addr} {sl46 : Array (Option Value)} {oc46 kV46 dc46 pm46 ct46 : Value} {cd46 : Value}
    (a46 : PySem.W.nsIn K mainGlobals "_law_net" = some (some (.ref f46))) (l46 : K.lookup f46 = some ⟨oc46, od46, .func (PySem.W.fnOf "_law_net" "_law_net" (defArgs sNet) (defBody sNet) (defScope sNet) .none kV46 dc46 pm46 an46 cd46 ct46), sl46⟩) (c46 : PySem.W.codeIn K cd46 "_law_net" = true) (k46 : PySem.W.keepIn K (.ref f46) = true)
    {f47 : Addr} {od47 an47 : Option Addr} {sl47 : Array (Option Value)} {oc47 kV47 dc47 pm47 ct47 : Value} {cd47 : Value}
    (a47 : PySem.W.nsIn K mainGlobals "_law_takes" = some (some (.ref f47))) (l47 : K.lookup f47 = some ⟨oc47, od47, .func (PySem.W.fnOf "_law_takes" "_law_takes" (defArgs sLTakes) (defBody sLTakes) (defScope sLTakes) .none kV47 dc47 pm47 an47 cd47 ct47), sl47⟩) (c47 : PySem.W.codeIn K cd47 "_law_takes" = true) (k47 : PySem.W.keepIn K (.ref f47) = true)
    {f48 : Addr} {od48 an48 : Option Addr} {sl48 : Array (Option Value)} {oc48 kV48 dc48 pm48 ct48 : Value} {cd48 : Value}
    (a48 : PySem.W.nsIn K mainGlobals "_law_rounds" = some (some (.ref f48))) (l48 : K.lookup f48 = some ⟨oc48, od48, .func (PySem.W.fnOf "_law_rounds" "_law_rounds" (defArgs sLRounds) (defBody sLRounds) (defScope sLRounds) .none kV48 dc48 pm48 an48 cd48 ct48), sl48⟩) (c48 : PySem.W.codeIn K cd48 "_law_rounds" = true) (k48 : PySem.W.keepIn K (.ref f48) = true)
    {f49 : Addr} {od49 an49 : Option Addr} {sl49 : Array (Option Value)} {oc49 kV49 dc49 pm49 ct49 : Value} {cd49 : Value}
    (a49 : PySem.W.nsIn K mainGlobals "law" = some (some (.ref f49))) (l49 : K.lookup f49 = some ⟨oc49, od49, .func (PySem.W.fnOf "law" "law" (defArgs sLaw) (defBody sLaw) (defScope sLaw) .none kV49 dc49 pm49 an49 cd49 ct49), sl49⟩) (c49 : PySem.W.codeIn K cd49 "law" = true) (k49 : PySem.W.keepIn K (.ref f49) = true)
    {t0 : Tok} (n0 : PySem.W.nsIn K mainGlobals "MOST_SIGNS" = some (some (.int (6) t0)))
    {t1 : Tok} (n1 : PySem.W.nsIn K mainGlobals "MOST_IN_BLOCK" = some (some (.int (12) t1)))
    {t2 : Tok} (n2 : PySem.W.nsIn K mainGlobals "MOST_WITHIN" = some (some (.int (4) t2)))
    {t3 : Tok} (n3 : PySem.W.nsIn K mainGlobals "MOST_STATEMENTS" = some (some (.int (40) t3)))
    {t4 : Tok} (n4 : PySem.W.nsIn K mainGlobals "MOST_CHANNELS" = some (some (.int (6) t4)))
    {t5 : Tok} (n5 : PySem.W.nsIn K mainGlobals "MOST_ACTORS" = some (some (.int (4) t5)))
    {t6 : Tok} (n6 : PySem.W.nsIn K mainGlobals "PLACES" = some (some (.int (3) t6)))
    {t7 : Tok} (n7 : PySem.W.nsIn K mainGlobals "GREATEST" = some (some (.int (9999) t7)))
    {t8 : Tok} (n8 : PySem.W.nsIn K mainGlobals "END" = some (some (.int (-1) t8)))
    (z0 : PySem.W.nsIn K mainGlobals "isinstance" = some none)
    (z1 : PySem.W.nsIn K mainGlobals "int" = some none)
    (z2 : PySem.W.nsIn K mainGlobals "bool" = some none)
    (z3 : PySem.W.nsIn K mainGlobals "tuple" = some none)
    (z4 : PySem.W.nsIn K mainGlobals "len" = some none)
    (z5 : PySem.W.nsIn K mainGlobals "range" = some none)
    (z6 : PySem.W.nsIn K mainGlobals "min" = some none)
    (z7 : PySem.W.nsIn K mainGlobals "max" = some none)
    (z8 : PySem.W.nsIn K mainGlobals "sum" = some none)
    (z9 : PySem.W.nsIn K mainGlobals "list" = some none)
    (z10 : PySem.W.nsIn K mainGlobals "repr" = some none)
    (z11 : PySem.W.nsIn K mainGlobals "all" = some none)
    (z12 : PySem.W.nsIn K mainGlobals "str" = some none)
    (z13 : PySem.W.nsIn K mainGlobals "zip" = some none)
    (z14 : PySem.W.nsIn K mainGlobals "enumerate" = some none)
    (z15 : PySem.W.nsIn K mainGlobals "sorted" = some none)
    (z16 : PySem.W.nsIn K mainGlobals "set" = some none)
    {oTA1 : Option Addr} {vTA1 : Array Value} {sTA1 : Array (Option Value)} {PA1 : Addr} (lkA1 : K.lookup cc5 = some ⟨.type "code", oTA1, .fields vTA1, sTA1⟩) (pA1 : vTA1[11]? = some (.ref PA1)) (noA1 : K.lookup PA1 = none)
    {oTA2 : Option Addr} {vTA2 : Array Value} {sTA2 : Array (Option Value)} {PA2 : Addr} (lkA2 : K.lookup cc10 = some ⟨.type "code", oTA2, .fields vTA2, sTA2⟩) (pA2 : vTA2[11]? = some (.ref PA2)) (noA2 : K.lookup PA2 = none)
    {oTA3 : Option Addr} {vTA3 : Array Value} {sTA3 : Array (Option Value)} {PA3 : Addr} (lkA3 : K.lookup cc14 = some ⟨.type "code", oTA3, .fields vTA3, sTA3⟩) (pA3 : vTA3[11]? = some (.ref PA3)) (noA3 : K.lookup PA3 = none)
    {oTA4 : Option Addr} {vTA4 : Array Value} {sTA4 : Array (Option Value)} {PA4 : Addr} (lkA4 : K.lookup cc15 = some ⟨.type "code", oTA4, .fields vTA4, sTA4⟩) (pA4 : vTA4[11]? = some (.ref PA4)) (noA4 : K.lookup PA4 = none)
    {oTA5 : Option Addr} {vTA5 : Array Value} {sTA5 : Array (Option Value)} {PA5 : Addr} (lkA5 : K.lookup cc16 = some ⟨.type "code", oTA5, .fields vTA5, sTA5⟩) (pA5 : vTA5[11]? = some (.ref PA5)) (noA5 : K.lookup PA5 = none)
    {oTA6 : Option Addr} {vTA6 : Array Value} {sTA6 : Array (Option Value)} {PA6 : Addr} (lkA6 : K.lookup cc17 = some ⟨.type "code", oTA6, .fields vTA6, sTA6⟩) (pA6 : vTA6[11]? = some (.ref PA6)) (noA6 : K.lookup PA6 = none)
    {oTA7 : Option Addr} {vTA7 : Array Value} {sTA7 : Array (Option Value)} {PA7 : Addr} (lkA7 : K.lookup cc27 = some ⟨.type "code", oTA7, .fields vTA7, sTA7⟩) (pA7 : vTA7[11]? = some (.ref PA7)) (noA7 : K.lookup PA7 = none)
    {oTA8 : Option Addr} {vTA8 : Array Value} {sTA8 : Array (Option Value)} {PA8 : Addr} (lkA8 : K.lookup cc25 = some ⟨.type "code", oTA8, .fields vTA8, sTA8⟩) (pA8 : vTA8[11]? = some (.ref PA8)) (noA8 : K.lookup PA8 = none)
    {oTA9 : Option Addr} {vTA9 : Array Value} {sTA9 : Array (Option Value)} {PA9 : Addr} (lkA9 : K.lookup cc37 = some ⟨.type "code", oTA9, .fields vTA9, sTA9⟩) (pA9 : vTA9[11]? = some (.ref PA9)) (noA9 : K.lookup PA9 = none)
    {adS : Addr} {oS : Option Addr} {mS : Nat} {slS : Array (Option Value)} {xS_0 xS_1 xS_2 xS_3 xS_4 : Tok} (aS : PySem.W.nsIn K mainGlobals "SIGNS" = some (some (.ref adS))) (qS : K.lookup adS = some ⟨.type "tuple", oS, .seq #[.str "+" xS_0, .str "-" xS_1, .str "*" xS_2, .str "<" xS_3, .str "=" xS_4] mS, slS⟩)
    {adU : Addr} {oU : Option Addr} {mU : Nat} {slU : Array (Option Value)} {xU_0 xU_1 : Tok} (aU : PySem.W.nsIn K mainGlobals "UNLIKE" = some (some (.ref adU))) (qU : K.lookup adU = some ⟨.type "tuple", oU, .seq #[.str "let" xU_0, .str "hang" xU_1] mU, slU⟩)
    {adH : Addr} {oH : Option Addr} {mH : Nat} {slH : Array (Option Value)} {xH_0 xH_1 xH_2 xH_3 : Tok} (aH : PySem.W.nsIn K mainGlobals "HANDING" = some (some (.ref adH))) (qH : K.lookup adH = some ⟨.type "tuple", oH, .seq #[.str "let" xH_0, .str "hang" xH_1, .str "pick" xH_2, .str "send" xH_3] mH, slH⟩)
    {dtD : Addr} {esD : Array DictEntry} {nnD : Nat} {uD0 uD1 uD2 uD3 uD4 uD5 uD6 uD7 uD8 uD9 uD10 uD11 uD12 uD13 uD14 : Tok} {rD0 rD1 rD2 rD3 rD4 rD5 rD6 rD7 rD8 rD9 rD10 rD11 rD12 rD13 rD14 : Addr} (aDD : PySem.W.nsIn K mainGlobals "DEEDS" = some (some (.ref dtD))) (lDD : K.lookup dtD = some ⟨.type "dict", none, .dict esD nnD, #[]⟩) (lowDD : (dtD == sysModules) = false) (eDD : esD.toList = [⟨PyData.keyHash w.params "num", .str "num" uD0, .ref rD0⟩, ⟨PyData.keyHash w.params "sum", .str "sum" uD1, .ref rD1⟩, ⟨PyData.keyHash w.params "new", .str "new" uD2, .ref rD2⟩, ⟨PyData.keyHash w.params "let", .str "let" uD3, .ref rD3⟩, ⟨PyData.keyHash w.params "add", .str "add" uD4, .ref rD4⟩, ⟨PyData.keyHash w.params "put", .str "put" uD5, .ref rD5⟩, ⟨PyData.keyHash w.params "tie", .str "tie" uD6, .ref rD6⟩, ⟨PyData.keyHash w.params "hang", .str "hang" uD7, .ref rD7⟩, ⟨PyData.keyHash w.params "get", .str "get" uD8, .ref rD8⟩, ⟨PyData.keyHash w.params "sort", .str "sort" uD9, .ref rD9⟩, ⟨PyData.keyHash w.params "pick", .str "pick" uD10, .ref rD10⟩, ⟨PyData.keyHash w.params "send", .str "send" uD11, .ref rD11⟩, ⟨PyData.keyHash w.params "take", .str "take" uD12, .ref rD12⟩, ⟨PyData.keyHash w.params "tell", .str "tell" uD13, .ref rD13⟩, ⟨PyData.keyHash w.params "show", .str "show" uD14, .ref rD14⟩])
    {oTD0 : Option Addr} {mTD0 : Nat} {slTD0 : Array (Option Value)} {xTD0_0 xTD0_1 : Tok} (qTD0 : K.lookup rD0 = some ⟨.type "tuple", oTD0, .seq #[.str "name" xTD0_0, .str "number" xTD0_1] mTD0, slTD0⟩)
    {oTD1 : Option Addr} {mTD1 : Nat} {slTD1 : Array (Option Value)} {xTD1_0 xTD1_1 xTD1_2 xTD1_3 : Tok} (qTD1 : K.lookup rD1 = some ⟨.type "tuple", oTD1, .seq #[.str "name" xTD1_0, .str "name" xTD1_1, .str "sign" xTD1_2, .str "name" xTD1_3] mTD1, slTD1⟩)
    {oTD2 : Option Addr} {mTD2 : Nat} {slTD2 : Array (Option Value)} {xTD2_0 : Tok} (qTD2 : K.lookup rD2 = some ⟨.type "tuple", oTD2, .seq #[.str "graph" xTD2_0] mTD2, slTD2⟩)
    {oTD3 : Option Addr} {mTD3 : Nat} {slTD3 : Array (Option Value)} {xTD3_0 xTD3_1 : Tok} (qTD3 : K.lookup rD3 = some ⟨.type "tuple", oTD3, .seq #[.str "graph" xTD3_0, .str "graph" xTD3_1] mTD3, slTD3⟩)
    {oTD4 : Option Addr} {mTD4 : Nat} {slTD4 : Array (Option Value)} {xTD4_0 xTD4_1 : Tok} (qTD4 : K.lookup rD4 = some ⟨.type "tuple", oTD4, .seq #[.str "graph" xTD4_0, .str "name" xTD4_1] mTD4, slTD4⟩)
    {oTD5 : Option Addr} {mTD5 : Nat} {slTD5 : Array (Option Value)} {xTD5_0 xTD5_1 xTD5_2 xTD5_3 : Tok} (qTD5 : K.lookup rD5 = some ⟨.type "tuple", oTD5, .seq #[.str "graph" xTD5_0, .str "name" xTD5_1, .str "place" xTD5_2, .str "name" xTD5_3] mTD5, slTD5⟩)
    {oTD6 : Option Addr} {mTD6 : Nat} {slTD6 : Array (Option Value)} {xTD6_0 xTD6_1 xTD6_2 xTD6_3 : Tok} (qTD6 : K.lookup rD6 = some ⟨.type "tuple", oTD6, .seq #[.str "graph" xTD6_0, .str "name" xTD6_1, .str "place" xTD6_2, .str "name" xTD6_3] mTD6, slTD6⟩)
    {oTD7 : Option Addr} {mTD7 : Nat} {slTD7 : Array (Option Value)} {xTD7_0 xTD7_1 xTD7_2 xTD7_3 : Tok} (qTD7 : K.lookup rD7 = some ⟨.type "tuple", oTD7, .seq #[.str "graph" xTD7_0, .str "name" xTD7_1, .str "place" xTD7_2, .str "graph" xTD7_3] mTD7, slTD7⟩)
    {oTD8 : Option Addr} {mTD8 : Nat} {slTD8 : Array (Option Value)} {xTD8_0 xTD8_1 xTD8_2 xTD8_3 : Tok} (qTD8 : K.lookup rD8 = some ⟨.type "tuple", oTD8, .seq #[.str "name" xTD8_0, .str "graph" xTD8_1, .str "name" xTD8_2, .str "place" xTD8_3] mTD8, slTD8⟩)
    {oTD9 : Option Addr} {mTD9 : Nat} {slTD9 : Array (Option Value)} {xTD9_0 xTD9_1 xTD9_2 xTD9_3 : Tok} (qTD9 : K.lookup rD9 = some ⟨.type "tuple", oTD9, .seq #[.str "name" xTD9_0, .str "graph" xTD9_1, .str "name" xTD9_2, .str "place" xTD9_3] mTD9, slTD9⟩)
    {oTD10 : Option Addr} {mTD10 : Nat} {slTD10 : Array (Option Value)} {xTD10_0 xTD10_1 xTD10_2 xTD10_3 : Tok} (qTD10 : K.lookup rD10 = some ⟨.type "tuple", oTD10, .seq #[.str "graph" xTD10_0, .str "graph" xTD10_1, .str "name" xTD10_2, .str "place" xTD10_3] mTD10, slTD10⟩)
    {oTD11 : Option Addr} {mTD11 : Nat} {slTD11 : Array (Option Value)} {xTD11_0 xTD11_1 : Tok} (qTD11 : K.lookup rD11 = some ⟨.type "tuple", oTD11, .seq #[.str "into" xTD11_0, .str "graph" xTD11_1] mTD11, slTD11⟩)
    {oTD12 : Option Addr} {mTD12 : Nat} {slTD12 : Array (Option Value)} {xTD12_0 xTD12_1 : Tok} (qTD12 : K.lookup rD12 = some ⟨.type "tuple", oTD12, .seq #[.str "graph" xTD12_0, .str "from" xTD12_1] mTD12, slTD12⟩)
    {oTD13 : Option Addr} {mTD13 : Nat} {slTD13 : Array (Option Value)} {xTD13_0 : Tok} (qTD13 : K.lookup rD13 = some ⟨.type "tuple", oTD13, .seq #[.str "name" xTD13_0] mTD13, slTD13⟩)
    {oTD14 : Option Addr} {mTD14 : Nat} {slTD14 : Array (Option Value)} {xTD14_0 : Tok} (qTD14 : K.lookup rD14 = some ⟨.type "tuple", oTD14, .seq #[.str "graph" xTD14_0] mTD14, slTD14⟩)
    {dtB : Addr} {esB : Array DictEntry} {nnB : Nat} {uB0 uB1 : Tok} {vB0 vB1 : Tok} (aDB : PySem.W.nsIn K mainGlobals "BRANCHES" = some (some (.ref dtB))) (lDB : K.lookup dtB = some ⟨.type "dict", none, .dict esB nnB, #[]⟩) (lowDB : (dtB == sysModules) = false) (eDB : esB.toList = [⟨PyData.keyHash w.params "if", .str "if" uB0, .int 2 vB0⟩, ⟨PyData.keyHash w.params "while", .str "while" uB1, .int 1 vB1⟩]) :
    Left60 K w mg fa := by
  have e := hfa.symm.trans (PySem.W.mg_of X G a49)
  cases e
  have T : Free mg := ⟨PySem.W.mg_none_of X G z0, PySem.W.mg_none_of X G z1, PySem.W.mg_none_of X G z2, PySem.W.mg_none_of X G z3, PySem.W.mg_none_of X G z4, PySem.W.mg_none_of X G z5, PySem.W.mg_none_of X G z6, PySem.W.mg_none_of X G z7, PySem.W.mg_none_of X G z8, PySem.W.mg_none_of X G z9, PySem.W.mg_none_of X G z10⟩
  have C : Cst mg := ⟨⟨_, PySem.W.mg_of X G n0⟩, ⟨_, PySem.W.mg_of X G n1⟩, ⟨_, PySem.W.mg_of X G n2⟩, ⟨_, PySem.W.mg_of X G n3⟩, ⟨_, PySem.W.mg_of X G n4⟩, ⟨_, PySem.W.mg_of X G n5⟩, ⟨_, PySem.W.mg_of X G n6⟩, ⟨_, PySem.W.mg_of X G n7⟩, ⟨_, PySem.W.mg_of X G n8⟩⟩
  have F0 := fun_mk (st := sWhole) l0 c0 k0
  have S0 : Std K mg "is_whole" sWhole ["thing"] f0 _ := ⟨F0, PySem.W.mg_of X G a0, F0.binds (ps := ["thing"]) fun _ _ _ _ _ _ us hl => match us, hl with | [_], _ => rfl⟩
  have F1 := fun_mk (st := sWithin) l1 c1 k1
  have S1 : Std K mg "is_within" sWithin ["thing", "least", "most"] f1 _ := ⟨F1, PySem.W.mg_of X G a1, F1.binds (ps := ["thing", "least", "most"]) fun _ _ _ _ _ _ us hl => match us, hl with | [_, _, _], _ => rfl⟩
  have F2 := fun_mk (st := sTuple) l2 c2 k2
  have S2 : Std K mg "is_tuple" sTuple ["thing", "least", "most"] f2 _ := ⟨F2, PySem.W.mg_of X G a2, F2.binds (ps := ["thing", "least", "most"]) fun _ _ _ _ _ _ us hl => match us, hl with | [_, _, _], _ => rfl⟩
  have F3 := fun_mk (st := sNumber) l3 c3 k3
  have S3 : Std K mg "is_number" sNumber ["thing"] f3 _ := ⟨F3, PySem.W.mg_of X G a3, F3.binds (ps := ["thing"]) fun _ _ _ _ _ _ us hl => match us, hl with | [_], _ => rfl⟩
  have F4 := fun_mk (st := sPlace) l4 c4 k4
  have S4 : Std K mg "is_place" sPlace ["thing"] f4 _ := ⟨F4, PySem.W.mg_of X G a4, F4.binds (ps := ["thing"]) fun _ _ _ _ _ _ us hl => match us, hl with | [_], _ => rfl⟩
  have F5 := fun_mk (st := sSmall) l5 c5 k5
  have S5 : Std K mg "are_small" sSmall ["text"] f5 _ := ⟨F5, PySem.W.mg_of X G a5, F5.binds (ps := ["text"]) fun _ _ _ _ _ _ us hl => match us, hl with | [_], _ => rfl⟩
  have F6 := fun_mk (st := sNumName) l6 c6 k6
  have S6 : Std K mg "is_number_name" sNumName ["thing"] f6 _ := ⟨F6, PySem.W.mg_of X G a6, F6.binds (ps := ["thing"]) fun _ _ _ _ _ _ us hl => match us, hl with | [_], _ => rfl⟩
  have F7 := fun_mk (st := sGraphName) l7 c7 k7
  have S7 : Std K mg "is_graph_name" sGraphName ["thing"] f7 _ := ⟨F7, PySem.W.mg_of X G a7, F7.binds (ps := ["thing"]) fun _ _ _ _ _ _ us hl => match us, hl with | [_], _ => rfl⟩
  have F8 := fun_mk (st := sFits) l8 c8 k8
  have S8 : Std K mg "fits" sFits ["kind", "part", "sends", "takes"] f8 _ := ⟨F8, PySem.W.mg_of X G a8, F8.binds (ps := ["kind", "part", "sends", "takes"]) fun _ _ _ _ _ _ us hl => match us, hl with | [_, _, _, _], _ => rfl⟩
  have F9 := fun_mk (st := sWordOf) l9 c9 k9
  have S9 : Std K mg "word_of" sWordOf ["thing"] f9 _ := ⟨F9, PySem.W.mg_of X G a9, F9.binds (ps := ["thing"]) fun _ _ _ _ _ _ us hl => match us, hl with | [_], _ => rfl⟩
  have F10 := fun_mk (st := sIsDeed) l10 c10 k10
  have S10 : Std K mg "is_deed" sIsDeed ["thing", "sends", "takes"] f10 _ := ⟨F10, PySem.W.mg_of X G a10, F10.binds (ps := ["thing", "sends", "takes"]) fun _ _ _ _ _ _ us hl => match us, hl with | [_, _, _], _ => rfl⟩
  have F11 := fun_mk (st := sIsBranch) l11 c11 k11
  have S11 : Std K mg "is_branch" sIsBranch ["thing"] f11 _ := ⟨F11, PySem.W.mg_of X G a11, F11.binds (ps := ["thing"]) fun _ _ _ _ _ _ us hl => match us, hl with | [_], _ => rfl⟩
  have F12 := fun_mk (st := sStSize) l12 c12 k12
  have S12 : Std K mg "statement_size" sStSize ["thing", "level", "sends", "takes"] f12 _ := ⟨F12, PySem.W.mg_of X G a12, F12.binds (ps := ["thing", "level", "sends", "takes"]) fun _ _ _ _ _ _ us hl => match us, hl with | [_, _, _, _], _ => rfl⟩
  have F13 := fun_mk (st := sBlSize) l13 c13 k13
  have S13 : Std K mg "block_size" sBlSize ["thing", "level", "sends", "takes"] f13 _ := ⟨F13, PySem.W.mg_of X G a13, F13.binds (ps := ["thing", "level", "sends", "takes"]) fun _ _ _ _ _ _ us hl => match us, hl with | [_, _, _, _], _ => rfl⟩
  have F14 := fun_mk (st := sIsChan) l14 c14 k14
  have S14 : Std K mg "is_channel" sIsChan ["thing", "actors"] f14 _ := ⟨F14, PySem.W.mg_of X G a14, F14.binds (ps := ["thing", "actors"]) fun _ _ _ _ _ _ us hl => match us, hl with | [_, _], _ => rfl⟩
  have F15 := fun_mk (st := sSends) l15 c15 k15
  have S15 : Std K mg "sends_of" sSends ["channels", "actor"] f15 _ := ⟨F15, PySem.W.mg_of X G a15, F15.binds (ps := ["channels", "actor"]) fun _ _ _ _ _ _ us hl => match us, hl with | [_, _], _ => rfl⟩
  have F16 := fun_mk (st := sTakes) l16 c16 k16
  have S16 : Std K mg "takes_of" sTakes ["channels", "actor"] f16 _ := ⟨F16, PySem.W.mg_of X G a16, F16.binds (ps := ["channels", "actor"]) fun _ _ _ _ _ _ us hl => match us, hl with | [_, _], _ => rfl⟩
  have F17 := fun_mk (st := sIsNet) l17 c17 k17
  have S17 : Std K mg "is_net" sIsNet ["thing"] f17 _ := ⟨F17, PySem.W.mg_of X G a17, F17.binds (ps := ["thing"]) fun _ _ _ _ _ _ us hl => match us, hl with | [_], _ => rfl⟩
  have F18 := fun_mk (st := sCheckNet) l18 c18 k18
  have S18 : Std K mg "check_net" sCheckNet ["net"] f18 _ := ⟨F18, PySem.W.mg_of X G a18, F18.binds (ps := ["net"]) fun _ _ _ _ _ _ us hl => match us, hl with | [_], _ => rfl⟩
  have F19 := fun_mk (st := sHands) l19 c19 k19
  have S19 : Std K mg "hands_on" sHands ["deed"] f19 _ := ⟨F19, PySem.W.mg_of X G a19, F19.binds (ps := ["deed"]) fun _ _ _ _ _ _ us hl => match us, hl with | [_], _ => rfl⟩
  have F20 := fun_mk (st := sSizeOf) l20 c20 k20
  have S20 : Std K mg "size_of" sSizeOf ["statement"] f20 _ := ⟨F20, PySem.W.mg_of X G a20, F20.binds (ps := ["statement"]) fun _ _ _ _ _ _ us hl => match us, hl with | [_], _ => rfl⟩
  have F21 := fun_mk (st := sFlatBl) l21 c21 k21
  have S21 : Std K mg "flat_block" sFlatBl ["block", "first", "behind"] f21 _ := ⟨F21, PySem.W.mg_of X G a21, F21.binds (ps := ["block", "first", "behind"]) fun _ _ _ _ _ _ us hl => match us, hl with | [_, _, _], _ => rfl⟩
  have F22 := fun_mk (st := sFlatSt) l22 c22 k22
  have S22 : Std K mg "flat_statement" sFlatSt ["statement", "number", "behind"] f22 _ := ⟨F22, PySem.W.mg_of X G a22, F22.binds (ps := ["statement", "number", "behind"]) fun _ _ _ _ _ _ us hl => match us, hl with | [_, _, _], _ => rfl⟩
  have F23 := fun_mk (st := sFlatIf) l23 c23 k23
  have S23 : Std K mg "flat_if" sFlatIf ["statement", "number", "behind"] f23 _ := ⟨F23, PySem.W.mg_of X G a23, F23.binds (ps := ["statement", "number", "behind"]) fun _ _ _ _ _ _ us hl => match us, hl with | [_, _, _], _ => rfl⟩
  have F24 := fun_mk (st := sFlatWh) l24 c24 k24
  have S24 : Std K mg "flat_while" sFlatWh ["statement", "number", "behind"] f24 _ := ⟨F24, PySem.W.mg_of X G a24, F24.binds (ps := ["statement", "number", "behind"]) fun _ _ _ _ _ _ us hl => match us, hl with | [_, _, _], _ => rfl⟩
  have F25 := fun_mk (st := sFlat) l25 c25 k25
  have S25 : Std K mg "flat" sFlat ["net"] f25 _ := ⟨F25, PySem.W.mg_of X G a25, F25.binds (ps := ["net"]) fun _ _ _ _ _ _ us hl => match us, hl with | [_], _ => rfl⟩
  have F26 := fun_mk (st := sPoints) l26 c26 k26
  have S26 : Std K mg "are_points" sPoints ["thing", "many"] f26 _ := ⟨F26, PySem.W.mg_of X G a26, F26.binds (ps := ["thing", "many"]) fun _ _ _ _ _ _ us hl => match us, hl with | [_, _], _ => rfl⟩
  have F27 := fun_mk (st := sIsChart) l27 c27 k27
  have S27 : Std K mg "is_chart" sIsChart ["thing"] f27 _ := ⟨F27, PySem.W.mg_of X G a27, F27.binds (ps := ["thing"]) fun _ _ _ _ _ _ us hl => match us, hl with | [_], _ => rfl⟩
  have F28 := fun_mk (st := sCheckCh) l28 c28 k28
  have S28 : Std K mg "check_chart" sCheckCh ["chart"] f28 _ := ⟨F28, PySem.W.mg_of X G a28, F28.binds (ps := ["chart"]) fun _ _ _ _ _ _ us hl => match us, hl with | [_], _ => rfl⟩
  have F29 := fun_mk (st := sBefores) l29 c29 k29
  have S29 : Std K mg "befores_of" sBefores ["chart"] f29 _ := ⟨F29, PySem.W.mg_of X G a29, F29.binds (ps := ["chart"]) fun _ _ _ _ _ _ us hl => match us, hl with | [_], _ => rfl⟩
  have F30 := fun_mk (st := sDist) l30 c30 k30
  have S30 : Std K mg "distances" sDist ["links", "origins", "least", "most"] f30 _ := ⟨F30, PySem.W.mg_of X G a30, F30.binds (ps := ["links", "origins", "least", "most"]) fun _ _ _ _ _ _ us hl => match us, hl with | [_, _, _, _], _ => rfl⟩
  have F31 := fun_mk (st := sNear) l31 c31 k31
  have S31 : Std K mg "nearest" sNear ["points", "far"] f31 _ := ⟨F31, PySem.W.mg_of X G a31, F31.binds (ps := ["points", "far"]) fun _ _ _ _ _ _ us hl => match us, hl with | [_, _], _ => rfl⟩
  have F32 := fun_mk (st := sShort) l32 c32 k32
  have S32 : Std K mg "shortest" sShort ["chart", "far", "point"] f32 _ := ⟨F32, PySem.W.mg_of X G a32, F32.binds (ps := ["chart", "far", "point"]) fun _ _ _ _ _ _ us hl => match us, hl with | [_, _, _], _ => rfl⟩
  have F33 := fun_mk (st := sRanks) l33 c33 k33
  have S33 : Std K mg "least_ranks" sRanks ["chart"] f33 _ := ⟨F33, PySem.W.mg_of X G a33, F33.binds (ps := ["chart"]) fun _ _ _ _ _ _ us hl => match us, hl with | [_], _ => rfl⟩
  have F34 := fun_mk (st := sLring) l34 c34 k34
  have S34 : Std K mg "least_ring" sLring ["chart"] f34 _ := ⟨F34, PySem.W.mg_of X G a34, F34.binds (ps := ["chart"]) fun _ _ _ _ _ _ us hl => match us, hl with | [_], _ => rfl⟩
  have F35 := fun_mk (st := sRounds) l35 c35 k35
  have S35 : Std K mg "rounds" sRounds ["chart"] f35 _ := ⟨F35, PySem.W.mg_of X G a35, F35.binds (ps := ["chart"]) fun _ _ _ _ _ _ us hl => match us, hl with | [_], _ => rfl⟩
  have F36 := fun_mk (st := sSendersTo) l36 c36 k36
  have S36 : Std K mg "senders_to" sSendersTo ["channels", "rows"] f36 _ := ⟨F36, PySem.W.mg_of X G a36, F36.binds (ps := ["channels", "rows"]) fun _ _ _ _ _ _ us hl => match us, hl with | [_, _], _ => rfl⟩
  have F37 := fun_mk (st := sWaiting) l37 c37 k37
  have S37 : Std K mg "waiting_chart" sWaiting ["net"] f37 _ := ⟨F37, PySem.W.mg_of X G a37, F37.binds (ps := ["net"]) fun _ _ _ _ _ _ us hl => match us, hl with | [_], _ => rfl⟩
  have F38 := fun_mk (st := sRoundsOf) l38 c38 k38
  have S38 : Std K mg "rounds_of" sRoundsOf ["net"] f38 _ := ⟨F38, PySem.W.mg_of X G a38, F38.binds (ps := ["net"]) fun _ _ _ _ _ _ us hl => match us, hl with | [_], _ => rfl⟩
  have F39 := fun_mk (st := sCell) l39 c39 k39
  have S39 : Std K mg "_law_cell_at" sCell ["_law_script", "_law_k"] f39 _ := ⟨F39, PySem.W.mg_of X G a39, F39.binds (ps := ["_law_script", "_law_k"]) fun _ _ _ _ _ _ us hl => match us, hl with | [_, _], _ => rfl⟩
  have F40 := fun_mk (st := sState) l40 c40 k40
  have S40 : Std K mg "_law_state" sState ["_law_script", "_law_k"] f40 _ := ⟨F40, PySem.W.mg_of X G a40, F40.binds (ps := ["_law_script", "_law_k"]) fun _ _ _ _ _ _ us hl => match us, hl with | [_, _], _ => rfl⟩
  have F41 := fun_mk (st := sChoice) l41 c41 k41
  have S41 : Std K mg "_law_choice" sChoice ["_law_state_here", "_law_many_here"] f41 _ := ⟨F41, PySem.W.mg_of X G a41, F41.binds (ps := ["_law_state_here", "_law_many_here"]) fun _ _ _ _ _ _ us hl => match us, hl with | [_, _], _ => rfl⟩
  have F42 := fun_mk (st := sMany) l42 c42 k42
  have S42 : Std K mg "_law_many" sMany ["_law_block_here"] f42 _ := ⟨F42, PySem.W.mg_of X G a42, F42.binds (ps := ["_law_block_here"]) fun _ _ _ _ _ _ us hl => match us, hl with | [_], _ => rfl⟩
  have F43 := fun_mk (st := sSimple) l43 c43 k43
  have S43 : Std K mg "_law_simple" sSimple ["_law_state_here", "_law_sends", "_law_takes_here"] f43 _ := ⟨F43, PySem.W.mg_of X G a43, F43.binds (ps := ["_law_state_here", "_law_sends", "_law_takes_here"]) fun _ _ _ _ _ _ us hl => match us, hl with | [_, _, _], _ => rfl⟩
  have F44 := fun_mk (st := sBlock) l44 c44 k44
  have S44 : Std K mg "_law_block" sBlock ["_law_state_here", "_law_sends", "_law_takes_here", "_law_deep", "_law_most"] f44 _ := ⟨F44, PySem.W.mg_of X G a44, F44.binds (ps := ["_law_state_here", "_law_sends", "_law_takes_here", "_law_deep", "_law_most"]) fun _ _ _ _ _ _ us hl => match us, hl with | [_, _, _, _, _], _ => rfl⟩
  have F45 := fun_mk (st := sEnds) l45 c45 k45
  have S45 : Std K mg "_law_ends" sEnds ["_law_channels", "_law_actor", "_law_side"] f45 _ := ⟨F45, PySem.W.mg_of X G a45, F45.binds (ps := ["_law_channels", "_law_actor", "_law_side"]) fun _ _ _ _ _ _ us hl => match us, hl with | [_, _, _], _ => rfl⟩
  have F46 := fun_mk (st := sNet) l46 c46 k46
  have S46 : Std K mg "_law_net" sNet ["_law_state_here", "_law_most", "_law_long"] f46 _ := ⟨F46, PySem.W.mg_of X G a46, F46.binds (ps := ["_law_state_here", "_law_most", "_law_long"]) fun _ _ _ _ _ _ us hl => match us, hl with | [_, _, _], _ => rfl⟩
  have F47 := fun_mk (st := sLTakes) l47 c47 k47
  have S47 : Std K mg "_law_takes" sLTakes ["_law_block_here"] f47 _ := ⟨F47, PySem.W.mg_of X G a47, F47.binds (ps := ["_law_block_here"]) fun _ _ _ _ _ _ us hl => match us, hl with | [_], _ => rfl⟩
  have F48 := fun_mk (st := sLRounds) l48 c48 k48
  have S48 : Std K mg "_law_rounds" sLRounds ["_law_chart"] f48 _ := ⟨F48, PySem.W.mg_of X G a48, F48.binds (ps := ["_law_chart"]) fun _ _ _ _ _ _ us hl => match us, hl with | [_], _ => rfl⟩
  have F49 := fun_mk (st := sLaw) l49 c49 k49
  have hS : SqK K adS (signs.map V.str) := ⟨_, _, _, qS, rfl, rfl, by show 5 ≤ sizeLine; decide, (.cons ⟨_, rfl⟩ (.cons ⟨_, rfl⟩ (.cons ⟨_, rfl⟩ (.cons ⟨_, rfl⟩ (.cons ⟨_, rfl⟩ .nil)))))⟩
  have hU : SqK K adU (unlikeL.map V.str) := ⟨_, _, _, qU, rfl, rfl, by show 2 ≤ sizeLine; decide, (.cons ⟨_, rfl⟩ (.cons ⟨_, rfl⟩ .nil))⟩
  have hH : SqK K adH (handL.map V.str) := ⟨_, _, _, qH, rfl, rfl, by show 4 ≤ sizeLine; decide, (.cons ⟨_, rfl⟩ (.cons ⟨_, rfl⟩ (.cons ⟨_, rfl⟩ (.cons ⟨_, rfl⟩ .nil))))⟩
  have hD : DeedT K w dtD := deedT_of (l := [("num", .ref rD0), ("sum", .ref rD1), ("new", .ref rD2), ("let", .ref rD3), ("add", .ref rD4), ("put", .ref rD5), ("tie", .ref rD6), ("hang", .ref rD7), ("get", .ref rD8), ("sort", .ref rD9), ("pick", .ref rD10), ("send", .ref rD11), ("take", .ref rD12), ("tell", .ref rD13), ("show", .ref rD14)]) lDD lowDD (by rw [eDD]; exact (.cons ⟨_, rfl⟩ (.cons ⟨_, rfl⟩ (.cons ⟨_, rfl⟩ (.cons ⟨_, rfl⟩ (.cons ⟨_, rfl⟩ (.cons ⟨_, rfl⟩ (.cons ⟨_, rfl⟩ (.cons ⟨_, rfl⟩ (.cons ⟨_, rfl⟩ (.cons ⟨_, rfl⟩ (.cons ⟨_, rfl⟩ (.cons ⟨_, rfl⟩ (.cons ⟨_, rfl⟩ (.cons ⟨_, rfl⟩ (.cons ⟨_, rfl⟩ .nil)))))))))))))))) (.cons ⟨rfl, rD0, rfl, ⟨_, _, _, qTD0, rfl, rfl, by show 2 ≤ sizeLine; decide, (.cons ⟨_, rfl⟩ (.cons ⟨_, rfl⟩ .nil))⟩⟩ (.cons ⟨rfl, rD1, rfl, ⟨_, _, _, qTD1, rfl, rfl, by show 4 ≤ sizeLine; decide, (.cons ⟨_, rfl⟩ (.cons ⟨_, rfl⟩ (.cons ⟨_, rfl⟩ (.cons ⟨_, rfl⟩ .nil))))⟩⟩ (.cons ⟨rfl, rD2, rfl, ⟨_, _, _, qTD2, rfl, rfl, by show 1 ≤ sizeLine; decide, (.cons ⟨_, rfl⟩ .nil)⟩⟩ (.cons ⟨rfl, rD3, rfl, ⟨_, _, _, qTD3, rfl, rfl, by show 2 ≤ sizeLine; decide, (.cons ⟨_, rfl⟩ (.cons ⟨_, rfl⟩ .nil))⟩⟩ (.cons ⟨rfl, rD4, rfl, ⟨_, _, _, qTD4, rfl, rfl, by show 2 ≤ sizeLine; decide, (.cons ⟨_, rfl⟩ (.cons ⟨_, rfl⟩ .nil))⟩⟩ (.cons ⟨rfl, rD5, rfl, ⟨_, _, _, qTD5, rfl, rfl, by show 4 ≤ sizeLine; decide, (.cons ⟨_, rfl⟩ (.cons ⟨_, rfl⟩ (.cons ⟨_, rfl⟩ (.cons ⟨_, rfl⟩ .nil))))⟩⟩ (.cons ⟨rfl, rD6, rfl, ⟨_, _, _, qTD6, rfl, rfl, by show 4 ≤ sizeLine; decide, (.cons ⟨_, rfl⟩ (.cons ⟨_, rfl⟩ (.cons ⟨_, rfl⟩ (.cons ⟨_, rfl⟩ .nil))))⟩⟩ (.cons ⟨rfl, rD7, rfl, ⟨_, _, _, qTD7, rfl, rfl, by show 4 ≤ sizeLine; decide, (.cons ⟨_, rfl⟩ (.cons ⟨_, rfl⟩ (.cons ⟨_, rfl⟩ (.cons ⟨_, rfl⟩ .nil))))⟩⟩ (.cons ⟨rfl, rD8, rfl, ⟨_, _, _, qTD8, rfl, rfl, by show 4 ≤ sizeLine; decide, (.cons ⟨_, rfl⟩ (.cons ⟨_, rfl⟩ (.cons ⟨_, rfl⟩ (.cons ⟨_, rfl⟩ .nil))))⟩⟩ (.cons ⟨rfl, rD9, rfl, ⟨_, _, _, qTD9, rfl, rfl, by show 4 ≤ sizeLine; decide, (.cons ⟨_, rfl⟩ (.cons ⟨_, rfl⟩ (.cons ⟨_, rfl⟩ (.cons ⟨_, rfl⟩ .nil))))⟩⟩ (.cons ⟨rfl, rD10, rfl, ⟨_, _, _, qTD10, rfl, rfl, by show 4 ≤ sizeLine; decide, (.cons ⟨_, rfl⟩ (.cons ⟨_, rfl⟩ (.cons ⟨_, rfl⟩ (.cons ⟨_, rfl⟩ .nil))))⟩⟩ (.cons ⟨rfl, rD11, rfl, ⟨_, _, _, qTD11, rfl, rfl, by show 2 ≤ sizeLine; decide, (.cons ⟨_, rfl⟩ (.cons ⟨_, rfl⟩ .nil))⟩⟩ (.cons ⟨rfl, rD12, rfl, ⟨_, _, _, qTD12, rfl, rfl, by show 2 ≤ sizeLine; decide, (.cons ⟨_, rfl⟩ (.cons ⟨_, rfl⟩ .nil))⟩⟩ (.cons ⟨rfl, rD13, rfl, ⟨_, _, _, qTD13, rfl, rfl, by show 1 ≤ sizeLine; decide, (.cons ⟨_, rfl⟩ .nil)⟩⟩ (.cons ⟨rfl, rD14, rfl, ⟨_, _, _, qTD14, rfl, rfl, by show 1 ≤ sizeLine; decide, (.cons ⟨_, rfl⟩ .nil)⟩⟩ .nil)))))))))))))))
  have hB : BranchT K w dtB := branchT_of (l := [("if", .int 2 vB0), ("while", .int 1 vB1)]) lDB lowDB (by rw [eDB]; exact (.cons ⟨_, rfl⟩ (.cons ⟨_, rfl⟩ .nil))) (.cons ⟨rfl, _, rfl⟩ (.cons ⟨rfl, _, rfl⟩ .nil))
  exact ⟨_, _, _, _, _, _, _, _, _, _, _, _, _, _, _, _, _, _, _, F49, fun s v => .of_eq rfl, T, (PySem.W.mg_none_of X G z11), (PySem.W.mg_none_of X G z12), (PySem.W.mg_none_of X G z13), (PySem.W.mg_none_of X G z14), (PySem.W.mg_none_of X G z15), (PySem.W.mg_none_of X G z16), ⟨_, _, _, _, PySem.W.mg_of X G a5, F5, rfl, lkA1, rfl, pA1, noA1⟩, ⟨_, _, _, _, PySem.W.mg_of X G a10, F10, rfl, lkA2, rfl, pA2, noA2⟩, ⟨_, _, _, _, PySem.W.mg_of X G a14, F14, rfl, lkA3, rfl, pA3, noA3⟩, ⟨_, _, _, _, PySem.W.mg_of X G a15, F15, rfl, lkA4, rfl, pA4, noA4⟩, ⟨_, _, _, _, PySem.W.mg_of X G a16, F16, rfl, lkA5, rfl, pA5, noA5⟩, ⟨_, _, _, _, PySem.W.mg_of X G a17, F17, rfl, lkA6, rfl, pA6, noA6⟩, ⟨_, _, _, _, PySem.W.mg_of X G a27, F27, rfl, lkA7, rfl, pA7, noA7⟩, ⟨_, _, _, _, PySem.W.mg_of X G a25, F25, rfl, lkA8, rfl, pA8, noA8⟩, ⟨_, _, _, _, PySem.W.mg_of X G a37, F37, rfl, lkA9, rfl, pA9, noA9⟩, fun P base TA1 TA2 TA3 TA4 TA5 TA6 TA7 TA8 TA9 =>
    all_cals T C (PySem.W.mg_none_of X G z11) (PySem.W.mg_none_of X G z12) (PySem.W.mg_none_of X G z13) (PySem.W.mg_none_of X G z14) (PySem.W.mg_none_of X G z15) (PySem.W.mg_none_of X G z16) (PySem.W.mg_of X G aS) hS (PySem.W.mg_of X G aU) hU (PySem.W.mg_of X G aH) hH (PySem.W.mg_of X G aDD) hD (PySem.W.mg_of X G aDB) hB S0 S1 S2 S3 S4 S5 S6 S7 S8 S9 S10 S11 S12 S13 S14 S15 S16 S17 S18 S19 S20 S21 S22 S23 S24 S25 S26 S27 S28 S29 S30 S31 S32 S33 S34 S35 S36 S37 S38 S39 S40 S41 S42 S43 S44 S45 S46 S47 S48 rfl TA1 rfl TA2 rfl TA3 rfl TA4 rfl TA5 rfl TA6 rfl TA7 rfl TA8 rfl TA9⟩
theorem tab_of {q : Program} {loose : List Str} {mean : ExcName → Option Value} {mg mb : Str → Option Value} {h : Heap} (T : Top q loose mean mg mb h) {x : Str} (hx : (recsOf q).any (fun d => d.name == x) = true) {K : PySem.W.Frag} (KX : K.In h) {st : Stmt} {f c Pt : Addr} {fd : FuncData} (F : Fun K x x st f fd) (hm : mg x = some (.ref f)) (hc : fd.code = .ref c)
    {oT : Obj} {vT : Array Value} (lk : K.lookup c = some oT) (hd : oT.data = .fields vT) (hp : vT[11]? = some (.ref Pt)) : h.get? Pt = some { cls := .none, data := .fields #[] } ∧ PySem.W.CodeHd h c Pt := by
  obtain ⟨d, hdm, e⟩ := List.any_eq_true.mp hx
  have e : d.name = x := eq_of_beq e
  obtain ⟨a, o, fd', c', P', m1, g1, d1, c1, isC, tab⟩ := T.tab d hdm
  rw [e, hm] at m1
  cases m1
  obtain ⟨oc, od, kV, doc, pm, an, cdv, ct, osl, rfl, found, code⟩ := F.ex
  have g2 := KX _ _ found
  rw [g1] at g2
  cases g2
  cases d1
  have hc : cdv = .ref c := hc
  have c1 : cdv = .ref c' := c1
  rw [hc] at c1
  cases c1
  obtain ⟨⟨o2, vs2, e1, e2, e3, e4⟩, e5⟩ := id tab
  have g3 := KX _ _ lk
  rw [e1] at g3
  cases g3
  rw [e3] at hd
  cases hd
  rw [e4] at hp
  cases hp
  exact ⟨e5, PySem.W.CodeHd.of isC tab⟩
theorem walk {l : PySem.W.OpenLaw} {q : Program} {loose : List Str} {XP : (Str → Option Value) → Heap → Prop} {YP : World → Heap → Prop} {d : DefRec} {K : Params → PySem.W.Frag} (hn : l.most = some 63) (hdf : d.params.defaults = []) (hnm : d.name = "law") (hi : importsNone q = true) (hA1 : (recsOf q).any (fun d => d.name == ("are_small" : Str)) = true) (hA2 : (recsOf q).any (fun d => d.name == ("is_deed" : Str)) = true) (hA3 : (recsOf q).any (fun d => d.name == ("is_channel" : Str)) = true) (hA4 : (recsOf q).any (fun d => d.name == ("sends_of" : Str)) = true) (hA5 : (recsOf q).any (fun d => d.name == ("takes_of" : Str)) = true) (hA6 : (recsOf q).any (fun d => d.name == ("is_net" : Str)) = true) (hA7 : (recsOf q).any (fun d => d.name == ("is_chart" : Str)) = true) (hA8 : (recsOf q).any (fun d => d.name == ("flat" : Str)) = true) (hA9 : (recsOf q).any (fun d => d.name == ("waiting_chart" : Str)) = true)
    (hY : ∀ (w : World) (h : Heap), YP w h → (K w.params).In h)
    (F : ∀ (w : World) (mg : Str → Option Value) (fa : Addr) (h : Heap), (K w.params).In h → h.Ns mainGlobals mg → mg d.name = some (.ref fa) → Left60 (K w.params) w mg fa) :
    PySem.W.WalkO q loose XP YP l.row.toRowW d [] (fun f vs => PySem.call f vs) := by
  refine Att.attach_call hn hdf fun w s0 s1 mg mb fa o pm cd doc a vs ns G Y ho hd hcd hmg hobj hints hlen hg => ?_
  have KX := hY w _ Y
  obtain ⟨fd, cA1, PA1, cA2, PA2, cA3, PA3, cA4, PA4, cA5, PA5, cA6, PA6, cA7, PA7, cA8, PA8, cA9, PA9, FL, bd, T, ex0, ex1, ex2, ex3, ex4, ex5, ⟨_, _, _, _, mA1, FA1, codeA1, lkA1, dA1, pA1, nA1⟩, ⟨_, _, _, _, mA2, FA2, codeA2, lkA2, dA2, pA2, nA2⟩, ⟨_, _, _, _, mA3, FA3, codeA3, lkA3, dA3, pA3, nA3⟩, ⟨_, _, _, _, mA4, FA4, codeA4, lkA4, dA4, pA4, nA4⟩, ⟨_, _, _, _, mA5, FA5, codeA5, lkA5, dA5, pA5, nA5⟩, ⟨_, _, _, _, mA6, FA6, codeA6, lkA6, dA6, pA6, nA6⟩, ⟨_, _, _, _, mA7, FA7, codeA7, lkA7, dA7, pA7, nA7⟩, ⟨_, _, _, _, mA8, FA8, codeA8, lkA8, dA8, pA8, nA8⟩, ⟨_, _, _, _, mA9, FA9, codeA9, lkA9, dA9, pA9, nA9⟩, cals⟩ := F w mg fa _ KX G.T.g hmg
  obtain ⟨tA1, uA1⟩ := tab_of G.T hA1 KX FA1 mA1 codeA1 lkA1 dA1 pA1
  obtain ⟨tA2, uA2⟩ := tab_of G.T hA2 KX FA2 mA2 codeA2 lkA2 dA2 pA2
  obtain ⟨tA3, uA3⟩ := tab_of G.T hA3 KX FA3 mA3 codeA3 lkA3 dA3 pA3
  obtain ⟨tA4, uA4⟩ := tab_of G.T hA4 KX FA4 mA4 codeA4 lkA4 dA4 pA4
  obtain ⟨tA5, uA5⟩ := tab_of G.T hA5 KX FA5 mA5 codeA5 lkA5 dA5 pA5
  obtain ⟨tA6, uA6⟩ := tab_of G.T hA6 KX FA6 mA6 codeA6 lkA6 dA6 pA6
  obtain ⟨tA7, uA7⟩ := tab_of G.T hA7 KX FA7 mA7 codeA7 lkA7 dA7 pA7
  obtain ⟨tA8, uA8⟩ := tab_of G.T hA8 KX FA8 mA8 codeA8 lkA8 dA8 pA8
  obtain ⟨tA9, uA9⟩ := tab_of G.T hA9 KX FA9 mA9 codeA9 lkA9 dA9 pA9
  obtain ⟨mm, sy, _⟩ := (G.T.seer hi).mods
  have each : ∀ {Pr : Addr × Addr → Prop}, Pr (cA1, PA1) → Pr (cA2, PA2) → Pr (cA3, PA3) → Pr (cA4, PA4) → Pr (cA5, PA5) → Pr (cA6, PA6) → Pr (cA7, PA7) → Pr (cA8, PA8) → Pr (cA9, PA9) → ∀ p ∈ [(cA1, PA1), (cA2, PA2), (cA3, PA3), (cA4, PA4), (cA5, PA5), (cA6, PA6), (cA7, PA7), (cA8, PA8), (cA9, PA9)], Pr p := fun h0 h1 h2 h3 h4 h5 h6 h7 h8 p hp => by
    simp only [List.mem_cons, List.not_mem_nil, or_false] at hp
    rcases hp with rfl | rfl | rfl | rfl | rfl | rfl | rfl | rfl | rfl
    · exact h0
    · exact h1
    · exact h2
    · exact h3
    · exact h4
    · exact h5
    · exact h6
    · exact h7
    · exact h8
  refine law_endT (k := 24) (cs := [(cA1, PA1), (cA2, PA2), (cA3, PA3), (cA4, PA4), (cA5, PA5), (cA6, PA6), (cA7, PA7), (cA8, PA8), (cA9, PA9)]) KX G.T.g G.T.b G.T.builtins G.T.nolimit hg ⟨each tA1 tA2 tA3 tA4 tA5 tA6 tA7 tA8 tA9, each nA1 nA2 nA3 nA4 nA5 nA6 nA7 nA8 nA9, each uA1 uA2 uA3 uA4 uA5 uA6 uA7 uA8 uA9, ⟨mm, sy⟩, G.T.bmain⟩ hobj hints (small (by omega)) ⟨rfl, by decide, by decide⟩ FL scLaw bd fun base _ _ sb TB H cdv hc tabs scr hr => ?_
  refine law_body (k := 24) T ex4 ex5 sb scr hlen (fun p hp => ?_) hr (cals l.prog base (TB _ List.mem_cons_self) (TB _ (List.mem_cons_of_mem _ List.mem_cons_self)) (TB _ (List.mem_cons_of_mem _ (List.mem_cons_of_mem _ List.mem_cons_self))) (TB _ (List.mem_cons_of_mem _ (List.mem_cons_of_mem _ (List.mem_cons_of_mem _ List.mem_cons_self)))) (TB _ (List.mem_cons_of_mem _ (List.mem_cons_of_mem _ (List.mem_cons_of_mem _ (List.mem_cons_of_mem _ List.mem_cons_self))))) (TB _ (List.mem_cons_of_mem _ (List.mem_cons_of_mem _ (List.mem_cons_of_mem _ (List.mem_cons_of_mem _ (List.mem_cons_of_mem _ List.mem_cons_self)))))) (TB _ (List.mem_cons_of_mem _ (List.mem_cons_of_mem _ (List.mem_cons_of_mem _ (List.mem_cons_of_mem _ (List.mem_cons_of_mem _ (List.mem_cons_of_mem _ List.mem_cons_self))))))) (TB _ (List.mem_cons_of_mem _ (List.mem_cons_of_mem _ (List.mem_cons_of_mem _ (List.mem_cons_of_mem _ (List.mem_cons_of_mem _ (List.mem_cons_of_mem _ (List.mem_cons_of_mem _ List.mem_cons_self)))))))) (TB _ (List.mem_cons_of_mem _ (List.mem_cons_of_mem _ (List.mem_cons_of_mem _ (List.mem_cons_of_mem _ (List.mem_cons_of_mem _ (List.mem_cons_of_mem _ (List.mem_cons_of_mem _ (List.mem_cons_of_mem _ List.mem_cons_self))))))))))
  simp only [List.mem_cons, List.not_mem_nil, or_false] at hp
  rcases hp with rfl | rfl | rfl | rfl | rfl | rfl | rfl | rfl | rfl
  · exact ⟨#[], tabs _ List.mem_cons_self, trivial⟩
  · exact ⟨#[], tabs _ (List.mem_cons_of_mem _ List.mem_cons_self), trivial⟩
  · exact ⟨#[], tabs _ (List.mem_cons_of_mem _ (List.mem_cons_of_mem _ List.mem_cons_self)), trivial⟩
  · exact ⟨#[], tabs _ (List.mem_cons_of_mem _ (List.mem_cons_of_mem _ (List.mem_cons_of_mem _ List.mem_cons_self))), trivial⟩
  · exact ⟨#[], tabs _ (List.mem_cons_of_mem _ (List.mem_cons_of_mem _ (List.mem_cons_of_mem _ (List.mem_cons_of_mem _ List.mem_cons_self)))), trivial⟩
  · exact ⟨#[], tabs _ (List.mem_cons_of_mem _ (List.mem_cons_of_mem _ (List.mem_cons_of_mem _ (List.mem_cons_of_mem _ (List.mem_cons_of_mem _ List.mem_cons_self))))), trivial⟩
  · exact ⟨#[], tabs _ (List.mem_cons_of_mem _ (List.mem_cons_of_mem _ (List.mem_cons_of_mem _ (List.mem_cons_of_mem _ (List.mem_cons_of_mem _ (List.mem_cons_of_mem _ List.mem_cons_self)))))), trivial⟩
  · exact ⟨#[], tabs _ (List.mem_cons_of_mem _ (List.mem_cons_of_mem _ (List.mem_cons_of_mem _ (List.mem_cons_of_mem _ (List.mem_cons_of_mem _ (List.mem_cons_of_mem _ (List.mem_cons_of_mem _ List.mem_cons_self))))))), trivial⟩
  · exact ⟨#[], tabs _ (List.mem_cons_of_mem _ (List.mem_cons_of_mem _ (List.mem_cons_of_mem _ (List.mem_cons_of_mem _ (List.mem_cons_of_mem _ (List.mem_cons_of_mem _ (List.mem_cons_of_mem _ (List.mem_cons_of_mem _ List.mem_cons_self)))))))), trivial⟩
end
end Gw
open PySem PySem.W PyProof.Rows
set_option maxRecDepth 100000 in
set_option maxHeartbeats 0 in
theorem PySem.Challenge.cw_giveway_k60_who_takes_from_whom_holds : PySem.Challenge.rw_giveway_k60_who_takes_from_whom.Holds := by
  w_on; o_law; k_head; (case hw => w_witness2)
  k_fill
  refine Gw.walk (l := PySem.Challenge.rw_giveway_k60_who_takes_from_whom) rfl rfl rfl (by decide +kernel) (by decide +kernel) (by decide +kernel) (by decide +kernel) (by decide +kernel) (by decide +kernel) (by decide +kernel) (by decide +kernel) (by decide +kernel) (by decide +kernel) (fun w h Y => PySem.W.kIn_of Y) ?F
  case F =>
    intro w mg fa h KX G hmg
    refine' Gw.all_mk KX G hmg ?a0 ?l0 ?c0 ?k0 ?a1 ?l1 ?c1 ?k1 ?a2 ?l2 ?c2 ?k2 ?a3 ?l3 ?c3 ?k3 ?a4 ?l4 ?c4 ?k4 ?a5 ?l5 ?c5 ?k5 ?a6 ?l6 ?c6 ?k6 ?a7 ?l7 ?c7 ?k7 ?a8 ?l8 ?c8 ?k8 ?a9 ?l9 ?c9 ?k9 ?a10 ?l10 ?c10 ?k10 ?a11 ?l11 ?c11 ?k11 ?a12 ?l12 ?c12 ?k12 ?a13 ?l13 ?c13 ?k13 ?a14 ?l14 ?c14 ?k14 ?a15 ?l15 ?c15 ?k15 ?a16 ?l16 ?c16 ?k16 ?a17 ?l17 ?c17 ?k17 ?a18 ?l18 ?c18 ?k18 ?a19 ?l19 ?c19 ?k19 ?a20 ?l20 ?c20 ?k20 ?a21 ?l21 ?c21 ?k21 ?a22 ?l22 ?c22 ?k22 ?a23 ?l23 ?c23 ?k23 ?a24 ?l24 ?c24 ?k24 ?a25 ?l25 ?c25 ?k25 ?a26 ?l26 ?c26 ?k26 ?a27 ?l27 ?c27 ?k27 ?a28 ?l28 ?c28 ?k28 ?a29 ?l29 ?c29 ?k29 ?a30 ?l30 ?c30 ?k30 ?a31 ?l31 ?c31 ?k31 ?a32 ?l32 ?c32 ?k32 ?a33 ?l33 ?c33 ?k33 ?a34 ?l34 ?c34 ?k34 ?a35 ?l35 ?c35 ?k35 ?a36 ?l36 ?c36 ?k36 ?a37 ?l37 ?c37 ?k37 ?a38 ?l38 ?c38 ?k38 ?a39 ?l39 ?c39 ?k39 ?a40 ?l40 ?c40 ?k40 ?a41 ?l41 ?c41 ?k41 ?a42 ?l42 ?c42 ?k42 ?a43 ?l43 ?c43 ?k43 ?a44 ?l44 ?c44 ?k44 ?a45 ?l45 ?c45 ?k45 ?a46 ?l46 ?c46 ?k46 ?a47 ?l47 ?c47 ?k47 ?a48 ?l48 ?c48 ?k48 ?a49 ?l49 ?c49 ?k49 ?n0 ?n1 ?n2 ?n3 ?n4 ?n5 ?n6 ?n7 ?n8 ?z0 ?z1 ?z2 ?z3 ?z4 ?z5 ?z6 ?z7 ?z8 ?z9 ?z10 ?z11 ?z12 ?z13 ?z14 ?z15 ?z16 ?lkA1 ?pA1 ?noA1 ?lkA2 ?pA2 ?noA2 ?lkA3 ?pA3 ?noA3 ?lkA4 ?pA4 ?noA4 ?lkA5 ?pA5 ?noA5 ?lkA6 ?pA6 ?noA6 ?lkA7 ?pA7 ?noA7 ?lkA8 ?pA8 ?noA8 ?lkA9 ?pA9 ?noA9 ?aS ?qS ?aU ?qU ?aH ?qH ?aDD ?lDD ?lowDD ?eDD ?qTD0 ?qTD1 ?qTD2 ?qTD3 ?qTD4 ?qTD5 ?qTD6 ?qTD7 ?qTD8 ?qTD9 ?qTD10 ?qTD11 ?qTD12 ?qTD13 ?qTD14 ?aDB ?lDB ?lowDB ?eDB
    (case a0 => k_is)
    (case l0 => k_is)
    (case c0 => k_is)
    (case k0 => k_is)
    (case a1 => k_is)
    (case l1 => k_is)
    (case c1 => k_is)
    (case k1 => k_is)
    (case a2 => k_is)
    (case l2 => k_is)
    (case c2 => k_is)
    (case k2 => k_is)
    (case a3 => k_is)
    (case l3 => k_is)
    (case c3 => k_is)
    (case k3 => k_is)
    (case a4 => k_is)
    (case l4 => k_is)
    (case c4 => k_is)
    (case k4 => k_is)
    (case a5 => k_is)
    (case l5 => k_is)
    (case c5 => k_is)
    (case k5 => k_is)
    (case a6 => k_is)
    (case l6 => k_is)
    (case c6 => k_is)
    (case k6 => k_is)
    (case a7 => k_is)
    (case l7 => k_is)
    (case c7 => k_is)
    (case k7 => k_is)
    (case a8 => k_is)
    (case l8 => k_is)
    (case c8 => k_is)
    (case k8 => k_is)
    (case a9 => k_is)
    (case l9 => k_is)
    (case c9 => k_is)
    (case k9 => k_is)
    (case a10 => k_is)
    (case l10 => k_is)
    (case c10 => k_is)
    (case k10 => k_is)
    (case a11 => k_is)
    (case l11 => k_is)
    (case c11 => k_is)
    (case k11 => k_is)
    (case a12 => k_is)
    (case l12 => k_is)
    (case c12 => k_is)
    (case k12 => k_is)
    (case a13 => k_is)
    (case l13 => k_is)
    (case c13 => k_is)
    (case k13 => k_is)
    (case a14 => k_is)
    (case l14 => k_is)
    (case c14 => k_is)
    (case k14 => k_is)
    (case a15 => k_is)
    (case l15 => k_is)
    (case c15 => k_is)
    (case k15 => k_is)
    (case a16 => k_is)
    (case l16 => k_is)
    (case c16 => k_is)
    (case k16 => k_is)
    (case a17 => k_is)
    (case l17 => k_is)
    (case c17 => k_is)
    (case k17 => k_is)
    (case a18 => k_is)
    (case l18 => k_is)
    (case c18 => k_is)
    (case k18 => k_is)
    (case a19 => k_is)
    (case l19 => k_is)
    (case c19 => k_is)
    (case k19 => k_is)
    (case a20 => k_is)
    (case l20 => k_is)
    (case c20 => k_is)
    (case k20 => k_is)
    (case a21 => k_is)
    (case l21 => k_is)
    (case c21 => k_is)
    (case k21 => k_is)
    (case a22 => k_is)
    (case l22 => k_is)
    (case c22 => k_is)
    (case k22 => k_is)
    (case a23 => k_is)
    (case l23 => k_is)
    (case c23 => k_is)
    (case k23 => k_is)
    (case a24 => k_is)
    (case l24 => k_is)
    (case c24 => k_is)
    (case k24 => k_is)
    (case a25 => k_is)
    (case l25 => k_is)
    (case c25 => k_is)
    (case k25 => k_is)
    (case a26 => k_is)
    (case l26 => k_is)
    (case c26 => k_is)
    (case k26 => k_is)
    (case a27 => k_is)
    (case l27 => k_is)
    (case c27 => k_is)
    (case k27 => k_is)
    (case a28 => k_is)
    (case l28 => k_is)
    (case c28 => k_is)
    (case k28 => k_is)
    (case a29 => k_is)
    (case l29 => k_is)
    (case c29 => k_is)
    (case k29 => k_is)
    (case a30 => k_is)
    (case l30 => k_is)
    (case c30 => k_is)
    (case k30 => k_is)
    (case a31 => k_is)
    (case l31 => k_is)
    (case c31 => k_is)
    (case k31 => k_is)
    (case a32 => k_is)
    (case l32 => k_is)
    (case c32 => k_is)
    (case k32 => k_is)
    (case a33 => k_is)
    (case l33 => k_is)
    (case c33 => k_is)
    (case k33 => k_is)
    (case a34 => k_is)
    (case l34 => k_is)
    (case c34 => k_is)
    (case k34 => k_is)
    (case a35 => k_is)
    (case l35 => k_is)
    (case c35 => k_is)
    (case k35 => k_is)
    (case a36 => k_is)
    (case l36 => k_is)
    (case c36 => k_is)
    (case k36 => k_is)
    (case a37 => k_is)
    (case l37 => k_is)
    (case c37 => k_is)
    (case k37 => k_is)
    (case a38 => k_is)
    (case l38 => k_is)
    (case c38 => k_is)
    (case k38 => k_is)
    (case a39 => k_is)
    (case l39 => k_is)
    (case c39 => k_is)
    (case k39 => k_is)
    (case a40 => k_is)
    (case l40 => k_is)
    (case c40 => k_is)
    (case k40 => k_is)
    (case a41 => k_is)
    (case l41 => k_is)
    (case c41 => k_is)
    (case k41 => k_is)
    (case a42 => k_is)
    (case l42 => k_is)
    (case c42 => k_is)
    (case k42 => k_is)
    (case a43 => k_is)
    (case l43 => k_is)
    (case c43 => k_is)
    (case k43 => k_is)
    (case a44 => k_is)
    (case l44 => k_is)
    (case c44 => k_is)
    (case k44 => k_is)
    (case a45 => k_is)
    (case l45 => k_is)
    (case c45 => k_is)
    (case k45 => k_is)
    (case a46 => k_is)
    (case l46 => k_is)
    (case c46 => k_is)
    (case k46 => k_is)
    (case a47 => k_is)
    (case l47 => k_is)
    (case c47 => k_is)
    (case k47 => k_is)
    (case a48 => k_is)
    (case l48 => k_is)
    (case c48 => k_is)
    (case k48 => k_is)
    (case a49 => k_is)
    (case l49 => k_is)
    (case c49 => k_is)
    (case k49 => k_is)
    (case n0 => k_is)
    (case n1 => k_is)
    (case n2 => k_is)
    (case n3 => k_is)
    (case n4 => k_is)
    (case n5 => k_is)
    (case n6 => k_is)
    (case n7 => k_is)
    (case n8 => k_is)
    (case z0 => k_is)
    (case z1 => k_is)
    (case z2 => k_is)
    (case z3 => k_is)
    (case z4 => k_is)
    (case z5 => k_is)
    (case z6 => k_is)
    (case z7 => k_is)
    (case z8 => k_is)
    (case z9 => k_is)
    (case z10 => k_is)
    (case z11 => k_is)
    (case z12 => k_is)
    (case z13 => k_is)
    (case z14 => k_is)
    (case z15 => k_is)
    (case z16 => k_is)
    (case lkA1 => k_is)
    (case pA1 => rfl)
    (case noA1 => first | rfl | k_is)
    (case lkA2 => k_is)
    (case pA2 => rfl)
    (case noA2 => first | rfl | k_is)
    (case lkA3 => k_is)
    (case pA3 => rfl)
    (case noA3 => first | rfl | k_is)
    (case lkA4 => k_is)
    (case pA4 => rfl)
    (case noA4 => first | rfl | k_is)
    (case lkA5 => k_is)
    (case pA5 => rfl)
    (case noA5 => first | rfl | k_is)
    (case lkA6 => k_is)
    (case pA6 => rfl)
    (case noA6 => first | rfl | k_is)
    (case lkA7 => k_is)
    (case pA7 => rfl)
    (case noA7 => first | rfl | k_is)
    (case lkA8 => k_is)
    (case pA8 => rfl)
    (case noA8 => first | rfl | k_is)
    (case lkA9 => k_is)
    (case pA9 => rfl)
    (case noA9 => first | rfl | k_is)
    (case aS => k_is)
    (case qS => k_is)
    (case aU => k_is)
    (case qU => k_is)
    (case aH => k_is)
    (case qH => k_is)
    (case aDD => k_is)
    (case lDD => k_is)
    (case lowDD => rfl)
    (case eDD => rfl)
    (case qTD0 => k_is)
    (case qTD1 => k_is)
    (case qTD2 => k_is)
    (case qTD3 => k_is)
    (case qTD4 => k_is)
    (case qTD5 => k_is)
    (case qTD6 => k_is)
    (case qTD7 => k_is)
    (case qTD8 => k_is)
    (case qTD9 => k_is)
    (case qTD10 => k_is)
    (case qTD11 => k_is)
    (case qTD12 => k_is)
    (case qTD13 => k_is)
    (case qTD14 => k_is)
    (case aDB => k_is)
    (case lDB => k_is)
    (case lowDB => rfl)
    (case eDB => rfl)
