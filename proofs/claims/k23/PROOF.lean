import PyProof.Rows.All
import Wide.All
import OpenK.AllK
import Wide.FinOn
import HandS.ForMost
import HandS.IsInst
import HandS.Defaults
import HandS.Conv
import HandS.TupAny
import KE.DataMinMax
import HandS.ForExc
import HandS.Lambda
import HandS.ExcIs
import HandS.Dict
import HandS.EndTab
import PyProof.FactsAll.dict
import HandS.SortKw
import HandS.HotCalls
import HandS.SetFor
import HandS.RaiseMore
import HandS.List
import HandS.Style
import HandS.Ends
import KE.RegKIsAll
import PySem.Challenge.RW_giveway_k23_graphs_refused
set_option Elab.async false
set_option linter.all false
set_option maxRecDepth 100000
namespace Gw
open PySem L2
def top (i : Nat) : Stmt := PySem.Challenge.pw_giveway_k23_graphs_refused.main.body.getD i (.Pass ⟨0, 0, 0, 0⟩)
abbrev sWhole : Stmt := top 22
abbrev sWithin : Stmt := top 23
abbrev sTuple : Stmt := top 24
abbrev sNumber : Stmt := top 36
abbrev sPlace : Stmt := top 37
abbrev sHasBox : Stmt := top 38
abbrev sTie : Stmt := top 39
abbrev sPsz : Stmt := top 40
abbrev sGsz : Stmt := top 41
abbrev sIsGraph : Stmt := top 42
abbrev sCheckG : Stmt := top 43
abbrev sCheckP : Stmt := top 44
abbrev sSortOf : Stmt := top 45
abbrev sHeld : Stmt := top 46
abbrev sReplaced : Stmt := top 47
abbrev sCanGrow : Stmt := top 48
abbrev sGrown : Stmt := top 49
abbrev sWithNumber : Stmt := top 50
abbrev sWithTie : Stmt := top 51
abbrev sCanHang : Stmt := top 52
abbrev sWithGraph : Stmt := top 53
abbrev sSortAt : Stmt := top 54
abbrev sNumAt : Stmt := top 55
abbrev sGraphAt : Stmt := top 56
abbrev sFromTo : Stmt := top 58
abbrev sOdd : Stmt := top 59
abbrev sSpoil : Stmt := top 60
abbrev sWord : Stmt := top 61
abbrev sSaid : Stmt := top 62
abbrev sIsPlain : Stmt := top 63
abbrev sSize : Stmt := top 64
abbrev sGraph : Stmt := top 65
abbrev sSome : Stmt := top 66
abbrev sCell : Stmt := top 67
abbrev sState : Stmt := top 68
abbrev sChoice : Stmt := top 69
abbrev sInner : Stmt := top 70
abbrev sMeasured : Stmt := top 71
abbrev sBoxNumber : Stmt := top 72
abbrev sWords : Stmt := top 73
abbrev sLaw : Stmt := top 74
/-! data, dicts of whole numbers among it -/
def dictK (ms : List (Int × Int)) : List (Key × V) := ms.map fun m => (Sum.inl m.1, V.int m.2)
def dictD (ms : List (Int × Int)) : List (PyData × PyData) := ms.map fun m => (PyData.int m.1, PyData.int m.2)
mutual
inductive Dp (K : PySem.W.Frag) (Hh : Hp) : V → PyData → Prop
  | non : Dp K Hh .non .none
  | bl (t : Bool) : Dp K Hh (.bl t) (.bool t)
  | int (n : Int) : Dp K Hh (.int n) (.int n)
  | str (t : Str) : Dp K Hh (.str t) (.str t)
  | lst {r : Addr} {us : List V} {es : List PyData} (at_ : SqL K Hh r us) (each : DpAll K Hh us es) : Dp K Hh (.ref r) (.list es)
  | tup {r : Addr} {us : List V} {es : List PyData} (at_ : SqT K Hh r us) (each : DpAll K Hh us es) : Dp K Hh (.ref r) (.tuple es)
  | dct {r : Addr} {ms : List (Int × Int)} (at_ : Hh r = some (.dK (dictK ms))) : Dp K Hh (.ref r) (.dict (dictD ms))
inductive DpAll (K : PySem.W.Frag) (Hh : Hp) : List V → List PyData → Prop
  | nil : DpAll K Hh [] []
  | cons {u : V} {us : List V} {e : PyData} {es : List PyData} (one : Dp K Hh u e) (more : DpAll K Hh us es) : DpAll K Hh (u :: us) (e :: es)
end
/-! no list is in it -/
mutual
def noL : PyData → Bool
  | .list _ => false
  | .tuple es => noLs es
  | _ => true
def noLs : List PyData → Bool
  | [] => true
  | e :: es => noL e && noLs es
end
theorem reads_dict {Pg : Program} {wd : World} {h : Heap} : ∀ (ms : List (Int × Int)) (vs : List (Key × Value)) (es : List DictEntry), KV (dictK ms) vs → Pairs (mixKind Pg wd) es vs →
    ReadsAll h (es.map fun e => e.key) ((dictD ms).map fun p => p.1) [] ∧ ReadsAll h (es.map fun e => e.val) ((dictD ms).map fun p => p.2) []
  | [], vs, es, kv, pr => by
    cases kv
    cases pr
    exact ⟨.nil, .nil⟩
  | m :: ms, vs, es, kv, pr => by
    cases kv with
    | cons h1 h2 =>
      cases pr with
      | cons p1 p2 p3 =>
        obtain ⟨q1, q2⟩ := reads_dict (h := h) ms _ _ h2 p3
        obtain ⟨e1, e2⟩ := h1
        rw [← e1] at p1
        have p1 : keyIs (Sum.inl m.1) _ = true := p1
        rcases keyIs_shape p1 with ⟨i, t, z1, z2⟩ | ⟨x, t, z1, z2⟩
        · cases z1
          obtain ⟨t2, e2⟩ := e2
          refine ⟨?_, ?_⟩
          · refine (show ReadsAll h (_ :: _) (PyData.int m.1 :: _) ([] ++ []) from ?_)
            dsimp only
            rw [z2]
            exact .cons (.int _ _) q1
          · refine (show ReadsAll h (_ :: _) (PyData.int m.2 :: _) ([] ++ []) from ?_)
            dsimp only
            rw [p2, e2]
            exact .cons (.int _ _) q2
        · cases z1
section
variable {X : Cx} {pins : List (Addr × Obj)} {σ : L2.St} {H : Hp} {s : Shared}
theorem dct_reads (I : Inv X pins σ H s) {r : Addr} {ms : List (Int × Int)} (h : H r = some (.dK (dictK ms))) : ∃ o es n, s.heap.get? r = some o ∧ o.ExactDict ∧ o.data = .dict es n ∧ r ≠ sysModules ∧ Reads s.heap (.ref r) (.dict (dictD ms)) (r :: [] ++ []) := by
  obtain ⟨_, ns, vs, kv, o, es, ep, g, ex, dd, _, pr, _⟩ := I.hok r _ h
  obtain ⟨q1, q2⟩ := reads_dict ms vs es.toList kv pr
  exact ⟨o, es, ep, g, ex, dd, beq_eq_false_iff_ne.mp ns, .dict g ex.1 dd q1 q2⟩
mutual
theorem Dp.rd (I : Inv X pins σ H s) : ∀ (d : PyData) (v : V) (u : Value), Dp X.K H v d → RelV v u → ∃ as, Reads s.heap u d as ∧ (noL d = true → sysModules ∉ as)
  | .none, v, u, h, r => by cases h; cases r; exact ⟨_, .none, fun _ z => nomatch z⟩
  | .bool b, v, u, h, r => by cases h; cases r; exact ⟨_, .bool b, fun _ z => nomatch z⟩
  | .int i, v, u, h, r => by cases h; obtain ⟨t, rfl⟩ := r; exact ⟨_, .int i t, fun _ z => nomatch z⟩
  | .str x, v, u, h, r => by cases h; obtain ⟨t, rfl⟩ := r; exact ⟨_, .str x t, fun _ z => nomatch z⟩
  | .list es, v, u, h, r => by
    cases h with
    | lst at_ each =>
      cases r
      obtain ⟨its, rv, ⟨o, n, ho, hc, _, hd⟩, _⟩ := I.list at_
      obtain ⟨as, hr, _⟩ := Dp.rds I es _ its each rv
      exact ⟨_, .list ho hc hd hr, fun z => by simp [noL] at z⟩
  | .tuple es, v, u, h, r => by
    cases h with
    | tup at_ each =>
      cases r
      obtain ⟨its, rv, ⟨o, ho, hc, n, hd⟩, _⟩ := I.tuple at_
      obtain ⟨as, hr, hn⟩ := Dp.rds I es _ its each rv
      exact ⟨_, .tuple ho hc hd hr, fun z => hn (by simpa only [noL] using z)⟩
  | .dict kvs, v, u, h, r => by
    cases h with
    | dct at_ =>
      cases r
      obtain ⟨_, _, _, _, _, _, ns, rd⟩ := dct_reads I at_
      exact ⟨_, rd, fun _ z => by
        have z : sysModules ∈ [_] := z
        exact ns (List.mem_singleton.mp z).symm⟩
theorem Dp.rds (I : Inv X pins σ H s) : ∀ (ds : List PyData) (vs : List V) (us : List Value), DpAll X.K H vs ds → Vals vs us → ∃ as, ReadsAll s.heap us ds as ∧ (noLs ds = true → sysModules ∉ as)
  | [], vs, us, h, r => by cases h; cases r; exact ⟨_, .nil, fun _ z => nomatch z⟩
  | d :: ds, vs, us, h, r => by
    cases h with
    | cons one more =>
      cases r with
      | cons r1 r2 =>
        obtain ⟨as, q1, n1⟩ := Dp.rd I d _ _ one r1
        obtain ⟨bs, q2, n2⟩ := Dp.rds I ds _ _ more r2
        refine ⟨_, .cons q1 q2, fun z => ?_⟩
        have z' : noL d = true ∧ noLs ds = true := by simpa [noLs] using z
        intro hm
        rcases List.mem_append.mp hm with hm | hm
        · exact n1 z'.1 hm
        · exact n2 z'.2 hm
end
end
/-! a dict against a text -/
section
open PySem.SeqAt
theorem dict_declines (l : Addr) (es : Array DictEntry) (n : Nat) (b : Str) (u : Tok) :
    Meets (Builtin.«dict.__eq__» ⟨[.ref l, .str b u], []⟩) (fun _ R s => s.heap.get? l = some { cls := .type "dict", data := .dict es n } ∧ R (.ok (.ret .notImplemented)) s) :=
  .of_wp fun prog w A R s h => by obtain ⟨hp, g, d, tk, os⟩ := s; obtain ⟨hl, h⟩ := h; have f1 := F.sub_str_dict; wp_walk using AutoSeq1.wpAny_loadPart' hl; exact ⟨_, rfl, h⟩
theorem str_declines_dict (b : Str) (u : Tok) (l : Addr) (es : Array DictEntry) (n : Nat) :
    Meets (Builtin.«str.__eq__» ⟨[.str b u, .ref l], []⟩) (fun _ R s => s.heap.get? l = some { cls := .type "dict", data := .dict es n } ∧ R (.ok (.ret .notImplemented)) s) :=
  .of_wp fun prog w A R s h => by obtain ⟨hp, g, d, tk, os⟩ := s; obtain ⟨hl, h⟩ := h; wp_walk using AutoSeq1.wpAny_loadPart' hl, wpAny_load hl; exact ⟨_, rfl, h⟩
theorem rc_dict_str {A : Around} {s : Shared} {l : Addr} {es : Array DictEntry} {n : Nat} (b : Str) (u : Tok) (ho : s.heap.get? l = some { cls := .type "dict", data := .dict es n }) (hu : A.units < cLine) : RcAt A s (.ref l) (.str b u) false := fun prog w E Q h =>
  rc_eq_decline_or (k := false) ⟨_, ho, rfl⟩ (typeIs_str s b u) (by decide) F.sub_str_dict F.slot_dict_eq F.slot_str_eq_refl
    (fun _ hq => call_meets F.slot_dict_eq ⟨_, ho, rfl⟩ F.entry_dict_eq (F.args_dict_eq_2 _ _) (dict_declines l es n b u) ⟨ho, hq⟩)
    (fun _ hq => call_meets F.slot_str_eq_refl (typeIs_str s b u) F.entry_str_eq (F.args_str_eq_2 _ _) (str_declines_dict b u l es n) ⟨ho, hq⟩)
    (fun _ hq => wpAny_of_eq (rfl : isSame (.ref l) (.str b u) = pure false) hq) (.inr hu) h
end
def OkL (_ : PyData) : Prop := True
def OkR (e : PyData) : Prop := ∃ t, e = .str t
theorem okL_mem {ds : List PyData} {d : PyData} (h : OkL (.tuple ds)) (hm : d ∈ ds) : OkL d := trivial
theorem okR_tie : OkR (.str "tie") := ⟨_, rfl⟩
/-- whatever it is against a text -/
def rEqT (K : PySem.W.Frag) : R2 := fun x y H Q => ∃ d e, Dp K H x d ∧ Dp K H y e ∧ OkL d ∧ OkR e ∧ Q (.bl (PyData.eqv d e)) H
theorem op_eqT {X : Cx} (hu : X.A.units + 64 < cLine) : OpR X (compareOp .Eq) (rEqT X.K) := by
  intro pins s σ H x y v u Q I rx ry h
  obtain ⟨d, e, hd, he, _, ⟨t, rfl⟩, q⟩ := h
  cases he
  obtain ⟨tk, rfl⟩ := ry
  have fin : ∀ b, PyData.eqv d (.str t) = b → SeqAt.RcAt X.A s v (.str t tk) b → wpAny (model X.prog X.w) X.A (compareOp .Eq v (.str t tk)) (EP X pins σ Q) X.xe s := fun b e rc => by
    refine rc X.prog X.w _ _ ⟨.bl b, H, I, rfl, ?_⟩
    rw [← e]
    exact q
  have hu' : X.A.units < cLine := by omega
  cases hd with
  | non => cases rx; exact fin false (by simp [PyData.eqv]) (SeqAt.RcAt.none_str _ _)
  | bl b => cases rx; exact fin false (by simp [PyData.eqv]) (SeqAt.RcAt.bool_str _ _ _)
  | int i => obtain ⟨k, rfl⟩ := rx; exact fin false (by simp [PyData.eqv]) (SeqAt.RcAt.int_str _ _ _ _)
  | str z => obtain ⟨k, rfl⟩ := rx; exact fin (z == t) (by simp [PyData.eqv]) (SeqAt.RcAt.str_str _ _ _ _)
  | lst at_ each =>
    cases rx
    obtain ⟨its, rv, ⟨o, n, ho, hc, _, hd⟩, _⟩ := I.list at_
    exact fin false (by simp [PyData.eqv]) (SeqAt.RcAt.list_str _ _ ⟨o, ho, hc, n, hd⟩ hu')
  | tup at_ each =>
    cases rx
    obtain ⟨its, rv, ⟨o, ho, hc, n, hd⟩, _⟩ := I.tuple at_
    exact fin false (by simp [PyData.eqv]) (SeqAt.RcAt.tuple_str _ _ ⟨o, ho, hc, n, hd⟩ hu')
  | dct at_ =>
    cases rx
    obtain ⟨⟨oc, od, oda, osl⟩, es, n, g, ⟨e1, e2, e3⟩, e4, _, _⟩ := dct_reads I at_
    dsimp only at e1 e2 e3 e4
    subst e1 e2 e3 e4
    exact fin false (by simp [PyData.eqv]) (rc_dict_str _ _ g hu')
/-- data without dicts against such -/
def rNeD (K : PySem.W.Frag) : R2 := fun x y Hh Q => ∃ d e, Dp K Hh x d ∧ Dp K Hh y e ∧ SeqAt.shaped d = true ∧ SeqAt.shaped e = true ∧ Q (.bl (!PyData.eqv d e)) Hh
theorem op_neD {X : Cx} (hu : X.A.units + 64 < cLine) : OpR X (compareOp .NotEq) (rNeD X.K) := by
  intro pins s σ Hh x y v u Q I rx ry h
  obtain ⟨d, e, hd, he, sd, se, q⟩ := h
  obtain ⟨as, r1, _⟩ := Dp.rd I d x v hd rx
  obtain ⟨bs, r2, _⟩ := Dp.rd I e y u he ry
  exact SeqAt.compareNe_shaped r1 r2 sd se hu ⟨.bl _, Hh, I, rfl, q⟩
/-! repr -/
theorem call_reprD {X : Cx} (hg : X.A.guards = some []) (hu : X.A.units + 80 < cLine) : CallR X (.builtin "repr") (fun xs H Q => ∃ (a : Addr) (d : PyData), xs = [.ref a] ∧ Dp X.K H (.ref a) d ∧ d.showable = true ∧ (d.hasDict = true → noL d = true) ∧ d.depth ≤ 64 ∧ d.shown.length ≤ sizeLine ∧ Q (.str d.shown) H) := by
  intro pins s σ H xs us Q I r h
  obtain ⟨a, d, rfl, hd, h1, h2, h3, h4, q⟩ := h
  obtain ⟨u, rfl, ru⟩ := vals1 r
  cases ru
  obtain ⟨as, hr, hn⟩ := Dp.rd I d (.ref a) (.ref a) hd rfl
  exact repr_of_reads' hr h1 (fun z => hn (h2 z)) hg (by omega) (fun _ _ e => e) (fun h' u tk hk => ⟨.str d.shown, H, I.kept hk, ⟨u, rfl⟩, q⟩) h4
/-- the names that the module leaves to the built-ins -/
structure Free (mg : Str → Option Value) : Prop where
  isi : mg "isinstance" = none
  int : mg "int" = none
  bool : mg "bool" = none
  tuple : mg "tuple" = none
  len : mg "len" = none
  range : mg "range" = none
  min : mg "min" = none
  max : mg "max" = none
  sum : mg "sum" = none
  list : mg "list" = none
  repr : mg "repr" = none
/-- a def that stands under its name and keeps a promise -/
def Cal (P : Program) (w : World) (K : PySem.W.Frag) (mg : Str → Option Value) (base : Heap) (x : Str) (k : Nat) (ps : List Str) (sp : Sp) : Prop :=
  ∃ (f : Addr) (fd : FuncData), FnOk P w K mg base CX0 k f fd ps sp ∧ mg x = some (.ref f) ∧ PySem.W.keepIn K (.ref f) = true ∧ Binds K fd ps []
theorem Cal.mono {P : Program} {w : World} {K : PySem.W.Frag} {mg : Str → Option Value} {base : Heap} {x : Str} {j k : Nat} {ps : List Str} {sp : Sp} (C : Cal P w K mg base x j ps sp) (h : j ≤ k) : Cal P w K mg base x k ps sp := by
  obtain ⟨f, fd, F, r⟩ := C
  exact ⟨f, fd, F.mono h, r⟩
theorem pe_cal {X : Cx} {x : Str} {p pos : Pos} {e : Expr} {es : List Expr} {t : TA} {k : Nat} {ps : List Str} {sp : Sp} (C : Cal X.prog X.w X.K X.mg X.base x k ps sp) (hr : Room k X.A) (hg : Gl X x) (ha : PA X (e :: es) t)
    (hdb : (x == ("__debug__" : Str)) = false := by decide) (he : starEach (e :: es) X.env = (false, eval e X.env) :: starEach es X.env := by rfl) (hpl : ((backTo pos (starEach es X.env)).any fun x => x.fst) = false := by rfl) :
    PE X (.Call (.Name x p) (e :: es) [] pos) (tCall sp [] E0 t) := by
  obtain ⟨f, fd, F, hm, hk, hb⟩ := C
  exact pe_call F hr hg hm hk hb .nil pass0 ha hdb he hpl
/-! the kinds of data -/
def kindD : PyData → String
  | .none => "NoneType"
  | .bool _ => "bool"
  | .int _ => "int"
  | .str _ => "str"
  | .list _ => "list"
  | .tuple _ => "tuple"
  | .dict _ => "dict"
theorem ty_lst {K : PySem.W.Frag} {H : Hp} {a : Addr} {xs : List V} (h : SqL K H a xs) : TyX K H (.ref a) (.type "list") := by
  rcases h with (h | ⟨o, h⟩) | ⟨o, its, n, hk, hc, _⟩
  · exact .base (.lst h)
  · exact .base (.frz h)
  · exact .kList hk hc
theorem ty_tup {K : PySem.W.Frag} {H : Hp} {a : Addr} {xs : List V} (h : SqT K H a xs) : TyX K H (.ref a) (.type "tuple") := by
  rcases h with (h | ⟨o, h⟩) | ⟨o, its, n, hk, hc, _⟩
  · exact .base (.tup h)
  · exact .fTuple h
  · exact .kTuple hk hc
theorem ty_of {K : PySem.W.Frag} {H : Hp} {x : V} {d : PyData} (h : Dp K H x d) : TyX K H x (.type (kindD d)) := by
  cases h with
  | non => exact .base .non
  | bl b => exact .base (.bl b)
  | int i => exact .base (.int i)
  | str s => exact .base (.str s)
  | lst h _ => exact ty_lst h
  | dct h => exact .base (.dK h)
  | tup h _ => exact ty_tup h
def intD : PyData → Bool
  | .int _ => true
  | .bool _ => true
  | _ => false
def boolD : PyData → Bool
  | .bool _ => true
  | _ => false
def tupleD : PyData → Bool
  | .tuple _ => true
  | _ => false
theorem kit_int {K : PySem.W.Frag} (d : PyData) : PySem.W.kitOne K (.type (kindD d)) (.type "int") = some (intD d) := by
  cases d with
  | none => exact kit_ty (show kitB "NoneType" "int" = some false by decide +kernel)
  | bool _ => exact kit_ty (show kitB "bool" "int" = some true by decide +kernel)
  | int _ => exact kit_ty (show kitB "int" "int" = some true by decide +kernel)
  | str _ => exact kit_ty (show kitB "str" "int" = some false by decide +kernel)
  | list _ => exact kit_ty (show kitB "list" "int" = some false by decide +kernel)
  | tuple _ => exact kit_ty (show kitB "tuple" "int" = some false by decide +kernel)
  | dict _ => exact kit_ty (show kitB "dict" "int" = some false by decide +kernel)
theorem kit_bool {K : PySem.W.Frag} (d : PyData) : PySem.W.kitOne K (.type (kindD d)) (.type "bool") = some (boolD d) := by
  cases d with
  | none => exact kit_ty (show kitB "NoneType" "bool" = some false by decide +kernel)
  | bool _ => exact kit_ty (show kitB "bool" "bool" = some true by decide +kernel)
  | int _ => exact kit_ty (show kitB "int" "bool" = some false by decide +kernel)
  | str _ => exact kit_ty (show kitB "str" "bool" = some false by decide +kernel)
  | list _ => exact kit_ty (show kitB "list" "bool" = some false by decide +kernel)
  | tuple _ => exact kit_ty (show kitB "tuple" "bool" = some false by decide +kernel)
  | dict _ => exact kit_ty (show kitB "dict" "bool" = some false by decide +kernel)
theorem kit_tuple {K : PySem.W.Frag} (d : PyData) : PySem.W.kitOne K (.type (kindD d)) (.type "tuple") = some (tupleD d) := by
  cases d with
  | none => exact kit_ty (show kitB "NoneType" "tuple" = some false by decide +kernel)
  | bool _ => exact kit_ty (show kitB "bool" "tuple" = some false by decide +kernel)
  | int _ => exact kit_ty (show kitB "int" "tuple" = some false by decide +kernel)
  | str _ => exact kit_ty (show kitB "str" "tuple" = some false by decide +kernel)
  | list _ => exact kit_ty (show kitB "list" "tuple" = some false by decide +kernel)
  | tuple _ => exact kit_ty (show kitB "tuple" "tuple" = some true by decide +kernel)
  | dict _ => exact kit_ty (show kitB "dict" "tuple" = some false by decide +kernel)
theorem ifT {c : Bool} {A B : Prop} (e : c = true) (h : A) : if c = true then A else B := by rw [if_pos e]; exact h
theorem ifF {c : Bool} {A B : Prop} (e : c = false) (h : B) : if c = true then A else B := by rw [if_neg (by rw [e]; decide)]; exact h
def wholeD : PyData → Bool
  | .int _ => true
  | _ => false
def withinD (lo hi : Int) : PyData → Bool
  | .int i => decide (lo ≤ i) && decide (i ≤ hi)
  | _ => false
def tupD (lo hi : Int) : PyData → Bool
  | .tuple xs => decide (lo ≤ (xs.length : Int)) && decide ((xs.length : Int) ≤ hi)
  | _ => false
theorem dpAll_len {K : PySem.W.Frag} {H : Hp} : ∀ {xs : List V} {ds : List PyData}, DpAll K H xs ds → xs.length = ds.length
  | _, _, .nil => rfl
  | _, _, .cons _ t => by rw [List.length_cons, List.length_cons, dpAll_len t]
theorem dpAll_get {K : PySem.W.Frag} {H : Hp} : ∀ {xs : List V} {ds : List PyData} {i : Nat} {d : PyData}, DpAll K H xs ds → ds[i]? = some d → ∃ x, xs[i]? = some x ∧ Dp K H x d
  | _, _, 0, _, .cons h _, e => by cases e; exact ⟨_, rfl, h⟩
  | _, _, i + 1, _, .cons _ t, e => dpAll_get (i := i) t e
  | _, _, _, _, .nil, e => by cases e
theorem dpAll_get' {K : PySem.W.Frag} {H : Hp} : ∀ {xs : List V} {ds : List PyData} {i : Nat} {x : V}, DpAll K H xs ds → xs[i]? = some x → ∃ d, ds[i]? = some d ∧ Dp K H x d
  | _, _, 0, _, .cons h _, e => by cases e; exact ⟨_, rfl, h⟩
  | _, _, i + 1, _, .cons _ t, e => dpAll_get' (i := i) t e
  | _, _, _, _, .nil, e => by cases e
section
variable {P : Program} {w : World} {K : PySem.W.Frag} {mg : Str → Option Value} {base : Heap} {f : Addr} {fd : FuncData}
def spWhole (K : PySem.W.Frag) : Sp := fun vs H Q _ => ∃ (x : V) (d : PyData), vs = [x] ∧ Dp K H x d ∧ Q (.bl (wholeD d)) H
theorem scWhole : FnScope ["thing"] ["thing"] (defScope sWhole) := ⟨rfl, rfl, rfl, by decide +kernel, rfl, by decide +kernel, by decide +kernel⟩
theorem ok_whole {k : Nat} (F : Fun K "is_whole" "is_whole" sWhole f fd) (T : Free mg) : FnOk P w K mg base CX0 (k + 1) f fd ["thing"] (spWhole K) := by
  refine F.ok scWhole (fun vs H Q E h => ?_) (fun cdv A outer s H vs Q E hr h => ?_)
  · obtain ⟨x, d, rfl, _⟩ := h
    rfl
  obtain ⟨x, d, rfl, hx, q⟩ := h
  refine ⟨_, pss_one (ps_ret (pe_and (pe_callB call_isi rfl T.isi (by decide +kernel) (pa_cons (pv 0) (pa_cons (pe_bltn (v := .ty "int") rfl T.int (by decide +kernel) rfl) pa_nil)))
    (pe_one (pe_not (pe_callB call_isi rfl T.isi (by decide +kernel) (pa_cons (pv 0) (pa_cons (pe_bltn (v := .ty "bool") rfl T.bool (by decide +kernel) rfl) pa_nil))))))), ?_⟩
  have ht := ty_of hx
  refine ⟨_, rfl, x, _, _, _, _, rfl, .ty "int", ht, kit_int d, _, rfl, ?_⟩
  cases d with
  | int i => exact ifT rfl ⟨_, rfl, _, _, _, _, _, rfl, .ty "bool", ht, kit_bool _, _, rfl, q⟩
  | bool b => exact ifT rfl ⟨_, rfl, _, _, _, _, _, rfl, .ty "bool", ht, kit_bool _, _, rfl, q⟩
  | none => exact ifF rfl q
  | str _ => exact ifF rfl q
  | list _ => exact ifF rfl q
  | tuple _ => exact ifF rfl q
  | dict _ => exact ifF rfl q
/-! is_within -/
def spWithin (K : PySem.W.Frag) : Sp := fun vs H Q _ => ∃ (x : V) (d : PyData) (lo hi : Int), vs = [x, .int lo, .int hi] ∧ Dp K H x d ∧ Q (.bl (withinD lo hi d)) H
theorem scWithin : FnScope ["thing", "least", "most"] ["thing", "least", "most"] (defScope sWithin) := ⟨rfl, rfl, rfl, by decide +kernel, rfl, by decide +kernel, by decide +kernel⟩
theorem ok_within {k : Nat} (F : Fun K "is_within" "is_within" sWithin f fd) (cW : Cal P w K mg base "is_whole" k ["thing"] (spWhole K)) : FnOk P w K mg base CX0 (k + 1) f fd ["thing", "least", "most"] (spWithin K) := by
  refine F.ok scWithin (fun vs H Q E h => ?_) (fun cdv A outer s H vs Q E hr h => ?_)
  · obtain ⟨x, d, lo, hi, rfl, _⟩ := h
    rfl
  obtain ⟨x, d, lo, hi, rfl, hx, q⟩ := h
  refine ⟨_, pss_one (ps_ret (pe_and (pe_cal cW hr rfl (pa_cons (pv 0) pa_nil)) (pe_one (pe_chain op_le op_le (pv 1) (pv 0) (pv 2))))), ?_⟩
  refine ⟨_, rfl, x, d, rfl, hx, _, rfl, ?_⟩
  cases d with
  | int i =>
    cases hx
    refine ifT rfl ⟨_, rfl, _, rfl, _, _, rfl, rfl, _, rfl, ?_⟩
    have e : withinD lo hi (.int i) = (decide (lo ≤ i) && decide (i ≤ hi)) := rfl
    rw [e] at q
    by_cases c : lo ≤ i
    · refine ifT (decide_eq_true c) ⟨_, rfl, _, _, rfl, rfl, ?_⟩
      rw [decide_eq_true c, Bool.true_and] at q
      exact q
    · refine ifF (decide_eq_false c) ?_
      rw [decide_eq_false c, Bool.false_and] at q
      exact q
  | bool b => exact ifF rfl q
  | none => exact ifF rfl q
  | str _ => exact ifF rfl q
  | list _ => exact ifF rfl q
  | tuple _ => exact ifF rfl q
  | dict _ => exact ifF rfl q
/-! is_tuple -/
def spTuple (K : PySem.W.Frag) : Sp := fun vs H Q _ => ∃ (x : V) (d : PyData) (lo hi : Int), vs = [x, .int lo, .int hi] ∧ Dp K H x d ∧ Q (.bl (tupD lo hi d)) H
theorem scTuple : FnScope ["thing", "least", "most"] ["thing", "least", "most"] (defScope sTuple) := ⟨rfl, rfl, rfl, by decide +kernel, rfl, by decide +kernel, by decide +kernel⟩
theorem ok_tuple {k : Nat} (F : Fun K "is_tuple" "is_tuple" sTuple f fd) (T : Free mg) : FnOk P w K mg base CX0 (k + 1) f fd ["thing", "least", "most"] (spTuple K) := by
  refine F.ok scTuple (fun vs H Q E h => ?_) (fun cdv A outer s H vs Q E hr h => ?_)
  · obtain ⟨x, d, lo, hi, rfl, _⟩ := h
    rfl
  obtain ⟨x, d, lo, hi, rfl, hx, q⟩ := h
  refine ⟨_, pss_one (ps_ret (pe_and (pe_callB call_isi rfl T.isi (by decide +kernel) (pa_cons (pv 0) (pa_cons (pe_bltn (v := .ty "tuple") rfl T.tuple (by decide +kernel) rfl) pa_nil)))
    (pe_one (pe_chain op_le op_le (pv 1) (pe_callB call_len_seq rfl T.len PySem.boot_len (pa_cons (pv 0) pa_nil)) (pv 2))))), ?_⟩
  have ht := ty_of hx
  refine ⟨_, rfl, x, _, _, _, _, rfl, .ty "tuple", ht, kit_tuple d, _, rfl, ?_⟩
  cases d with
  | tuple ds =>
    cases hx with
    | tup hs ha =>
      refine ifT rfl ⟨_, rfl, _, rfl, _, _, rfl, .inr hs, _, _, rfl, rfl, _, rfl, ?_⟩
      rw [dpAll_len ha]
      have e : tupD lo hi (.tuple ds) = (decide (lo ≤ (ds.length : Int)) && decide ((ds.length : Int) ≤ hi)) := rfl
      rw [e] at q
      by_cases c : lo ≤ (ds.length : Int)
      · refine ifT (decide_eq_true c) ⟨_, rfl, _, _, rfl, rfl, ?_⟩
        rw [decide_eq_true c, Bool.true_and] at q
        exact q
      · refine ifF (decide_eq_false c) ?_
        rw [decide_eq_false c, Bool.false_and] at q
        exact q
  | int _ => exact ifF rfl q
  | bool b => exact ifF rfl q
  | none => exact ifF rfl q
  | str _ => exact ifF rfl q
  | list _ => exact ifF rfl q
  | dict _ => exact ifF rfl q
end
/-- the module's numbers -/
structure Cst (mg : Str → Option Value) : Prop where
  mostBoxes : ∃ t, mg "MOST_BOXES" = some (.int 8 t)
  mostInAll : ∃ t, mg "MOST_IN_ALL" = some (.int 24 t)
  mostDeep : ∃ t, mg "MOST_DEEP" = some (.int 4 t)
  places : ∃ t, mg "PLACES" = some (.int 3 t)
  greatest : ∃ t, mg "GREATEST" = some (.int 9999 t)
  number : ∃ t, mg "NUMBER" = some (.int 0 t)
  tie : ∃ t, mg "TIE" = some (.int 1 t)
  graph : ∃ t, mg "GRAPH" = some (.int 2 t)
  nothing : ∃ t, mg "NOTHING" = some (.int 3 t)
theorem pe_globI {X : Cx} {x : Str} {n : Int} {pos : Pos} (hg : Gl X x) (h : ∃ t, X.mg x = some (.int n t)) (hd : (x == ("__debug__" : Str)) = false := by decide) : PE X (.Name x pos) (tC (.int n)) := by
  obtain ⟨t, h⟩ := h
  exact pe_glob hg h ⟨t, rfl⟩ hd
/-! shapes -/
theorem lay_mem : ∀ {ds : List PyData} {d : PyData}, PyData.canLayAll0 ds = true → d ∈ ds → d.canLay0 = true
  | x :: r, d, h, hm => by
    simp only [PyData.canLayAll0, Bool.and_eq_true] at h
    rcases List.mem_cons.mp hm with rfl | hm
    · exact h.1
    · exact lay_mem h.2 hm
theorem depth_mem : ∀ {ds : List PyData} {d : PyData}, d ∈ ds → d.depth ≤ PyData.depthAll ds
  | x :: r, d, hm => by
    simp only [PyData.depthAll]
    rcases List.mem_cons.mp hm with rfl | hm
    · omega
    · have := depth_mem hm
      omega
theorem shaped_mem {ds : List PyData} {d : PyData} (h : SeqAt.shaped (.tuple ds) = true) (hm : d ∈ ds) : SeqAt.shaped d = true := by
  have h1 : PyData.canLayAll0 ds = true := by
    have := SeqAt.canLay_of_shaped h
    simpa only [PyData.canLay0] using this
  have h2 := SeqAt.depth_of_shaped h
  have h3 := depth_mem hm
  simp only [PyData.depth] at h2
  show (d.canLay0 && decide (d.depth ≤ 64)) = true
  rw [lay_mem h1 hm, Bool.true_and]
  exact decide_eq_true (by omega)
theorem shaped_tie : SeqAt.shaped (.str "tie") = true := by decide +kernel
/-! the mirror -/
def numD (p : PyData) : Bool := withinD (-9999) 9999 p
def tieB (m : Int) : PyData → Bool
  | .tuple [p, q] => PyData.eqv p (.str "tie") && withinD 0 (m - 1) q
  | _ => false
def optV : Option Nat → V
  | none => .non
  | some n => .int n
def sumO (f : PyData → Option Nat) : List PyData → Option Nat
  | [] => some 0
  | x :: r => match f x with
    | none => none
    | some a => match sumO f r with
      | none => none
      | some b => some (a + b)
theorem sumO_none {f : PyData → Option Nat} : ∀ {l : List PyData} {x : PyData}, x ∈ l → f x = none → sumO f l = none
  | y :: r, x, hm, h => by
    rcases List.mem_cons.mp hm with rfl | hm
    · simp only [sumO, h]
    · have ih := sumO_none hm h
      simp only [sumO, ih]
      cases f y <;> rfl
theorem sumO_snoc {f : PyData → Option Nat} : ∀ {l : List PyData} {x : PyData} {s a : Nat}, sumO f l = some s → f x = some a → sumO f (l ++ [x]) = some (s + a)
  | [], x, s, a, h, hx => by
    simp only [sumO, Option.some.injEq] at h
    subst h
    simp [sumO, hx]
  | y :: r, x, s, a, h, hx => by
    simp only [sumO] at h
    cases hy : f y with
    | none => rw [hy] at h; cases h
    | some b =>
      rw [hy] at h
      cases hr : sumO f r with
      | none => rw [hr] at h; cases h
      | some c =>
        rw [hr] at h
        have ih := sumO_snoc hr hx
        simp only [Option.some.injEq] at h
        subst h
        show sumO f (y :: (r ++ [x])) = _
        simp only [sumO, hy, ih]
        congr 1
        omega
theorem sumO_mem {f : PyData → Option Nat} {l : List PyData} {x : PyData} {s : Nat} (h : sumO f l = some s) (hm : x ∈ l) : ∃ a, f x = some a := by
  cases e : f x with
  | none => rw [sumO_none hm e] at h; cases h
  | some a => exact ⟨a, rfl⟩
theorem take_more {α : Type} {l : List α} {i : Nat} {x : α} (h : l[i]? = some x) : l.take (i + 1) = l.take i ++ [x] := by
  rw [List.take_add_one, h]
  rfl
def boxN (f : PyData → Option Nat) : PyData → Option Nat
  | .tuple ps => if ps.length = 3 then sumO f ps else none
  | _ => none
def placeN (g : PyData → Option Nat) (m : Nat) (p : PyData) : Option Nat := if numD p = true then some 0 else if tieB m p = true then some 0 else g p
def fitN (m : Nat) : Option Nat → Option Nat
  | none => none
  | some s => if m + s ≤ 24 then some (m + s) else none
def gszT (g : PyData → Option Nat) (bs : List PyData) : Option Nat := if 1 ≤ bs.length ∧ bs.length ≤ 8 then fitN bs.length (sumO (boxN (placeN g bs.length)) bs) else none
def gsz : Nat → PyData → Option Nat
  | n + 1, .tuple bs => gszT (gsz n) bs
  | _, _ => none
section
variable {P : Program} {w : World} {K : PySem.W.Frag} {mg : Str → Option Value} {base : Heap} {f : Addr} {fd : FuncData}
/-! is_number, is_place, has_box -/
def spNumber (K : PySem.W.Frag) : Sp := fun vs H Q _ => ∃ (x : V) (d : PyData), vs = [x] ∧ Dp K H x d ∧ Q (.bl (numD d)) H
theorem scNumber : FnScope ["thing"] ["thing"] (defScope sNumber) := ⟨rfl, rfl, rfl, by decide +kernel, rfl, by decide +kernel, by decide +kernel⟩
theorem ok_number {k : Nat} (F : Fun K "is_number" "is_number" sNumber f fd) (C : Cst mg) (cW : Cal P w K mg base "is_within" k ["thing", "least", "most"] (spWithin K)) : FnOk P w K mg base CX0 (k + 1) f fd ["thing"] (spNumber K) := by
  refine F.ok scNumber (fun vs H Q E h => ?_) (fun cdv A outer s H vs Q E hr h => ?_)
  · obtain ⟨x, d, rfl, _⟩ := h
    rfl
  obtain ⟨x, d, rfl, hx, q⟩ := h
  refine ⟨_, pss_one (ps_ret (pe_cal cW hr rfl (pa_cons (pv 0) (pa_cons (pe_un un_neg (pe_globI rfl C.greatest)) (pa_cons (pe_globI rfl C.greatest) pa_nil))))), ?_⟩
  exact ⟨_, rfl, _, rfl, x, d, _, _, rfl, hx, q⟩
def spPlace : Sp := fun vs H Q _ => ∃ (i : Int), vs = [.int i] ∧ Q (.bl (decide (0 ≤ i) && decide (i ≤ 2))) H
theorem scPlace : FnScope ["thing"] ["thing"] (defScope sPlace) := ⟨rfl, rfl, rfl, by decide +kernel, rfl, by decide +kernel, by decide +kernel⟩
theorem ok_place {k : Nat} (F : Fun K "is_place" "is_place" sPlace f fd) (C : Cst mg) (cW : Cal P w K mg base "is_within" k ["thing", "least", "most"] (spWithin K)) : FnOk P w K mg base CX0 (k + 1) f fd ["thing"] spPlace := by
  refine F.ok scPlace (fun vs H Q E h => ?_) (fun cdv A outer s H vs Q E hr h => ?_)
  · obtain ⟨x, rfl, _⟩ := h
    rfl
  obtain ⟨i, rfl, q⟩ := h
  refine ⟨_, pss_one (ps_ret (pe_cal cW hr rfl (pa_cons (pv 0) (pa_cons pe_int (pa_cons (pe_op op_sub (pe_globI rfl C.places) pe_int) pa_nil))))), ?_⟩
  exact ⟨_, rfl, _, _, rfl, rfl, _, .int i, 0, 2, rfl, .int i, q⟩
def spHasBox (K : PySem.W.Frag) : Sp := fun vs H Q _ => ∃ (a : Addr) (xs : List V) (x : V) (d : PyData), vs = [.ref a, x] ∧ SqT K H a xs ∧ Dp K H x d ∧ Q (.bl (withinD 0 ((xs.length : Int) - 1) d)) H
theorem scHasBox : FnScope ["graph", "b"] ["graph", "b"] (defScope sHasBox) := ⟨rfl, rfl, rfl, by decide +kernel, rfl, by decide +kernel, by decide +kernel⟩
theorem ok_hasBox {k : Nat} (F : Fun K "has_box" "has_box" sHasBox f fd) (T : Free mg) (cW : Cal P w K mg base "is_within" k ["thing", "least", "most"] (spWithin K)) : FnOk P w K mg base CX0 (k + 1) f fd ["graph", "b"] (spHasBox K) := by
  refine F.ok scHasBox (fun vs H Q E h => ?_) (fun cdv A outer s H vs Q E hr h => ?_)
  · obtain ⟨a, xs, x, d, rfl, _⟩ := h
    rfl
  obtain ⟨a, xs, x, d, rfl, hs, hx, q⟩ := h
  refine ⟨_, pss_one (ps_ret (pe_cal cW hr rfl (pa_cons (pv 1) (pa_cons pe_int (pa_cons (pe_op op_sub (pe_callB call_len_seq rfl T.len PySem.boot_len (pa_cons (pv 0) pa_nil)) pe_int) pa_nil))))), ?_⟩
  exact ⟨_, rfl, _, rfl, a, xs, rfl, .inr hs, _, _, rfl, rfl, x, d, 0, _, rfl, hx, q⟩
/-! is_tie -/
def spTie (K : PySem.W.Frag) : Sp := fun vs H Q _ => ∃ (x : V) (d : PyData) (a : Addr) (xs : List V), vs = [x, .ref a] ∧ Dp K H x d ∧ OkL d ∧ SqT K H a xs ∧ Q (.bl (tieB xs.length d)) H
theorem scTie : FnScope ["thing", "graph"] ["thing", "graph"] (defScope sTie) := ⟨rfl, rfl, rfl, by decide +kernel, rfl, by decide +kernel, by decide +kernel⟩
theorem tup2 {d : PyData} (h : tupD 2 2 d = true) : ∃ p q, d = .tuple [p, q] := by
  cases d with
  | tuple ds =>
    match ds, h with
    | [], h => exact absurd h (by decide)
    | [a], h => exact absurd h (by simp [tupD])
    | [a, b], _ => exact ⟨a, b, rfl⟩
    | a :: b :: c :: r, h =>
      have : (2 : Int) ≤ ((a :: b :: c :: r).length : Int) ∧ ((a :: b :: c :: r).length : Int) ≤ 2 := by simpa [tupD] using h
      simp only [List.length_cons] at this
      omega
  | int _ => cases h
  | bool b => cases h
  | none => cases h
  | str _ => cases h
  | list _ => cases h
  | dict _ => cases h
theorem tieB_not {m : Int} {d : PyData} (h : tupD 2 2 d = false) : tieB m d = false := by
  unfold tieB
  split
  · rename_i p q
    exact absurd h (by show ¬ (true = false); decide)
  · rfl
theorem ok_tie {k : Nat} (F : Fun K "is_tie" "is_tie" sTie f fd) (cT : Cal P w K mg base "is_tuple" k ["thing", "least", "most"] (spTuple K)) (cH : Cal P w K mg base "has_box" k ["graph", "b"] (spHasBox K)) :
    FnOk P w K mg base CX0 (k + 1) f fd ["thing", "graph"] (spTie K) := by
  refine F.ok scTie (fun vs H Q E h => ?_) (fun cdv A outer s H vs Q E hr h => ?_)
  · obtain ⟨x, d, a, xs, rfl, _⟩ := h
    rfl
  obtain ⟨x, d, a, xs, rfl, hx, hsh, hs, q⟩ := h
  refine ⟨_, pss_one (ps_ret (pe_and (pe_cal cT hr rfl (pa_cons (pv 0) (pa_cons pe_int (pa_cons pe_int pa_nil))))
    (pe_and (pe_cmpR (op_eqT hr.units) (pe_ix ix_tup (pv 0) pe_int (fun _ _ => rfl)) pe_str (nomark _))
      (pe_one (pe_cal cH hr rfl (pa_cons (pv 1) (pa_cons (pe_ix ix_tup (pv 0) pe_int (fun _ _ => rfl)) pa_nil))))))), ?_⟩
  refine ⟨_, rfl, x, d, 2, 2, rfl, hx, _, rfl, ?_⟩
  cases h2 : tupD 2 2 d with
  | false =>
    rw [tieB_not h2] at q
    exact ifF rfl q
  | true =>
    obtain ⟨p, r, rfl⟩ := tup2 h2
    cases hx with
    | tup ht ha =>
      cases ha with
      | cons hp ha =>
        cases ha with
        | cons hq ha =>
          cases ha
          refine ifT rfl ⟨_, rfl, _, _, _, _, rfl, rfl, ht, rfl, p, .str "tie", hp, .str _, okL_mem hsh List.mem_cons_self, okR_tie, _, rfl, ?_⟩
          have e : tieB xs.length (.tuple [p, r]) = (PyData.eqv p (.str "tie") && withinD 0 ((xs.length : Int) - 1) r) := rfl
          rw [e] at q
          cases he : PyData.eqv p (.str "tie") with
          | false =>
            rw [he] at q
            exact ifF rfl q
          | true =>
            rw [he] at q
            exact ifT rfl ⟨_, rfl, _, rfl, _, _, _, _, rfl, rfl, ht, rfl, a, xs, _, r, rfl, hs, hq, q⟩
/-! place_size, graph_size -/
def spPsz (K : PySem.W.Frag) (n : Nat) : Sp := fun vs H Q _ => ∃ (x : V) (d : PyData) (a : Addr) (xs : List V), vs = [x, .ref a, .int n] ∧ Dp K H x d ∧ OkL d ∧ SqT K H a xs ∧ Q (optV (placeN (gsz n) xs.length d)) H
def spGsz (K : PySem.W.Frag) (n : Nat) : Sp := fun vs H Q _ => ∃ (x : V) (d : PyData), vs = [x, .int n] ∧ Dp K H x d ∧ OkL d ∧ Q (optV (gsz n d)) H
theorem scPsz : FnScope ["thing", "graph", "deep"] ["thing", "graph", "deep"] (defScope sPsz) := ⟨rfl, rfl, rfl, by decide +kernel, rfl, by decide +kernel, by decide +kernel⟩
theorem ok_psz {k n : Nat} (F : Fun K "place_size" "place_size" sPsz f fd) (cN : Cal P w K mg base "is_number" k ["thing"] (spNumber K)) (cT : Cal P w K mg base "is_tie" k ["thing", "graph"] (spTie K))
    (cG : Cal P w K mg base "graph_size" k ["thing", "deep"] (spGsz K n)) : FnOk P w K mg base CX0 (k + 1) f fd ["thing", "graph", "deep"] (spPsz K n) := by
  refine F.ok scPsz (fun vs H Q E h => ?_) (fun cdv A outer s H vs Q E hr h => ?_)
  · obtain ⟨x, d, a, xs, rfl, _⟩ := h
    rfl
  obtain ⟨x, d, a, xs, rfl, hx, hsh, hs, q⟩ := h
  refine ⟨_, pss_cons (ps_if (PW.pt (pw_or (pt_val (pe_cal cN hr rfl (pa_cons (pv 0) pa_nil))) (pw_or1 (pt_val (pe_cal cT hr rfl (pa_cons (pv 0) (pa_cons (pv 1) pa_nil))))))) (pss_one (ps_ret pe_int)) pss_nil)
    (pss_one (ps_ret (pe_cal cG hr rfl (pa_cons (pv 0) (pa_cons (pv 2) pa_nil))))), ?_⟩
  refine ⟨_, rfl, x, d, rfl, hx, _, rfl, ?_⟩
  unfold placeN at q
  cases h1 : numD d with
  | true =>
    rw [if_pos h1] at q
    exact ifT rfl (ifT rfl q)
  | false =>
    rw [if_neg (by rw [h1]; decide)] at q
    refine ifF rfl ⟨_, rfl, _, rfl, x, d, a, xs, rfl, hx, hsh, hs, _, rfl, ?_⟩
    cases h2 : tieB xs.length d with
    | true =>
      rw [if_pos h2] at q
      exact ifT rfl q
    | false =>
      rw [if_neg (by rw [h2]; decide)] at q
      exact ifF rfl ⟨_, rfl, _, rfl, x, d, rfl, hx, hsh, q⟩
end
section
variable {P : Program} {w : World} {K : PySem.W.Frag} {mg : Str → Option Value} {base : Heap} {f : Addr} {fd : FuncData}
theorem scGsz : FnScope ["thing", "deep", "total", "box", "place", "within"] ["thing", "deep"] (defScope sGsz) := ⟨rfl, rfl, rfl, by decide +kernel, rfl, by decide +kernel, by decide +kernel⟩
theorem len3 {ps : List PyData} : tupD 3 3 (.tuple ps) = decide (ps.length = 3) := by
  show (decide ((3 : Int) ≤ (ps.length : Int)) && decide ((ps.length : Int) ≤ 3)) = _
  by_cases h : ps.length = 3
  · rw [decide_eq_true h, decide_eq_true (by omega), decide_eq_true (by omega)]; rfl
  · rw [decide_eq_false h]
    by_cases h2 : (3 : Int) ≤ (ps.length : Int)
    · rw [decide_eq_false (p := (ps.length : Int) ≤ 3) (by omega), Bool.and_false]
    · rw [decide_eq_false h2, Bool.false_and]
theorem gsz_not {n : Nat} {d : PyData} (h : tupD 1 8 d = false) : gsz n d = none := by
  cases n with
  | zero => rfl
  | succ n =>
    cases d with
    | tuple bs =>
      show gszT (gsz n) bs = none
      unfold gszT
      rw [if_neg]
      intro ⟨h1, h2⟩
      have : tupD 1 8 (.tuple bs) = true := by
        show (decide ((1 : Int) ≤ (bs.length : Int)) && decide ((bs.length : Int) ≤ 8)) = true
        rw [decide_eq_true (by omega), decide_eq_true (by omega)]; rfl
      rw [this] at h
      cases h
    | int _ => rfl
    | bool b => rfl
    | none => rfl
    | str _ => rfl
    | list _ => rfl
    | dict _ => rfl
theorem tup18 {d : PyData} (h : tupD 1 8 d = true) : ∃ bs, d = .tuple bs ∧ 1 ≤ bs.length ∧ bs.length ≤ 8 := by
  cases d with
  | tuple bs =>
    have : (1 : Int) ≤ (bs.length : Int) ∧ (bs.length : Int) ≤ 8 := by simpa [tupD] using h
    exact ⟨bs, rfl, by omega, by omega⟩
  | int _ => cases h
  | bool b => cases h
  | none => cases h
  | str _ => cases h
  | list _ => cases h
  | dict _ => cases h
theorem ok_gsz {k n : Nat} (F : Fun K "graph_size" "graph_size" sGsz f fd) (T : Free mg) (C : Cst mg) (cT : Cal P w K mg base "is_tuple" k ["thing", "least", "most"] (spTuple K))
    (cP : n ≠ 0 → Cal P w K mg base "place_size" k ["thing", "graph", "deep"] (spPsz K (n - 1))) : FnOk P w K mg base CX0 (k + 1) f fd ["thing", "deep"] (spGsz K n) := by
  by_cases hn : n = 0
  · subst hn
    refine F.ok scGsz (fun vs H Q E h => ?_) (fun cdv A outer s H vs Q E hr h => ?_)
    · obtain ⟨x, d, rfl, _⟩ := h
      rfl
    obtain ⟨x, d, rfl, hx, hsh, q⟩ := h
    refine ⟨_, pss_cons (ps_if (PW.pt (pw_or (pt_cmpR op_eq (pv 1) pe_int (nomark _)) (pw_or1 (pt_not (pt_val (pe_cal cT hr rfl (pa_cons (pv 0) (pa_cons pe_int (pa_cons (pe_globI rfl C.mostBoxes) pa_nil))))))))) (pss_one (ps_ret pe_non)) pss_nil) pss_never, ?_⟩
    exact ⟨_, rfl, rfl, _, rfl, ifT (decide_eq_true rfl) (ifT rfl q)⟩
  · obtain ⟨n, rfl⟩ : ∃ m, n = m + 1 := ⟨n - 1, by omega⟩
    have cP : Cal P w K mg base "place_size" k ["thing", "graph", "deep"] (spPsz K n) := cP hn
    refine F.ok scGsz (fun vs H Q E h => ?_) (fun cdv A outer s H vs Q E hr h => ?_)
    · obtain ⟨x, d, rfl, _⟩ := h
      rfl
    obtain ⟨x, d, rfl, hx, hsh, q⟩ := h
    refine ⟨_, pss_cons (ps_if (PW.pt (pw_or (pt_cmpR op_eq (pv 1) pe_int (nomark _)) (pw_or1 (pt_not (pt_val (pe_cal cT hr rfl (pa_cons (pv 0) (pa_cons pe_int (pa_cons (pe_globI rfl C.mostBoxes) pa_nil))))))))) (pss_one (ps_ret pe_non)) pss_nil)
      (pss_cons (ps_set (i := 2) scGsz.nd rfl (.inl rfl) (pe_callB call_len_seq rfl T.len PySem.boot_len (pa_cons (pv 0) pa_nil)))
      (pss_cons (ps_for PassesOwn.never rfl (pi_tup (pv 0)) (pg_name (i := 3) scGsz.nd rfl (.inl rfl))
        (pss_cons (ps_if (pt_not (pt_val (pe_cal cT hr rfl (pa_cons (pv 3) (pa_cons (pe_globI rfl C.places) (pa_cons (pe_globI rfl C.places) pa_nil)))))) (pss_one (ps_ret pe_non)) pss_nil)
        (pss_one (ps_for PassesOwn.never rfl (pi_tup (pv 3)) (pg_name (i := 4) scGsz.nd rfl (.inl rfl))
          (pss_cons (ps_set (i := 5) scGsz.nd rfl (.inl rfl) (pe_cal cP hr rfl (pa_cons (pv 4) (pa_cons (pv 0) (pa_cons (pe_op op_sub (pv 1) pe_int) pa_nil)))))
          (pss_cons (ps_if (pt_cmpR op_isN (pv 5) pe_non (nomark _)) (pss_one (ps_ret pe_non)) pss_nil)
          (pss_one (ps_aug (i := 2) scGsz.nd rfl (.inl rfl) (pv 5) ip_add))))))))
      (pss_one (ps_ret (pe_ifExp (pt_cmpR op_le (pv 2) (pe_globI rfl C.mostInAll) (nomark _)) (pv 2) pe_non))))), ?_⟩
    refine ⟨_, rfl, rfl, _, rfl, ifF (decide_eq_false (by intro z; injection z with z; omega)) ⟨_, rfl, x, d, 1, 8, rfl, hx, _, rfl, ?_⟩⟩
    cases h18 : tupD 1 8 d with
    | false =>
      rw [gsz_not h18] at q
      exact ifT rfl q
    | true =>
      obtain ⟨bs, rfl, l1, l8⟩ := tup18 h18
      refine ifF rfl ?_
      cases hx with
      | @tup a xs _ ht ha =>
        have lx := dpAll_len ha
        refine ⟨_, rfl, a, xs, rfl, .inr ht, ?_⟩
        refine ⟨_, rfl, a, rfl, ⟨xs, ht⟩, ?_⟩
        have eg : gsz (n + 1) (.tuple bs) = fitN bs.length (sumO (boxN (placeN (gsz n) bs.length)) bs) := by
          show gszT (gsz n) bs = _
          unfold gszT
          rw [if_pos ⟨l1, l8⟩]
        rw [eg] at q
        refine for_tup (xs := xs) (fun i σ H' => ∃ (sm : Nat) (o3 o4 o5 : Option V), sumO (boxN (placeN (gsz n) bs.length)) (bs.take i) = some sm ∧ σ = [some (.ref a), some (.int ((n + 1 : Nat) : Int)), some (.int ((bs.length : Int) + (sm : Int))), o3, o4, o5] ∧ H' = H)
          ⟨0, none, none, none, rfl, by rw [lx]; show _ = [_, _, some (V.int ((bs.length : Int) + 0)), _, _, _]; rw [Int.add_zero]; rfl, rfl⟩ (fun i σ H' _ h => by obtain ⟨_, _, _, _, _, _, rfl⟩ := h; exact ht) (fun i x σ H' hxi h => ?_) (fun σ H' h => ?_)
        · obtain ⟨sm, o3, o4, o5, hsm, rfl, rfl⟩ := h
          obtain ⟨b, hb, hdb⟩ := dpAll_get' ha hxi
          have hbm : b ∈ bs := List.mem_of_getElem? hb
          have none_out : boxN (placeN (gsz n) bs.length) b = none → Q .non H' := fun e => by
            rw [sumO_none hbm e] at q
            exact q
          refine ⟨_, rfl, x, b, 3, 3, rfl, hdb, _, rfl, ?_⟩
          cases h3 : tupD 3 3 b with
          | false =>
            refine ifT rfl (none_out ?_)
            unfold boxN
            split
            · rename_i ps
              rw [len3] at h3
              rw [if_neg (of_decide_eq_false h3)]
            · rfl
          | true =>
            refine ifF rfl ?_
            cases b with
            | tuple ps =>
              rw [len3] at h3
              have l3 : ps.length = 3 := of_decide_eq_true h3
              have hshb := okL_mem hsh hbm
              cases hdb with
              | @tup ab ys _ htb hab =>
                refine ⟨_, rfl, ab, rfl, ⟨ys, htb⟩, ?_⟩
                refine for_tup (xs := ys) (fun j σ H'' => ∃ (s2 : Nat) (o4 o5 : Option V), sumO (placeN (gsz n) bs.length) (ps.take j) = some s2 ∧ σ = [some (.ref a), some (.int ((n + 1 : Nat) : Int)), some (.int ((bs.length : Int) + (sm : Int) + (s2 : Int))), some (.ref ab), o4, o5] ∧ H'' = H')
                  ⟨0, o4, o5, rfl, by show _ = [_, _, some (V.int ((bs.length : Int) + (sm : Int) + 0)), _, _, _]; rw [Int.add_zero]; rfl, rfl⟩ (fun j σ H'' _ h => by obtain ⟨_, _, _, _, _, rfl⟩ := h; exact htb) (fun j y σ H'' hyj h => ?_) (fun σ H'' h => ?_)
                · obtain ⟨s2, o4', o5', hs2, rfl, rfl⟩ := h
                  obtain ⟨p, hp, hdp⟩ := dpAll_get' hab hyj
                  have hpm : p ∈ ps := List.mem_of_getElem? hp
                  have eN : ((n + 1 : Nat) : Int) - 1 = (n : Int) := by omega
                  refine ⟨_, rfl, _, rfl, _, rfl, _, _, rfl, rfl, y, p, a, xs, congrArg (fun z => [y, V.ref a, V.int z]) eN, hdp, okL_mem hshb hpm, ht, ?_⟩
                  rw [lx]
                  cases hpn : placeN (gsz n) bs.length p with
                  | none =>
                    refine ⟨_, rfl, rfl, _, rfl, ifT (decide_eq_true rfl) (none_out ?_)⟩
                    show (if ps.length = 3 then sumO (placeN (gsz n) bs.length) ps else none) = none
                    rw [if_pos l3]
                    exact sumO_none hpm hpn
                  | some v =>
                    refine ⟨_, rfl, rfl, _, rfl, ifF (decide_eq_false (fun z => by cases z)) ?_⟩
                    refine ⟨_, rfl, _, rfl, _, _, rfl, rfl, s2 + v, some y, some (.int v), ?_, ?_, rfl⟩
                    · rw [take_more hp]
                      exact sumO_snoc hs2 hpn
                    · show [_, _, some (V.int ((bs.length : Int) + (sm : Int) + (s2 : Int) + (v : Int))), _, _, _] = [_, _, some (V.int ((bs.length : Int) + (sm : Int) + ((s2 + v : Nat) : Int))), _, _, _]
                      rw [show ((s2 + v : Nat) : Int) = (s2 : Int) + (v : Int) by omega, ← Int.add_assoc]
                      rfl
                · obtain ⟨s2, o4', o5', hs2, rfl, rfl⟩ := h
                  have ly := dpAll_len hab
                  rw [ly, List.take_length] at hs2
                  refine ⟨sm + s2, some (.ref ab), o4', o5', ?_, ?_, rfl⟩
                  · rw [take_more hb]
                    refine sumO_snoc hsm ?_
                    show (if ps.length = 3 then sumO (placeN (gsz n) bs.length) ps else none) = some s2
                    rw [if_pos l3]
                    exact hs2
                  · rw [show ((sm + s2 : Nat) : Int) = (sm : Int) + (s2 : Int) by omega, ← Int.add_assoc]
            | int _ => cases h3
            | bool b => cases h3
            | none => cases h3
            | str _ => cases h3
            | list _ => cases h3
            | dict _ => cases h3
        · obtain ⟨sm, o3, o4, o5, hsm, rfl, rfl⟩ := h
          rw [lx, List.take_length] at hsm
          rw [hsm] at q
          refine ⟨_, rfl, _, _, rfl, rfl, _, rfl, ?_⟩
          by_cases c : bs.length + sm ≤ 24
          · have q : Q (optV (if bs.length + sm ≤ 24 then some (bs.length + sm) else none)) H' := q
            rw [if_pos c] at q
            refine ifT (decide_eq_true (by omega)) ⟨_, rfl, ?_⟩
            have q : Q (.int ((bs.length + sm : Nat) : Int)) H' := q
            rw [show ((bs.length + sm : Nat) : Int) = (bs.length : Int) + (sm : Int) by omega] at q
            exact q
          · have q : Q (optV (if bs.length + sm ≤ 24 then some (bs.length + sm) else none)) H' := q
            rw [if_neg c] at q
            exact ifF (decide_eq_false (by omega)) q
end
/-! places of a good graph -/
inductive PlaceOk (n m : Nat) : PyData → Prop where
  | num {i : Int} (h1 : -9999 ≤ i) (h2 : i ≤ 9999) : PlaceOk n m (.int i)
  | tie {j : Int} (h1 : 0 ≤ j) (h2 : j < m) : PlaceOk n m (.tuple [.str "tie", .int j])
  | graph {ps r : List PyData} {k : Nat} (h : gsz n (.tuple (.tuple ps :: r)) = some k) : PlaceOk n m (.tuple (.tuple ps :: r))
theorem eqv_str {p : PyData} {x : Str} (h : PyData.eqv p (.str x) = true) : p = .str x := by
  cases p with
  | str y =>
    simp only [PyData.eqv] at h
    rw [eq_of_beq h]
  | int _ => simp [PyData.eqv] at h
  | bool _ => simp [PyData.eqv] at h
  | none => simp [PyData.eqv] at h
  | list _ => simp [PyData.eqv] at h
  | tuple _ => simp [PyData.eqv] at h
  | dict _ => simp [PyData.eqv] at h
theorem gsz_some {n : Nat} {d : PyData} {k : Nat} (h : gsz n d = some k) : ∃ m bs s, n = m + 1 ∧ d = .tuple bs ∧ 1 ≤ bs.length ∧ bs.length ≤ 8 ∧ sumO (boxN (placeN (gsz m) bs.length)) bs = some s ∧ k = bs.length + s ∧ k ≤ 24 := by
  cases n with
  | zero => cases h
  | succ m =>
    cases d with
    | tuple bs =>
      have h : gszT (gsz m) bs = some k := h
      unfold gszT at h
      by_cases hl : 1 ≤ bs.length ∧ bs.length ≤ 8
      · rw [if_pos hl] at h
        cases hs : sumO (boxN (placeN (gsz m) bs.length)) bs with
        | none => rw [hs] at h; cases h
        | some s =>
          rw [hs] at h
          have h : (if bs.length + s ≤ 24 then some (bs.length + s) else none) = some k := h
          by_cases c : bs.length + s ≤ 24
          · rw [if_pos c] at h
            cases h
            exact ⟨m, bs, s, rfl, rfl, hl.1, hl.2, hs, rfl, c⟩
          · rw [if_neg c] at h
            cases h
      · rw [if_neg hl] at h
        cases h
    | int _ => cases h
    | bool _ => cases h
    | none => cases h
    | str _ => cases h
    | list _ => cases h
    | dict _ => cases h
theorem boxN_some {f : PyData → Option Nat} {b : PyData} {k : Nat} (h : boxN f b = some k) : ∃ p q r, b = .tuple [p, q, r] ∧ sumO f [p, q, r] = some k := by
  cases b with
  | tuple ps =>
    have h : (if ps.length = 3 then sumO f ps else none) = some k := h
    by_cases l : ps.length = 3
    · rw [if_pos l] at h
      match ps, l, h with
      | [p, q, r], _, h => exact ⟨p, q, r, rfl, h⟩
    · rw [if_neg l] at h
      cases h
  | int _ => cases h
  | bool _ => cases h
  | none => cases h
  | str _ => cases h
  | list _ => cases h
  | dict _ => cases h
theorem placeN_some {n m : Nat} {p : PyData} {k : Nat} (h : placeN (gsz n) m p = some k) : PlaceOk n m p := by
  unfold placeN at h
  by_cases h1 : numD p = true
  · cases p with
    | int i =>
      have : -9999 ≤ i ∧ i ≤ 9999 := by simpa [numD, withinD] using h1
      exact .num this.1 this.2
    | tuple _ => cases h1
    | bool _ => cases h1
    | none => cases h1
    | str _ => cases h1
    | list _ => cases h1
    | dict _ => cases h1
  · rw [if_neg h1] at h
    by_cases h2 : tieB m p = true
    · unfold tieB at h2
      split at h2
      · rename_i p q
        rw [Bool.and_eq_true] at h2
        obtain ⟨e, wi⟩ := h2
        rw [eqv_str e]
        cases q with
        | int j =>
          have : 0 ≤ j ∧ j ≤ (m : Int) - 1 := by simpa [withinD] using wi
          exact .tie this.1 (by omega)
        | tuple _ => cases wi
        | bool _ => cases wi
        | none => cases wi
        | str _ => cases wi
        | list _ => cases wi
        | dict _ => cases wi
      · cases h2
    · rw [if_neg h2] at h
      obtain ⟨m', bs, s, rfl, rfl, l1, l8, hs, rfl, h24⟩ := gsz_some h
      cases bs with
      | nil => simp at l1
      | cons b r =>
        obtain ⟨a, ha⟩ := sumO_mem hs List.mem_cons_self
        obtain ⟨p, q, t, rfl, _⟩ := boxN_some ha
        exact .graph h
/-- a good graph's boxes -/
theorem box_of {n : Nat} {bs : List PyData} {k i : Nat} {b : PyData} (h : gsz (n + 1) (.tuple bs) = some k) (hb : bs[i]? = some b) : ∃ p q r, b = .tuple [p, q, r] ∧ PlaceOk n bs.length p ∧ PlaceOk n bs.length q ∧ PlaceOk n bs.length r := by
  obtain ⟨m, bs', s, e, e2, l1, l8, hs, _⟩ := gsz_some h
  cases e
  cases e2
  obtain ⟨a, ha⟩ := sumO_mem hs (List.mem_of_getElem? hb)
  obtain ⟨p, q, r, rfl, hp⟩ := boxN_some ha
  obtain ⟨_, h1⟩ := sumO_mem hp (x := p) (by simp)
  obtain ⟨_, h2⟩ := sumO_mem hp (x := q) (by simp)
  obtain ⟨_, h3⟩ := sumO_mem hp (x := r) (by simp)
  exact ⟨p, q, r, rfl, placeN_some h1, placeN_some h2, placeN_some h3⟩
def sortD : PyData → Int
  | .tuple (p :: _) => if PyData.eqv p (.str "tie") = true then 1 else 2
  | _ => 0
def placeAt (b k : Int) : PyData → Option PyData
  | .tuple bs => if 0 ≤ b ∧ b < bs.length then (match bs[b.toNat]? with
    | some (.tuple ps) => ps[k.toNat]?
    | _ => none) else none
  | _ => none
def sortAt (b k : Int) (d : PyData) : Int := match placeAt b k d with
  | some p => sortD p
  | none => 3
def numIn : PyData → Int
  | .int i => i
  | .tuple [.str _, .int j] => j
  | _ => 0
def numberAt (b k : Int) (d : PyData) : Int := match placeAt b k d with
  | some p => numIn p
  | none => 0
def bareD : PyData := .tuple [.tuple [.int 0, .int 0, .int 0]]
def graphAt (b k : Int) (d : PyData) : PyData := match placeAt b k d with
  | some p => if sortD p = 2 then p else bareD
  | none => bareD
theorem eqv_tup_str (xs : List PyData) (x : Str) : PyData.eqv (.tuple xs) (.str x) = false := by simp [PyData.eqv]
theorem eqv_str_str (x : Str) : PyData.eqv (.str x) (.str x) = true := by simp [PyData.eqv]
/-- graph[b][k], where there is such a box -/
theorem place_there {n : Nat} {bs : List PyData} {c : Nat} {b k : Int} (h : gsz (n + 1) (.tuple bs) = some c) (hb : 0 ≤ b ∧ b < bs.length) (hk : 0 ≤ k ∧ k ≤ 2) :
    ∃ ps p, bs[b.toNat]? = some (.tuple ps) ∧ ps[k.toNat]? = some p ∧ PlaceOk n bs.length p ∧ placeAt b k (.tuple bs) = some p := by
  have hl : b.toNat < bs.length := by omega
  have e := List.getElem?_eq_getElem hl
  obtain ⟨p, q, r, eb, h1, h2, h3⟩ := box_of h e
  rw [eb] at e
  have ep : ∀ x, [p, q, r][k.toNat]? = some x → placeAt b k (.tuple bs) = some x := fun x hx => by
    show (if 0 ≤ b ∧ b < bs.length then _ else none) = some x
    rw [if_pos hb, e]
    exact hx
  have hk3 : k.toNat = 0 ∨ k.toNat = 1 ∨ k.toNat = 2 := by omega
  rcases hk3 with z | z | z
  · exact ⟨_, p, e, by rw [z]; rfl, h1, ep _ (by rw [z]; rfl)⟩
  · exact ⟨_, q, e, by rw [z]; rfl, h2, ep _ (by rw [z]; rfl)⟩
  · exact ⟨_, r, e, by rw [z]; rfl, h3, ep _ (by rw [z]; rfl)⟩
theorem place_none {bs : List PyData} {b k : Int} (hb : ¬ (0 ≤ b ∧ b < bs.length)) : placeAt b k (.tuple bs) = none := by
  show (if 0 ≤ b ∧ b < bs.length then _ else none) = none
  rw [if_neg hb]
theorem atI_at {α : Type} {xs : List α} {i : Int} {v : α} (h0 : 0 ≤ i) (h : xs[i.toNat]? = some v) : atI xs i = some v := by
  have q := atI_nat h
  rw [show ((i.toNat : Nat) : Int) = i by omega] at q
  exact q
section
variable {P : Program} {w : World} {K : PySem.W.Frag} {mg : Str → Option Value} {base : Heap} {f : Addr} {fd : FuncData}
/-- graph[b][k] in the heap -/
theorem dp_place {H : Hp} {xs : List V} {bs ps : List PyData} {p : PyData} {b k : Int} (ha : DpAll K H xs bs) (hb : 0 ≤ b) (hk : 0 ≤ k) (e1 : bs[b.toNat]? = some (.tuple ps)) (e2 : ps[k.toNat]? = some p) :
    ∃ ab ys y, atI xs b = some (.ref ab) ∧ SqT K H ab ys ∧ atI ys k = some y ∧ Dp K H y p := by
  obtain ⟨x, hx, hd⟩ := dpAll_get ha e1
  cases hd with
  | @tup ab ys _ ht hy =>
    obtain ⟨y, hy1, hy2⟩ := dpAll_get hy e2
    exact ⟨ab, ys, y, atI_at hb hx, ht, atI_at hk hy1, hy2⟩
def spIsGraph (K : PySem.W.Frag) : Sp := fun vs H Q _ => ∃ (x : V) (d : PyData), vs = [x] ∧ Dp K H x d ∧ OkL d ∧ Q (.bl (gsz 4 d).isSome) H
theorem scIsGraph : FnScope ["thing"] ["thing"] (defScope sIsGraph) := ⟨rfl, rfl, rfl, by decide +kernel, rfl, by decide +kernel, by decide +kernel⟩
theorem ok_isGraph {k : Nat} (F : Fun K "is_graph" "is_graph" sIsGraph f fd) (C : Cst mg) (cG : Cal P w K mg base "graph_size" k ["thing", "deep"] (spGsz K 4)) : FnOk P w K mg base CX0 (k + 1) f fd ["thing"] (spIsGraph K) := by
  refine F.ok scIsGraph (fun vs H Q E h => ?_) (fun cdv A outer s H vs Q E hr h => ?_)
  · obtain ⟨x, d, rfl, _⟩ := h
    rfl
  obtain ⟨x, d, rfl, hx, hsh, q⟩ := h
  refine ⟨_, pss_one (ps_ret (pe_cmpR op_notN (pe_cal cG hr rfl (pa_cons (pv 0) (pa_cons (pe_globI rfl C.mostDeep) pa_nil))) pe_non (nomark _))), ?_⟩
  refine ⟨_, rfl, x, d, rfl, hx, hsh, rfl, ?_⟩
  cases e : gsz 4 d with
  | none =>
    rw [e] at q
    exact q
  | some c =>
    rw [e] at q
    exact q
def spCheckG (K : PySem.W.Frag) : Sp := fun vs H Q _ => ∃ (x : V) (d : PyData) (c : Nat), vs = [x] ∧ Dp K H x d ∧ OkL d ∧ gsz 4 d = some c ∧ Q .non H
theorem scCheckG : FnScope ["graph"] ["graph"] (defScope sCheckG) := ⟨rfl, rfl, rfl, by decide +kernel, rfl, by decide +kernel, by decide +kernel⟩
theorem ok_checkG {k : Nat} (F : Fun K "check_graph" "check_graph" sCheckG f fd) (cG : Cal P w K mg base "is_graph" k ["thing"] (spIsGraph K)) : FnOk P w K mg base CX0 (k + 1) f fd ["graph"] (spCheckG K) := by
  refine F.ok scCheckG (fun vs H Q E h => ?_) (fun cdv A outer s H vs Q E hr h => ?_)
  · obtain ⟨x, d, c, rfl, _⟩ := h
    rfl
  obtain ⟨x, d, c, rfl, hx, hsh, hg, q⟩ := h
  refine ⟨_, pss_one (ps_if (pt_not (pt_val (pe_cal cG hr rfl (pa_cons (pv 0) pa_nil)))) pss_never pss_nil), ?_⟩
  exact ⟨_, rfl, x, d, rfl, hx, hsh, _, rfl, by rw [hg]; exact ifF rfl q⟩
def spCheckP : Sp := fun vs H Q _ => ∃ (k : Int), vs = [.int k] ∧ 0 ≤ k ∧ k ≤ 2 ∧ Q .non H
theorem scCheckP : FnScope ["k"] ["k"] (defScope sCheckP) := ⟨rfl, rfl, rfl, by decide +kernel, rfl, by decide +kernel, by decide +kernel⟩
theorem ok_checkP {k : Nat} (F : Fun K "check_place" "check_place" sCheckP f fd) (cP : Cal P w K mg base "is_place" k ["thing"] spPlace) : FnOk P w K mg base CX0 (k + 1) f fd ["k"] spCheckP := by
  refine F.ok scCheckP (fun vs H Q E h => ?_) (fun cdv A outer s H vs Q E hr h => ?_)
  · obtain ⟨i, rfl, _⟩ := h
    rfl
  obtain ⟨i, rfl, h0, h2, q⟩ := h
  refine ⟨_, pss_one (ps_if (pt_not (pt_val (pe_cal cP hr rfl (pa_cons (pv 0) pa_nil)))) pss_never pss_nil), ?_⟩
  exact ⟨_, rfl, i, rfl, _, rfl, by rw [decide_eq_true h0, decide_eq_true h2]; exact ifF rfl q⟩
end
/-! heaps: what stands, but for the state's list -/
def StOk (x y z : Int) : Prop := 0 ≤ x ∧ 0 ≤ y ∧ y < 4294967296
def StAt (H : Hp) (st : Addr) : Prop := ∃ x y z, H st = some (.lst [.int x, .int y, .int z]) ∧ StOk x y z
def Kp (st : Addr) (H H' : Hp) : Prop := ∀ b u, b ≠ st → H b = some u → H' b = some u
structure Mv (st : Addr) (H H' : Hp) : Prop where
  kp : Kp st H H'
  sa : StAt H' st
/-- what is no list stands -/
def KT (H H' : Hp) : Prop := ∀ b u, H b = some u → (∀ l, u ≠ .lst l) → H' b = some u
theorem Kp.refl (st : Addr) (H : Hp) : Kp st H H := fun _ _ _ h => h
theorem Kp.trans {st : Addr} {H H1 H2 : Hp} (a : Kp st H H1) (b : Kp st H1 H2) : Kp st H H2 := fun c u n h => b c u n (a c u n h)
theorem Kp.of_same {st : Addr} {H H' : Hp} (a : Same H H') : Kp st H H' := fun c u _ h => a c u h
theorem KT.refl (H : Hp) : KT H H := fun _ _ h _ => h
theorem KT.trans {H H1 H2 : Hp} (a : KT H H1) (b : KT H1 H2) : KT H H2 := fun c u h n => b c u (a c u h n) n
theorem KT.of_same {H H' : Hp} (a : Same H H') : KT H H' := fun c u h _ => a c u h
theorem Kp.kt {st : Addr} {H H' : Hp} (k : Kp st H H') (s : StAt H st) : KT H H' := fun b u h n => k b u (fun e => by
  obtain ⟨x, y, z, hs, _⟩ := s
  rw [e, hs] at h
  cases h
  exact n _ rfl) h
theorem KT.upd {H : Hp} {p : Addr} {l l' : List V} (h : H p = some (.lst l)) : KT H (upd H p (.lst l')) := fun b u hb n => by
  by_cases e : b = p
  · subst e
    rw [h] at hb
    cases hb
    exact absurd rfl (n l)
  · rw [upd_ne e]
    exact hb
theorem same_new {H : Hp} {p : Addr} (h : H p = none) (o : HO) : Same H (upd H p o) := fun b u q => by rw [upd_ne (ne_of_none q h)]; exact q
theorem Kp.upd {st : Addr} {H0 H : Hp} {p : Addr} {o : HO} (k : Kp st H0 H) (h : H0 p = none) : Kp st H0 (upd H p o) := fun b u n hb => by
  rw [upd_ne (ne_of_none hb h)]
  exact k b u n hb
theorem Kp.free {st : Addr} {H H' : Hp} (k : Kp st H H') {p : Addr} (n : p ≠ st) (h : H' p = none) : H p = none := by
  cases e : H p with
  | none => rfl
  | some u =>
    rw [k p u n e] at h
    cases h
theorem StAt.some {H : Hp} {st : Addr} (s : StAt H st) : ∃ l, H st = some (.lst l) := by
  obtain ⟨x, y, z, h, _⟩ := s
  exact ⟨_, h⟩
theorem StAt.ne {H : Hp} {st p : Addr} (s : StAt H st) (h : H p = none) : p ≠ st := fun e => by
  obtain ⟨l, hs⟩ := s.some
  rw [e, hs] at h
  cases h
theorem StAt.same {H H' : Hp} {st : Addr} (s : StAt H st) (k : Same H H') : StAt H' st := by
  obtain ⟨x, y, z, h, ok⟩ := s
  exact ⟨x, y, z, k _ _ h, ok⟩
theorem StAt.upd {H : Hp} {st p : Addr} {o : HO} (s : StAt H st) (n : p ≠ st) : StAt (upd H p o) st := by
  obtain ⟨x, y, z, h, ok⟩ := s
  exact ⟨x, y, z, by rw [upd_ne n.symm]; exact h, ok⟩
/-! data that is tuples, ints and texts alone -/
mutual
def tupOnly : PyData → Bool
  | .int _ | .str _ => true
  | .tuple xs => tupOnlyAll xs
  | _ => false
def tupOnlyAll : List PyData → Bool
  | [] => true
  | x :: r => tupOnly x && tupOnlyAll r
end
theorem sqT_kt {K : PySem.W.Frag} {H H' : Hp} {a : Addr} {xs : List V} (k : KT H H') (h : SqT K H a xs) : SqT K H' a xs := by
  rcases h with (h | ⟨o, h⟩) | h
  · exact .inl (.inl (k _ _ h (fun l z => by cases z)))
  · exact .inl (.inr ⟨o, k _ _ h (fun l z => by cases z)⟩)
  · exact .inr h
mutual
theorem dp_kt {K : PySem.W.Frag} {H H' : Hp} (k : KT H H') : ∀ (d : PyData) (v : V), tupOnly d = true → Dp K H v d → Dp K H' v d
  | .int i, v, _, h => by cases h; exact .int i
  | .str x, v, _, h => by cases h; exact .str x
  | .tuple ds, v, t, h => by
    cases h with
    | tup hs ha => exact .tup (sqT_kt k hs) (dpAll_kt k ds _ (by simpa only [tupOnly] using t) ha)
  | .none, v, t, h => by simp [tupOnly] at t
  | .bool _, v, t, h => by simp [tupOnly] at t
  | .list _, v, t, h => by simp [tupOnly] at t
  | .dict _, v, t, h => by simp [tupOnly] at t
theorem dpAll_kt {K : PySem.W.Frag} {H H' : Hp} (k : KT H H') : ∀ (ds : List PyData) (vs : List V), tupOnlyAll ds = true → DpAll K H vs ds → DpAll K H' vs ds
  | [], vs, _, h => by cases h; exact .nil
  | d :: ds, vs, t, h => by
    simp only [tupOnlyAll, Bool.and_eq_true] at t
    cases h with
    | cons h1 h2 => exact .cons (dp_kt k d _ t.1 h1) (dpAll_kt k ds _ t.2 h2)
end
theorem dpAll_snoc {K : PySem.W.Frag} {H : Hp} {v : V} {d : PyData} (h : Dp K H v d) : ∀ {vs : List V} {ds : List PyData}, DpAll K H vs ds → DpAll K H (vs ++ [v]) (ds ++ [d])
  | _, _, .nil => .cons h .nil
  | _, _, .cons a t => .cons a (dpAll_snoc h t)
theorem dpAll_append {K : PySem.W.Frag} {H : Hp} {ws : List V} {es : List PyData} (h : DpAll K H ws es) : ∀ {vs : List V} {ds : List PyData}, DpAll K H vs ds → DpAll K H (vs ++ ws) (ds ++ es)
  | _, _, .nil => h
  | _, _, .cons a t => .cons a (dpAll_append h t)
theorem tupOnly_snoc : ∀ {ds : List PyData} {d : PyData}, tupOnlyAll ds = true → tupOnly d = true → tupOnlyAll (ds ++ [d]) = true
  | [], d, _, h => by simp [tupOnlyAll, h]
  | x :: r, d, t, h => by
    simp only [tupOnlyAll, Bool.and_eq_true, List.cons_append] at *
    exact ⟨t.1, tupOnly_snoc t.2 h⟩
theorem small {n : Nat} (h : n ≤ 1000) : n ≤ sizeLine := Nat.le_of_lt (small1000 h)
section
variable {P : Program} {w : World} {K : PySem.W.Frag} {mg : Str → Option Value} {base : Heap} {f : Addr} {fd : FuncData}
/-! _law_cell_at -/
def spCell (K : PySem.W.Frag) : Sp := fun vs H Q _ => ∃ (a : Addr) (ns : List Int) (i : Int), vs = [.ref a, .int i] ∧ SqL K H a (ns.map V.int) ∧ 0 ≤ i ∧ ∀ n : Int, Q (.int n) H
theorem scCell : FnScope ["_law_script", "_law_k"] ["_law_script", "_law_k"] (defScope sCell) := ⟨rfl, rfl, rfl, by decide +kernel, rfl, by decide +kernel, by decide +kernel⟩
theorem ok_cell {k : Nat} (F : Fun K "_law_cell_at" "_law_cell_at" sCell f fd) (T : Free mg) : FnOk P w K mg base CX0 (k + 1) f fd ["_law_script", "_law_k"] (spCell K) := by
  refine F.ok scCell (fun vs H Q E h => ?_) (fun cdv A outer s H vs Q E hr h => ?_)
  · obtain ⟨a, ns, i, rfl, _⟩ := h
    rfl
  obtain ⟨a, ns, i, rfl, hs, h0, q⟩ := h
  refine ⟨_, pss_cons (ps_if (pt_cmpR op_lt (pv 1) (pe_callB call_len_seq rfl T.len PySem.boot_len (pa_cons (pv 0) pa_nil)) (nomark _)) (pss_one (ps_ret (pe_ix ix_list (pv 0) (pv 1) (fun _ _ => rfl)))) pss_nil) (pss_one (ps_ret pe_int)), ?_⟩
  refine ⟨_, rfl, _, rfl, a, _, rfl, .inl hs, _, _, rfl, rfl, _, rfl, ?_⟩
  refine ite2 (fun c => ?_) (fun c => q 0)
  have c : i < (((ns.map V.int).length : Nat) : Int) := of_decide_eq_true c
  have hk : i.toNat < ns.length := by rw [List.length_map] at c; omega
  exact ⟨_, rfl, _, rfl, a, _, i, .int ns[i.toNat], rfl, rfl, hs, atI_at h0 (by rw [List.getElem?_map, List.getElem?_eq_getElem hk] <;> rfl), q _⟩
/-! _law_state -/
def spState (K : PySem.W.Frag) : Sp := fun vs H Q _ => ∃ (a : Addr) (ns : List Int) (i : Int), vs = [.ref a, .int i] ∧ SqL K H a (ns.map V.int) ∧ 0 ≤ i ∧ ∀ p x y z, H p = none → StOk x y z → Q (.ref p) (upd H p (.lst [.int x, .int y, .int z]))
theorem scState : FnScope ["_law_script", "_law_k", "_law_cell"] ["_law_script", "_law_k"] (defScope sState) := ⟨rfl, rfl, rfl, by decide +kernel, rfl, by decide +kernel, by decide +kernel⟩
theorem ok_state {k : Nat} (F : Fun K "_law_state" "_law_state" sState f fd) (T : Free mg) (cC : Cal P w K mg base "_law_cell_at" k ["_law_script", "_law_k"] (spCell K)) : FnOk P w K mg base CX0 (k + 1) f fd ["_law_script", "_law_k"] (spState K) := by
  refine F.ok scState (fun vs H Q E h => ?_) (fun cdv A outer s H vs Q E hr h => ?_)
  · obtain ⟨a, ns, i, rfl, _⟩ := h
    rfl
  obtain ⟨a, ns, i, rfl, hs, h0, q⟩ := h
  refine ⟨_, pss_cons (ps_set (i := 2) scState.nd rfl (.inl rfl) (pe_cal cC hr rfl (pa_cons (pv 0) (pa_cons (pv 1) pa_nil))))
    (pss_one (ps_ret (pe_lst (pa_cons (pe_callB (call_max2 rfl) rfl T.max (by decide +kernel) (pa_cons pe_int (pa_cons (pe_op op_sub (pv 2) (pe_op op_pow pe_int pe_int)) pa_nil)))
      (pa_cons (pe_op op_add (pe_op op_mod (pv 2) pe_int) pe_int) (pa_cons pe_int pa_nil)))))), ?_⟩
  refine ⟨_, rfl, _, rfl, a, ns, i, rfl, hs, h0, fun n => ?_⟩
  refine ⟨_, rfl, _, _, rfl, rfl, ⟨by decide, by decide, by decide⟩, _, _, rfl, rfl, _, _, rfl, ?_⟩
  refine ⟨_, rfl, _, _, rfl, rfl, (by show (0 : Int) < 2147483629; decide), _, _, rfl, rfl, small (by show 3 ≤ 1000; decide), fun p hp => ?_⟩
  refine q p _ _ _ hp ⟨?_, ?_, ?_⟩
  · split <;> omega
  · have := Int.emod_nonneg n (show (2147483629 : Int) ≠ 0 by decide)
    omega
  · have := Int.emod_lt_of_pos n (show (0 : Int) < 2147483629 by decide)
    omega
/-! _law_choice -/
def spChoice : Sp := fun vs H Q _ => ∃ (st : Addr) (many : Int), vs = [.ref st, .int many] ∧ StAt H st ∧ 0 < many ∧ many < 1000000 ∧ ∀ r H', 0 ≤ r → r < many → Mv st H H' → Q (.int r) H'
theorem scChoice : FnScope ["_law_state_here", "_law_many", "_law_found", "_law_mixed"] ["_law_state_here", "_law_many"] (defScope sChoice) := ⟨rfl, rfl, rfl, by decide +kernel, rfl, by decide +kernel, by decide +kernel⟩
theorem mv_upd {H : Hp} {st : Addr} {x y z : Int} (ok : StOk x y z) : Mv st H (upd H st (.lst [.int x, .int y, .int z])) :=
  ⟨fun b u n h => by rw [upd_ne n]; exact h, ⟨x, y, z, upd_same, ok⟩⟩
theorem ok_choice {k : Nat} (F : Fun K "_law_choice" "_law_choice" sChoice f fd) : FnOk P w K mg base CX0 (k + 1) f fd ["_law_state_here", "_law_many"] spChoice := by
  refine F.ok scChoice (fun vs H Q E h => ?_) (fun cdv A outer s H vs Q E hr h => ?_)
  · obtain ⟨st, many, rfl, _⟩ := h
    rfl
  obtain ⟨st, many, rfl, ⟨x, y, z, hst, hx, hy, hy2⟩, h0, hm, q⟩ := h
  refine ⟨_, pss_cons (ps_if (pt_cmpR op_gt (pe_ix ix_list (pv 0) pe_int (fun _ _ => rfl)) pe_int (nomark _))
      (pss_cons (ps_set (i := 2) scChoice.nd rfl (.inl rfl) (pe_op op_mod (pe_ix ix_list (pv 0) pe_int (fun _ _ => rfl)) (pv 1)))
      (pss_cons (ps_asg (pe_op op_fdiv (pe_ix ix_list (pv 0) pe_int (fun _ _ => rfl)) (pv 1)) (pg_sub (pv 0) pe_int set_list))
      (pss_one (ps_ret (pv 2))))) pss_nil)
    (pss_cons (ps_asg (pe_op op_add (pe_ix ix_list (pv 0) pe_int (fun _ _ => rfl)) pe_int) (pg_sub (pv 0) pe_int set_list))
    (pss_cons (ps_asg (pe_op op_mod (pe_op op_add (pe_op op_add (pe_op op_mul (pe_ix ix_list (pv 0) pe_int (fun _ _ => rfl)) pe_int) pe_int) (pe_ix ix_list (pv 0) pe_int (fun _ _ => rfl))) pe_int) (pg_sub (pv 0) pe_int set_list))
    (pss_cons (ps_set (i := 3) scChoice.nd rfl (.inl rfl) (pe_op op_mod (pe_op op_add (pe_op op_add (pe_op op_mul (pe_ix ix_list (pv 0) pe_int (fun _ _ => rfl)) (pe_ix ix_list (pv 0) pe_int (fun _ _ => rfl))) (pe_op op_mul pe_int (pe_ix ix_list (pv 0) pe_int (fun _ _ => rfl)))) pe_int) pe_int))
    (pss_cons (ps_set (i := 3) scChoice.nd rfl (.inl rfl) (pe_op op_mod (pe_op op_add (pe_op op_mul (pv 3) (pv 3)) (pe_op op_mul pe_int (pv 3))) pe_int))
    (pss_one (ps_ret (pe_op op_mod (pe_op op_fdiv (pv 3) pe_int) (pv 1)))))))), ?_⟩
  have rd : ∀ {H : Hp} {x y z : Int}, H st = some (.lst [.int x, .int y, .int z]) → SqL K H st [.int x, .int y, .int z] := fun h => SqL.of h
  refine ⟨_, rfl, st, _, 0, _, rfl, rfl, rd hst, rfl, _, _, rfl, rfl, _, rfl, ?_⟩
  refine ite2 (fun c => ?_) (fun c => ?_)
  · refine ⟨_, rfl, st, _, 0, _, rfl, rfl, rd hst, rfl, _, rfl, _, _, rfl, rfl, h0, ?_⟩
    refine ⟨_, rfl, st, _, 0, _, rfl, rfl, rd hst, rfl, _, rfl, _, _, rfl, rfl, ⟨h0, by omega⟩, ?_⟩
    refine ⟨_, rfl, st, _, 0, 0, rfl, rfl, hst, rfl, ?_⟩
    refine ⟨_, rfl, q _ _ (Int.emod_nonneg x (by omega)) (Int.emod_lt_of_pos x h0) (mv_upd (x := x / many) (y := y) (z := z) ⟨Int.ediv_nonneg hx (by omega), hy, hy2⟩)⟩
  · refine ⟨_, rfl, st, _, 2, _, rfl, rfl, rd hst, rfl, _, _, rfl, rfl, ?_⟩
    refine ⟨_, rfl, st, _, 2, 2, rfl, rfl, hst, rfl, ?_⟩
    refine ⟨_, rfl, st, _, 1, _, rfl, rfl, rd upd_same, rfl, _, _, rfl, rfl, .inl ⟨by omega, by omega⟩, _, _, rfl, rfl, _, rfl, st, _, 2, _, rfl, rfl, rd upd_same, rfl, _, _, rfl, rfl, _, _, rfl, rfl, (by show (0 : Int) < 2147483647; decide), ?_⟩
    refine ⟨_, rfl, st, _, 1, 1, rfl, rfl, upd_same, rfl, ?_⟩
    rw [upd_upd]
    have b1 := Int.emod_nonneg (y * 48271 + 29 + (z + 1)) (show (2147483647 : Int) ≠ 0 by decide)
    have b2 := Int.emod_lt_of_pos (y * 48271 + 29 + (z + 1)) (show (0 : Int) < 2147483647 by decide)
    generalize hv : (y * 48271 + 29 + (z + 1)) % 2147483647 = v at b1 b2
    show tSeq _ _ _ _ (upd H st (.lst [.int x, .int ((y * 48271 + 29 + (z + 1)) % 2147483647), .int (z + 1)]))
    rw [hv]
    refine ⟨_, rfl, st, _, 1, _, rfl, rfl, rd upd_same, rfl, _, rfl, st, _, 1, _, rfl, rfl, rd upd_same, rfl, _, _, rfl, rfl, .inl ⟨by omega, by omega⟩, _, rfl, st, _, 1, _, rfl, rfl, rd upd_same, rfl, _, _, rfl, rfl, .inl ⟨by decide, by decide⟩, _, _, rfl, rfl, _, _, rfl, rfl, _, _, rfl, rfl, (by show (0 : Int) < 2147483629; decide), ?_⟩
    have c1 := Int.emod_nonneg (v * v + 39373 * v + 7) (show (2147483629 : Int) ≠ 0 by decide)
    have c2 := Int.emod_lt_of_pos (v * v + 39373 * v + 7) (show (0 : Int) < 2147483629 by decide)
    refine ⟨_, rfl, _, rfl, _, _, rfl, rfl, .inl ⟨by omega, by omega⟩, _, rfl, _, _, rfl, rfl, .inl ⟨by decide, by decide⟩, _, _, rfl, rfl, _, _, rfl, rfl, (by show (0 : Int) < 2147483587; decide), ?_⟩
    refine ⟨_, rfl, _, _, rfl, rfl, ⟨by decide, by decide⟩, _, rfl, _, _, rfl, rfl, h0, ?_⟩
    exact q _ _ (Int.emod_nonneg _ (by omega)) (Int.emod_lt_of_pos _ h0) (mv_upd ⟨hx, b1, by omega⟩)
end
/-! the graphs straight within -/
def isG : PyData → Bool
  | .tuple (q :: _) => !PyData.eqv q (.str "tie")
  | _ => false
def boxInner : PyData → List PyData
  | .tuple ps => ps.filter isG
  | _ => []
def innerD : PyData → List PyData
  | .tuple bs => bs.flatMap boxInner
  | _ => []
theorem tupOnly_mem : ∀ {ds : List PyData} {d : PyData}, tupOnlyAll ds = true → d ∈ ds → tupOnly d = true
  | x :: r, d, h, hm => by
    simp only [tupOnlyAll, Bool.and_eq_true] at h
    rcases List.mem_cons.mp hm with rfl | hm
    · exact h.1
    · exact tupOnly_mem h.2 hm
theorem tupOnly_tup {ds : List PyData} (h : tupOnly (.tuple ds) = true) : tupOnlyAll ds = true := by simpa only [tupOnly] using h
theorem tupOnly_all : ∀ {l : List PyData}, (∀ z ∈ l, tupOnly z = true) → tupOnlyAll l = true
  | [], _ => rfl
  | u :: v, h => by
    simp only [tupOnlyAll, Bool.and_eq_true]
    exact ⟨h u List.mem_cons_self, tupOnly_all fun z hz => h z (List.mem_cons_of_mem _ hz)⟩
theorem inner_mem {bs : List PyData} {p : PyData} (h : p ∈ bs.flatMap boxInner) : ∃ ps, .tuple ps ∈ bs ∧ p ∈ ps := by
  obtain ⟨b, hb, hp⟩ := List.mem_flatMap.mp h
  cases b with
  | tuple ps => exact ⟨ps, hb, (List.mem_filter.mp hp).1⟩
  | int _ => cases hp
  | bool _ => cases hp
  | none => cases hp
  | str _ => cases hp
  | list _ => cases hp
  | dict _ => cases hp
theorem isG_int (i : Int) : isG (.int i) = false := rfl
theorem isG_tie (j : Int) : isG (.tuple [.str "tie", .int j]) = false := by
  show (!PyData.eqv (.str "tie") (.str "tie")) = false
  rw [eqv_str_str]
  rfl
theorem isG_graph (ps r : List PyData) : isG (.tuple (.tuple ps :: r)) = true := by
  show (!PyData.eqv (.tuple ps) (.str "tie")) = true
  rw [eqv_tup_str]
  rfl
theorem placeN_val {n m : Nat} {p : PyData} {a : Nat} (h : placeN (gsz n) m p = some a) : (isG p = false ∧ a = 0) ∨ (isG p = true ∧ gsz n p = some a) := by
  have ok := placeN_some h
  cases ok with
  | @num i h1 h2 =>
    refine .inl ⟨rfl, ?_⟩
    unfold placeN at h
    rw [if_pos (show numD (.int i) = true by show (decide (-9999 ≤ i) && decide (i ≤ 9999)) = true; rw [decide_eq_true h1, decide_eq_true h2]; rfl)] at h
    cases h
    rfl
  | @tie j h1 h2 =>
    refine .inl ⟨isG_tie j, ?_⟩
    unfold placeN at h
    rw [if_neg (show ¬ numD (.tuple [.str "tie", .int j]) = true by intro z; cases z)] at h
    rw [if_pos (show tieB m (.tuple [.str "tie", .int j]) = true by
      show (PyData.eqv (.str "tie") (.str "tie") && (decide (0 ≤ j) && decide (j ≤ (m : Int) - 1))) = true
      rw [eqv_str_str, decide_eq_true h1, decide_eq_true (by omega)]; rfl)] at h
    cases h
    rfl
  | @graph ps r k hg =>
    refine .inr ⟨isG_graph ps r, ?_⟩
    unfold placeN at h
    rw [if_neg (show ¬ numD (.tuple (.tuple ps :: r)) = true by intro z; cases z)] at h
    rw [if_neg (show ¬ tieB m (.tuple (.tuple ps :: r)) = true by
      unfold tieB
      split
      · rename_i e
        cases e
        rw [eqv_tup_str]
        intro z
        cases z
      · intro z
        cases z)] at h
    exact h
theorem sumO_cons {f : PyData → Option Nat} {x : PyData} {r : List PyData} {s : Nat} (h : sumO f (x :: r) = some s) : ∃ a b, f x = some a ∧ sumO f r = some b ∧ s = a + b := by
  simp only [sumO] at h
  cases hx : f x with
  | none => rw [hx] at h; cases h
  | some a =>
    rw [hx] at h
    cases hr : sumO f r with
    | none => rw [hr] at h; cases h
    | some b =>
      rw [hr] at h
      simp only [Option.some.injEq] at h
      exact ⟨a, b, rfl, rfl, h.symm⟩
theorem sumO_cons' {f : PyData → Option Nat} {x : PyData} {r : List PyData} {a b : Nat} (h1 : f x = some a) (h2 : sumO f r = some b) : sumO f (x :: r) = some (a + b) := by
  simp only [sumO, h1, h2]
theorem sumO_append {f : PyData → Option Nat} {l' : List PyData} {b : Nat} (h2 : sumO f l' = some b) : ∀ {l : List PyData} {a : Nat}, sumO f l = some a → sumO f (l ++ l') = some (a + b)
  | [], a, h => by
    simp only [sumO, Option.some.injEq] at h
    subst h
    rw [Nat.zero_add]
    exact h2
  | x :: r, a, h => by
    obtain ⟨u, v, h1, h3, rfl⟩ := sumO_cons h
    rw [List.cons_append, sumO_cons' h1 (sumO_append h2 h3), Nat.add_assoc]
theorem places_inner {n m : Nat} : ∀ {ps : List PyData} {s : Nat}, sumO (placeN (gsz n) m) ps = some s → sumO (gsz n) (ps.filter isG) = some s
  | [], s, h => h
  | p :: r, s, h => by
    obtain ⟨u, v, h1, h3, rfl⟩ := sumO_cons h
    have ih := places_inner h3
    rcases placeN_val h1 with ⟨e, rfl⟩ | ⟨e, e2⟩
    · rw [List.filter_cons_of_neg (by rw [e]; decide), Nat.zero_add]
      exact ih
    · rw [List.filter_cons_of_pos e]
      exact sumO_cons' e2 ih
theorem boxes_inner {n m : Nat} : ∀ {bs : List PyData} {s : Nat}, sumO (boxN (placeN (gsz n) m)) bs = some s → sumO (gsz n) (bs.flatMap boxInner) = some s
  | [], s, h => h
  | b :: r, s, h => by
    obtain ⟨u, v, h1, h3, rfl⟩ := sumO_cons h
    have ih := boxes_inner h3
    obtain ⟨p, q, t, rfl, hp⟩ := boxN_some h1
    rw [List.flatMap_cons]
    exact sumO_append ih (places_inner hp)
/-! good graphs are of tuples, ints and texts alone -/
theorem lay_all : ∀ {l : List PyData}, (∀ z ∈ l, z.canLay0 = true) → PyData.canLayAll0 l = true
  | [], _ => by simp only [PyData.canLayAll0]
  | u :: v, h => by
    simp only [PyData.canLayAll0, Bool.and_eq_true]
    exact ⟨h u List.mem_cons_self, lay_all fun z hz => h z (List.mem_cons_of_mem _ hz)⟩
theorem depth_all {k : Nat} : ∀ {l : List PyData}, (∀ z ∈ l, z.depth ≤ k) → PyData.depthAll l ≤ k
  | [], _ => by simp only [PyData.depthAll]; exact Nat.zero_le _
  | u :: v, h => by
    have h1 := h u List.mem_cons_self
    have h2 := depth_all (l := v) fun z hz => h z (List.mem_cons_of_mem _ hz)
    simp only [PyData.depthAll]
    omega
def Shp (k : Nat) (d : PyData) : Prop := tupOnly d = true ∧ d.canLay0 = true ∧ d.depth ≤ k
theorem shp_tup {k : Nat} {l : List PyData} (h : ∀ z ∈ l, Shp k z) : Shp (k + 1) (.tuple l) := by
  refine ⟨?_, ?_, ?_⟩
  · simp only [tupOnly]
    exact tupOnly_all fun z hz => (h z hz).1
  · simp only [PyData.canLay0]
    exact lay_all fun z hz => (h z hz).2.1
  · simp only [PyData.depth]
    have := depth_all fun z hz => (h z hz).2.2
    omega
theorem shp_mono {j k : Nat} {d : PyData} (h : Shp j d) (l : j ≤ k) : Shp k d := ⟨h.1, h.2.1, by have := h.2.2; omega⟩
theorem shp_int (k : Nat) (i : Int) : Shp k (.int i) := ⟨rfl, by simp only [PyData.canLay0], by simp only [PyData.depth]; exact Nat.zero_le _⟩
theorem shp_tie (k : Nat) (j : Int) : Shp (k + 1) (.tuple [.str "tie", .int j]) := by
  refine shp_tup fun z hz => ?_
  rcases List.mem_cons.mp hz with rfl | hz
  · exact ⟨rfl, by decide +kernel, by simp only [PyData.depth]; exact Nat.zero_le _⟩
  · rcases List.mem_cons.mp hz with rfl | hz
    · exact shp_int k j
    · cases hz
theorem good_shape : ∀ (n : Nat) (d : PyData) (c : Nat), gsz n d = some c → Shp (2 * n + 1) d
  | 0, d, c, h => by cases h
  | n + 1, d, c, h => by
    obtain ⟨m, bs, s, e, rfl, l1, l8, hs, _⟩ := gsz_some h
    cases e
    refine shp_mono (shp_tup (k := 2 * n + 2) fun b hb => ?_) (by omega)
    obtain ⟨a, ha⟩ := sumO_mem hs hb
    obtain ⟨p, q, r, rfl, hp⟩ := boxN_some ha
    refine shp_mono (shp_tup (k := 2 * n + 1) fun z hz => ?_) (by omega)
    obtain ⟨u, hu⟩ := sumO_mem hp hz
    cases placeN_some hu with
    | num _ _ => exact shp_int _ _
    | tie _ _ => exact shp_mono (shp_tie 0 _) (by omega)
    | graph hg => exact good_shape n _ _ hg
theorem shp_shaped {k : Nat} {d : PyData} (h : Shp k d) (l : k ≤ 64) : SeqAt.shaped d = true := by
  show (d.canLay0 && decide (d.depth ≤ 64)) = true
  rw [h.2.1, Bool.true_and]
  exact decide_eq_true (by have := h.2.2; omega)
theorem place_shape {n m : Nat} {p : PyData} {a : Nat} (h : placeN (gsz n) m p = some a) : Shp (2 * n + 1) p := by
  cases placeN_some h with
  | num _ _ => exact shp_int _ _
  | tie _ _ => exact shp_mono (shp_tie 0 _) (by omega)
  | graph hg => exact good_shape n _ _ hg
theorem box_shape {n m : Nat} {p : PyData} {a : Nat} (h : boxN (placeN (gsz n) m) p = some a) : Shp (2 * n + 2) p := by
  obtain ⟨p, q, r, rfl, hp⟩ := boxN_some h
  refine shp_tup fun z hz => ?_
  obtain ⟨u, hu⟩ := sumO_mem hp hz
  exact place_shape hu
theorem placeN_graph {n m : Nat} {d : PyData} {c : Nat} (h : gsz n d = some c) : placeN (gsz n) m d = some c := by
  obtain ⟨n', bs, s, rfl, rfl, l1, l8, hs, rfl, h24⟩ := gsz_some h
  cases bs with
  | nil => simp at l1
  | cons b r =>
    obtain ⟨a, ha⟩ := sumO_mem hs List.mem_cons_self
    obtain ⟨p, q, t, rfl, _⟩ := boxN_some ha
    unfold placeN
    rw [if_neg (show ¬ numD (.tuple (.tuple [p, q, t] :: r)) = true by intro z; cases z)]
    rw [if_neg (show ¬ tieB m (.tuple (.tuple [p, q, t] :: r)) = true by
      unfold tieB
      split
      · rename_i e
        cases e
        rw [eqv_tup_str]
        intro z
        cases z
      · intro z
        cases z)]
    exact h
theorem placeN_num {g : PyData → Option Nat} {m : Nat} {i : Int} (h1 : -9999 ≤ i) (h2 : i ≤ 9999) : placeN g m (.int i) = some 0 := by
  unfold placeN
  rw [if_pos (show numD (.int i) = true by show (decide (-9999 ≤ i) && decide (i ≤ 9999)) = true; rw [decide_eq_true h1, decide_eq_true h2]; rfl)]
theorem placeN_tie {g : PyData → Option Nat} {m : Nat} {j : Int} (h1 : 0 ≤ j) (h2 : j < m) : placeN g m (.tuple [.str "tie", .int j]) = some 0 := by
  unfold placeN
  rw [if_neg (show ¬ numD (.tuple [.str "tie", .int j]) = true by intro z; cases z)]
  rw [if_pos (show tieB m (.tuple [.str "tie", .int j]) = true by
    show (PyData.eqv (.str "tie") (.str "tie") && (decide (0 ≤ j) && decide (j ≤ (m : Int) - 1))) = true
    rw [eqv_str_str, decide_eq_true h1, decide_eq_true (by omega)]; rfl)]
theorem Mv.trans {st : Addr} {H H1 H2 : Hp} (a : Mv st H H1) (b : Mv st H1 H2) : Mv st H H2 := ⟨a.kp.trans b.kp, b.sa⟩
theorem Mv.same {st : Addr} {H H1 H2 : Hp} (a : Mv st H H1) (b : Same H1 H2) : Mv st H H2 := ⟨a.kp.trans (Kp.of_same b), a.sa.same b⟩
/-! the two lists that _law_graph fills -/
structure OuterSt (K : PySem.W.Frag) (st fa : Addr) (H0 : Hp) (m many : Nat) (room : Int) (fs : List V) (ds : List PyData) (lf : Int) (H : Hp) : Prop where
  mv : Mv st H0 H
  hf : H fa = some (.lst fs)
  df : DpAll K H fs ds
  su : ∃ s : Nat, sumO (boxN (placeN (gsz m) many)) ds = some s ∧ lf = room - s
  nn : 0 ≤ lf
structure InnerSt (K : PySem.W.Frag) (st fa pa : Addr) (H0 : Hp) (m many : Nat) (rest : Int) (fs : List V) (ds : List PyData) (ps : List V) (es : List PyData) (lf : Int) (H : Hp) : Prop where
  mv : Mv st H0 H
  hf : H fa = some (.lst fs)
  hp : H pa = some (.lst ps)
  df : DpAll K H fs ds
  dp : DpAll K H ps es
  su : ∃ s : Nat, sumO (placeN (gsz m) many) es = some s ∧ lf = rest - s
  nn : 0 ≤ lf
section
variable {K : PySem.W.Frag} {st fa pa : Addr} {H0 H H' : Hp} {m many : Nat} {rest room lf : Int} {fs ps : List V} {ds es : List PyData}
theorem InnerSt.tup (g : InnerSt K st fa pa H0 m many rest fs ds ps es lf H) : tupOnlyAll es = true := by
  obtain ⟨s, hs, _⟩ := g.su
  exact tupOnly_all fun z hz => by
    obtain ⟨u, hu⟩ := sumO_mem hs hz
    exact (place_shape hu).1
theorem InnerSt.go (g : InnerSt K st fa pa H0 m many rest fs ds ps es lf H) (td : tupOnlyAll ds = true) (n1 : fa ≠ st) (n2 : pa ≠ st) (k : Mv st H H') : InnerSt K st fa pa H0 m many rest fs ds ps es lf H' := by
  have kt := k.kp.kt g.mv.sa
  exact ⟨g.mv.trans k, k.kp _ _ n1 g.hf, k.kp _ _ n2 g.hp, dpAll_kt kt _ _ td g.df, dpAll_kt kt _ _ g.tup g.dp, g.su, g.nn⟩
theorem InnerSt.same (g : InnerSt K st fa pa H0 m many rest fs ds ps es lf H) (td : tupOnlyAll ds = true) (k : Same H H') : InnerSt K st fa pa H0 m many rest fs ds ps es lf H' := by
  have kt := KT.of_same k
  exact ⟨g.mv.same k, k _ _ g.hf, k _ _ g.hp, dpAll_kt kt _ _ td g.df, dpAll_kt kt _ _ g.tup g.dp, g.su, g.nn⟩
theorem InnerSt.push (g : InnerSt K st fa pa H0 m many rest fs ds ps es lf H) (td : tupOnlyAll ds = true) (h0 : H0 pa = none) (n2 : pa ≠ st) (n3 : fa ≠ pa) {v : V} {d : PyData} {c : Nat} (hv : Dp K H v d) (hc : placeN (gsz m) many d = some c) (hl : 0 ≤ lf - c) :
    InnerSt K st fa pa H0 m many rest fs ds (ps ++ [v]) (es ++ [d]) (lf - c) (upd H pa (.lst (ps ++ [v]))) := by
  have kt := KT.upd (l' := ps ++ [v]) g.hp
  obtain ⟨s, hs, e⟩ := g.su
  exact ⟨⟨g.mv.kp.upd h0, g.mv.sa.upd n2⟩, by rw [upd_ne n3]; exact g.hf, upd_same, dpAll_kt kt _ _ td g.df, dpAll_snoc (dp_kt kt _ _ (place_shape hc).1 hv) (dpAll_kt kt _ _ g.tup g.dp), ⟨s + c, sumO_snoc hs hc, by omega⟩, hl⟩
theorem OuterSt.tup (g : OuterSt K st fa H0 m many room fs ds lf H) : tupOnlyAll ds = true := by
  obtain ⟨s, hs, _⟩ := g.su
  exact tupOnly_all fun z hz => by
    obtain ⟨u, hu⟩ := sumO_mem hs hz
    exact (box_shape hu).1
theorem OuterSt.push (g : InnerSt K st fa pa H0 m many rest fs ds ps es lf H) (td : tupOnlyAll ds = true) (h0 : H0 fa = none) (n1 : fa ≠ st) (l3 : es.length = 3) (su : ∃ s : Nat, sumO (boxN (placeN (gsz m) many)) ds = some s ∧ rest = room - s) {tp : Addr} (ht : H tp = none) :
    OuterSt K st fa H0 m many room (fs ++ [.ref tp]) (ds ++ [.tuple es]) lf (upd (upd H tp (.tup ps)) fa (.lst (fs ++ [.ref tp]))) := by
  have s1 := same_new ht (.tup ps)
  have hf := s1 _ _ g.hf
  have kt := KT.upd (l' := fs ++ [.ref tp]) hf
  have kt2 := (KT.of_same s1).trans kt
  have nft : tp ≠ fa := (ne_of_none g.hf ht).symm
  obtain ⟨s, hs, e⟩ := g.su
  obtain ⟨s0, hs0, e0⟩ := su
  refine ⟨⟨(g.mv.kp.trans (Kp.of_same s1)).upd h0, (g.mv.sa.same s1).upd n1⟩, upd_same, dpAll_snoc (.tup (SqT.of ?_) (dpAll_kt kt2 _ _ g.tup g.dp)) (dpAll_kt kt2 _ _ td g.df), ⟨s0 + s, sumO_snoc hs0 ?_, by omega⟩, g.nn⟩
  · rw [upd_ne nft]
    exact upd_same
  · show (if es.length = 3 then sumO (placeN (gsz m) many) es else none) = some s
    rw [if_pos l3]
    exact hs
end
theorem sort_kinds {n m : Nat} {p : PyData} (h : PlaceOk n m p) : (∃ i, p = .int i ∧ sortD p = 0) ∨ (∃ j, p = .tuple [.str "tie", .int j] ∧ sortD p = 1) ∨ (∃ ps r k, p = .tuple (.tuple ps :: r) ∧ gsz n p = some k ∧ sortD p = 2) := by
  cases h with
  | num _ _ => exact .inl ⟨_, rfl, rfl⟩
  | tie _ _ => exact .inr (.inl ⟨_, rfl, by show (if PyData.eqv (.str "tie") (.str "tie") = true then (1 : Int) else 2) = 1; rw [if_pos (eqv_str_str _)]⟩)
  | @graph ps r k h => exact .inr (.inr ⟨ps, r, k, rfl, h, by show (if PyData.eqv (.tuple ps) (.str "tie") = true then (1 : Int) else 2) = 2; rw [if_neg (by rw [eqv_tup_str]; decide)]⟩)
section
variable {P : Program} {w : World} {K : PySem.W.Frag} {mg : Str → Option Value} {base : Heap} {f : Addr} {fd : FuncData}
/-! _law_inner -/
def spInner (K : PySem.W.Frag) : Sp := fun vs H Q _ => ∃ (x : V) (d : PyData) (n c : Nat), vs = [x] ∧ Dp K H x d ∧ SeqAt.shaped d = true ∧ tupOnly d = true ∧ gsz n d = some c ∧
  ∀ p ls H', Same H H' → H' p = some (.lst ls) → ls.length ≤ 24 → DpAll K H' ls (innerD d) → Q (.ref p) H'
theorem scInner : FnScope ["_law_graph_here", "_law_found", "_law_box", "_law_place"] ["_law_graph_here"] (defScope sInner) := ⟨rfl, rfl, rfl, by decide +kernel, rfl, by decide +kernel, by decide +kernel⟩
theorem ok_inner {k : Nat} (F : Fun K "_law_inner" "_law_inner" sInner f fd) (T : Free mg) : FnOk P w K mg base CX0 (k + 1) f fd ["_law_graph_here"] (spInner K) := by
  refine F.ok scInner (fun vs H Q E h => ?_) (fun cdv A outer s H vs Q E hr h => ?_)
  · obtain ⟨x, d, n, c, rfl, _⟩ := h
    rfl
  obtain ⟨x, d, n, c, rfl, hx, hsh, hto, hg, q⟩ := h
  refine ⟨_, pss_cons (ps_set (i := 1) scInner.nd rfl (.inl rfl) (pe_lst pa_nil))
    (pss_cons (ps_for PassesOwn.never rfl (pi_tup (pv 0)) (pg_name (i := 2) scInner.nd rfl (.inl rfl))
      (pss_one (ps_set (i := 1) scInner.nd rfl (.inl rfl) (pe_op op_cat (pv 1)
        (pe_lc (own := [("_law_place", 3)]) (g := gName 3) (tt := tAnd (tB (tCB (rIsi K) (tCons (tVar 3) (tCons (tC (.ty "tuple")) tNil)))) (tTest (tOp (rNeD K) (tOp (rIxT K) (tVar 3) (tC (.int 0))) (tC (.str "tie"))))) (te := tVar 3) rfl scInner.nd (pi_tup (pv 2)) (blkOk_by (own := [("_law_place", 3)]) (N := ["_law_graph_here", "_law_found", "_law_box", "_law_place"]) (sc := defScope sInner) (by decide +kernel))
          (fun _ _ _ _ _ => pg_name (i := 3) scInner.nd rfl (Or.inl rfl))
          (fun _ _ _ _ _ => pts_one (PW.pt (pw_and (pt_val (pe_callB call_isi rfl T.isi (by decide +kernel) (pa_cons (pv 3) (pa_cons (pe_bltn (v := .ty "tuple") rfl T.tuple (by decide +kernel) rfl) pa_nil))))
            (pw_and1 (pt_cmpR (op_neD hr.units) (pe_ix ix_tup (pv 3) pe_int (fun _ _ => rfl)) pe_str (nomark _))))))
          (fun _ _ _ _ _ => pv 3))))))
    (pss_one (ps_ret (pv 1)))), ?_⟩
  obtain ⟨m, bs, s', rfl, rfl, l1, l8, _⟩ := gsz_some hg
  have hta := tupOnly_tup hto
  cases hx with
  | @tup a xs _ ht ha =>
    have lx := dpAll_len ha
    refine ⟨small (by show 0 ≤ 1000; decide), fun fa hfa => ?_⟩
    refine ⟨_, rfl, a, rfl, ⟨xs, sqT_kt (KT.of_same (same_new hfa _)) ht⟩, ?_⟩
    refine for_tup (xs := xs) (fun i σ H' => ∃ (fa : Addr) (acc : List V) (o2 o3 : Option V), σ = [some (.ref a), some (.ref fa), o2, o3] ∧ Same H H' ∧ H' fa = some (.lst acc) ∧ acc.length ≤ 3 * i ∧ DpAll K H' acc ((bs.take i).flatMap boxInner))
      ⟨fa, [], none, none, rfl, same_new hfa _, upd_same, Nat.le_refl _, .nil⟩ (fun i σ H' _ h => by obtain ⟨_, _, _, _, _, sm, _⟩ := h; exact sqT_kt (KT.of_same sm) ht) (fun i y σ H' hyi h => ?_) (fun σ H' h => ?_)
    · obtain ⟨fa, acc, o2, o3, rfl, sm, hf, hl, hacc⟩ := h
      obtain ⟨b, hb, hdb⟩ := dpAll_get' ha hyi
      have hbm : b ∈ bs := List.mem_of_getElem? hb
      obtain ⟨p, q', r, rfl, hp1, hp2, hp3⟩ := box_of hg hb
      have htb := tupOnly_tup (tupOnly_mem hta hbm)
      have hshb := shaped_mem hsh hbm
      have hpl : ∀ z ∈ [p, q', r], PlaceOk m bs.length z := by
        intro z hz
        rcases List.mem_cons.mp hz with rfl | hz
        · exact hp1
        rcases List.mem_cons.mp hz with rfl | hz
        · exact hp2
        rcases List.mem_cons.mp hz with rfl | hz
        · exact hp3
        cases hz
      cases hdb with
      | @tup ab ys _ hty hay =>
        have ly := dpAll_len hay
        refine ⟨_, rfl, _, rfl, ab, rfl, ⟨ys, sqT_kt (KT.of_same sm) hty⟩, fun D hD => ?_⟩
        refine lc_tup (xs := ys) (fun j H2 => Same H' H2 ∧ ∃ zs : List V, H2 D = some (.lst zs) ∧ zs.length ≤ j ∧ DpAll K H2 zs (([p, q', r].take j).filter isG)) ⟨same_new hD _, [], upd_same, Nat.le_refl _, .nil⟩
          (fun j H2 _ h => sqT_kt (KT.of_same (sm.trans h.1)) hty) (fun j z H2 hz h => ?_) (fun H2 h => ?_)
        · obtain ⟨s2, zs, hz2, hzl, hzd⟩ := h
          obtain ⟨pd, hpd, hdz⟩ := dpAll_get' hay hz
          have hpm : pd ∈ [p, q', r] := List.mem_of_getElem? hpd
          have hj3 : j < 3 := (List.getElem?_eq_some_iff.mp hpd).1
          have hdz2 : Dp K H2 z pd := dp_kt (KT.of_same (sm.trans s2)) pd z (tupOnly_mem htb hpm) hdz
          have etk := take_more hpd
          have skip : isG pd = false → Same H' H2 ∧ ∃ zs : List V, H2 D = some (.lst zs) ∧ zs.length ≤ j + 1 ∧ DpAll K H2 zs (([p, q', r].take (j + 1)).filter isG) := fun e =>
            ⟨s2, zs, hz2, by omega, by rw [etk, List.filter_append, List.filter_cons_of_neg (by rw [e]; decide), List.filter_nil, List.append_nil]; exact hzd⟩
          refine ⟨rfl, _, rfl, z, _, _, _, _, rfl, .ty "tuple", ty_of hdz2, kit_tuple pd, _, rfl, ?_⟩
          rcases sort_kinds (hpl pd hpm) with ⟨i', rfl, _⟩ | ⟨j', rfl, _⟩ | ⟨qs, r', kk, rfl, _, _⟩
          · exact ifF rfl (ifF rfl (skip rfl))
          · cases hdz2 with
            | tup htz haz =>
              cases haz with
              | cons h1 haz =>
                refine ifT rfl ⟨_, rfl, _, _, _, _, rfl, rfl, htz, atI_nat (j := 0) rfl, .str "tie", .str "tie", h1, .str _, shaped_tie, shaped_tie, _, rfl, ?_⟩
                rw [eqv_str_str]
                exact ifF rfl (skip (isG_tie j'))
          · cases hdz2 with
            | @tup az _ _ htz haz =>
              cases haz with
              | cons h1 haz' =>
                refine ifT rfl ⟨_, rfl, _, _, _, _, rfl, rfl, htz, atI_nat (j := 0) rfl, .tuple qs, .str "tie", h1, .str _, shaped_mem (shaped_mem hshb hpm) List.mem_cons_self, shaped_tie, _, rfl, ?_⟩
                rw [eqv_tup_str]
                refine ifT rfl ⟨_, rfl, zs, hz2, Nat.lt_of_lt_of_le (show zs.length < 1000 by omega) (small (Nat.le_refl _)), ?_, zs ++ [.ref az], upd_same, by rw [List.length_append, List.length_singleton]; omega, ?_⟩
                · exact fun bb u e => by rw [upd_ne (ne_of_none e hD)]; exact s2 bb u e
                · rw [etk, List.filter_append, List.filter_cons_of_pos (isG_graph qs r'), List.filter_nil]
                  have hk2 := KT.upd (l' := zs ++ [.ref az]) hz2
                  refine dpAll_snoc (dp_kt hk2 _ _ (tupOnly_mem htb hpm) (.tup htz (.cons h1 haz'))) ?_
                  exact dpAll_kt hk2 _ _ (tupOnly_all fun z hz => tupOnly_mem htb (List.mem_of_mem_take (List.mem_filter.mp hz).1)) hzd
        · obtain ⟨s2, zs, hz2, hzl, hzd⟩ := h
          rw [ly] at hzl hzd
          have hzd : DpAll K H2 zs ([p, q', r].filter isG) := hzd
          have hzl : zs.length ≤ 3 := hzl
          have hi8 : i < bs.length := (List.getElem?_eq_some_iff.mp hb).1
          refine ⟨fa, D, acc, zs, rfl, rfl, s2 _ _ hf, hz2, small (by omega), fun p' hp' => ?_⟩
          have s3 : Same H2 (upd H2 p' (.lst (acc ++ zs))) := same_new hp' _
          refine ⟨p', acc ++ zs, _, _, rfl, sm.trans (s2.trans s3), upd_same, by rw [List.length_append]; omega, ?_⟩
          rw [take_more hb, List.flatMap_append, List.flatMap_cons, List.flatMap_nil, List.append_nil]
          refine dpAll_append (dpAll_kt (KT.of_same s3) _ _ ?_ hzd) (dpAll_kt (KT.of_same (s2.trans s3)) _ _ ?_ hacc)
          · exact tupOnly_all fun z hz => tupOnly_mem htb (List.mem_filter.mp hz).1
          · refine tupOnly_all fun z hz => ?_
            obtain ⟨ps', h1, h2⟩ := inner_mem hz
            exact tupOnly_mem (tupOnly_tup (tupOnly_mem hta (List.mem_of_mem_take h1))) h2
    · obtain ⟨fa, acc, o2, o3, rfl, sm, hf, hl, hacc⟩ := h
      rw [lx] at hl
      rw [lx, List.take_length] at hacc
      exact ⟨_, rfl, q fa acc H' sm hf (by omega) hacc⟩
end
section
variable {P : Program} {w : World} {K : PySem.W.Frag} {mg : Str → Option Value} {base : Heap} {f : Addr} {fd : FuncData}
/-! _law_size -/
def spSize (K : PySem.W.Frag) (n : Nat) : Sp := fun vs H Q _ => ∃ (x : V) (d : PyData) (c : Nat), vs = [x] ∧ Dp K H x d ∧ SeqAt.shaped d = true ∧ tupOnly d = true ∧ gsz n d = some c ∧ ∀ H', Same H H' → Q (.int c) H'
theorem scSize : FnScope ["_law_graph_here", "_law_inner_here"] ["_law_graph_here"] (defScope sSize) := ⟨rfl, rfl, rfl, by decide +kernel, rfl, by decide +kernel, by decide +kernel⟩
theorem yesT {σ : L2.St} {H : Hp} {A B : Hp → Prop} (h : A H) : tYes σ H (fun b H3 => if b = true then A H3 else B H3) := by
  show (if true = true then A H else B H)
  rw [if_pos rfl]
  exact h
theorem sum_snoc (ks : List Int) (x : Int) : (ks ++ [x]).sum = ks.sum + x := by rw [List.sum_append]; simp
theorem ok_size {k n : Nat} (F : Fun K "_law_size" "_law_size" sSize f fd) (T : Free mg) (cI : Cal P w K mg base "_law_inner" k ["_law_graph_here"] (spInner K)) (cS : Cal P w K mg base "_law_size" k ["_law_graph_here"] (spSize K n)) :
    FnOk P w K mg base CX0 (k + 1) f fd ["_law_graph_here"] (spSize K (n + 1)) := by
  refine F.ok scSize (fun vs H Q E h => ?_) (fun cdv A outer s H vs Q E hr h => ?_)
  · obtain ⟨x, d, c, rfl, _⟩ := h
    rfl
  obtain ⟨x, d, c, rfl, hx, hsh, hto, hg, q⟩ := h
  refine ⟨_, pss_one (ps_ret (pe_op op_add (pe_callB call_len_seq rfl T.len PySem.boot_len (pa_cons (pv 0) pa_nil)) (pe_callB (cr_sum rfl) rfl T.sum (by decide +kernel) (pa_cons
    (pe_lc (own := [("_law_inner_here", 1)]) (g := gName 1) (tt := tYes) (te := tCall (spSize K n) [] E0 (tCons (tVar 1) tNil)) rfl scSize.nd (pi_list (pe_cal cI hr rfl (pa_cons (pv 0) pa_nil)))
      (blkOk_by (own := [("_law_inner_here", 1)]) (N := ["_law_graph_here", "_law_inner_here"]) (sc := defScope sSize) (by decide +kernel))
      (fun _ _ _ _ _ => pg_name (i := 1) scSize.nd rfl (Or.inl rfl)) (fun _ _ _ _ _ => pts_nil) (fun _ _ _ _ _ => pe_cal cS hr rfl (pa_cons (pv 1) pa_nil))) pa_nil)))), ?_⟩
  obtain ⟨m, bs, s', e, rfl, l1, l8, hs, rfl, h24⟩ := gsz_some hg
  cases e
  have hin := boxes_inner hs
  have hta := tupOnly_tup hto
  have hin_ok : ∀ z ∈ bs.flatMap boxInner, SeqAt.shaped z = true ∧ tupOnly z = true := fun z hz => by
    obtain ⟨ps, h1, h2⟩ := inner_mem hz
    exact ⟨shaped_mem (shaped_mem hsh h1) h2, tupOnly_mem (tupOnly_tup (tupOnly_mem hta h1)) h2⟩
  cases hx with
  | @tup a xs _ ht ha =>
    have lx := dpAll_len ha
    refine ⟨_, rfl, a, xs, rfl, .inr ht, ?_⟩
    refine ⟨_, rfl, .ref a, .tuple bs, n + 1, _, rfl, .tup ht ha, hsh, hto, hg, fun p ls H1 s1 hp hl hd => ?_⟩
    refine ⟨p, rfl, ⟨ls, SqL.of hp⟩, fun D hD => ?_⟩
    have hd : DpAll K H1 ls (bs.flatMap boxInner) := hd
    have ll := dpAll_len hd
    refine lc_list (xs := ls) (fun j H2 => Same H1 H2 ∧ ∃ ks : List Int, H2 D = some (.lst (ks.map V.int)) ∧ ks.length = j ∧ ∃ u : Nat, sumO (gsz n) ((bs.flatMap boxInner).take j) = some u ∧ ks.sum = (u : Int)) ⟨same_new hD _, [], upd_same, rfl, 0, rfl, rfl⟩
      (fun j H2 _ h => SqL.of (h.1 _ _ hp)) (fun j z H2 hz h => ?_) (fun H2 h => ?_)
    · obtain ⟨s2, ks, hk, hkl, u, hu, hku⟩ := h
      obtain ⟨pd, hpd, hdz⟩ := dpAll_get' hd hz
      have hpm := List.mem_of_getElem? hpd
      obtain ⟨hsz, htz⟩ := hin_ok pd hpm
      obtain ⟨v, hv⟩ := sumO_mem hin hpm
      refine ⟨rfl, yesT ?_⟩
      refine ⟨_, rfl, z, pd, v, rfl, dp_kt (KT.of_same s2) pd z htz hdz, hsz, htz, hv, fun H3 s3 => ?_⟩
      have hj : j < ls.length := (List.getElem?_eq_some_iff.mp hz).1
      refine ⟨ks.map V.int, s3 _ _ hk, Nat.lt_of_lt_of_le (show (ks.map V.int).length < 1000 by rw [List.length_map]; omega) (small (Nat.le_refl _)), ?_, ks ++ [(v : Int)], ?_, by rw [List.length_append, hkl]; rfl, u + v, ?_, ?_⟩
      · exact fun bb o e => by rw [upd_ne (ne_of_none e hD)]; exact s3 bb o (s2 bb o e)
      · rw [List.map_append]
        exact upd_same
      · rw [take_more hpd]
        exact sumO_snoc hu hv
      · rw [sum_snoc, hku]
        omega
    · obtain ⟨s2, ks, hk, hkl, u, hu, hku⟩ := h
      rw [ll, List.take_length] at hu
      have : u = s' := Option.some.inj (hu.symm.trans hin)
      subst this
      refine ⟨D, ks, rfl, SqL.of hk, _, _, rfl, rfl, ?_⟩
      have r := q H2 (s1.trans s2)
      rw [lx, hku]
      have e : ((bs.length + u : Nat) : Int) = (bs.length : Int) + (u : Int) := by omega
      rw [e] at r
      exact r
theorem no_size {k : Nat} (F : Fun K "_law_size" "_law_size" sSize f fd) : FnOk P w K mg base CX0 k f fd ["_law_graph_here"] (spSize K 0) := by
  have no : ∀ vs H Q E, ¬ spSize K 0 vs H Q E := fun vs H Q E h => by
    obtain ⟨x, d, c, _, _, _, _, h, _⟩ := h
    cases h
  exact ⟨fun vs H Q E h => absurd h (no vs H Q E), fun A outer s H args us vs Q E _ _ _ _ h => absurd h (no vs H Q E)⟩
end
section
variable {P : Program} {w : World} {K : PySem.W.Frag} {mg : Str → Option Value} {base : Heap} {f : Addr} {fd : FuncData}
def spGraph (K : PySem.W.Frag) (n : Nat) : Sp := fun vs H Q _ => ∃ (st : Addr) (room : Int), vs = [.ref st, .int n, .int room] ∧ 1 ≤ n ∧ n ≤ 4 ∧ StAt H st ∧ 1 ≤ room ∧ room ≤ 24 ∧
  ∀ v d (c : Nat) H', Mv st H H' → Dp K H' v d → gsz n d = some c → (c : Int) ≤ room → Q v H'
theorem scGraph : FnScope ["_law_state_here", "_law_deep", "_law_room", "_law_many", "_law_left", "_law_found", "_law_b", "_law_places", "_law_k", "_law_way", "_law_tie", "_law_place"] ["_law_state_here", "_law_deep", "_law_room"] (defScope sGraph) :=
  ⟨rfl, rfl, rfl, by decide +kernel, rfl, by decide +kernel, by decide +kernel⟩
theorem pick4 {H : Hp} {m many : Nat} {tp : Addr} {t e n3 : Int} {w4 : Int} (h0 : 0 ≤ w4) (h4 : w4 < 4) (ht : H tp = some (.tup [.str "tie", .int t])) (t0 : 0 ≤ t) (t1 : t < many) (e1 : e = 9999 ∨ e = -9999) (n0 : -9999 ≤ n3) (n1 : n3 ≤ 9999) :
    ∃ v d, atI [V.int 0, .ref tp, .int n3, .int e] w4 = some v ∧ Dp K H v d ∧ placeN (gsz m) many d = some 0 := by
  have : w4 = 0 ∨ w4 = 1 ∨ w4 = 2 ∨ w4 = 3 := by omega
  rcases this with rfl | rfl | rfl | rfl
  · exact ⟨_, _, atI_nat (j := 0) rfl, .int 0, placeN_num (by decide) (by decide)⟩
  · exact ⟨_, _, atI_nat (j := 1) rfl, .tup (SqT.of ht) (.cons (.str _) (.cons (.int t) .nil)), placeN_tie t0 t1⟩
  · exact ⟨_, _, atI_nat (j := 2) rfl, .int n3, placeN_num n0 n1⟩
  · exact ⟨_, _, atI_nat (j := 3) rfl, .int e, placeN_num (by omega) (by omega)⟩
theorem ok_graph {k m : Nat} (F : Fun K "_law_graph" "_law_graph" sGraph f fd) (T : Free mg) (cC : Cal P w K mg base "_law_choice" k ["_law_state_here", "_law_many"] spChoice) (cS : Cal P w K mg base "_law_size" k ["_law_graph_here"] (spSize K m))
    (cG : Cal P w K mg base "_law_graph" k ["_law_state_here", "_law_deep", "_law_room"] (spGraph K m)) : FnOk P w K mg base CX0 (k + 1) f fd ["_law_state_here", "_law_deep", "_law_room"] (spGraph K (m + 1)) := by
  refine F.ok scGraph (fun vs H Q E h => ?_) (fun cdv A outer s H vs Q E hr h => ?_)
  · obtain ⟨st, room, rfl, _⟩ := h
    rfl
  obtain ⟨st, room, rfl, n1, n4, sa, r1, r24, q⟩ := h
  refine ⟨_, pss_cons (ps_set (i := 3) scGraph.nd rfl (.inl rfl) (pe_op op_add pe_int (pe_cal cC hr rfl (pa_cons (pv 0) (pa_cons (pe_callB (call_min2 rfl) rfl T.min (by decide +kernel) (pa_cons pe_int (pa_cons (pv 2) pa_nil))) pa_nil)))))
    (pss_cons (ps_par (i := 4) (j := 5) rfl scGraph.nd rfl rfl (by decide) rfl rfl (pa_cons (pe_op op_sub (pv 2) (pv 3)) (pa_cons (pe_lst pa_nil) pa_nil)) rfl)
    (pss_cons (ps_for PassesOwn.never rfl (pi_range1 rfl T.range (pa_cons (pv 3) pa_nil)) (pg_name (i := 6) scGraph.nd rfl (.inl rfl))
      (pss_cons (ps_set (i := 7) scGraph.nd rfl (.inl rfl) (pe_lst pa_nil))
      (pss_cons (ps_for PassesOwn.never rfl (pi_range1 rfl T.range (pa_cons pe_int pa_nil)) (pg_name (i := 8) scGraph.nd rfl (.inl rfl))
        (pss_cons (ps_par (i := 9) (j := 10) rfl scGraph.nd rfl rfl (by decide) rfl rfl (pa_cons (pe_cal cC hr rfl (pa_cons (pv 0) (pa_cons pe_int pa_nil))) (pa_cons (pe_tup (pa_cons pe_str (pa_cons (pe_cal cC hr rfl (pa_cons (pv 0) (pa_cons (pv 3) pa_nil))) pa_nil))) pa_nil)) rfl)
        (pss_cons (ps_set (i := 11) scGraph.nd rfl (.inl rfl) (pe_ix ix_list (pe_lst (pa_cons pe_int (pa_cons (pv 10) (pa_cons (pe_op op_sub (pe_cal cC hr rfl (pa_cons (pv 0) (pa_cons pe_int pa_nil))) pe_int)
            (pa_cons (pe_ix ix_list (pe_lst (pa_cons pe_int (pa_cons (pe_un un_neg pe_int) pa_nil))) (pe_op op_mod (pv 6) pe_int) (fun _ _ => rfl)) pa_nil))))) (pe_op op_mod (pv 9) pe_int) (fun _ _ => rfl)))
        (pss_cons (ps_if (PW.pt (pw_and (pt_cmpR op_gt (pv 9) pe_int (nomark _)) (pw_and (pt_cmpR op_gt (pv 1) pe_int (nomark _)) (pw_and1 (pt_cmpR op_gt (pv 4) pe_int (nomark _))))))
            (pss_cons (ps_set (i := 11) scGraph.nd rfl (.inl rfl) (pe_cal cG hr rfl (pa_cons (pv 0) (pa_cons (pe_op op_sub (pv 1) pe_int) (pa_cons (pe_callB (call_min2 rfl) rfl T.min (by decide +kernel) (pa_cons (pv 4) (pa_cons (pe_op op_add pe_int (pe_cal cC hr rfl (pa_cons (pv 0) (pa_cons pe_int pa_nil)))) pa_nil))) pa_nil)))))
            (pss_one (ps_set (i := 4) scGraph.nd rfl (.inl rfl) (pe_op op_sub (pv 4) (pe_cal cS hr rfl (pa_cons (pv 11) pa_nil)))))) pss_nil)
        (pss_one (ps_expr (pe_bm PySem.F.plainAttrs_list PySem.F.slot_list_append PySem.F.type_list_append mt_append (pv 7) (pa_cons (pv 11) pa_nil))))))))
      (pss_one (ps_expr (pe_bm PySem.F.plainAttrs_list PySem.F.slot_list_append PySem.F.type_list_append mt_append (pv 5) (pa_cons (pe_callTy call_tuple_of rfl T.tuple (by decide +kernel) (pa_cons (pv 7) pa_nil)) pa_nil)))))))
    (pss_one (ps_ret (pe_callTy call_tuple_of rfl T.tuple (by decide +kernel) (pa_cons (pv 5) pa_nil)))))), ?_⟩
  -- many
  have hmin : 0 < (if room < 8 then room else 8) ∧ (if room < 8 then room else 8) ≤ 8 ∧ (if room < 8 then room else 8) ≤ room := by split <;> omega
  refine ⟨_, rfl, _, rfl, 8, room, rfl, st, _, rfl, sa, hmin.1, by omega, fun r H1 r0 rl mv1 => ⟨_, _, rfl, rfl, ?_⟩⟩
  obtain ⟨many, hmany⟩ : ∃ many : Nat, (many : Int) = 1 + r := ⟨(1 + r).toNat, by omega⟩
  show gName 3 (V.int (1 + r)) _ _ _
  rw [← hmany]
  have m1 : 1 ≤ many := by omega
  have m8 : many ≤ 8 := by omega
  have mr : (many : Int) ≤ room := by omega
  -- left, found
  refine ⟨_, rfl, _, rfl, _, _, rfl, rfl, small (by show 0 ≤ 1000; decide), fun fa hfa => ⟨_, _, rfl, ?_⟩⟩
  have nfs : fa ≠ st := mv1.sa.ne hfa
  have h0f : H fa = none := mv1.kp.free nfs hfa
  -- the boxes
  refine ⟨_, rfl, _, rfl, by omega, by omega, ?_⟩
  rw [Int.toNat_natCast]
  refine for_range (lo := 0) (n := many) (fun i σ H' => ∃ (fs : List V) (ds : List PyData) (lf : Int) (o6 o7 o8 o9 o10 o11 : Option V), σ = [some (.ref st), some (.int ((m + 1 : Nat) : Int)), some (.int room), some (.int many), some (.int lf), some (.ref fa), o6, o7, o8, o9, o10, o11] ∧ ds.length = i ∧
      OuterSt K st fa H m many (room - many) fs ds lf H')
    ⟨[], [], _, _, _, _, _, _, _, rfl, rfl, ⟨(mv1.same (same_new hfa _)), upd_same, .nil, ⟨0, rfl, by show _ = room - (many : Int) - 0; omega⟩, by omega⟩⟩ (fun i σ H' hi h => ?_) (fun σ H' h => ?_)
  · obtain ⟨fs, ds, lf, o6, o7, o8, o9, o10, o11, rfl, hdl, g⟩ := h
    have td := g.tup
    have su := g.su
    -- places
    refine ⟨small (by show 0 ≤ 1000; decide), fun pa hpa => ?_⟩
    have nps : pa ≠ st := g.mv.sa.ne hpa
    have h0p : H pa = none := g.mv.kp.free nps hpa
    have nfp : fa ≠ pa := ne_of_none g.hf hpa
    have s1 := same_new hpa (.lst [])
    refine ⟨3, rfl, by decide, by decide, ?_⟩
    refine for_range (lo := 0) (n := 3) (fun j σ H' => ∃ (ps : List V) (es : List PyData) (lf' : Int) (o8 o9 o10 o11 : Option V), σ = [some (.ref st), some (.int ((m + 1 : Nat) : Int)), some (.int room), some (.int many), some (.int lf'), some (.ref fa), some (.int (0 + (i : Int))), some (.ref pa), o8, o9, o10, o11] ∧ es.length = j ∧
        InnerSt K st fa pa H m many lf fs ds ps es lf' H')
      ⟨[], [], lf, _, _, _, _, rfl, rfl, ⟨g.mv.same s1, s1 _ _ g.hf, upd_same, dpAll_kt (KT.of_same s1) _ _ td g.df, .nil, ⟨0, rfl, by show lf = lf - 0; omega⟩, g.nn⟩⟩ (fun j σ H' hj h => ?_) (fun σ H' h => ?_)
    · obtain ⟨ps, es, lf', o8, o9, o10, o11, rfl, hel, g2⟩ := h
      have lps := dpAll_len g2.dp
      -- way, tie
      refine ⟨_, rfl, st, 8, rfl, g2.mv.sa, by decide, by decide, fun way Ha w0 w8 ma => ?_⟩
      have ga := g2.go td nfs nps ma
      refine ⟨_, rfl, _, rfl, st, many, rfl, ga.mv.sa, by omega, by omega, fun t Hb t0 tl mb => ?_⟩
      have gb := ga.go td nfs nps mb
      refine ⟨small (by show 2 ≤ 1000; decide), fun tp htp => ⟨_, _, rfl, ?_⟩⟩
      have gc := gb.same td (same_new htp (.tup [.str "tie", .int t]))
      -- place
      refine ⟨_, rfl, _, rfl, st, 19999, rfl, gc.mv.sa, by decide, by decide, fun r3 Hd r30 r31 md => ⟨_, _, rfl, rfl, ?_⟩⟩
      have gd := gc.go td nfs nps md
      have hntp : tp ≠ st := gb.mv.sa.ne htp
      have htd : Hd tp = some (.tup [.str "tie", .int t]) := md.kp _ _ hntp upd_same
      refine ⟨_, rfl, small (by show 2 ≤ 1000; decide), fun q1 hq1 => ?_⟩
      have ge := gd.same td (same_new hq1 (.lst [.int 9999, .int (-9999)]))
      have hte := same_new hq1 (.lst [.int 9999, .int (-9999)]) _ _ htd
      have hspot : ∃ e : Int, atI [V.int 9999, .int (-9999)] ((0 + (i : Int)) % 2) = some (.int e) ∧ (e = 9999 ∨ e = -9999) := by
        have : (0 + (i : Int)) % 2 = 0 ∨ (0 + (i : Int)) % 2 = 1 := by omega
        rcases this with e | e <;> rw [e]
        · exact ⟨9999, atI_nat (j := 0) rfl, .inl rfl⟩
        · exact ⟨-9999, atI_nat (j := 1) rfl, .inr rfl⟩
      obtain ⟨e, he, he2⟩ := hspot
      refine ⟨_, rfl, _, _, rfl, rfl, (by show (0 : Int) < 2; decide), q1, _, _, _, rfl, rfl, SqL.of upd_same, he, ?_⟩
      refine ⟨small (by show 4 ≤ 1000; decide), fun q2 hq2 => ?_⟩
      have gf := ge.same td (same_new hq2 (.lst [.int 0, .ref tp, .int (r3 - 9999), .int e]))
      have htf := same_new hq2 (.lst [.int 0, .ref tp, .int (r3 - 9999), .int e]) _ _ hte
      obtain ⟨v, d, hat, hdv, hpl⟩ := pick4 (K := K) (m := m) (many := many) (w4 := way % 4) (e := e) (n3 := r3 - 9999) (by omega) (by omega) htf t0 tl he2 (by omega) (by omega)
      refine ⟨_, rfl, _, _, rfl, rfl, (by show (0 : Int) < 4; decide), q2, _, _, v, rfl, rfl, SqL.of upd_same, hat, ?_⟩
      -- the end of a turn
      have fin : ∀ {v : V} {d : PyData} {c : Nat} {Hz : Hp} {o9 o10 : Option V} {lz : Int}, InnerSt K st fa pa H m many lf fs ds ps es lf' Hz → Dp K Hz v d → placeN (gsz m) many d = some c → lz = lf' - c → 0 ≤ lz →
          ∃ (ps' : List V) (es' : List PyData) (lf'' : Int) (p8 p9 p10 p11 : Option V), [some (V.ref st), some (V.int ((m + 1 : Nat) : Int)), some (V.int room), some (V.int many), some (V.int lz), some (V.ref fa), some (V.int (0 + (i : Int))), some (V.ref pa), some (V.int (0 + (j : Int))), o9, o10, some v] =
            [some (V.ref st), some (V.int ((m + 1 : Nat) : Int)), some (V.int room), some (V.int many), some (V.int lf''), some (V.ref fa), some (V.int (0 + (i : Int))), some (V.ref pa), p8, p9, p10, p11] ∧ es'.length = j + 1 ∧
            InnerSt K st fa pa H m many lf fs ds ps' es' lf'' (upd Hz pa (.lst (ps ++ [v]))) := by
        intro v d c Hz o9 o10 lz gz hv hc e hl
        subst e
        exact ⟨ps ++ [v], es ++ [d], lf' - c, _, _, _, _, rfl, by rw [List.length_append, hel]; rfl, gz.push td h0p nps nfp hv hc hl⟩
      have room3 : ps.length < sizeLine := Nat.lt_of_lt_of_le (show ps.length < 1000 by omega) (small (Nat.le_refl _))
      refine ⟨_, rfl, _, _, rfl, rfl, _, rfl, ?_⟩
      have stay : InnerSt K st fa pa H m many lf fs ds ps es lf' _ := gf
      refine ite2 (fun c1 => ?_) (fun c1 => ?_)
      · refine ⟨_, rfl, _, _, rfl, rfl, _, rfl, ?_⟩
        refine ite2 (fun c2 => ?_) (fun c2 => ?_)
        · refine ⟨_, rfl, _, _, rfl, rfl, _, rfl, ?_⟩
          refine ite2 (fun c3 => ?_) (fun c3 => ?_)
          · have c2 : 1 < ((m + 1 : Nat) : Int) := of_decide_eq_true c2
            have c3 : 0 < lf' := of_decide_eq_true c3
            have lf24 : lf' ≤ 24 := by
              obtain ⟨s2, _, e2⟩ := g2.su
              obtain ⟨s3, _, e3⟩ := g.su
              omega
            refine ⟨_, rfl, _, rfl, _, _, rfl, rfl, _, rfl, _, rfl, st, 9, rfl, gf.mv.sa, by decide, by decide, fun r4 Hg r40 r41 mg' => ⟨_, _, rfl, rfl, _, _, rfl, ?_⟩⟩
            have gg := gf.go td nfs nps mg'
            have hroom : 1 ≤ (if 1 + r4 < lf' then 1 + r4 else lf') ∧ (if 1 + r4 < lf' then 1 + r4 else lf') ≤ lf' := by split <;> omega
            refine ⟨st, _, congrArg (fun z => [V.ref st, V.int z, V.int (if 1 + r4 < lf' then 1 + r4 else lf')]) (show ((m + 1 : Nat) : Int) - 1 = (m : Int) by omega), by omega, by omega, gg.mv.sa, hroom.1, by omega, fun v' d' c' Hh mh hd' hg' hc' => ?_⟩
            have gh := gg.go td nfs nps mh
            have shp := good_shape _ _ _ hg'
            refine ⟨_, rfl, _, rfl, v', d', c', rfl, hd', shp_shaped shp (by omega), shp.1, hg', fun Hi si => ⟨_, _, rfl, rfl, ?_⟩⟩
            have gi := gh.same td si
            refine ⟨_, rfl, .inl ⟨rfl, _, SqL.of gi.hp⟩, _, rfl, pa, ps, v', rfl, rfl, gi.hp, room3, ?_⟩
            exact fin gi (dp_kt (KT.of_same si) _ _ shp.1 hd') (placeN_graph hg') rfl (by omega)
          · refine ⟨_, rfl, .inl ⟨rfl, _, SqL.of gf.hp⟩, _, rfl, pa, ps, v, rfl, rfl, gf.hp, room3, ?_⟩
            exact fin gf hdv hpl (by show lf' = lf' - ((0 : Nat) : Int); omega) gf.nn
        · refine ifF rfl ⟨_, rfl, .inl ⟨rfl, _, SqL.of gf.hp⟩, _, rfl, pa, ps, v, rfl, rfl, gf.hp, room3, ?_⟩
          exact fin gf hdv hpl (by show lf' = lf' - ((0 : Nat) : Int); omega) gf.nn
      · refine ifF rfl ⟨_, rfl, .inl ⟨rfl, _, SqL.of gf.hp⟩, _, rfl, pa, ps, v, rfl, rfl, gf.hp, room3, ?_⟩
        exact fin gf hdv hpl (by show lf' = lf' - ((0 : Nat) : Int); omega) gf.nn
    · obtain ⟨ps, es, lf', o8, o9, o10, o11, rfl, hel, g2⟩ := h
      have lfs := dpAll_len g2.df
      refine ⟨_, rfl, .inl ⟨rfl, _, SqL.of g2.hf⟩, _, rfl, pa, ps, rfl, .inl ⟨SqL.of g2.hp, fun tp htp => ?_⟩⟩
      refine ⟨fa, fs, .ref tp, rfl, rfl, same_new htp _ _ _ g2.hf, Nat.lt_of_lt_of_le (show fs.length < 1000 by omega) (small (Nat.le_refl _)), ?_⟩
      exact ⟨_, _, lf', _, _, _, _, _, _, rfl, by rw [List.length_append, hdl]; rfl, OuterSt.push g2 td h0f nfs hel su htp⟩
  · obtain ⟨fs, ds, lf, o6, o7, o8, o9, o10, o11, rfl, hdl, g⟩ := h
    refine ⟨_, rfl, fa, fs, rfl, .inl ⟨SqL.of g.hf, fun tp htp => ?_⟩⟩
    have s1 := same_new htp (.tup fs)
    obtain ⟨s2, hs2, e2⟩ := g.su
    have hnn := g.nn
    refine q _ (.tuple ds) (many + s2) _ (g.mv.same s1) (.tup (SqT.of upd_same) (dpAll_kt (KT.of_same s1) _ _ g.tup g.df)) ?_ (by omega)
    show gszT (gsz m) ds = some (many + s2)
    unfold gszT
    rw [hdl, if_pos ⟨m1, m8⟩, hs2]
    show (if many + s2 ≤ 24 then some (many + s2) else none) = some (many + s2)
    rw [if_pos (by omega)]
theorem no_graph {k : Nat} : FnOk P w K mg base CX0 k f fd ["_law_state_here", "_law_deep", "_law_room"] (spGraph K 0) := by
  have no : ∀ vs H Q E, ¬ spGraph K 0 vs H Q E := fun vs H Q E h => by
    obtain ⟨st, room, _, h, _⟩ := h
    omega
  exact ⟨fun vs H Q E h => absurd h (no vs H Q E), fun A outer s H args us vs Q E _ _ _ _ h => absurd h (no vs H Q E)⟩
end
section
variable {K : PySem.W.Frag}
/-- a bare graph, newly made -/
theorem bare_new {H : Hp} {p p' : Addr} (h : H p = none) (h' : (upd H p (.tup [.int 0, .int 0, .int 0])) p' = none) :
    Same H (upd (upd H p (.tup [.int 0, .int 0, .int 0])) p' (.tup [.ref p])) ∧ Dp K (upd (upd H p (.tup [.int 0, .int 0, .int 0])) p' (.tup [.ref p])) (.ref p') bareD := by
  have s1 := same_new h (.tup [.int 0, .int 0, .int 0])
  have s2 := same_new h' (.tup [.ref p])
  refine ⟨s1.trans s2, .tup (SqT.of upd_same) (.cons (.tup (SqT.of (s2 _ _ upd_same)) (.cons (.int 0) (.cons (.int 0) (.cons (.int 0) .nil)))) .nil)⟩
end
def tieD (j : Int) : PyData := .tuple [.str "tie", .int j]
def boxI (k : Nat) : PyData := .tuple [.int k, tieD k, .int 0]
def innerT : PyData := .tuple ((List.range 8).map boxI)
def innerC : PyData := .tuple ((List.range 7).map boxI)
def itemF (k : Nat) : PyData := if k < 2 then innerT else if k = 2 then .int 0 else .int (-1)
def boxF (k : Nat) : PyData := .tuple [itemF k, .int k, tieD (7 - k)]
def fullT : PyData := .tuple ((List.range 8).map boxF)
def wideT : PyData := .tuple [.tuple [innerT, innerT, innerC]]
def chainT : Nat → PyData
  | 0 => .tuple [.tuple [.int 5, .int 0, .int 0]]
  | i + 1 => .tuple [.tuple [chainT i, tieD 0, .int i]]
theorem g_bare : gsz 4 bareD = some 1 := by decide +kernel
theorem g_full : gsz 4 fullT = some 24 := by decide +kernel
theorem g_wide : gsz 4 wideT = some 24 := by decide +kernel
theorem g_chain : gsz 4 (chainT 3) = some 4 := by decide +kernel
theorem sumO_mono {f g : PyData → Option Nat} (h : ∀ x a, f x = some a → g x = some a) : ∀ {l : List PyData} {s : Nat}, sumO f l = some s → sumO g l = some s
  | [], s, e => e
  | x :: r, s, e => by
    obtain ⟨a, b, h1, h2, rfl⟩ := sumO_cons e
    exact sumO_cons' (h _ _ h1) (sumO_mono h h2)
theorem placeN_mono {f g : PyData → Option Nat} {m : Nat} (h : ∀ x a, f x = some a → g x = some a) (p : PyData) (a : Nat) (e : placeN f m p = some a) : placeN g m p = some a := by
  unfold placeN at e ⊢
  by_cases h1 : numD p = true
  · rw [if_pos h1] at e ⊢
    exact e
  · rw [if_neg h1] at e ⊢
    by_cases h2 : tieB m p = true
    · rw [if_pos h2] at e ⊢
      exact e
    · rw [if_neg h2] at e ⊢
      exact h _ _ e
theorem boxN_mono {f g : PyData → Option Nat} (h : ∀ x a, f x = some a → g x = some a) (p : PyData) (a : Nat) (e : boxN f p = some a) : boxN g p = some a := by
  obtain ⟨x, y, z, rfl, e'⟩ := boxN_some e
  show (if [x, y, z].length = 3 then sumO g [x, y, z] else none) = some a
  rw [if_pos (show [x, y, z].length = 3 from rfl)]
  exact sumO_mono h e'
theorem gsz_succ : ∀ (n : Nat) (d : PyData) (c : Nat), gsz n d = some c → gsz (n + 1) d = some c
  | 0, _, _, h => by cases h
  | n + 1, d, c, h => by
    obtain ⟨m, bs, s, e, rfl, l1, l8, hs, rfl, h24⟩ := gsz_some h
    cases e
    show gszT (gsz (n + 1)) bs = some (bs.length + s)
    unfold gszT
    rw [if_pos ⟨l1, l8⟩, sumO_mono (boxN_mono (placeN_mono (gsz_succ n))) hs]
    show (if bs.length + s ≤ 24 then some (bs.length + s) else none) = some (bs.length + s)
    rw [if_pos h24]
theorem gsz_mono {n : Nat} {d : PyData} {c : Nat} (h : gsz n d = some c) : ∀ {m : Nat}, n ≤ m → gsz m d = some c := by
  intro m hm
  induction hm with
  | refl => exact h
  | step _ ih => exact gsz_succ _ _ _ ih

theorem range_more {α : Type} (g : Nat → α) (j : Nat) : (List.range (j + 1)).map g = (List.range j).map g ++ [g j] := by
  rw [List.range_succ, List.map_append]
  rfl
theorem shp_box (k : Nat) : Shp 2 (boxI k) := by
  refine shp_tup fun z hz => ?_
  rcases List.mem_cons.mp hz with rfl | hz
  · exact shp_int _ _
  rcases List.mem_cons.mp hz with rfl | hz
  · exact shp_tie 0 _
  rcases List.mem_cons.mp hz with rfl | hz
  · exact shp_int _ _
  cases hz
theorem shp_boxes (n : Nat) : Shp 3 (.tuple ((List.range n).map boxI)) := shp_tup fun z hz => by
  obtain ⟨k, _, rfl⟩ := List.mem_map.mp hz
  exact shp_box k
theorem shp_item (k : Nat) : Shp 3 (itemF k) := by
  unfold itemF
  split
  · exact shp_boxes 8
  · split <;> exact shp_int _ _
theorem shp_boxF (k : Nat) : Shp 4 (boxF k) := by
  refine shp_tup fun z hz => ?_
  rcases List.mem_cons.mp hz with rfl | hz
  · exact shp_item k
  rcases List.mem_cons.mp hz with rfl | hz
  · exact shp_int _ _
  rcases List.mem_cons.mp hz with rfl | hz
  · exact shp_mono (shp_tie 0 _) (by decide)
  cases hz
theorem tup_boxes (n : Nat) : tupOnlyAll ((List.range n).map boxI) = true := tupOnly_tup (shp_boxes n).1
theorem tup_boxesF (n : Nat) : tupOnlyAll ((List.range n).map boxF) = true := tupOnly_all fun z hz => by
  obtain ⟨k, _, rfl⟩ := List.mem_map.mp hz
  exact (shp_boxF k).1
theorem dp_int {K : PySem.W.Frag} {H : Hp} {i j : Int} (h : i = j) : Dp K H (.int i) (.int j) := by
  subst h
  exact .int i
section
variable {P : Program} {w : World} {K : PySem.W.Frag} {mg : Str → Option Value} {base : Heap} {f : Addr} {fd : FuncData}
def spGraphAny (K : PySem.W.Frag) : Sp := fun vs H Q E => ∃ n, n ≤ 4 ∧ spGraph K n vs H Q E
theorem FnOk.anyG {k : Nat} {ps : List Str} (F : ∀ n, n ≤ 4 → FnOk P w K mg base CX0 k f fd ps (spGraph K n)) : FnOk P w K mg base CX0 k f fd ps (spGraphAny K) :=
  ⟨fun vs H Q E ⟨n, hn, h⟩ => (F n hn).len vs H Q E h, fun A outer s H args us vs Q E h1 h2 h3 h4 ⟨n, hn, h⟩ => (F n hn).run A outer s H args us vs Q E h1 h2 h3 h4 h⟩
def spSome (K : PySem.W.Frag) : Sp := fun vs H Q _ => ∃ (st : Addr), vs = [.ref st] ∧ StAt H st ∧ ∀ v d (c : Nat) H', Mv st H H' → Dp K H' v d → gsz 4 d = some c → Q v H'
theorem scSome : FnScope ["_law_state_here", "_law_way", "_law_k", "_law_inner_here", "_law_found"] ["_law_state_here"] (defScope sSome) :=
  ⟨rfl, rfl, rfl, by decide +kernel, rfl, by decide +kernel, by decide +kernel⟩
abbrev teI : TE := tTup (tCons (tVar 2) (tCons (tTup (tCons (tC (.str "tie")) (tCons (tVar 2) tNil))) (tCons (tC (.int 0)) tNil)))
abbrev rMin2 : List V → Hp → VK → Prop := fun xs H Q => ∃ i j, xs = [.int i, .int j] ∧ Q (.int (if j < i then j else i)) H
abbrev teF (K : PySem.W.Frag) : TE := tTup (tCons (tOp (rIxL K) (tLst (tCons (tVar 3) (tCons (tVar 3) (tCons (tC (.int 0)) (tCons (tUn (rU fun i => .int (-i)) (tC (.int 1))) tNil))))) (tCB rMin2 (tCons (tVar 2) (tCons (tC (.int 3)) tNil))))
  (tCons (tVar 2) (tCons (tTup (tCons (tC (.str "tie")) (tCons (tOp (rI0 fun i j => .int (i - j)) (tC (.int 7)) (tVar 2)) tNil))) tNil)))
theorem ok_some {k : Nat} (F : Fun K "_law_some_graph" "_law_some_graph" sSome f fd) (T : Free mg) (cC : Cal P w K mg base "_law_choice" k ["_law_state_here", "_law_many"] spChoice)
    (cG : Cal P w K mg base "_law_graph" k ["_law_state_here", "_law_deep", "_law_room"] (spGraphAny K)) : FnOk P w K mg base CX0 (k + 1) f fd ["_law_state_here"] (spSome K) := by
  refine F.ok scSome (fun vs H Q E h => ?_) (fun cdv A outer s H vs Q E hr h => ?_)
  · obtain ⟨st, rfl, _⟩ := h
    rfl
  obtain ⟨st, rfl, sa, q⟩ := h
  refine ⟨_, pss_cons (ps_set (i := 1) scSome.nd rfl (.inl rfl) (pe_cal cC hr rfl (pa_cons (pv 0) (pa_cons pe_int pa_nil))))
    (pss_cons (ps_set (i := 3) scSome.nd rfl (.inr rfl) (pe_callTy call_tuple_of rfl T.tuple (by decide +kernel) (pa_cons
      (pe_lc (own := [("_law_k", 2)]) (g := gName 2) (tt := tYes) (te := teI) rfl scSome.nd (pi_range1 rfl T.range (pa_cons pe_int pa_nil))
        (blkOk_by (own := [("_law_k", 2)]) (N := ["_law_state_here", "_law_way", "_law_k", "_law_inner_here", "_law_found"]) (sc := defScope sSome) (by decide +kernel))
        (fun _ _ _ _ _ => pg_name (i := 2) scSome.nd rfl (Or.inl rfl)) (fun _ _ _ _ _ => pts_nil) (fun _ _ _ _ _ => pe_tup (pa_cons (pv 2) (pa_cons (pe_tup (pa_cons pe_str (pa_cons (pv 2) pa_nil))) (pa_cons pe_int pa_nil))))) pa_nil)))
    (pss_cons (ps_if (pt_cmpR op_eq (pv 1) pe_int (nomark _)) (pss_one (ps_ret (pe_tup (pa_cons (pe_tup (pa_cons pe_int (pa_cons pe_int (pa_cons pe_int pa_nil)))) pa_nil)))) pss_nil)
    (pss_cons (ps_if (pt_cmpR op_eq (pv 1) pe_int (nomark _)) (pss_one (ps_ret (pe_callTy call_tuple_of rfl T.tuple (by decide +kernel) (pa_cons
      (pe_lc (own := [("_law_k", 2)]) (g := gName 2) (tt := tYes) (te := teF K) rfl scSome.nd (pi_range1 rfl T.range (pa_cons pe_int pa_nil))
        (blkOk_by (own := [("_law_k", 2)]) (N := ["_law_state_here", "_law_way", "_law_k", "_law_inner_here", "_law_found"]) (sc := defScope sSome) (by decide +kernel))
        (fun _ _ _ _ _ => pg_name (i := 2) scSome.nd rfl (Or.inl rfl)) (fun _ _ _ _ _ => pts_nil)
        (fun _ _ _ _ _ => pe_tup (pa_cons (pe_ix ix_list (pe_lst (pa_cons (pv 3) (pa_cons (pv 3) (pa_cons pe_int (pa_cons (pe_un un_neg pe_int) pa_nil))))) (pe_callB (call_min2 rfl) rfl T.min (by decide +kernel) (pa_cons (pv 2) (pa_cons pe_int pa_nil))) (fun _ _ => rfl))
          (pa_cons (pv 2) (pa_cons (pe_tup (pa_cons pe_str (pa_cons (pe_op op_sub pe_int (pv 2)) pa_nil))) pa_nil))))) pa_nil)))) pss_nil)
    (pss_cons (ps_if (pt_cmpR op_eq (pv 1) pe_int (nomark _)) (pss_one (ps_ret (pe_tup (pa_cons (pe_tup (pa_cons (pv 3) (pa_cons (pv 3) (pa_cons (pe_slice sl_tup (pv 3) po_none (po_some pe_int)) pa_nil)))) pa_nil)))) pss_nil)
    (pss_cons (ps_if (pt_cmpR op_eq (pv 1) pe_int (nomark _))
      (pss_cons (ps_set (i := 4) scSome.nd rfl (.inl rfl) (pe_tup (pa_cons (pe_tup (pa_cons pe_int (pa_cons pe_int (pa_cons pe_int pa_nil)))) pa_nil)))
      (pss_cons (ps_for PassesOwn.never rfl (pi_range1 rfl T.range (pa_cons pe_int pa_nil)) (pg_name (i := 2) scSome.nd rfl (.inl rfl))
        (pss_one (ps_set (i := 4) scSome.nd rfl (.inl rfl) (pe_tup (pa_cons (pe_tup (pa_cons (pv 4) (pa_cons (pe_tup (pa_cons pe_str (pa_cons pe_int pa_nil))) (pa_cons (pv 2) pa_nil)))) pa_nil)))))
      (pss_one (ps_ret (pv 4))))) pss_nil)
    (pss_one (ps_ret (pe_cal cG hr rfl (pa_cons (pv 0) (pa_cons (pe_op op_add pe_int (pe_cal cC hr rfl (pa_cons (pv 0) (pa_cons pe_int pa_nil)))) (pa_cons (pe_ix ix_list (pe_lst (pa_cons pe_int (pa_cons pe_int (pa_cons pe_int pa_nil)))) (pe_op op_sub (pv 1) pe_int) (fun _ _ => rfl)) pa_nil))))))))))), ?_⟩
  -- way
  refine ⟨_, rfl, st, 7, rfl, sa, by decide, by decide, fun way H1 w0 w7 mv1 => ?_⟩
  -- the inner one
  refine ⟨8, rfl, by decide, by decide, fun D hD => ?_⟩
  refine lc_range (lo := 0) (n := 8) (fun j H' => Same H1 H' ∧ ∃ zs, H' D = some (.lst zs) ∧ DpAll K H' zs ((List.range j).map boxI)) ⟨same_new hD _, [], upd_same, .nil⟩ (fun j H2 hj h => ?_) (fun H2 h => ?_)
  · obtain ⟨s2, zs, hz, hd⟩ := h
    have lz := dpAll_len hd
    rw [List.length_map, List.length_range] at lz
    refine ⟨rfl, yesT ?_⟩
    refine ⟨_, rfl, _, rfl, small (by show 2 ≤ 1000; decide), fun p1 hp1 => ⟨small (by show 3 ≤ 1000; decide), fun p2 hp2 => ?_⟩⟩
    have s3 := same_new hp1 (.tup [.str "tie", .int (0 + (j : Int))])
    have s4 := same_new hp2 (.tup [.int (0 + (j : Int)), .ref p1, .int 0])
    have hz4 := s4 _ _ (s3 _ _ hz)
    refine ⟨zs, hz4, Nat.lt_of_lt_of_le (show zs.length < 1000 by omega) (small (Nat.le_refl _)), ?_, zs ++ [.ref p2], upd_same, ?_⟩
    · exact fun b u e => by rw [upd_ne (ne_of_none e hD)]; exact s4 _ _ (s3 _ _ (s2 _ _ e))
    · have kt := KT.upd (l' := zs ++ [.ref p2]) hz4
      rw [range_more]
      refine dpAll_snoc (dp_kt kt _ _ (shp_box j).1 ?_) (dpAll_kt ((KT.of_same (s3.trans s4)).trans kt) _ _ (tup_boxes j) hd)
      have e0 : (0 + (j : Int)) = (j : Int) := by omega
      exact .tup (SqT.of upd_same) (.cons (dp_int e0) (.cons (.tup (SqT.of (s4 _ _ upd_same)) (.cons (.str _) (.cons (dp_int e0) .nil))) (.cons (.int 0) .nil)))
  · obtain ⟨s2, zs, hz, hd⟩ := h
    refine ⟨D, zs, rfl, .inl ⟨SqL.of hz, fun ia hia => ?_⟩⟩
    have s3 := same_new hia (.tup zs)
    have hI : Dp K (upd H2 ia (.tup zs)) (.ref ia) innerT := .tup (SqT.of upd_same) (dpAll_kt (KT.of_same s3) _ _ (tup_boxes 8) hd)
    have mvI : Mv st H (upd H2 ia (.tup zs)) := (mv1.same s2).same s3
    generalize upd H2 ia (.tup zs) = H3 at hI mvI
    have lz := dpAll_len hd
    -- the ways
    refine ⟨_, rfl, rfl, _, rfl, ?_⟩
    refine ite2 (fun c0 => ?_) (fun c0 => ?_)
    · refine ⟨small (by show 3 ≤ 1000; decide), fun p1 hp1 => ⟨small (by show 1 ≤ 1000; decide), fun p2 hp2 => ?_⟩⟩
      obtain ⟨sb, db⟩ := bare_new (K := K) hp1 hp2
      exact q _ _ 1 _ (mvI.same sb) db g_bare
    refine ⟨_, rfl, rfl, _, rfl, ?_⟩
    refine ite2 (fun c1 => ?_) (fun c1 => ?_)
    · refine ⟨8, rfl, by decide, by decide, fun D2 hD2 => ?_⟩
      refine lc_range (lo := 0) (n := 8) (fun j H' => Same H3 H' ∧ ∃ zs, H' D2 = some (.lst zs) ∧ DpAll K H' zs ((List.range j).map boxF)) ⟨same_new hD2 _, [], upd_same, .nil⟩ (fun j H4 hj h => ?_) (fun H4 h => ?_)
      · obtain ⟨s4, ws, hw, hd4⟩ := h
        have lw := dpAll_len hd4
        rw [List.length_map, List.length_range] at lw
        refine ⟨rfl, yesT ?_⟩
        refine ⟨_, rfl, _, rfl, _, rfl, small (by show 4 ≤ 1000; decide), fun p1 hp1 => ?_⟩
        have s5 := same_new hp1 (.lst [.ref ia, .ref ia, .int 0, .int (-1)])
        have hI5 := dp_kt (KT.of_same (s4.trans s5)) _ _ (shp_boxes 8).1 hI
        have hit : ∃ v, atI [V.ref ia, .ref ia, .int 0, .int (-1)] (if (3 : Int) < 0 + (j : Int) then 3 else 0 + (j : Int)) = some v ∧ Dp K (upd H4 p1 (.lst [.ref ia, .ref ia, .int 0, .int (-1)])) v (itemF j) := by
          have : j = 0 ∨ j = 1 ∨ j = 2 ∨ 3 ≤ j := by omega
          rcases this with rfl | rfl | rfl | h3
          · exact ⟨_, atI_nat (j := 0) rfl, hI5⟩
          · exact ⟨_, atI_nat (j := 1) rfl, hI5⟩
          · exact ⟨_, atI_nat (j := 2) rfl, .int 0⟩
          · have e : (if (3 : Int) < 0 + (j : Int) then 3 else 0 + (j : Int)) = ((3 : Nat) : Int) := by split <;> omega
            rw [e]
            refine ⟨_, atI_nat (j := 3) rfl, ?_⟩
            have e2 : itemF j = .int (-1) := by unfold itemF; rw [if_neg (by omega), if_neg (by omega)]
            rw [e2]
            exact .int (-1)
        obtain ⟨v, hv, hdv⟩ := hit
        refine ⟨_, rfl, _, _, rfl, p1, _, _, v, rfl, rfl, SqL.of upd_same, hv, _, rfl, _, rfl, _, _, rfl, rfl, small (by show 2 ≤ 1000; decide), fun p2 hp2 => ⟨small (by show 3 ≤ 1000; decide), fun p3 hp3 => ?_⟩⟩
        have s6 := same_new hp2 (.tup [.str "tie", .int (7 - (0 + (j : Int)))])
        have s7 := same_new hp3 (.tup [v, .int (0 + (j : Int)), .ref p2])
        have hw7 := s7 _ _ (s6 _ _ (s5 _ _ hw))
        refine ⟨ws, hw7, Nat.lt_of_lt_of_le (show ws.length < 1000 by omega) (small (Nat.le_refl _)), ?_, ws ++ [.ref p3], upd_same, ?_⟩
        · exact fun b u e => by rw [upd_ne (ne_of_none e hD2)]; exact s7 _ _ (s6 _ _ (s5 _ _ (s4 _ _ e)))
        · have kt := KT.upd (l' := ws ++ [.ref p3]) hw7
          rw [range_more]
          refine dpAll_snoc (dp_kt kt _ _ (shp_boxF j).1 ?_) (dpAll_kt ((KT.of_same (s5.trans (s6.trans s7))).trans kt) _ _ (tup_boxesF j) hd4)
          have e0 : (0 + (j : Int)) = (j : Int) := by omega
          have d1 : Dp K (upd (upd (upd H4 p1 (.lst [.ref ia, .ref ia, .int 0, .int (-1)])) p2 (.tup [.str "tie", .int (7 - (0 + (j : Int)))])) p3 (.tup [v, .int (0 + (j : Int)), .ref p2])) v (itemF j) := dp_kt (KT.of_same (s6.trans s7)) _ _ (shp_item j).1 hdv
          refine .tup (SqT.of upd_same) (.cons d1 (.cons (dp_int e0) (.cons (.tup (SqT.of (s7 _ _ upd_same)) (.cons (.str _) (.cons (dp_int (show 7 - (0 + (j : Int)) = 7 - (j : Int) by omega)) .nil))) .nil)))
      · obtain ⟨s4, ws, hw, hd4⟩ := h
        refine ⟨D2, ws, rfl, .inl ⟨SqL.of hw, fun p hp => ?_⟩⟩
        have s5 := same_new hp (.tup ws)
        exact q _ fullT 24 _ ((mvI.same s4).same s5) (.tup (SqT.of upd_same) (dpAll_kt (KT.of_same s5) _ _ (tup_boxesF 8) hd4)) g_full
    refine ⟨_, rfl, rfl, _, rfl, ?_⟩
    refine ite2 (fun c2 => ?_) (fun c2 => ?_)
    · cases hI with
      | @tup _ is _ hti hai =>
        have li : is.length = 8 := by rw [dpAll_len hai, List.length_map, List.length_range]
        refine ⟨_, rfl, _, rfl, _, rfl, 7, rfl, ia, is, rfl, hti, ?_, fun p1 hp1 => ⟨small (by show 3 ≤ 1000; decide), fun p2 hp2 => ⟨small (by show 1 ≤ 1000; decide), fun p3 hp3 => ?_⟩⟩⟩
        · intro z
          have z2 := z.2
          rw [show HT.sIx is.length is.length (some 7) = min 7 is.length from HT.sIx_nat is.length is.length 7] at z2
          omega
        · have s5 := same_new hp1 (.tup (cutV is none (some 7)))
          have s6 := same_new hp2 (.tup [.ref ia, .ref ia, .ref p1])
          have s7 := same_new hp3 (.tup [.ref p2])
          have ec : cutV is none (some 7) = is.take 7 := by
            unfold cutV
            rw [HT.sIx_none, show HT.sIx is.length is.length (some 7) = min 7 is.length from HT.sIx_nat is.length is.length 7, li]
            rfl
          have hc : ∀ {H' : Hp} {n : Nat} {xs : List V} {ds : List PyData}, DpAll K H' xs ds → DpAll K H' (xs.take n) (ds.take n) := by
            intro H' n xs
            induction n generalizing xs with
            | zero => intro ds h; exact .nil
            | succ n ih =>
              intro ds h
              cases h with
              | nil => exact .nil
              | cons a t => exact .cons a (ih t)
          have hcut : ∀ Hx, DpAll K Hx (is.take 7) ((List.range 7).map boxI) → DpAll K Hx (cutV is none (some 7)) ((List.range 7).map boxI) := fun Hx h => by
            rw [ec]
            exact h
          have k7 := KT.of_same (s5.trans (s6.trans s7))
          have dI := dp_kt k7 _ _ (shp_boxes 8).1 (.tup hti hai)
          have dC : Dp K (upd (upd (upd H3 p1 (.tup (cutV is none (some 7)))) p2 (.tup [.ref ia, .ref ia, .ref p1])) p3 (.tup [.ref p2])) (.ref p1) innerC := by
            refine .tup (SqT.of (s7 _ _ (s6 _ _ upd_same))) (hcut _ ?_)
            exact dpAll_kt k7 _ _ (tup_boxes 7) (show DpAll K H3 (is.take 7) ((List.range 7).map boxI) from hc (n := 7) hai)
          exact q _ wideT 24 _ (mvI.same (s5.trans (s6.trans s7))) (.tup (SqT.of upd_same) (.cons (.tup (SqT.of (s7 _ _ upd_same)) (.cons dI (.cons dI (.cons dC .nil)))) .nil)) g_wide
    refine ⟨_, rfl, rfl, _, rfl, ?_⟩
    refine ite2 (fun c3 => ?_) (fun c3 => ?_)
    · refine ⟨small (by show 3 ≤ 1000; decide), fun p1 hp1 => ⟨small (by show 1 ≤ 1000; decide), fun p2 hp2 => ?_⟩⟩
      have s4 := same_new hp1 (.tup [.int 5, .int 0, .int 0])
      have s5 := same_new hp2 (.tup [.ref p1])
      refine ⟨3, rfl, by decide, by decide, ?_⟩
      have shc : ∀ i, Shp (2 * i + 2) (chainT i) := fun i => by
        induction i with
        | zero =>
          refine shp_tup fun z hz => ?_
          rcases List.mem_cons.mp hz with rfl | hz
          · refine shp_tup (k := 0) fun z hz => ?_
            rcases List.mem_cons.mp hz with rfl | hz
            · exact shp_int _ _
            rcases List.mem_cons.mp hz with rfl | hz
            · exact shp_int _ _
            rcases List.mem_cons.mp hz with rfl | hz
            · exact shp_int _ _
            cases hz
          · cases hz
        | succ i ih =>
          refine shp_tup (k := 2 * i + 3) fun z hz => ?_
          rcases List.mem_cons.mp hz with rfl | hz
          · refine shp_tup (k := 2 * i + 2) fun z hz => ?_
            rcases List.mem_cons.mp hz with rfl | hz
            · exact ih
            rcases List.mem_cons.mp hz with rfl | hz
            · exact shp_tie _ _
            rcases List.mem_cons.mp hz with rfl | hz
            · exact shp_int _ _
            cases hz
          · cases hz
      refine for_range (lo := 0) (n := 3) (fun i σ H' => ∃ (fa : Addr) (o2 : Option V), σ = [some (.ref st), some (.int way), o2, some (.ref ia), some (.ref fa)] ∧ Same H3 H' ∧ Dp K H' (.ref fa) (chainT i))
        ⟨p2, _, rfl, s4.trans s5, .tup (SqT.of upd_same) (.cons (.tup (SqT.of (s5 _ _ upd_same)) (.cons (.int 5) (.cons (.int 0) (.cons (.int 0) .nil)))) .nil)⟩ (fun i σ H' hi h => ?_) (fun σ H' h => ?_)
      · obtain ⟨fa, o2, rfl, sm, hf⟩ := h
        refine ⟨_, rfl, small (by show 2 ≤ 1000; decide), fun t1 ht1 => ⟨_, rfl, small (by show 3 ≤ 1000; decide), fun t2 ht2 => ⟨small (by show 1 ≤ 1000; decide), fun t3 ht3 => ?_⟩⟩⟩
        have z1 := same_new ht1 (.tup [.str "tie", .int 0])
        have z2 := same_new ht2 (.tup [.ref fa, .ref t1, .int (0 + (i : Int))])
        have z3 := same_new ht3 (.tup [.ref t2])
        have e0 : (0 + (i : Int)) = (i : Int) := by omega
        exact ⟨t3, _, rfl, sm.trans (z1.trans (z2.trans z3)), .tup (SqT.of upd_same) (.cons (.tup (SqT.of (z3 _ _ upd_same)) (.cons (dp_kt (KT.of_same (z1.trans (z2.trans z3))) _ _ (shc i).1 hf) (.cons (.tup (SqT.of (z3 _ _ (z2 _ _ upd_same))) (.cons (.str _) (.cons (.int 0) .nil))) (.cons (dp_int e0) .nil)))) .nil)⟩
      · obtain ⟨fa, o2, rfl, sm, hf⟩ := h
        exact ⟨_, rfl, q _ _ 4 _ (mvI.same sm) hf g_chain⟩
    · have hw : way = 4 ∨ way = 5 ∨ way = 6 := by
        have a0 : ¬ V.int way = V.int 0 := of_decide_eq_false (Bool.eq_false_iff.mpr c0)
        have a1 : ¬ V.int way = V.int 1 := of_decide_eq_false (Bool.eq_false_iff.mpr c1)
        have a2 : ¬ V.int way = V.int 2 := of_decide_eq_false (Bool.eq_false_iff.mpr c2)
        have a3 : ¬ V.int way = V.int 3 := of_decide_eq_false (Bool.eq_false_iff.mpr c3)
        have b0 : way ≠ 0 := fun z => a0 (by rw [z])
        have b1 : way ≠ 1 := fun z => a1 (by rw [z])
        have b2 : way ≠ 2 := fun z => a2 (by rw [z])
        have b3 : way ≠ 3 := fun z => a3 (by rw [z])
        omega
      refine ⟨_, rfl, _, rfl, st, 4, rfl, mvI.sa, by decide, by decide, fun r H4 r0 r4 mv4 => ⟨_, _, rfl, rfl, small (by show 3 ≤ 1000; decide), fun p1 hp1 => ?_⟩⟩
      have s5 := same_new hp1 (.lst [.int 3, .int 8, .int 24])
      have mv5 := mv4.same s5
      have hroom : ∃ room : Int, atI [V.int 3, .int 8, .int 24] (way - 4) = some (.int room) ∧ 1 ≤ room ∧ room ≤ 24 := by
        rcases hw with rfl | rfl | rfl
        · exact ⟨3, atI_nat (j := 0) rfl, by decide, by decide⟩
        · exact ⟨8, atI_nat (j := 1) rfl, by decide, by decide⟩
        · exact ⟨24, atI_nat (j := 2) rfl, by decide, by decide⟩
      obtain ⟨room, hat, g1, g24⟩ := hroom
      refine ⟨_, rfl, _, _, rfl, rfl, p1, _, _, _, rfl, rfl, SqL.of upd_same, hat, ?_⟩
      refine ⟨(1 + r).toNat, by omega, st, room, congrArg (fun z => [V.ref st, V.int z, V.int room]) (show 1 + r = (((1 + r).toNat : Nat) : Int) by omega), by omega, by omega, mv5.sa, g1, g24, fun v d c H6 mv6 hd6 hg6 _ => ?_⟩
      exact q v d c H6 (mvI.trans (mv5.trans mv6)) hd6 (gsz_mono hg6 (by omega))
end
/-! refusals -/
def CalX (P : Program) (w : World) (K : PySem.W.Frag) (mg : Str → Option Value) (base : Heap) (x : Str) (k : Nat) (ps : List Str) (sp : Sp) : Prop :=
  ∃ (f : Addr) (fd : FuncData), FnOk P w K mg base (L2.CX P w) k f fd ps sp ∧ mg x = some (.ref f) ∧ PySem.W.keepIn K (.ref f) = true ∧ Binds K fd ps []
def CalN (P : Program) (w : World) (K : PySem.W.Frag) (mg : Str → Option Value) (base : Heap) (x : Str) (k : Nat) (ps : List Str) (n : Nat) (ks : List Str) (g : List Value → List Value → List Value) (gV : List V → List V → List V) (sp : Sp) : Prop :=
  ∃ (f : Addr) (fd : FuncData), FnOk P w K mg base (L2.CX P w) k f fd ps sp ∧ mg x = some (.ref f) ∧ PySem.W.keepIn K (.ref f) = true ∧ KBn K fd ps n ks g gV
abbrev wE (E : XK) : WX := fun cls d _ H => E cls d H
theorem pass_of {X : Cx} {E : XK} (tk : Takes X (wE E)) : Passes (L2.CX X.prog X.w) X E := passes_call tk fun _ _ _ _ h => h
theorem CalX.mono {P : Program} {w : World} {K : PySem.W.Frag} {mg : Str → Option Value} {base : Heap} {x : Str} {j k : Nat} {ps : List Str} {sp : Sp} (C : CalX P w K mg base x j ps sp) (h : j ≤ k) : CalX P w K mg base x k ps sp := by
  obtain ⟨f, fd, F, r⟩ := C
  exact ⟨f, fd, F.mono h, r⟩
theorem pe_calX {X : Cx} {E : XK} {x : Str} {p pos : Pos} {e : Expr} {es : List Expr} {t : TA} {k : Nat} {ps : List Str} {sp : Sp} (C : CalX X.prog X.w X.K X.mg X.base x k ps sp) (hr : Room k X.A) (hg : Gl X x) (tk : Takes X (wE E)) (ha : PA X (e :: es) t)
    (h1 : (x == ("__debug__" : Str)) = false := by decide) (h2 : starEach (e :: es) X.env = (false, eval e X.env) :: starEach es X.env := by rfl) (h3 : ((backTo pos (starEach es X.env)).any fun x => x.fst) = false := by rfl) :
    PE X (.Call (.Name x p) (e :: es) [] pos) (tCall sp [] E t) := by
  obtain ⟨f, fd, F, hm, hk, hb⟩ := C
  exact pe_call F hr hg hm hk hb .nil (pass_of tk) ha h1 h2 h3
theorem pe_pkX {X : Cx} {E : XK} {x : Str} {p pos : Pos} {k n : Nat} {ps ks : List Str} {g : List Value → List Value → List Value} {gV : List V → List V → List V} {sp : Sp} {e : Expr} {es : List Expr} {kws : List Keyword} {t tq : TA}
    (C : CalN X.prog X.w X.K X.mg X.base x k ps n ks g gV sp) (hr : Room k X.A) (hg : Gl X x) (tk : Takes X (wE E)) (ha : PA X (e :: es) t) (hkw : PK X kws tq)
    (h1 : (backToKw pos (keywordEach kws X.env)).all (·.1.isSome) = true := by rfl) (h2 : (backToKw pos (keywordEach kws X.env)).filterMap (·.1) = ks := by rfl) (h3 : (x == ("__debug__" : Str)) = false := by decide) (h4 : starEach (e :: es) X.env = (false, eval e X.env) :: starEach es X.env := by rfl)
    (h5 : ((backTo pos (starEach (e :: es) X.env)).any (·.1) || (backToKw pos (keywordEach kws X.env)).any (·.1.isNone)) = false := by rfl) : PE X (.Call (.Name x p) (e :: es) kws pos) (tCallN n ks.length sp gV E t tq) := by
  obtain ⟨f, fd, F, hm, hk, hb⟩ := C
  exact pe_callN F hr hg hm hk hb (pass_of tk) ha hkw h1 h2 h3 h4 h5
/-- an error class of the program's own, without an __init__ -/
structure Exn (K : PySem.W.Frag) (mg : Str → Option Value) (x : Str) (C : Addr) : Prop where
  q : PySem.W.excIn K C [.type "ValueError", .type "Exception", .type "BaseException", .type "object"] "ValueError.__new__" = true
  g : mg x = some (.ref C)
  k : PySem.W.keepIn K (.ref C) = true
  s : PySem.W.subIn K (.ref C) (.type "BaseException") = some true
  t : PySem.W.typeIn K (.ref C) = some (.type "type")
section
variable {P : Program} {w : World} {K : PySem.W.Frag} {mg : Str → Option Value} {base : Heap} {f CG CP : Addr} {fd : FuncData}
/-! is_place, of anything -/
def spPlaceD (K : PySem.W.Frag) : Sp := fun vs H Q _ => ∃ (x : V) (d : PyData), vs = [x] ∧ Dp K H x d ∧ Q (.bl (withinD 0 2 d)) H
theorem ok_placeD {k : Nat} (F : Fun K "is_place" "is_place" sPlace f fd) (C : Cst mg) (cW : Cal P w K mg base "is_within" k ["thing", "least", "most"] (spWithin K)) : FnOk P w K mg base CX0 (k + 1) f fd ["thing"] (spPlaceD K) := by
  refine F.ok scPlace (fun vs H Q E h => ?_) (fun cdv A outer s H vs Q E hr h => ?_)
  · obtain ⟨x, d, rfl, _⟩ := h
    rfl
  obtain ⟨x, d, rfl, hx, q⟩ := h
  refine ⟨_, pss_one (ps_ret (pe_cal cW hr rfl (pa_cons (pv 0) (pa_cons pe_int (pa_cons (pe_op op_sub (pe_globI rfl C.places) pe_int) pa_nil))))), ?_⟩
  exact ⟨_, rfl, _, _, rfl, rfl, x, d, 0, 2, rfl, hx, q⟩
/-! check_graph, check_place -/
def spCheckGX (K : PySem.W.Frag) (CG : Addr) : Sp := fun vs H Q E => ∃ (x : V) (d : PyData), vs = [x] ∧ Dp K H x d ∧ ((gsz 4 d = none ∧ E (.ref CG) none H) ∨ ((∃ c, gsz 4 d = some c) ∧ Q .non H))
theorem ok_checkGX {k : Nat} (F : Fun K "check_graph" "check_graph" sCheckG f fd) (X : Exn K mg "NoGraph" CG) (cG : Cal P w K mg base "is_graph" k ["thing"] (spIsGraph K)) : FnOk P w K mg base (L2.CX P w) (k + 1) f fd ["graph"] (spCheckGX K CG) := by
  refine F.okX scCheckG (fun vs H Q E h => ?_) (fun cdv A outer s H vs Q E hr h => ?_)
  · obtain ⟨x, d, rfl, _⟩ := h
    rfl
  obtain ⟨x, d, rfl, hx, q⟩ := h
  refine ⟨_, pss_one (ps_if (pt_not (pt_val (pe_cal cG hr rfl (pa_cons (pv 0) pa_nil)))) (pss_one (ps_raise rfl (takes_of (E := E) rfl rfl rfl rfl) (pmk_own PySem.F.excBase_ValueError X.q X.g X.k (raises_own X.s X.t) rfl))) pss_nil), ?_⟩
  refine ⟨_, rfl, x, d, rfl, hx, trivial, _, rfl, ?_⟩
  rcases q with ⟨e, q⟩ | ⟨⟨c, e⟩, q⟩
  · rw [e]
    exact ifT rfl q
  · rw [e]
    exact ifF rfl q
def spCheckPX (K : PySem.W.Frag) (CP : Addr) : Sp := fun vs H Q E => ∃ (x : V) (d : PyData), vs = [x] ∧ Dp K H x d ∧ ((withinD 0 2 d = false ∧ E (.ref CP) none H) ∨ (withinD 0 2 d = true ∧ Q .non H))
theorem ok_checkPX {k : Nat} (F : Fun K "check_place" "check_place" sCheckP f fd) (X : Exn K mg "NoPlace" CP) (cP : Cal P w K mg base "is_place" k ["thing"] (spPlaceD K)) : FnOk P w K mg base (L2.CX P w) (k + 1) f fd ["k"] (spCheckPX K CP) := by
  refine F.okX scCheckP (fun vs H Q E h => ?_) (fun cdv A outer s H vs Q E hr h => ?_)
  · obtain ⟨x, d, rfl, _⟩ := h
    rfl
  obtain ⟨x, d, rfl, hx, q⟩ := h
  refine ⟨_, pss_one (ps_if (pt_not (pt_val (pe_cal cP hr rfl (pa_cons (pv 0) pa_nil)))) (pss_one (ps_raise rfl (takes_of (E := E) rfl rfl rfl rfl) (pmk_own PySem.F.excBase_ValueError X.q X.g X.k (raises_own X.s X.t) rfl))) pss_nil), ?_⟩
  refine ⟨_, rfl, x, d, rfl, hx, _, rfl, ?_⟩
  rcases q with ⟨e, q⟩ | ⟨e, q⟩
  · rw [e]
    exact ifT rfl q
  · rw [e]
    exact ifF rfl q
end
/-- what isn't come to -/
theorem pe_nev {X : Cx} {e : Expr} : PE X e (fun _ _ _ => False) := ⟨fun _ _ _ _ _ _ h => h.elim⟩
theorem pt_nev {X : Cx} {e : Expr} : PT X e (fun _ _ _ => False) := ⟨fun _ _ _ _ _ _ h => h.elim⟩
section
variable {P : Program} {w : World} {K : PySem.W.Frag} {mg : Str → Option Value} {base : Heap} {f CG CP : Addr} {fd : FuncData}
/-- a graph and a place, of which one is none -/
def Bad2 (K : PySem.W.Frag) (CG CP : Addr) (H : Hp) (g k : V) (E : XK) : Prop :=
  (∃ d, Dp K H g d ∧ gsz 4 d = none ∧ E (.ref CG) none H) ∨ (∃ d c e, Dp K H g d ∧ gsz 4 d = some c ∧ Dp K H k e ∧ withinD 0 2 e = false ∧ E (.ref CP) none H)
def spBad3 (K : PySem.W.Frag) (CG CP : Addr) : Sp := fun vs H _ E => ∃ g b k, vs = [g, b, k] ∧ Bad2 K CG CP H g k E
def spBad4 (K : PySem.W.Frag) (CG CP : Addr) : Sp := fun vs H _ E => ∃ g b k o, vs = [g, b, k, o] ∧ Bad2 K CG CP H g k E
def spBadG (K : PySem.W.Frag) (CG CP : Addr) : Sp := fun vs H _ E => ∃ g b k o, vs = [g, b, k, o] ∧ (Bad2 K CG CP H g k E ∨ ∃ d c e d', Dp K H g d ∧ gsz 4 d = some c ∧ Dp K H k e ∧ withinD 0 2 e = true ∧ Dp K H o d' ∧ gsz 4 d' = none ∧ E (.ref CG) none H)
def spBad1 (K : PySem.W.Frag) (CG : Addr) : Sp := fun vs H _ E => ∃ g d, vs = [g] ∧ Dp K H g d ∧ gsz 4 d = none ∧ E (.ref CG) none H
theorem scWN : FnScope ["graph", "b", "k", "number"] ["graph", "b", "k", "number"] (defScope sWithNumber) := ⟨rfl, rfl, rfl, by decide +kernel, rfl, by decide +kernel, by decide +kernel⟩
theorem scWT : FnScope ["graph", "b", "k", "to"] ["graph", "b", "k", "to"] (defScope sWithTie) := ⟨rfl, rfl, rfl, by decide +kernel, rfl, by decide +kernel, by decide +kernel⟩
theorem scWG : FnScope ["graph", "b", "k", "other"] ["graph", "b", "k", "other"] (defScope sWithGraph) := ⟨rfl, rfl, rfl, by decide +kernel, rfl, by decide +kernel, by decide +kernel⟩
theorem scSA : FnScope ["graph", "b", "k"] ["graph", "b", "k"] (defScope sSortAt) := ⟨rfl, rfl, rfl, by decide +kernel, rfl, by decide +kernel, by decide +kernel⟩
theorem scNA : FnScope ["graph", "b", "k", "sort"] ["graph", "b", "k"] (defScope sNumAt) := ⟨rfl, rfl, rfl, by decide +kernel, rfl, by decide +kernel, by decide +kernel⟩
theorem scGA : FnScope ["graph", "b", "k"] ["graph", "b", "k"] (defScope sGraphAt) := ⟨rfl, rfl, rfl, by decide +kernel, rfl, by decide +kernel, by decide +kernel⟩
theorem scGr : FnScope ["graph"] ["graph"] (defScope sGrown) := ⟨rfl, rfl, rfl, by decide +kernel, rfl, by decide +kernel, by decide +kernel⟩
theorem bad_wn {n : Nat} (F : Fun K "with_number" "with_number" sWithNumber f fd) (cG : CalX P w K mg base "check_graph" n ["graph"] (spCheckGX K CG)) (cP : CalX P w K mg base "check_place" n ["k"] (spCheckPX K CP)) : FnOk P w K mg base (L2.CX P w) (n + 1) f fd ["graph", "b", "k", "number"] (spBad4 K CG CP) := by
  refine F.okX scWN (fun vs H Q E h => ?_) (fun cdv A outer s H vs Q E hr h => ?_)
  · obtain ⟨g, b, k, o, rfl, _⟩ := h
    rfl
  obtain ⟨g, b, k, o, rfl, q⟩ := h
  refine ⟨_, pss_cons (ps_expr (pe_calX (E := E) cG hr rfl (takes_of rfl rfl rfl rfl) (pa_cons (pv 0) pa_nil))) (pss_cons (ps_expr (pe_calX (E := E) cP hr rfl (takes_of rfl rfl rfl rfl) (pa_cons (pv 2) pa_nil))) pss_never), ?_⟩
  rcases q with ⟨d, hd, e, q⟩ | ⟨d, c, e, hd, hc, he, hb, q⟩
  · exact ⟨_, rfl, g, d, rfl, hd, .inl ⟨e, q⟩⟩
  · exact ⟨_, rfl, g, d, rfl, hd, .inr ⟨⟨c, hc⟩, _, rfl, k, e, rfl, he, .inl ⟨hb, q⟩⟩⟩
theorem bad_wt {n : Nat} (F : Fun K "with_tie" "with_tie" sWithTie f fd) (cG : CalX P w K mg base "check_graph" n ["graph"] (spCheckGX K CG)) (cP : CalX P w K mg base "check_place" n ["k"] (spCheckPX K CP)) : FnOk P w K mg base (L2.CX P w) (n + 1) f fd ["graph", "b", "k", "to"] (spBad4 K CG CP) := by
  refine F.okX scWT (fun vs H Q E h => ?_) (fun cdv A outer s H vs Q E hr h => ?_)
  · obtain ⟨g, b, k, o, rfl, _⟩ := h
    rfl
  obtain ⟨g, b, k, o, rfl, q⟩ := h
  refine ⟨_, pss_cons (ps_expr (pe_calX (E := E) cG hr rfl (takes_of rfl rfl rfl rfl) (pa_cons (pv 0) pa_nil))) (pss_cons (ps_expr (pe_calX (E := E) cP hr rfl (takes_of rfl rfl rfl rfl) (pa_cons (pv 2) pa_nil))) pss_never), ?_⟩
  rcases q with ⟨d, hd, e, q⟩ | ⟨d, c, e, hd, hc, he, hb, q⟩
  · exact ⟨_, rfl, g, d, rfl, hd, .inl ⟨e, q⟩⟩
  · exact ⟨_, rfl, g, d, rfl, hd, .inr ⟨⟨c, hc⟩, _, rfl, k, e, rfl, he, .inl ⟨hb, q⟩⟩⟩
theorem bad_wg {n : Nat} (F : Fun K "with_graph" "with_graph" sWithGraph f fd) (cG : CalX P w K mg base "check_graph" n ["graph"] (spCheckGX K CG)) (cP : CalX P w K mg base "check_place" n ["k"] (spCheckPX K CP)) : FnOk P w K mg base (L2.CX P w) (n + 1) f fd ["graph", "b", "k", "other"] (spBadG K CG CP) := by
  refine F.okX scWG (fun vs H Q E h => ?_) (fun cdv A outer s H vs Q E hr h => ?_)
  · obtain ⟨g, b, k, o, rfl, _⟩ := h
    rfl
  obtain ⟨g, b, k, o, rfl, q⟩ := h
  refine ⟨_, pss_cons (ps_expr (pe_calX (E := E) cG hr rfl (takes_of rfl rfl rfl rfl) (pa_cons (pv 0) pa_nil))) (pss_cons (ps_expr (pe_calX (E := E) cP hr rfl (takes_of rfl rfl rfl rfl) (pa_cons (pv 2) pa_nil)))
    (pss_cons (ps_expr (pe_calX (E := E) cG hr rfl (takes_of rfl rfl rfl rfl) (pa_cons (pv 3) pa_nil))) pss_never)), ?_⟩
  rcases q with (⟨d, hd, e, q⟩ | ⟨d, c, e, hd, hc, he, hb, q⟩) | ⟨d, c, e, d', hd, hc, he, hb, hd', hn, q⟩
  · exact ⟨_, rfl, g, d, rfl, hd, .inl ⟨e, q⟩⟩
  · exact ⟨_, rfl, g, d, rfl, hd, .inr ⟨⟨c, hc⟩, _, rfl, k, e, rfl, he, .inl ⟨hb, q⟩⟩⟩
  · exact ⟨_, rfl, g, d, rfl, hd, .inr ⟨⟨c, hc⟩, _, rfl, k, e, rfl, he, .inr ⟨hb, _, rfl, o, d', rfl, hd', .inl ⟨hn, q⟩⟩⟩⟩
theorem bad_sa {n : Nat} (F : Fun K "sort_at" "sort_at" sSortAt f fd) (cG : CalX P w K mg base "check_graph" n ["graph"] (spCheckGX K CG)) (cP : CalX P w K mg base "check_place" n ["k"] (spCheckPX K CP)) : FnOk P w K mg base (L2.CX P w) (n + 1) f fd ["graph", "b", "k"] (spBad3 K CG CP) := by
  refine F.okX scSA (fun vs H Q E h => ?_) (fun cdv A outer s H vs Q E hr h => ?_)
  · obtain ⟨g, b, k, rfl, _⟩ := h
    rfl
  obtain ⟨g, b, k, rfl, q⟩ := h
  refine ⟨_, pss_cons (ps_expr (pe_calX (E := E) cG hr rfl (takes_of rfl rfl rfl rfl) (pa_cons (pv 0) pa_nil))) (pss_cons (ps_expr (pe_calX (E := E) cP hr rfl (takes_of rfl rfl rfl rfl) (pa_cons (pv 2) pa_nil))) pss_never), ?_⟩
  rcases q with ⟨d, hd, e, q⟩ | ⟨d, c, e, hd, hc, he, hb, q⟩
  · exact ⟨_, rfl, g, d, rfl, hd, .inl ⟨e, q⟩⟩
  · exact ⟨_, rfl, g, d, rfl, hd, .inr ⟨⟨c, hc⟩, _, rfl, k, e, rfl, he, .inl ⟨hb, q⟩⟩⟩
theorem bad_na {n : Nat} (F : Fun K "number_at" "number_at" sNumAt f fd) (cS : CalX P w K mg base "sort_at" n ["graph", "b", "k"] (spBad3 K CG CP)) : FnOk P w K mg base (L2.CX P w) (n + 1) f fd ["graph", "b", "k"] (spBad3 K CG CP) := by
  refine F.okX scNA (fun vs H Q E h => ?_) (fun cdv A outer s H vs Q E hr h => ?_)
  · obtain ⟨g, b, k, rfl, _⟩ := h
    rfl
  obtain ⟨g, b, k, rfl, q⟩ := h
  refine ⟨_, pss_cons (ps_set (i := 3) scNA.nd rfl (.inl rfl) (pe_calX (E := E) cS hr rfl (takes_of rfl rfl rfl rfl) (pa_cons (pv 0) (pa_cons (pv 1) (pa_cons (pv 2) pa_nil))))) pss_never, ?_⟩
  exact ⟨_, rfl, _, rfl, _, rfl, g, b, k, rfl, q⟩
theorem bad_ga {n : Nat} (F : Fun K "graph_at" "graph_at" sGraphAt f fd) (C : Cst mg) (cS : CalX P w K mg base "sort_at" n ["graph", "b", "k"] (spBad3 K CG CP)) : FnOk P w K mg base (L2.CX P w) (n + 1) f fd ["graph", "b", "k"] (spBad3 K CG CP) := by
  refine F.okX scGA (fun vs H Q E h => ?_) (fun cdv A outer s H vs Q E hr h => ?_)
  · obtain ⟨g, b, k, rfl, _⟩ := h
    rfl
  obtain ⟨g, b, k, rfl, q⟩ := h
  refine ⟨_, pss_one (ps_ret (pe_ifExp (pt_cmpR op_eq (pe_calX (E := E) cS hr rfl (takes_of rfl rfl rfl rfl) (pa_cons (pv 0) (pa_cons (pv 1) (pa_cons (pv 2) pa_nil)))) (pe_globI rfl C.graph) (nomark _)) pe_nev pe_nev)), ?_⟩
  exact ⟨_, rfl, _, rfl, _, rfl, g, b, k, rfl, q⟩
theorem bad_gr {n : Nat} (F : Fun K "grown" "grown" sGrown f fd) (cG : CalX P w K mg base "check_graph" n ["graph"] (spCheckGX K CG)) : FnOk P w K mg base (L2.CX P w) (n + 1) f fd ["graph"] (spBad1 K CG) := by
  refine F.okX scGr (fun vs H Q E h => ?_) (fun cdv A outer s H vs Q E hr h => ?_)
  · obtain ⟨g, d, rfl, _⟩ := h
    rfl
  obtain ⟨g, d, rfl, hd, e, q⟩ := h
  refine ⟨_, pss_cons (ps_expr (pe_calX (E := E) cG hr rfl (takes_of rfl rfl rfl rfl) (pa_cons (pv 0) pa_nil))) pss_never, ?_⟩
  exact ⟨_, rfl, g, d, rfl, hd, .inl ⟨e, q⟩⟩
end
/-! the word of an error -/
def names19 : List Str := ["NoChart", "NoPoints", "NoGraph", "NoPlace", "NoNet", "NoActor", "NoWeaving", "NoName", "NoChannel", "NoMost", "NoCode", "NoRow", "NoAddress", "NoDeed", "NotFull", "NotStill", "NoLine", "NoText", "Unsafe"]
def words19 : List Str := ["chart", "points", "graph", "place", "net", "actor", "weaving", "name", "channel", "most", "code", "row", "address", "deed", "full", "still", "line", "text", "unsafe"]
structure Kin (K : PySem.W.Frag) (mg : Str → Option Value) (D : Addr) (j : Nat) : Prop where
  exc : ExcC K D
  cls : ∀ (i : Nat) (x : Str), names19[i]? = some x → ∃ C, mg x = some (.ref C) ∧ PySem.W.kitOne K (.ref D) (.ref C) = some (decide (i = j))
  ve : PySem.W.kitOne K (.ref D) (.type "ValueError") = some true
  le : PySem.W.kitOne K (.ref D) (.type "LookupError") = some false
theorem call_isP {X : Cx} {a D : Addr} {oe : Obj} (C : ExcC X.K D) (hp : (a, oe) ∈ X.pn) (hz : Zc (.ref D) none oe) (hf : ∃ vs, oe.data = .fields vs) : CallR X (.builtin "isinstance") (rIsE X.K D a) := by
  intro pins s σ H xs us Q I r h
  obtain ⟨c, cv, b, rfl, hcv, e, q⟩ := h
  obtain ⟨u1, u2, rfl, r1, r2⟩ := vals2 r
  cases r1
  obtain rfl := hcv _ r2
  have there := (I.pin (a, oe) (List.mem_append_left _ hp)).1
  obtain ⟨vs, hv⟩ := hf
  have J : PySem.W.InstAt s.heap a oe D none := by
    obtain ⟨oc, od, oda, osl⟩ := oe
    obtain ⟨e1, e2⟩ := hz
    dsimp only at e1 e2 hv
    subst e1 e2 hv
    exact ⟨there, rfl, rfl, trivial⟩
  exact PySem.W.kia_one (PySem.W.handS_kitx_exc C.hg C.hk C.hs C.hd C.ha C.hn C.ht C.hm) I.kIn J e (fun z => nomatch z) fun tk => ⟨.bl b, H, I.kept (t' := tk) fun _ _ z => z, rfl, q⟩
/-- how often a truth stands in a list of truths -/
def rCntB (K : PySem.W.Frag) : V → List V → Hp → VK → Prop := fun x xs H Q => ∃ (p : Addr) (bs : List Bool), x = .ref p ∧ xs = [.bl true] ∧ SqL K H p (bs.map V.bl) ∧ Q (.int (bs.count true : Nat)) H
def isT : Value → Bool
  | .bool b => b
  | _ => false
theorem bools_of : ∀ {bs : List Bool} {us : List Value}, Vals (bs.map V.bl) us → us = bs.map Value.bool
  | [], us, r => by cases r; rfl
  | b :: bs, us, r => by
    cases r with
    | cons r1 r2 =>
      cases r1
      rw [bools_of r2]
      rfl
theorem cnt_bools : ∀ bs : List Bool, (bs.map Value.bool).countP isT = bs.count true
  | [] => rfl
  | b :: bs => by
    rw [List.map_cons, List.countP_cons, List.count_cons, cnt_bools bs]
    cases b <;> rfl
theorem mt_cntB {X : Cx} : MtR X "list.count" (rCntB X.K) := by
  intro pins s σ H x xs v us Q I rx rxs h
  obtain ⟨p, bs, rfl, rfl, hs, q⟩ := h
  cases rx
  obtain ⟨u, rfl, ru⟩ := rxs.one
  cases ru
  obtain ⟨its, rv, ⟨⟨cls, dd, data, sl⟩, n, ho, hc, hdn, hd⟩, hlen⟩ := I.list hs
  simp only at hc hd
  subst hc hd
  have hi := bools_of rv
  subst hi
  refine call_meets PySem.F.slot_list_count ⟨_, ho, rfl⟩ PySem.F.entry_list_count (PySem.F.args_list_count_2 _ _) (SeqAt.list_countAt p (bs.map Value.bool).toArray n dd sl (.bool true) isT) ⟨ho, fun y hy => ?_, ?_⟩
  · obtain ⟨b, _, rfl⟩ := List.mem_map.mp (show y ∈ bs.map Value.bool by simpa using hy)
    rw [show isT (.bool b) = (b == true) by cases b <;> rfl]
    exact SeqAt.EqAt.bool_bool b true
  · refine ⟨.int (bs.count true : Nat), H, I.tok _, ⟨s.toks, ?_⟩, q⟩
    show Value.int (((bs.map Value.bool).toArray.toList.countP isT : Nat) : Int) s.toks = _
    rw [show (bs.map Value.bool).toArray.toList = bs.map Value.bool from rfl, cnt_bools]
section
open PySem.Spec PyProof.Rows
variable {P : Program} {w : World} {K : PySem.W.Frag} {mg : Str → Option Value} {base : Heap} {f D : Addr} {fd : FuncData}
/-- _law_word, called while the error is looked at -/
def WordOk (P : Program) (w : World) (K : PySem.W.Frag) (mg : Str → Option Value) (base : Heap) (k : Nat) (f D : Addr) (wd : Str) : Prop :=
  ∀ (A : Around) (outer : List Env) (s : Shared) (H : Hp) (Q : VK) (a : Addr) (oe : Obj), L2H.RoomH k A → L2H.PinOk outer H s (a, oe) → Zc (.ref D) none oe → (∃ vs, oe.data = .fields vs) → Env0 P w K mg base A outer s H →
    (∀ H', Same H H' → Q (.str wd) H') → codeAny (model P w) A (.call (.ref f) ⟨[.ref a], []⟩) (CR CX0 outer P w H s Q E0) s
theorem scWord : FnScope ["_law_e", "_law_kinds", "_law_words_here", "_law_word_here"] ["_law_e"] (defScope sWord) := ⟨rfl, rfl, rfl, by decide +kernel, rfl, by decide +kernel, by decide +kernel⟩
def ttl (j : Nat) : List Bool := (List.range 19).map fun i => decide (i = j)
def wordOf (j : Nat) : Str := ("! " : Str) ++ (words19.getD j "")
def bl19 (j : Nat) : List V := [.bl (decide ((0 : Nat) = j)), .bl (decide ((1 : Nat) = j)), .bl (decide ((2 : Nat) = j)), .bl (decide ((3 : Nat) = j)), .bl (decide ((4 : Nat) = j)), .bl (decide ((5 : Nat) = j)), .bl (decide ((6 : Nat) = j)), .bl (decide ((7 : Nat) = j)), .bl (decide ((8 : Nat) = j)), .bl (decide ((9 : Nat) = j)), .bl (decide ((10 : Nat) = j)), .bl (decide ((11 : Nat) = j)), .bl (decide ((12 : Nat) = j)), .bl (decide ((13 : Nat) = j)), .bl (decide ((14 : Nat) = j)), .bl (decide ((15 : Nat) = j)), .bl (decide ((16 : Nat) = j)), .bl (decide ((17 : Nat) = j)), .bl (decide ((18 : Nat) = j))]
theorem idx19 {j : Nat} (hj : j = 2 ∨ j = 3) : (bl19 j).all flatV = true ∧ (bl19 j)[j]? = some (.bl true) ∧ ∀ (m : Nat) (z : V), m < j → (bl19 j)[m]? = some z → eqV z (.bl true) = false := by
  rcases hj with rfl | rfl
  · refine ⟨rfl, rfl, fun m z hm e => ?_⟩
    match m, hm, e with
    | 0, _, e => cases e; rfl
    | 1, _, e => cases e; rfl
  · refine ⟨rfl, rfl, fun m z hm e => ?_⟩
    match m, hm, e with
    | 0, _, e => cases e; rfl
    | 1, _, e => cases e; rfl
    | 2, _, e => cases e; rfl
theorem ok_word {j k : Nat} (F : Fun K "_law_word" "_law_word" sWord f fd) (hbd : ∀ (s : Shared) (u : Value), BindsTo s fd ⟨[u], []⟩ [("_law_e", u)]) (T : Free mg) (hmV : mg "ValueError" = none) (hmL : mg "LookupError" = none) (kin : Kin K mg D j) (hj : j = 2 ∨ j = 3) : WordOk P w K mg base (k + 1) f D (wordOf j) := by
  intro A outer s H Q a oe hr pin hz hf at0 q
  obtain ⟨oc, od, kV, doc, pm, an, cdv, ct, osl, rfl, found, code⟩ := F.ex
  have hin : K.In s.heap := at0.mod.kin.keeps fun b o e => (at0.bs b o e).1
  have unl : s.heap.NoLimit := at0.mod.nolimit.keeps fun b o e => (at0.bs b o e).1
  have kinds : ∀ y ∈ [(("_law_e" : Str), Value.ref a)], (defScope sWord).names.lookup y.1 = some .local ∨ ((defScope sWord).names.lookup y.1 = some .cell ∧ ((cellsFrom (s.heap.objs.size + 1) (defScope sWord).names []).lookup y.1).isSome = true) := by
    intro y hy
    rcases List.mem_cons.mp hy with rfl | hy
    · exact .inl rfl
    · cases hy
  refine codeAny_call_function hr.depth (hin _ _ found) rfl scWord.co scWord.gen rfl (PySem.W.codeRec_of hin code) (hbd _ _ _ _ _ _ ?_)
  refine wpAny_newFunctionEnv_cells scWord.kind kinds fun env he s1 ic => ?_
  subst he
  refine ⟨unl.keeps ic.toInCall.keep, codeAny_func ?_⟩
  have I := L2H.inv_startH (CX := CX0) (E := E0) (us := [.ref a]) (vs := [.ref a]) scWord pin at0 rfl (.cons rfl .nil) ic
  have hp : (a, oe) ∈ (L2H.cxH CX0 P w K mg base ["_law_e", "_law_kinds", "_law_words_here", "_law_word_here"] "_law_word" (defScope sWord) f cdv A outer s H E0 (a, oe)).pn := List.mem_cons_self
  have main : ∃ t, PSs (L2H.cxH CX0 P w K mg base ["_law_e", "_law_kinds", "_law_words_here", "_law_word_here"] "_law_word" (defScope sWord) f cdv A outer s H E0 (a, oe)) (defBody sWord) t ∧ t { nx := fun _ _ => False, rt := Q } (L2.start ["_law_e", "_law_kinds", "_law_words_here", "_law_word_here"] [.ref a]) H := by
    obtain ⟨c0, m0, k0⟩ := kin.cls 0 _ rfl
    obtain ⟨c1, m1, k1⟩ := kin.cls 1 _ rfl
    obtain ⟨c2, m2, k2⟩ := kin.cls 2 _ rfl
    obtain ⟨c3, m3, k3⟩ := kin.cls 3 _ rfl
    obtain ⟨c4, m4, k4⟩ := kin.cls 4 _ rfl
    obtain ⟨c5, m5, k5⟩ := kin.cls 5 _ rfl
    obtain ⟨c6, m6, k6⟩ := kin.cls 6 _ rfl
    obtain ⟨c7, m7, k7⟩ := kin.cls 7 _ rfl
    obtain ⟨c8, m8, k8⟩ := kin.cls 8 _ rfl
    obtain ⟨c9, m9, k9⟩ := kin.cls 9 _ rfl
    obtain ⟨c10, m10, k10⟩ := kin.cls 10 _ rfl
    obtain ⟨c11, m11, k11⟩ := kin.cls 11 _ rfl
    obtain ⟨c12, m12, k12⟩ := kin.cls 12 _ rfl
    obtain ⟨c13, m13, k13⟩ := kin.cls 13 _ rfl
    obtain ⟨c14, m14, k14⟩ := kin.cls 14 _ rfl
    obtain ⟨c15, m15, k15⟩ := kin.cls 15 _ rfl
    obtain ⟨c16, m16, k16⟩ := kin.cls 16 _ rfl
    obtain ⟨c17, m17, k17⟩ := kin.cls 17 _ rfl
    obtain ⟨c18, m18, k18⟩ := kin.cls 18 _ rfl
    refine ⟨_, pss_cons (ps_set (i := 1) scWord.nd rfl (.inl rfl) (pe_lst (pa_cons (pe_callB (call_isP kin.exc hp hz hf) rfl T.isi (by decide +kernel) (pa_cons (pv 0) (pa_cons (pe_glob (v := .ref c0) rfl m0 rfl) pa_nil))) (pa_cons (pe_callB (call_isP kin.exc hp hz hf) rfl T.isi (by decide +kernel) (pa_cons (pv 0) (pa_cons (pe_glob (v := .ref c1) rfl m1 rfl) pa_nil))) (pa_cons (pe_callB (call_isP kin.exc hp hz hf) rfl T.isi (by decide +kernel) (pa_cons (pv 0) (pa_cons (pe_glob (v := .ref c2) rfl m2 rfl) pa_nil))) (pa_cons (pe_callB (call_isP kin.exc hp hz hf) rfl T.isi (by decide +kernel) (pa_cons (pv 0) (pa_cons (pe_glob (v := .ref c3) rfl m3 rfl) pa_nil))) pa_nil))))))
    (pss_cons (ps_set (i := 1) scWord.nd rfl (.inl rfl) (pe_op op_cat (pv 1) (pe_lst (pa_cons (pe_callB (call_isP kin.exc hp hz hf) rfl T.isi (by decide +kernel) (pa_cons (pv 0) (pa_cons (pe_glob (v := .ref c4) rfl m4 rfl) pa_nil))) (pa_cons (pe_callB (call_isP kin.exc hp hz hf) rfl T.isi (by decide +kernel) (pa_cons (pv 0) (pa_cons (pe_glob (v := .ref c5) rfl m5 rfl) pa_nil))) (pa_cons (pe_callB (call_isP kin.exc hp hz hf) rfl T.isi (by decide +kernel) (pa_cons (pv 0) (pa_cons (pe_glob (v := .ref c6) rfl m6 rfl) pa_nil))) (pa_cons (pe_callB (call_isP kin.exc hp hz hf) rfl T.isi (by decide +kernel) (pa_cons (pv 0) (pa_cons (pe_glob (v := .ref c7) rfl m7 rfl) pa_nil))) pa_nil)))))))
    (pss_cons (ps_set (i := 1) scWord.nd rfl (.inl rfl) (pe_op op_cat (pv 1) (pe_lst (pa_cons (pe_callB (call_isP kin.exc hp hz hf) rfl T.isi (by decide +kernel) (pa_cons (pv 0) (pa_cons (pe_glob (v := .ref c8) rfl m8 rfl) pa_nil))) (pa_cons (pe_callB (call_isP kin.exc hp hz hf) rfl T.isi (by decide +kernel) (pa_cons (pv 0) (pa_cons (pe_glob (v := .ref c9) rfl m9 rfl) pa_nil))) (pa_cons (pe_callB (call_isP kin.exc hp hz hf) rfl T.isi (by decide +kernel) (pa_cons (pv 0) (pa_cons (pe_glob (v := .ref c10) rfl m10 rfl) pa_nil))) (pa_cons (pe_callB (call_isP kin.exc hp hz hf) rfl T.isi (by decide +kernel) (pa_cons (pv 0) (pa_cons (pe_glob (v := .ref c11) rfl m11 rfl) pa_nil))) pa_nil)))))))
    (pss_cons (ps_set (i := 1) scWord.nd rfl (.inl rfl) (pe_op op_cat (pv 1) (pe_lst (pa_cons (pe_callB (call_isP kin.exc hp hz hf) rfl T.isi (by decide +kernel) (pa_cons (pv 0) (pa_cons (pe_glob (v := .ref c12) rfl m12 rfl) pa_nil))) (pa_cons (pe_callB (call_isP kin.exc hp hz hf) rfl T.isi (by decide +kernel) (pa_cons (pv 0) (pa_cons (pe_glob (v := .ref c13) rfl m13 rfl) pa_nil))) (pa_cons (pe_callB (call_isP kin.exc hp hz hf) rfl T.isi (by decide +kernel) (pa_cons (pv 0) (pa_cons (pe_glob (v := .ref c14) rfl m14 rfl) pa_nil))) pa_nil))))))
    (pss_cons (ps_set (i := 1) scWord.nd rfl (.inl rfl) (pe_op op_cat (pv 1) (pe_lst (pa_cons (pe_callB (call_isP kin.exc hp hz hf) rfl T.isi (by decide +kernel) (pa_cons (pv 0) (pa_cons (pe_glob (v := .ref c15) rfl m15 rfl) pa_nil))) (pa_cons (pe_callB (call_isP kin.exc hp hz hf) rfl T.isi (by decide +kernel) (pa_cons (pv 0) (pa_cons (pe_glob (v := .ref c16) rfl m16 rfl) pa_nil))) (pa_cons (pe_callB (call_isP kin.exc hp hz hf) rfl T.isi (by decide +kernel) (pa_cons (pv 0) (pa_cons (pe_glob (v := .ref c17) rfl m17 rfl) pa_nil))) (pa_cons (pe_callB (call_isP kin.exc hp hz hf) rfl T.isi (by decide +kernel) (pa_cons (pv 0) (pa_cons (pe_glob (v := .ref c18) rfl m18 rfl) pa_nil))) pa_nil)))))))
    (pss_cons (ps_if (PW.pt (pw_or (pt_cmpR op_ne (pe_bm PySem.F.plainAttrs_list PySem.F.slot_list_count PySem.F.type_list_count mt_cntB (pv 1) (pa_cons pe_bl pa_nil)) pe_int (nomark _)) (pw_or (pt_not (pt_val (pe_callB (call_isP kin.exc hp hz hf) rfl T.isi (by decide +kernel) (pa_cons (pv 0) (pa_cons (pe_bltn (v := .ty "ValueError") rfl hmV (by decide +kernel) rfl) pa_nil))))) (pw_or1 (pt_val (pe_callB (call_isP kin.exc hp hz hf) rfl T.isi (by decide +kernel) (pa_cons (pv 0) (pa_cons (pe_bltn (v := .ty "LookupError") rfl hmL (by decide +kernel) rfl) pa_nil)))))))) (pss_one (ps_ret pe_str)) pss_nil)
    (pss_cons (ps_set (i := 2) scWord.nd rfl (.inl rfl) (pe_lst (pa_cons pe_str (pa_cons pe_str (pa_cons pe_str (pa_cons pe_str (pa_cons pe_str (pa_cons pe_str (pa_cons pe_str (pa_cons pe_str (pa_cons pe_str (pa_cons pe_str (pa_cons pe_str (pa_cons pe_str pa_nil))))))))))))))
    (pss_cons (ps_set (i := 3) scWord.nd rfl (.inl rfl) (pe_ix ix_list (pe_op op_cat (pv 2) (pe_lst (pa_cons pe_str (pa_cons pe_str (pa_cons pe_str (pa_cons pe_str (pa_cons pe_str (pa_cons pe_str (pa_cons pe_str pa_nil))))))))) (pe_bm PySem.F.plainAttrs_list PySem.F.slot_list_index PySem.F.type_list_index mt_index (pv 1) (pa_cons pe_bl pa_nil)) (fun _ _ => rfl)))
    (pss_cons (ps_if (pt_cmpR op_eq (pv 3) pe_str (nomark _)) pss_never pss_nil)
    (pss_one (ps_ret (pe_ifExp (pt_cmpR op_eq (pv 3) pe_str (nomark _)) pe_nev (pe_op op_add_str pe_str (pv 3))))))))))))), ?_⟩
    refine ⟨_, rfl, .ref c0, .ref c0, _, rfl, fun _ h => h, k0, _, rfl, .ref c1, .ref c1, _, rfl, fun _ h => h, k1, _, rfl, .ref c2, .ref c2, _, rfl, fun _ h => h, k2, _, rfl, .ref c3, .ref c3, _, rfl, fun _ h => h, k3, small (by show 4 ≤ 1000; decide), fun p0 h0 => ?_⟩
    refine ⟨_, rfl, _, rfl, .ref c4, .ref c4, _, rfl, fun _ h => h, k4, _, rfl, .ref c5, .ref c5, _, rfl, fun _ h => h, k5, _, rfl, .ref c6, .ref c6, _, rfl, fun _ h => h, k6, _, rfl, .ref c7, .ref c7, _, rfl, fun _ h => h, k7, small (by show 4 ≤ 1000; decide), fun q1 g1 => ?_⟩
    refine ⟨p0, q1, _, _, rfl, rfl, by rw [upd_ne (ne_of_none upd_same g1)]; exact upd_same, upd_same, small (by show 8 ≤ 1000; decide), fun p1 h1 => ?_⟩
    refine ⟨_, rfl, _, rfl, .ref c8, .ref c8, _, rfl, fun _ h => h, k8, _, rfl, .ref c9, .ref c9, _, rfl, fun _ h => h, k9, _, rfl, .ref c10, .ref c10, _, rfl, fun _ h => h, k10, _, rfl, .ref c11, .ref c11, _, rfl, fun _ h => h, k11, small (by show 4 ≤ 1000; decide), fun q2 g2 => ?_⟩
    refine ⟨p1, q2, _, _, rfl, rfl, by rw [upd_ne (ne_of_none upd_same g2)]; exact upd_same, upd_same, small (by show 12 ≤ 1000; decide), fun p2 h2 => ?_⟩
    refine ⟨_, rfl, _, rfl, .ref c12, .ref c12, _, rfl, fun _ h => h, k12, _, rfl, .ref c13, .ref c13, _, rfl, fun _ h => h, k13, _, rfl, .ref c14, .ref c14, _, rfl, fun _ h => h, k14, small (by show 3 ≤ 1000; decide), fun q3 g3 => ?_⟩
    refine ⟨p2, q3, _, _, rfl, rfl, by rw [upd_ne (ne_of_none upd_same g3)]; exact upd_same, upd_same, small (by show 15 ≤ 1000; decide), fun p3 h3 => ?_⟩
    refine ⟨_, rfl, _, rfl, .ref c15, .ref c15, _, rfl, fun _ h => h, k15, _, rfl, .ref c16, .ref c16, _, rfl, fun _ h => h, k16, _, rfl, .ref c17, .ref c17, _, rfl, fun _ h => h, k17, _, rfl, .ref c18, .ref c18, _, rfl, fun _ h => h, k18, small (by show 4 ≤ 1000; decide), fun q4 g4 => ?_⟩
    refine ⟨p3, q4, _, _, rfl, rfl, by rw [upd_ne (ne_of_none upd_same g4)]; exact upd_same, upd_same, small (by show 19 ≤ 1000; decide), fun p4 h4 => ?_⟩
    refine ⟨_, rfl, .inl ⟨rfl, _, SqL.of upd_same⟩, p4, [decide ((0 : Nat) = j), decide ((1 : Nat) = j), decide ((2 : Nat) = j), decide ((3 : Nat) = j), decide ((4 : Nat) = j), decide ((5 : Nat) = j), decide ((6 : Nat) = j), decide ((7 : Nat) = j), decide ((8 : Nat) = j), decide ((9 : Nat) = j), decide ((10 : Nat) = j), decide ((11 : Nat) = j), decide ((12 : Nat) = j), decide ((13 : Nat) = j), decide ((14 : Nat) = j), decide ((15 : Nat) = j), decide ((16 : Nat) = j), decide ((17 : Nat) = j), decide ((18 : Nat) = j)], rfl, rfl, SqL.of upd_same, rfl, _, rfl, ?_⟩
    have cnt : List.count true [decide ((0 : Nat) = j), decide ((1 : Nat) = j), decide ((2 : Nat) = j), decide ((3 : Nat) = j), decide ((4 : Nat) = j), decide ((5 : Nat) = j), decide ((6 : Nat) = j), decide ((7 : Nat) = j), decide ((8 : Nat) = j), decide ((9 : Nat) = j), decide ((10 : Nat) = j), decide ((11 : Nat) = j), decide ((12 : Nat) = j), decide ((13 : Nat) = j), decide ((14 : Nat) = j), decide ((15 : Nat) = j), decide ((16 : Nat) = j), decide ((17 : Nat) = j), decide ((18 : Nat) = j)] = 1 := by rcases hj with rfl | rfl <;> decide
    rw [cnt]
    refine ifF rfl ⟨_, rfl, .ty "ValueError", .type "ValueError", _, rfl, fun _ h => h, kin.ve, _, rfl, ifF rfl ⟨_, rfl, .ty "LookupError", .type "LookupError", _, rfl, fun _ h => h, kin.le, _, rfl, ifF rfl ?_⟩⟩
    refine ⟨small (by show 12 ≤ 1000; decide), fun p5 h5 => ?_⟩
    refine ⟨_, rfl, small (by show 7 ≤ 1000; decide), fun p6 h6 => ⟨p5, p6, _, _, rfl, rfl, by rw [upd_ne (ne_of_none upd_same h6)]; exact upd_same, upd_same, small (by show 19 ≤ 1000; decide), fun p7 h7 => ?_⟩⟩
    obtain ⟨f1, f2, f3⟩ := idx19 hj
    have at4 := (same_new h7 (.lst ([.str "chart", .str "points", .str "graph", .str "place", .str "net", .str "actor", .str "weaving", .str "name", .str "channel", .str "most", .str "code", .str "row"] ++ [.str "address", .str "deed", .str "full", .str "still", .str "line", .str "text", .str "unsafe"]))) _ _ ((same_new h6 (.lst [.str "address", .str "deed", .str "full", .str "still", .str "line", .str "text", .str "unsafe"])) _ _ ((same_new h5 (.lst [.str "chart", .str "points", .str "graph", .str "place", .str "net", .str "actor", .str "weaving", .str "name", .str "channel", .str "most", .str "code", .str "row"])) _ _ (upd_same (H := upd (upd (upd (upd (upd (upd (upd (upd H p0 _) q1 _) p1 _) q2 _) p2 _) q3 _) p3 _) q4 _) (a := p4) (o := .lst (bl19 j)))))
    refine ⟨_, rfl, .inl ⟨rfl, _, SqL.of at4⟩, p4, bl19 j, .bl true, j, .bl true, rfl, rfl, SqL.of at4, rfl, f1, f2, rfl, f3, ?_⟩
    have fin : ∀ H', Same H H' → Q (.str (wordOf j)) H' := q
    rcases hj with rfl | rfl
    · refine ⟨p7, _, 2, .str "graph", rfl, rfl, SqL.of upd_same, atI_nat (j := 2) rfl, ?_⟩
      refine ⟨_, rfl, rfl, _, rfl, ifF (by decide) ⟨_, rfl, rfl, _, rfl, ifF (by decide) ⟨_, rfl, _, _, rfl, rfl, small (by decide), fin _ ((same_new h0 _).trans ((same_new g1 _).trans ((same_new h1 _).trans ((same_new g2 _).trans ((same_new h2 _).trans ((same_new g3 _).trans ((same_new h3 _).trans ((same_new g4 _).trans ((same_new h4 _).trans ((same_new h5 _).trans ((same_new h6 _).trans (same_new h7 _))))))))))))⟩⟩⟩
    · refine ⟨p7, _, 3, .str "place", rfl, rfl, SqL.of upd_same, atI_nat (j := 3) rfl, ?_⟩
      refine ⟨_, rfl, rfl, _, rfl, ifF (by decide) ⟨_, rfl, rfl, _, rfl, ifF (by decide) ⟨_, rfl, _, _, rfl, rfl, small (by decide), fin _ ((same_new h0 _).trans ((same_new g1 _).trans ((same_new h1 _).trans ((same_new g2 _).trans ((same_new h2 _).trans ((same_new g3 _).trans ((same_new h3 _).trans ((same_new g4 _).trans ((same_new h4 _).trans ((same_new h5 _).trans ((same_new h6 _).trans (same_new h7 _))))))))))))⟩⟩⟩
  obtain ⟨t, ht, hq⟩ := main
  refine wpAny_mono (ht.run [] s1 _ H _ I hq) (fun fl s' out => ?_) fun e s' out => out
  cases fl with
  | ret u =>
    obtain ⟨v, σ', H', J, rv, q⟩ := out
    exact ⟨v, H', J.os, J.bare, J.base, J.hok, rv, q⟩
  | next =>
    obtain ⟨_, _, _, z⟩ := out
    exact z.elim
  | brk =>
    obtain ⟨_, _, _, z⟩ := out
    exact z.elim
  | cont =>
    obtain ⟨_, _, _, z⟩ := out
    exact z.elim
end
/-! what is said: the answer, or the word of the refusal -/
section
open PySem.Spec PyProof.Rows LamX
theorem pe_word {Z : Cx} {a f D : Addr} {oe : Obj} {wd : Str} {k : Nat} {p pos : Pos} {e : Expr} {t : TA} (hp : (a, oe) ∈ Z.pn) (hz : Zc (.ref D) none oe) (hf : ∃ vs, oe.data = .fields vs) (ok : WordOk Z.prog Z.w Z.K Z.mg Z.base k f D wd) (hr : L2H.RoomH k Z.A) (hg : Gl Z "_law_word")
    (hm : Z.mg "_law_word" = some (.ref f)) (hk : PySem.W.keepIn Z.K (.ref f) = true) (ha : PA Z [e] t) (h2 : starEach [e] Z.env = (false, eval e Z.env) :: starEach [] Z.env := by rfl) (h3 : ((backTo pos (starEach [] Z.env)).any fun x => x.fst) = false := by rfl) :
    PE Z (.Call (.Name "_law_word" p) [e] [] pos) (fun σ H Q => t σ H fun vs H1 => vs = [.ref a] ∧ ∀ H', Same H1 H' → Q (.str wd) H') := by
  refine ⟨fun pins s σ H Q I h => ?_⟩
  refine wpAny_Call_Name_kw (ld_glob I hg hm ?_)
  refine PySem.W.callWith_K (h₀ := Z.base) I.ok.mod.kin hk (thn (ha.run pos pins s σ H _ I h) fun us s1 ⟨vs, H1, I1, r, ev, q⟩ => ⟨I1.kIn, ?_⟩) h2 h3
  subst ev
  obtain ⟨u, rfl, ru⟩ := vals1 r
  cases ru
  have pn := I1.pin (a, oe) (List.mem_append_left _ hp)
  have pin : L2H.PinOk Z.stack H1 s1 (a, oe) := ⟨pn.1, pn.2.1, fun z => (List.mem_cons.mp (I1.stkSub a z)).elim pn.2.2.1 pn.2.2.2.1, pn.2.2.2.2⟩
  refine wpAny_call (codeAny_mono (ok Z.A Z.stack s1 H1 Q a oe hr pin hz hf I1.env0 q) fun r s' hq => ?_)
  match r, hq with
  | .error e, hq => exact (show False from hq).elim
  | .ok (.ret u), hq => exact I1.after hq
  | .ok .next, hq => exact (show False from hq).elim
  | .ok .brk, hq => exact (show False from hq).elim
  | .ok .cont, hq => exact (show False from hq).elim
theorem scSaid : FnScope ["_law_call", "_law_e"] ["_law_call"] (defScope sSaid) := ⟨rfl, rfl, rfl, by decide +kernel, rfl, by decide +kernel, by decide +kernel⟩
/-- the two errors that come here -/
def Ech (CG CP : Addr) (Q : VK) : XK := fun cls d H => (cls = .ref CG ∧ d = none ∧ ∀ H', Same H H' → Q (.str (wordOf 2)) H') ∨ (cls = .ref CP ∧ d = none ∧ ∀ H', Same H H' → Q (.str (wordOf 3)) H')
def TTsaid (CG CP : Addr) : (XK → Hp → VK → Prop) → Hp → VK → Prop := fun tl H Q => tl (Ech CG CP Q) H fun v H1 => ∃ i, [v] = [V.int i] ∧ i.natAbs.log2 < 1920 ∧ Q (.str (toString i)) H1
structure SaidAt (P : Program) (w : World) (K : PySem.W.Frag) (mg : Str → Option Value) (base : Heap) (CS CG CP fw : Addr) (k : Nat) : Prop where
  give : mg "GiveError" = some (.ref CS)
  repr : mg "repr" = none
  word : mg "_law_word" = some (.ref fw)
  keep : PySem.W.keepIn K (.ref fw) = true
  graph : WordOk P w K mg base k fw CG (wordOf 2)
  place : WordOk P w K mg base k fw CP (wordOf 3)
  mG : PySem.W.exmOne K (.ref CG) (.ref CS) = some true
  mP : PySem.W.exmOne K (.ref CP) (.ref CS) = some true
theorem said_gives {X : Cx} {q : Str} {g CS CG CP fw : Addr} {cdg : Value} {k : Nat} (S : SaidAt X.prog X.w X.K X.mg X.base CS CG CP fw k) (hr : Room (k + 1) X.A) :
    GivesTo X ["_law_call", "_law_e"] "_law_said" (defScope sSaid) g cdg (defBody sSaid) "_law_call" q (TTsaid CG CP) := by
  intro f c' s H Q tl act hc h
  have hr2 : ∀ A : Around, A.depth = X.A.depth + 1 → A.units = X.A.units + 3 → L2H.RoomH k A := fun A e1 e2 => ⟨by have := hr.dp; rw [e1]; omega, by have := hr.un; rw [e2]; omega⟩
  refine ⟨_, pss_one (ps_try_as (X := (cxOf C8.CX0 X.prog X.w X.K X.mg X.base ["_law_call", "_law_e"] "_law_said" (defScope sSaid) g cdg X.A X.stack s H C8.E0).nox) (i := 1) (c := .ref CS)
      (tb := fun W D σ H => ∃ E : XK, (∀ cls d σ' H', E cls d H' → W cls d σ' H') ∧ σ[0]? = some (some (.ref f)) ∧ H c' = some (CodeO c' q) ∧ tl E H fun v H1 => ∃ i, [v] = [V.int i] ∧ i.natAbs.log2 < 1920 ∧ D.rt (.str (toString i)) H1)
      (ts := fun a cls d D σ H => (∃ σ0 : L2.St, σ = σ0.set 1 (some (.ref a))) ∧ ((cls = .ref CG ∧ d = none ∧ ∀ H', Same H H' → D.rt (.str (wordOf 2)) H') ∨ (cls = .ref CP ∧ d = none ∧ ∀ H', Same H H' → D.rt (.str (wordOf 3)) H')))
      rfl rfl scSaid.nd rfl rfl ⟨rfl, by decide, .inl S.give⟩ LamX.takes0 (fun W pn xe tk _ => ?_) (fun a oe cls d pn hz hf => ?_)), ?_⟩
  · refine ⟨fun pins s' σ H' D I h' => ?_⟩
    obtain ⟨E, hW, h1, h2, h3⟩ := h'
    exact (pss_one (ps_ret (pe_callB (X := (cxOf C8.CX0 X.prog X.w X.K X.mg X.base ["_law_call", "_law_e"] "_law_said" (defScope sSaid) g cdg X.A X.stack s H C8.E0).nox.tr pn xe) SkE.call_repr_int (show Gl _ "repr" from rfl) S.repr (by decide +kernel) (pa_cons (act W pn xe E _ _ tk hW) pa_nil)))).run pins s' σ H' D I ⟨h1, h2, h3⟩
  · refine ⟨fun pins s' σ H' D I h' => ?_⟩
    obtain ⟨⟨σ0, rfl⟩, h'⟩ := h'
    have ln := I.len
    have l2 : 1 < σ0.length := by
      rw [List.length_set] at ln
      rw [ln]
      exact (by decide : 1 < 2)
    have sl : (σ0.set 1 (some (V.ref a)))[1]? = some (some (V.ref a)) := by rw [List.getElem?_set_self l2]
    rcases h' with ⟨rfl, rfl, h'⟩ | ⟨rfl, rfl, h'⟩
    · exact (pss_one (ps_ret (pe_word (Z := (cxOf C8.CX0 X.prog X.w X.K X.mg X.base ["_law_call", "_law_e"] "_law_said" (defScope sSaid) g cdg X.A X.stack s H C8.E0).nox.suite a ((a, oe) :: pn)) (k := k) (D := CG) List.mem_cons_self hz hf S.graph (hr2 _ rfl rfl) rfl S.word S.keep (pa_cons (pv 1) pa_nil)))).run pins s' _ H' D I ⟨_, sl, rfl, h'⟩
    · exact (pss_one (ps_ret (pe_word (Z := (cxOf C8.CX0 X.prog X.w X.K X.mg X.base ["_law_call", "_law_e"] "_law_said" (defScope sSaid) g cdg X.A X.stack s H C8.E0).nox.suite a ((a, oe) :: pn)) (k := k) (D := CP) List.mem_cons_self hz hf S.place (hr2 _ rfl rfl) rfl S.word S.keep (pa_cons (pv 1) pa_nil)))).run pins s' _ H' D I ⟨_, sl, rfl, h'⟩
  · refine ⟨Ech CG CP Q, fun cls d σ' H' e => ?_, rfl, hc, h⟩
    rcases e with ⟨rfl, rfl, e⟩ | ⟨rfl, rfl, e⟩
    · exact ⟨true, S.mG, fun _ a _ => ⟨⟨σ', rfl⟩, .inl ⟨rfl, rfl, e⟩⟩, fun z => by cases z⟩
    · exact ⟨true, S.mP, fun _ a _ => ⟨⟨σ', rfl⟩, .inr ⟨rfl, rfl, e⟩⟩, fun z => by cases z⟩
end
/-! what is said, of lambdas -/
section
open PySem.Spec PyProof.Rows LamX
theorem WordOk.mono {P : Program} {w : World} {K : PySem.W.Frag} {mg : Str → Option Value} {base : Heap} {j k : Nat} {f D : Addr} {wd : Str} (h : WordOk P w K mg base j f D wd) (l : j ≤ k) : WordOk P w K mg base k f D wd :=
  fun A outer s H Q a oe hr => h A outer s H Q a oe (hr.mono l)
theorem SaidAt.mono {P : Program} {w : World} {K : PySem.W.Frag} {mg : Str → Option Value} {base : Heap} {CS CG CP fw : Addr} {j k : Nat} (S : SaidAt P w K mg base CS CG CP fw j) (l : j ≤ k) : SaidAt P w K mg base CS CG CP fw k :=
  ⟨S.give, S.repr, S.word, S.keep, S.graph.mono l, S.place.mono l, S.mG, S.mP⟩
/-- all that calls of _law_said want -/
structure SaidF (P : Program) (w : World) (K : PySem.W.Frag) (mg : Str → Option Value) (base : Heap) (CS CG CP fw g : Addr) (fdg : FuncData) (k : Nat) : Prop where
  S : SaidAt P w K mg base CS CG CP fw k
  F : Fun K "_law_said" "_law_said" sSaid g fdg
  B : L2.Binds K fdg ["_law_call"] []
  M : mg "_law_said" = some (.ref g)
theorem pe_said {X : Cx} {T : List (Addr × Str)} {CS CG CP fw g c Pt : Addr} {fdg : FuncData} {k : Nat} {params : Arguments} {body : Expr} {scope : Scope} {t : XK → TE} {p lpos pos : Pos} (Z : SaidF X.prog X.w X.K X.mg X.base CS CG CP fw g fdg k)
    (hr : Room (k + 2) X.A) (hg : Gl X "_law_said") (TB : LamX.TabB X.base X.mg c Pt) (hcode : X.env.code = .ref c) (hmT : (Pt, X.env.qual ++ "<lambda>") ∈ T) (hu : ∀ p ∈ T, p.1 = Pt → p.2 = X.env.qual ++ "<lambda>") (L : LamS X.env.scope scope) (hdef : defaultsOf params X.env = ([], []))
    (hbind : ∀ (q : Str) (cl : List (Str × Addr)) (pm cv ctv : Value), bindArgs (PySem.W.kla_fn "<lambda>" q params body scope cl pm cv ctv) ⟨[], []⟩ = pure [])
    (hbody : ∀ (A : Around) (outer : List Env) (s : Shared) (H : Hp) (E : XK) (f c' : Addr), Room k (A.deeper (lamEnv X scope s.heap.objs.size f c')) → PE (lamCx X A outer s H E scope f c') body (t E)) :
    PE X (.Call (.Name "_law_said" p) [.Lambda params body scope lpos] [] pos) (tLam T (TTsaid CG CP) t) := by
  obtain ⟨oc, od, kV, doc, pm, an, cdv, ct, osl, rfl, lk, hcd⟩ := Z.F.ex
  exact pe_lamcall hg Z.M Z.F.kp lk hcd Z.B scSaid rfl (.inl rfl) (said_gives Z.S (hr.mono (by omega))) TB hcode hmT hu hr L hdef hbind hbody
theorem okC {P : Program} {w : World} {K : PySem.W.Frag} {mg : Str → Option Value} {base : Heap} {x qual : Str} {st : Stmt} {f c : Addr} {fd : FuncData} {N ps : List Str} {k : Nat} {sp : Sp} (F : Fun K x qual st f fd) (hc : fd.code = .ref c) (S : FnScope N ps (defScope st)) (len : ∀ vs H Q E, sp vs H Q E → vs.length = ps.length)
    (hbody : ∀ (A : Around) (outer : List Env) (s : Shared) (H : Hp) (vs : List V) (Q : VK) (E : XK), Room k (A.deeper (envOfC qual (defScope st) s.heap.objs.size f (.ref c))) → sp vs H Q E →
      ∃ t, PSs (cxOf CX0 P w K mg base N qual (defScope st) f (.ref c) A outer s H E).nox (defBody st) t ∧ t { nx := fun _ H' => Q .non H', rt := Q } (L2.start N vs) H) : FnOk P w K mg base CX0 (k + 1) f fd ps sp := by
  obtain ⟨oc, od, kV, doc, pm, an, cdv, ct, osl, rfl, lk, hcd⟩ := F.ex
  obtain rfl : cdv = .ref c := hc
  refine fn_of lk hcd S len fun A outer s H vs Q E hr hsp => ?_
  obtain ⟨t, h, q⟩ := hbody A outer s H vs Q E hr hsp
  exact ⟨t, h.nox, q⟩
mutual
theorem dp_ext {K : PySem.W.Frag} {H H' : Hp} (e : ExtN H H') : ∀ (d : PyData) (v : V), Dp K H v d → Dp K H' v d
  | .none, v, h => by cases h; exact .non
  | .bool b, v, h => by cases h; exact .bl b
  | .int i, v, h => by cases h; exact .int i
  | .str x, v, h => by cases h; exact .str x
  | .list es, v, h => by
    cases h with
    | lst at_ each =>
      refine .lst ?_ (dp_exts e es _ each)
      rcases at_ with (z | ⟨o, z⟩) | z
      · exact .inl (.inl (e _ _ z fun ps q => by cases q))
      · exact .inl (.inr ⟨o, e _ _ z fun ps q => by cases q⟩)
      · exact .inr z
  | .tuple es, v, h => by
    cases h with
    | tup at_ each =>
      refine .tup ?_ (dp_exts e es _ each)
      rcases at_ with (z | ⟨o, z⟩) | z
      · exact .inl (.inl (e _ _ z fun ps q => by cases q))
      · exact .inl (.inr ⟨o, e _ _ z fun ps q => by cases q⟩)
      · exact .inr z
  | .dict kvs, v, h => by
    cases h with
    | dct at_ => exact .dct (e _ _ at_ fun ps q => by cases q)
theorem dp_exts {K : PySem.W.Frag} {H H' : Hp} (e : ExtN H H') : ∀ (ds : List PyData) (vs : List V), DpAll K H vs ds → DpAll K H' vs ds
  | [], vs, h => by cases h; exact .nil
  | d :: ds, vs, h => by
    cases h with
    | cons one more => exact .cons (dp_ext e d _ one) (dp_exts e ds _ more)
end
theorem tabs_upd {T : List (Addr × Str)} {H : Hp} {fa : Addr} {l l' : List V} (t : Tabs T H) (h : H fa = some (.lst l)) : Tabs T (upd H fa (.lst l')) := by
  intro p hp
  obtain ⟨ps, h1, h2, h3⟩ := t p hp
  refine ⟨ps, ?_, h2, fun pos cv hc => ?_⟩
  · rw [upd_ne (show p.1 ≠ fa from fun z => by rw [z, h] at h1; cases h1)]
    exact h1
  · obtain ⟨c, e1, e2⟩ := h3 pos cv hc
    refine ⟨c, e1, ?_⟩
    rw [upd_ne (show c ≠ fa from fun z => by rw [z, h] at e2; cases e2)]
    exact e2
theorem ext_upd {H0 H : Hp} {fa : Addr} {o : HO} (e : ExtN H0 H) (h : ∀ u, H0 fa = some u → ∃ ps, u = .tbl ps) : ExtN H0 (upd H fa o) := fun b u hb n => by
  have nb : b ≠ fa := fun z => by
    rw [z] at hb
    obtain ⟨ps, q⟩ := h u hb
    exact n ps q
  rw [upd_ne nb]
  exact e b u hb n
theorem ext_lst {H H' : Hp} {p : Addr} {l : List V} (e : ExtN H H') (h : H p = some (.lst l)) : H' p = some (.lst l) := e _ _ h fun ps q => by cases q
theorem ext_same {H H' : Hp} (s : Same H H') : ExtN H H' := fun b o h _ => s b o h
end
section
open PySem.Spec PyProof.Rows LamX
variable {P : Program} {w : World} {K : PySem.W.Frag} {mg : Str → Option Value} {base : Heap} {f c Pt CS CG CP fw g : Addr} {fd fdg : FuncData} {T : List (Addr × Str)}
def BadAt (K : PySem.W.Frag) (CG CP : Addr) (H : Hp) (x k : V) (wd : Str) : Prop := ∀ (H1 : Hp) (Q : VK), ExtN H H1 → (∀ H', Same H1 H' → Q (.str wd) H') → Bad2 K CG CP H1 x k (Ech CG CP Q)
theorem bad_graph {H : Hp} {x k : V} {d : PyData} (hd : Dp K H x d) (hn : gsz 4 d = none) : BadAt K CG CP H x k (wordOf 2) := fun H1 Q e q => .inl ⟨d, dp_ext e d _ hd, hn, .inl ⟨rfl, rfl, q⟩⟩
theorem bad_place {H : Hp} {x k : V} {d e : PyData} {n : Nat} (hd : Dp K H x d) (hn : gsz 4 d = some n) (he : Dp K H k e) (hb : withinD 0 2 e = false) : BadAt K CG CP H x k (wordOf 3) := fun H1 Q ex q => .inr ⟨d, n, e, dp_ext ex d _ hd, hn, dp_ext ex e _ he, hb, .inr ⟨rfl, rfl, q⟩⟩
theorem BadAt.go {H H' : Hp} {x k : V} {wd : Str} (b : BadAt K CG CP H x k wd) (e : ExtN H H') : BadAt K CG CP H' x k wd := fun H1 Q e1 q => b H1 Q (e.trans e1) q
def spWords (K : PySem.W.Frag) (CG CP : Addr) (T : List (Addr × Str)) : Sp := fun vs H Q _ => ∃ (x b k o : V) (wd : Str), vs = [x, b, k, o] ∧ Tabs T H ∧ BadAt K CG CP H x k wd ∧
  ∀ p H', ExtN H H' → Tabs T H' → H' p = some (.lst [.str wd, .str wd, .str wd, .str wd, .str wd, .str wd]) → Q (.ref p) H'
theorem scWords : FnScope ["_law_graph_here", "_law_b", "_law_k", "_law_other_own", "_law_found"] ["_law_graph_here", "_law_b", "_law_k", "_law_other_own"] (defScope sWords) := ⟨rfl, rfl, rfl, by decide +kernel, rfl, by decide +kernel, by decide +kernel⟩
theorem ok_words {n : Nat} (F : Fun K "_law_words" "_law_words" sWords f fd) (hc : fd.code = .ref c) (TB : LamX.TabB base mg c Pt) (hmT : (Pt, ("_law_words" : Str) ++ ".<locals>." ++ "<lambda>") ∈ T) (hu : ∀ p ∈ T, p.1 = Pt → p.2 = ("_law_words" : Str) ++ ".<locals>." ++ "<lambda>") (Z : SaidF P w K mg base CS CG CP fw g fdg n)
    (cN : CalN P w K mg base "with_number" n ["graph", "b", "k", "number"] 3 ["number"] (fun us ws => us ++ ws) (fun vs zs => vs ++ zs) (spBad4 K CG CP)) (cT : CalN P w K mg base "with_tie" n ["graph", "b", "k", "to"] 3 ["to"] (fun us ws => us ++ ws) (fun vs zs => vs ++ zs) (spBad4 K CG CP))
    (cG : CalN P w K mg base "with_graph" n ["graph", "b", "k", "other"] 3 ["other"] (fun us ws => us ++ ws) (fun vs zs => vs ++ zs) (spBadG K CG CP)) (cS : CalX P w K mg base "sort_at" n ["graph", "b", "k"] (spBad3 K CG CP)) (cA : CalX P w K mg base "number_at" n ["graph", "b", "k"] (spBad3 K CG CP)) (cH : CalX P w K mg base "graph_at" n ["graph", "b", "k"] (spBad3 K CG CP)) :
    FnOk P w K mg base CX0 (n + 3) f fd ["_law_graph_here", "_law_b", "_law_k", "_law_other_own"] (spWords K CG CP T) := by
  refine okC F hc scWords (fun vs H Q E h => ?_) (fun A outer s H vs Q E hr h => ?_)
  · obtain ⟨x, b, k, o, wd, rfl, _⟩ := h
    rfl
  obtain ⟨x, b, k, o, wd, rfl, tb, bad, q⟩ := h
  refine ⟨_, pss_cons (ps_set (i := 4) scWords.nd rfl (.inl rfl) (pe_lst (pa_cons (pe_said Z hr rfl TB rfl hmT hu (lamS_by (sc := defScope sWords) (by decide +kernel)) rfl (fun _ _ _ _ _ => rfl) (fun A outer s H E f c' hr2 => pe_pkX (E := E) cN hr2 rfl (takes_of rfl rfl rfl rfl) (pa_cons (pv 0) (pa_cons (pv 1) (pa_cons (pv 2) pa_nil))) (pk_cons pe_int pk_nil))) pa_nil)))
    (pss_cons (ps_expr (pe_bm PySem.F.plainAttrs_list PySem.F.slot_list_append PySem.F.type_list_append mt_append (pv 4) (pa_cons (pe_said Z hr rfl TB rfl hmT hu (lamS_by (sc := defScope sWords) (by decide +kernel)) rfl (fun _ _ _ _ _ => rfl) (fun A outer s H E f c' hr2 => pe_pkX (E := E) cT hr2 rfl (takes_of rfl rfl rfl rfl) (pa_cons (pv 0) (pa_cons (pv 1) (pa_cons (pv 2) pa_nil))) (pk_cons pe_int pk_nil))) pa_nil)))
    (pss_cons (ps_expr (pe_bm PySem.F.plainAttrs_list PySem.F.slot_list_append PySem.F.type_list_append mt_append (pv 4) (pa_cons (pe_said Z hr rfl TB rfl hmT hu (lamS_by (sc := defScope sWords) (by decide +kernel)) rfl (fun _ _ _ _ _ => rfl) (fun A outer s H E f c' hr2 => pe_calX (E := E) cS hr2 rfl (takes_of rfl rfl rfl rfl) (pa_cons (pv 0) (pa_cons (pv 1) (pa_cons (pv 2) pa_nil))))) pa_nil)))
    (pss_cons (ps_expr (pe_bm PySem.F.plainAttrs_list PySem.F.slot_list_append PySem.F.type_list_append mt_append (pv 4) (pa_cons (pe_said Z hr rfl TB rfl hmT hu (lamS_by (sc := defScope sWords) (by decide +kernel)) rfl (fun _ _ _ _ _ => rfl) (fun A outer s H E f c' hr2 => pe_calX (E := E) cA hr2 rfl (takes_of rfl rfl rfl rfl) (pa_cons (pv 0) (pa_cons (pv 1) (pa_cons (pv 2) pa_nil))))) pa_nil)))
    (pss_cons (ps_expr (pe_bm PySem.F.plainAttrs_list PySem.F.slot_list_append PySem.F.type_list_append mt_append (pv 4) (pa_cons (pe_said Z hr rfl TB rfl hmT hu (lamS_by (sc := defScope sWords) (by decide +kernel)) rfl (fun _ _ _ _ _ => rfl) (fun A outer s H E f c' hr2 => pe_calX (E := E) cH hr2 rfl (takes_of rfl rfl rfl rfl) (pa_cons (pv 0) (pa_cons (pv 1) (pa_cons (pv 2) pa_nil))))) pa_nil)))
    (pss_one (ps_ret (pe_op op_cat (pv 4) (pe_lst (pa_cons (pe_said Z hr rfl TB rfl hmT hu (lamS_by (sc := defScope sWords) (by decide +kernel)) rfl (fun _ _ _ _ _ => rfl) (fun A outer s H E f c' hr2 => pe_pkX (E := E) cG hr2 rfl (takes_of rfl rfl rfl rfl) (pa_cons (pv 0) (pa_cons (pv 1) (pa_cons (pv 2) pa_nil))) (pk_cons (pv 3) pk_nil))) pa_nil))))))))), ?_⟩
  refine ⟨tb, fun H1 e1 t1 => ⟨_, rfl, _, rfl, _, rfl, rfl, rfl, x, b, k, _, rfl, bad H1 _ e1 fun H2 s2 => ?_⟩⟩
  have e2 := e1.trans (ext_same s2)
  refine ⟨small (by show 1 ≤ 1000; decide), fun fa hfa => ?_⟩
  have hf0 : ∀ u, H fa = some u → ∃ ps, u = HO.tbl ps := fun u hu => by
    by_cases z : ∃ ps, u = HO.tbl ps
    · exact z
    · have := e2 fa u hu fun ps q => z ⟨ps, q⟩
      rw [hfa] at this
      cases this
  have k0 : ExtN H (upd H2 fa (.lst [.str wd])) := ext_upd e2 hf0
  have d0 : Tabs T (upd H2 fa (.lst [.str wd])) := (t1.ext s2).ext (same_new hfa _)
  have a0 : upd H2 fa (.lst [.str wd]) fa = some (.lst [.str wd]) := upd_same
  refine ⟨_, rfl, .inl ⟨rfl, _, SqL.of a0⟩, d0, fun Ha1 ea1 ta1 => ⟨_, rfl, _, rfl, _, rfl, rfl, rfl, x, b, k, _, rfl, (bad.go k0) Ha1 _ ea1 fun Hb1 sb1 => ?_⟩⟩
  have ab1 := sb1 _ _ (ext_lst ea1 a0)
  refine ⟨fa, [.str wd], .str wd, rfl, rfl, ab1, Nat.lt_of_lt_of_le (show 1 < 1000 by decide) (small (Nat.le_refl _)), ?_⟩
  have k1 : ExtN H (upd Hb1 fa (.lst [.str wd, .str wd])) := ext_upd (k0.trans (ea1.trans (ext_same sb1))) hf0
  have d1 : Tabs T (upd Hb1 fa (.lst [.str wd, .str wd])) := tabs_upd (ta1.ext sb1) ab1
  have a1 : upd Hb1 fa (.lst [.str wd, .str wd]) fa = some (.lst [.str wd, .str wd]) := upd_same
  refine ⟨_, rfl, .inl ⟨rfl, _, SqL.of a1⟩, d1, fun Ha2 ea2 ta2 => ⟨_, rfl, _, rfl, _, rfl, x, b, k, rfl, (bad.go k1) Ha2 _ ea2 fun Hb2 sb2 => ?_⟩⟩
  have ab2 := sb2 _ _ (ext_lst ea2 a1)
  refine ⟨fa, [.str wd, .str wd], .str wd, rfl, rfl, ab2, Nat.lt_of_lt_of_le (show 2 < 1000 by decide) (small (Nat.le_refl _)), ?_⟩
  have k2 : ExtN H (upd Hb2 fa (.lst [.str wd, .str wd, .str wd])) := ext_upd (k1.trans (ea2.trans (ext_same sb2))) hf0
  have d2 : Tabs T (upd Hb2 fa (.lst [.str wd, .str wd, .str wd])) := tabs_upd (ta2.ext sb2) ab2
  have a2 : upd Hb2 fa (.lst [.str wd, .str wd, .str wd]) fa = some (.lst [.str wd, .str wd, .str wd]) := upd_same
  refine ⟨_, rfl, .inl ⟨rfl, _, SqL.of a2⟩, d2, fun Ha3 ea3 ta3 => ⟨_, rfl, _, rfl, _, rfl, x, b, k, rfl, (bad.go k2) Ha3 _ ea3 fun Hb3 sb3 => ?_⟩⟩
  have ab3 := sb3 _ _ (ext_lst ea3 a2)
  refine ⟨fa, [.str wd, .str wd, .str wd], .str wd, rfl, rfl, ab3, Nat.lt_of_lt_of_le (show 3 < 1000 by decide) (small (Nat.le_refl _)), ?_⟩
  have k3 : ExtN H (upd Hb3 fa (.lst [.str wd, .str wd, .str wd, .str wd])) := ext_upd (k2.trans (ea3.trans (ext_same sb3))) hf0
  have d3 : Tabs T (upd Hb3 fa (.lst [.str wd, .str wd, .str wd, .str wd])) := tabs_upd (ta3.ext sb3) ab3
  have a3 : upd Hb3 fa (.lst [.str wd, .str wd, .str wd, .str wd]) fa = some (.lst [.str wd, .str wd, .str wd, .str wd]) := upd_same
  refine ⟨_, rfl, .inl ⟨rfl, _, SqL.of a3⟩, d3, fun Ha4 ea4 ta4 => ⟨_, rfl, _, rfl, _, rfl, x, b, k, rfl, (bad.go k3) Ha4 _ ea4 fun Hb4 sb4 => ?_⟩⟩
  have ab4 := sb4 _ _ (ext_lst ea4 a3)
  refine ⟨fa, [.str wd, .str wd, .str wd, .str wd], .str wd, rfl, rfl, ab4, Nat.lt_of_lt_of_le (show 4 < 1000 by decide) (small (Nat.le_refl _)), ?_⟩
  have k4 : ExtN H (upd Hb4 fa (.lst [.str wd, .str wd, .str wd, .str wd, .str wd])) := ext_upd (k3.trans (ea4.trans (ext_same sb4))) hf0
  have d4 : Tabs T (upd Hb4 fa (.lst [.str wd, .str wd, .str wd, .str wd, .str wd])) := tabs_upd (ta4.ext sb4) ab4
  have a4 : upd Hb4 fa (.lst [.str wd, .str wd, .str wd, .str wd, .str wd]) fa = some (.lst [.str wd, .str wd, .str wd, .str wd, .str wd]) := upd_same
  refine ⟨_, rfl, d4, fun H6 e6 t6 => ⟨_, rfl, _, rfl, _, rfl, _, rfl, rfl, rfl, x, b, k, _, rfl, .inl ((bad.go k4) H6 _ e6 fun H7 s7 => ?_)⟩⟩
  have a7 := s7 _ _ (ext_lst e6 a4)
  refine ⟨small (by show 1 ≤ 1000; decide), fun pb hpb => ?_⟩
  have s8 := same_new hpb (.lst [.str wd])
  refine ⟨fa, pb, [.str wd, .str wd, .str wd, .str wd, .str wd], [.str wd], rfl, rfl, s8 _ _ a7, upd_same, small (by show 6 ≤ 1000; decide), fun p hp => ?_⟩
  have s9 := s8.trans (same_new hp (.lst ([.str wd, .str wd, .str wd, .str wd, .str wd] ++ [.str wd])))
  exact q p _ (k4.trans (e6.trans (ext_same (s7.trans s9)))) ((t6.ext s7).ext s9) upd_same
end
/-! what is written down, laid anew -/
def dif (H H' : Hp) : Hp := fun b => match H b with
  | none => H' b
  | some _ => none
theorem dif_at {H H' : Hp} {p : Addr} {o : HO} (h : H p = none) (h' : H' p = some o) : dif H H' p = some o := by
  unfold dif
  rw [h]
  exact h'
theorem dif_some {H H' : Hp} {p : Addr} {o : HO} (h : dif H H' p = some o) : H p = none ∧ H' p = some o := by
  unfold dif at h
  cases e : H p with
  | none =>
    rw [e] at h
    exact ⟨rfl, h⟩
  | some u =>
    rw [e] at h
    cases h
theorem dif_l {H H1 H2 : Hp} (s : Same H1 H2) : Same (dif H H1) (dif H H2) := fun b o h => by
  obtain ⟨h1, h2⟩ := dif_some h
  exact dif_at h1 (s _ _ h2)
theorem dif_r {H H1 H2 : Hp} (s : Same H H1) : Same (dif H1 H2) (dif H H2) := fun b o h => by
  obtain ⟨h1, h2⟩ := dif_some h
  exact dif_at (s.free h1) h2
theorem dif_in {H H' : Hp} : Same (dif H H') H' := fun b o h => (dif_some h).2
theorem dp_same {K : PySem.W.Frag} {H H' : Hp} (s : Same H H') {d : PyData} {v : V} (h : Dp K H v d) : Dp K H' v d := dp_ext (ext_same s) d v h
theorem dps_same {K : PySem.W.Frag} {H H' : Hp} (s : Same H H') {ds : List PyData} {vs : List V} (h : DpAll K H vs ds) : DpAll K H' vs ds := dp_exts (ext_same s) ds vs h
def tLit (K : PySem.W.Frag) (d : PyData) : TE := fun _ H Q => ∀ v H', Same H H' → Dp K (dif H H') v d → Q v H'
def tLits (K : PySem.W.Frag) (ds : List PyData) : TA := fun _ H Q => ∀ vs H', Same H H' → DpAll K (dif H H') vs ds → Q vs H'
theorem pe_imp {X : Cx} {e : Expr} {t t' : TE} (h : PE X e t) (w : ∀ σ H Q, t' σ H Q → t σ H Q) : PE X e t' := ⟨fun pins s σ H Q I q => h.run pins s σ H Q I (w _ _ _ q)⟩
theorem pa_imp {X : Cx} {es : List Expr} {t t' : TA} (h : PA X es t) (w : ∀ σ H Q, t' σ H Q → t σ H Q) : PA X es t' := ⟨fun pos pins s σ H Q I q => h.run pos pins s σ H Q I (w _ _ _ q)⟩
section
variable {X : Cx}
theorem lits_nil : PA X [] (tLits X.K []) := pa_imp pa_nil fun σ H Q q => q [] H (Same.refl _) .nil
theorem lits_cons {e : Expr} {es : List Expr} {d : PyData} {ds : List PyData} (h : PE X e (tLit X.K d)) (hs : PA X es (tLits X.K ds)) (hst : starEach (e :: es) X.env = (false, eval e X.env) :: starEach es X.env := by rfl) : PA X (e :: es) (tLits X.K (d :: ds)) :=
  pa_imp (pa_cons h hs hst) fun σ H Q q v H1 s1 d1 vs H2 s2 d2 => q (v :: vs) H2 (s1.trans s2) (.cons (dp_same (dif_l s2) d1) (dps_same (dif_r s1) d2))
theorem lit_int {i : Int} {j : Nat} {pos : Pos} : PE X (.Constant (.int i) j pos) (tLit X.K (.int i)) := pe_imp pe_int fun σ H Q q => q _ H (Same.refl _) (.int _)
theorem lit_str {x : Str} {j : Nat} {pos : Pos} : PE X (.Constant (.str x) j pos) (tLit X.K (.str x)) := pe_imp pe_str fun σ H Q q => q _ H (Same.refl _) (.str _)
theorem lit_bl {b : Bool} {j : Nat} {pos : Pos} : PE X (.Constant (.bool b) j pos) (tLit X.K (.bool b)) := pe_imp pe_bl fun σ H Q q => q _ H (Same.refl _) (.bl _)
theorem lit_non {j : Nat} {pos : Pos} : PE X (.Constant .none j pos) (tLit X.K .none) := pe_imp pe_non fun σ H Q q => q _ H (Same.refl _) .non
theorem lit_neg {e : Expr} {i : Int} {pos : Pos} (h : PE X e (tC (.int i))) : PE X (.UnaryOp .USub e pos) (tLit X.K (.int (-i))) := pe_imp (pe_un un_neg h) fun σ H Q q => ⟨i, rfl, q _ H (Same.refl _) (.int _)⟩
theorem lit_tup {es : List Expr} {ds : List PyData} {x1 : Nat} {pos : Pos} (h : PA X es (tLits X.K ds)) (hl : ds.length ≤ 1000) : PE X (.Tuple es x1 pos) (tLit X.K (.tuple ds)) :=
  pe_imp (pe_tup h) fun σ H Q q vs H1 s1 d1 => ⟨small (by rw [dpAll_len d1]; exact hl), fun p hp => q _ _ (s1.trans (same_new hp _)) (.tup (SqT.of (dif_at (s1.free hp) upd_same)) (dps_same (dif_l (same_new hp _)) d1))⟩
theorem lit_lst {es : List Expr} {ds : List PyData} {pos : Pos} (h : PA X es (tLits X.K ds)) (hl : ds.length ≤ 1000) : PE X (.List es pos) (tLit X.K (.list ds)) :=
  pe_imp (pe_lst h) fun σ H Q q vs H1 s1 d1 => ⟨small (by rw [dpAll_len d1]; exact hl), fun p hp => q _ _ (s1.trans (same_new hp _)) (.lst (SqL.of (dif_at (s1.free hp) upd_same)) (dps_same (dif_l (same_new hp _)) d1))⟩
theorem lit_dict0 {pos : Pos} : PE X (.Dict [] [] pos) (tLit X.K (.dict (dictD []))) := pe_imp pe_dnewK fun σ H Q q p hp => q _ _ (same_new hp _) (.dct (ms := []) (dif_at hp upd_same))
theorem lit_dict1 {i k : Int} {j1 j2 : Nat} {p1 p2 pos : Pos} : PE X (.Dict [some (.Constant (.int i) j1 p1)] [.Constant (.int k) j2 p2] pos) (tLit X.K (.dict (dictD [(i, k)]))) :=
  pe_imp (pe_disp (pps_cons pe_int pe_int pps_nil) rfl rfl (by simp) (by show 1 ≤ 15; decide)) fun σ H Q q p hp => ⟨upd_same, [(Sum.inl i, V.int k)], rfl, by show 1 ≤ 15; decide, by
    rw [upd_upd]
    exact q _ _ (same_new hp _) (.dct (ms := [(i, k)]) (dif_at hp upd_same))⟩
end
section
variable {X : Cx}
theorem lit_big {j1 j2 : Nat} {p1 p2 pos : Pos} : PE X (.BinOp (.Constant (.int 10) j1 p1) .Pow (.Constant (.int 29) j2 p2) pos) (tLit X.K (.int (10 ^ 29))) := pe_imp (pe_op op_pow pe_int pe_int) fun σ H Q q => ⟨_, _, rfl, rfl, ⟨by decide, by decide, by decide⟩, q _ H (Same.refl _) (.int _)⟩
theorem lit_low {j0 j1 j2 : Nat} {p0 p1 p2 p3 pos : Pos} : PE X (.BinOp (.Constant (.int 0) j0 p0) .Sub (.BinOp (.Constant (.int 10) j1 p1) .Pow (.Constant (.int 29) j2 p2) p3) pos) (tLit X.K (.int (0 - 10 ^ 29))) := pe_imp (pe_op op_sub pe_int (pe_op op_pow pe_int pe_int)) fun σ H Q q => ⟨_, _, rfl, rfl, ⟨by decide, by decide, by decide⟩, _, _, rfl, rfl, q _ H (Same.refl _) (.int _)⟩
end
/-! odd things -/
def odd0 : List PyData := [.none, .bool true, .bool false, .int (-1), .int 0, .int 3, .int 9999, .int 10000, .int (10 ^ 29), .int (0 - 10 ^ 29), .str "", .str "tie", .str "0", .str "copy", .tuple [], .list [], .dict (dictD [])]
def odd1 : List PyData := [.tuple [.int 0], .list [.int 0], .tuple [.int 0, .int 0, .int 0], .tuple [.tuple [.int 0, .int 0, .int 0]], .tuple [.tuple [.int 0, .int 0]], .list [.tuple [.int 0, .int 0, .int 0]], .tuple [.str "tie", .int 0], .tuple [.tuple [.str "tie", .int 0], .int 0, .int 0]]
def odd2 : List PyData := [.dict (dictD [(0, 0)]), .tuple [.str "tie"], .tuple [.tuple [.int 0, .int 0, .int 0, .int 0]], .tuple [.tuple [.tuple [.int 0, .int 0, .int 0]]], .str "G", .str "a", .tuple [.str "num", .str "a", .int 0]]
/-- all but the state's list -/
def mn (st : Addr) (H : Hp) : Hp := fun b => if b = st then none else H b
theorem mn_at {st p : Addr} {H : Hp} {o : HO} (n : p ≠ st) (h : H p = some o) : mn st H p = some o := by
  unfold mn
  rw [if_neg n]
  exact h
theorem mn_some {st p : Addr} {H : Hp} {o : HO} (h : mn st H p = some o) : p ≠ st ∧ H p = some o := by
  unfold mn at h
  by_cases e : p = st
  · rw [if_pos e] at h
    cases h
  · rw [if_neg e] at h
    exact ⟨e, h⟩
theorem mn_kp {st : Addr} {H H' : Hp} (k : Kp st H H') : Same (mn st H) (mn st H') := fun b o h => by
  obtain ⟨n, h⟩ := mn_some h
  exact mn_at n (k b o n h)
theorem mn_in {st : Addr} {H : Hp} : Same (mn st H) H := fun b o h => (mn_some h).2
theorem mn_dif {st : Addr} {H H' : Hp} (s : ∃ l, H st = some l) : Same (dif H H') (mn st H') := fun b o h => by
  obtain ⟨h1, h2⟩ := dif_some h
  obtain ⟨l, hl⟩ := s
  exact mn_at (ne_of_none hl h1).symm h2
section
variable {P : Program} {w : World} {K : PySem.W.Frag} {mg : Str → Option Value} {base : Heap} {f : Addr} {fd : FuncData}
def spOdd (K : PySem.W.Frag) : Sp := fun vs H Q _ => ∃ (st : Addr), vs = [.ref st] ∧ StAt H st ∧ ∀ v d H', Mv st H H' → Dp K (mn st H') v d → d ∈ odd0 ++ odd1 ++ odd2 → Q v H'
theorem scOdd : FnScope ["_law_state_here", "_law_some"] ["_law_state_here"] (defScope sOdd) := ⟨rfl, rfl, rfl, by decide +kernel, rfl, by decide +kernel, by decide +kernel⟩
theorem ok_odd {k : Nat} (F : Fun K "_law_odd" "_law_odd" sOdd f fd) (T : Free mg) (cC : Cal P w K mg base "_law_choice" k ["_law_state_here", "_law_many"] spChoice) : FnOk P w K mg base CX0 (k + 1) f fd ["_law_state_here"] (spOdd K) := by
  refine F.ok scOdd (fun vs H Q E h => ?_) (fun cdv A outer s H vs Q E hr h => ?_)
  · obtain ⟨st, rfl, _⟩ := h
    rfl
  obtain ⟨st, rfl, sa, q⟩ := h
  refine ⟨_, pss_cons (ps_set (i := 1) scOdd.nd rfl (.inl rfl) (pe_lst (lits_cons lit_non (lits_cons lit_bl (lits_cons lit_bl (lits_cons (lit_neg pe_int) (lits_cons lit_int (lits_cons lit_int (lits_cons lit_int (lits_cons lit_int (lits_cons lit_big (lits_cons lit_low (lits_cons lit_str (lits_cons lit_str (lits_cons lit_str (lits_cons lit_str (lits_cons (lit_tup lits_nil (by decide)) (lits_cons (lit_lst lits_nil (by decide)) (lits_cons lit_dict0 lits_nil)))))))))))))))))))
    (pss_cons (ps_set (i := 1) scOdd.nd rfl (.inl rfl) (pe_op op_cat (pv 1) (pe_lst (lits_cons (lit_tup (lits_cons lit_int lits_nil) (by decide)) (lits_cons (lit_lst (lits_cons lit_int lits_nil) (by decide)) (lits_cons (lit_tup (lits_cons lit_int (lits_cons lit_int (lits_cons lit_int lits_nil))) (by decide)) (lits_cons (lit_tup (lits_cons (lit_tup (lits_cons lit_int (lits_cons lit_int (lits_cons lit_int lits_nil))) (by decide)) lits_nil) (by decide)) (lits_cons (lit_tup (lits_cons (lit_tup (lits_cons lit_int (lits_cons lit_int lits_nil)) (by decide)) lits_nil) (by decide)) (lits_cons (lit_lst (lits_cons (lit_tup (lits_cons lit_int (lits_cons lit_int (lits_cons lit_int lits_nil))) (by decide)) lits_nil) (by decide)) (lits_cons (lit_tup (lits_cons lit_str (lits_cons lit_int lits_nil)) (by decide)) (lits_cons (lit_tup (lits_cons (lit_tup (lits_cons lit_str (lits_cons lit_int lits_nil)) (by decide)) (lits_cons lit_int (lits_cons lit_int lits_nil))) (by decide)) lits_nil)))))))))))
    (pss_cons (ps_set (i := 1) scOdd.nd rfl (.inl rfl) (pe_op op_cat (pv 1) (pe_lst (lits_cons lit_dict1 (lits_cons (lit_tup (lits_cons lit_str lits_nil) (by decide)) (lits_cons (lit_tup (lits_cons (lit_tup (lits_cons lit_int (lits_cons lit_int (lits_cons lit_int (lits_cons lit_int lits_nil)))) (by decide)) lits_nil) (by decide)) (lits_cons (lit_tup (lits_cons (lit_tup (lits_cons (lit_tup (lits_cons lit_int (lits_cons lit_int (lits_cons lit_int lits_nil))) (by decide)) lits_nil) (by decide)) lits_nil) (by decide)) (lits_cons lit_str (lits_cons lit_str (lits_cons (lit_tup (lits_cons lit_str (lits_cons lit_str (lits_cons lit_int lits_nil))) (by decide)) lits_nil))))))))))
    (pss_one (ps_ret (pe_ix ix_list (pv 1) (pe_cal cC hr rfl (pa_cons (pv 0) (pa_cons (pe_callB call_len_seq rfl T.len PySem.boot_len (pa_cons (pv 1) pa_nil)) pa_nil))) (fun _ _ => rfl)))))), ?_⟩
  have some_st := sa.some
  have stx : ∃ l, H st = some l := by
    obtain ⟨l, h⟩ := some_st
    exact ⟨_, h⟩
  intro v0 H0 s0 d0
  have l0 := dpAll_len d0
  refine ⟨small (by rw [l0]; decide), fun p0 h0 => ?_⟩
  have n0 := same_new h0 (.lst v0)
  refine ⟨_, rfl, fun v1 H1 s1 d1 => ?_⟩
  have l1 := dpAll_len d1
  refine ⟨small (by rw [l1]; decide), fun p1 h1 => ?_⟩
  have n1 := same_new h1 (.lst v1)
  refine ⟨p0, p1, v0, v1, rfl, rfl, n1 _ _ (s1 _ _ upd_same), upd_same, small (by rw [l0, l1]; decide), fun p2 h2 => ?_⟩
  have n2 := same_new h2 (.lst (v0 ++ v1))
  refine ⟨_, rfl, fun v3 H3 s3 d3 => ?_⟩
  have l3 := dpAll_len d3
  refine ⟨small (by rw [l3]; decide), fun p3 h3 => ?_⟩
  have n3 := same_new h3 (.lst v3)
  refine ⟨p2, p3, v0 ++ v1, v3, rfl, rfl, n3 _ _ (s3 _ _ upd_same), upd_same, small (by rw [List.length_append, l0, l1, l3]; decide), fun p4 h4 => ?_⟩
  have n4 := same_new h4 (.lst (v0 ++ v1 ++ v3))
  have sA := s0.trans n0
  have sB := sA.trans (s1.trans (n1.trans n2))
  have sC := sB.trans (s3.trans (n3.trans n4))
  have all : DpAll K (dif H (upd (upd H3 p3 (.lst v3)) p4 (.lst (v0 ++ v1 ++ v3)))) (v0 ++ v1 ++ v3) (odd0 ++ odd1 ++ odd2) :=
    dpAll_append (dps_same ((dif_r sB).trans (dif_l (n3.trans n4))) d3) (dpAll_append (dps_same ((dif_r sA).trans (dif_l (n1.trans (n2.trans (s3.trans (n3.trans n4)))))) d1) (dps_same (dif_l (n0.trans (s1.trans (n1.trans (n2.trans (s3.trans (n3.trans n4))))))) d0))
  have len := dpAll_len all
  refine ⟨_, rfl, _, rfl, _, rfl, p4, _, rfl, .inl (SqL.of upd_same), st, _, rfl, sa.same sC, by rw [len]; decide, by rw [len]; decide, fun r H5 r0 r1 mv => ?_⟩
  have np4 : p4 ≠ st := (sa.same (sB.trans (s3.trans n3))).ne h4
  have hr5 : r.toNat < (v0 ++ v1 ++ v3).length := by omega
  have hx := List.getElem?_eq_getElem hr5
  obtain ⟨d, hd, hdp⟩ := dpAll_get' all hx
  refine ⟨p4, _, r, _, rfl, rfl, SqL.of (mv.kp _ _ np4 upd_same), atI_at r0 hx, q _ d H5 ⟨(Kp.of_same sC).trans mv.kp, mv.sa⟩ (dp_same ((mn_dif stx).trans (mn_kp mv.kp)) hdp) (List.mem_of_getElem? hd)⟩
end
/-! the size of what is shown -/
theorem short_all {B : Nat} : ∀ {l : List PyData}, (∀ z ∈ l, z.leavesShort B = true) → PyData.leavesShortAll B l = true
  | [], _ => by simp only [PyData.leavesShortAll]
  | u :: v, h => by
    simp only [PyData.leavesShortAll, Bool.and_eq_true]
    exact ⟨h u List.mem_cons_self, short_all fun z hz => h z (List.mem_cons_of_mem _ hz)⟩
theorem show_all : ∀ {l : List PyData}, (∀ z ∈ l, z.showable = true) → PyData.showableAll l = true
  | [], _ => by simp only [PyData.showableAll]
  | u :: v, h => by
    simp only [PyData.showableAll, Bool.and_eq_true]
    exact ⟨h u List.mem_cons_self, show_all fun z hz => h z (List.mem_cons_of_mem _ hz)⟩
theorem dict_all : ∀ {l : List PyData}, (∀ z ∈ l, z.hasDict = false) → PyData.hasDictAll l = false
  | [], _ => by simp only [PyData.hasDictAll]
  | u :: v, h => by
    simp only [PyData.hasDictAll, Bool.or_eq_false_iff]
    exact ⟨h u List.mem_cons_self, dict_all fun z hz => h z (List.mem_cons_of_mem _ hz)⟩
theorem bulk_all {k : Nat} : ∀ {l : List PyData}, (∀ z ∈ l, z.bulk ≤ k) → PyData.bulkAll l ≤ (k + 1) * l.length
  | [], _ => by simp only [PyData.bulkAll]; exact Nat.zero_le _
  | u :: v, h => by
    have h1 := h u List.mem_cons_self
    have h2 := bulk_all (l := v) fun z hz => h z (List.mem_cons_of_mem _ hz)
    simp only [PyData.bulkAll, List.length_cons]
    rw [Nat.mul_add]
    omega
/-- may be shown, within this bulk and depth -/
structure Sh (b dp : Nat) (d : PyData) : Prop where
  shw : d.showable = true
  nod : d.hasDict = false
  sho : d.leavesShort 40 = true
  blk : d.bulk ≤ b
  dep : d.depth ≤ dp
theorem Sh.mono {b b' p p' : Nat} {d : PyData} (h : Sh b p d) (l : b ≤ b') (l' : p ≤ p') : Sh b' p' d := ⟨h.shw, h.nod, h.sho, Nat.le_trans h.blk l, Nat.le_trans h.dep l'⟩
theorem sh_tup {b p : Nat} {l : List PyData} (h : ∀ z ∈ l, Sh b p z) : Sh ((b + 1) * l.length) (p + 1) (.tuple l) :=
  ⟨by simp only [PyData.showable]; exact show_all fun z hz => (h z hz).shw, by simp only [PyData.hasDict]; exact dict_all fun z hz => (h z hz).nod, by simp only [PyData.leavesShort]; exact short_all fun z hz => (h z hz).sho,
    by simp only [PyData.bulk]; exact bulk_all fun z hz => (h z hz).blk, by simp only [PyData.depth]; have := depth_all fun z hz => (h z hz).dep; omega⟩
theorem sh_lst {b p : Nat} {l : List PyData} (h : ∀ z ∈ l, Sh b p z) : Sh ((b + 1) * l.length) (p + 1) (.list l) :=
  ⟨by simp only [PyData.showable]; exact show_all fun z hz => (h z hz).shw, by simp only [PyData.hasDict]; exact dict_all fun z hz => (h z hz).nod, by simp only [PyData.leavesShort]; exact short_all fun z hz => (h z hz).sho,
    by simp only [PyData.bulk]; exact bulk_all fun z hz => (h z hz).blk, by simp only [PyData.depth]; have := depth_all fun z hz => (h z hz).dep; omega⟩
theorem Sh.fits {b p : Nat} {d : PyData} (h : Sh b p d) (hb : b ≤ 100000) : d.shown.length ≤ sizeLine := by
  have h1 := PyData.shown_le_bulk 40 (by decide) d h.sho
  have h2 := h.blk
  have h3 := sizeLine_eq
  have : (40 + 2) * d.bulk ≤ 42 * 100000 := Nat.mul_le_mul_left 42 (Nat.le_trans h2 hb)
  omega
/-! what is shown of graphs -/
theorem sh_int {i : Int} (h : i.natAbs < 10 ^ 12) : Sh 0 0 (.int i) := by
  refine ⟨?_, by simp only [PyData.hasDict], ?_, by simp only [PyData.bulk]; exact Nat.le_refl _, by simp only [PyData.depth]; exact Nat.le_refl _⟩
  · simp only [PyData.showable, decide_eq_true_eq]
    by_cases z : i.natAbs = 0
    · rw [z]
      decide
    · exact Nat.lt_of_lt_of_le ((Nat.log2_lt z).mpr (Nat.lt_of_lt_of_le h (show 10 ^ 12 ≤ 2 ^ 40 by decide))) (by decide)
  · simp only [PyData.leavesShort, decide_eq_true_eq]
    exact Nat.le_trans (PyData.shown_int_le h) (by decide)
theorem sh_str : Sh 3 0 (.str "tie") := ⟨by simp only [PyData.showable], by simp only [PyData.hasDict], by decide +kernel, by decide +kernel, by simp only [PyData.depth]; exact Nat.le_refl _⟩
theorem sh_tie {j : Int} (h : j.natAbs < 10 ^ 12) : Sh 8 1 (.tuple [.str "tie", .int j]) := by
  refine (sh_tup (b := 3) (p := 0) fun z hz => ?_).mono (by simp) (by omega)
  rcases List.mem_cons.mp hz with rfl | hz
  · exact sh_str
  · rcases List.mem_cons.mp hz with rfl | hz
    · exact (sh_int h).mono (by omega) (by omega)
    · cases hz
theorem place_bulk {n m : Nat} (ih : ∀ d c, gsz n d = some c → d.bulk ≤ 40 * c) {p : PyData} {a : Nat} (h : placeN (gsz n) m p = some a) (hm : m ≤ 8) : p.bulk ≤ 8 + 40 * a := by
  rcases placeN_val h with ⟨e, rfl⟩ | ⟨_, e⟩
  · cases placeN_some h with
    | num _ _ => simp only [PyData.bulk]; omega
    | @tie j h1 h2 => exact Nat.le_trans (sh_tie (j := j) (by omega)).blk (by omega)
    | @graph ps r k hg => rw [isG_graph] at e; cases e
  · have := ih _ _ e
    omega
theorem bulk_places {n m : Nat} (hm : m ≤ 8) (ih : ∀ d c, gsz n d = some c → d.bulk ≤ 40 * c) : ∀ {ps : List PyData} {s : Nat}, sumO (placeN (gsz n) m) ps = some s → PyData.bulkAll ps ≤ 9 * ps.length + 40 * s
  | [], s, h => by simp only [PyData.bulkAll]; omega
  | p :: r, s, h => by
    obtain ⟨u, v, h1, h3, rfl⟩ := sumO_cons h
    have i1 := place_bulk ih h1 hm
    have i2 := bulk_places hm ih h3
    simp only [PyData.bulkAll, List.length_cons]
    omega
theorem bulk_boxes {n m : Nat} (hm : m ≤ 8) (ih : ∀ d c, gsz n d = some c → d.bulk ≤ 40 * c) : ∀ {bs : List PyData} {s : Nat}, sumO (boxN (placeN (gsz n) m)) bs = some s → PyData.bulkAll bs ≤ 28 * bs.length + 40 * s
  | [], s, h => by simp only [PyData.bulkAll]; omega
  | b :: r, s, h => by
    obtain ⟨u, v, h1, h3, rfl⟩ := sumO_cons h
    obtain ⟨p, q, t, rfl, hp⟩ := boxN_some h1
    have i1 := bulk_places hm ih hp
    have i2 := bulk_boxes hm ih h3
    simp only [PyData.bulkAll, PyData.bulk, List.length_cons, List.length_nil] at i1 ⊢
    omega
theorem bulk_graph : ∀ (n : Nat) (d : PyData) (c : Nat), gsz n d = some c → d.bulk ≤ 40 * c
  | 0, d, c, h => by cases h
  | n + 1, d, c, h => by
    obtain ⟨m, bs, s, e, rfl, l1, l8, hs, rfl, h24⟩ := gsz_some h
    cases e
    have := bulk_boxes l8 (bulk_graph n) hs
    simp only [PyData.bulk]
    omega
theorem shq_graph : ∀ (n : Nat) (d : PyData) (c : Nat), gsz n d = some c → Sh (40 * c) (2 * n + 1) d
  | 0, d, c, h => by cases h
  | n + 1, d, c, h => by
    have hb := bulk_graph _ _ _ h
    obtain ⟨m, bs, s, e, rfl, l1, l8, hs, _⟩ := gsz_some h
    cases e
    have q : Sh ((200 * (40 * 24 + 60) + 1) * bs.length) (2 * n + 3) (.tuple bs) := by
      refine sh_tup (b := 200 * (40 * 24 + 60)) (p := 2 * n + 2) fun b hbm => ?_
      obtain ⟨a, ha⟩ := sumO_mem hs hbm
      have hba : b.bulk ≤ 200 * (40 * 24 + 60) := by
        have z : ∀ {l : List PyData} {x : PyData}, x ∈ l → x.bulk ≤ PyData.bulkAll l := by
          intro l x
          induction l with
          | nil => intro hx; cases hx
          | cons u v ih =>
            intro hx
            simp only [PyData.bulkAll]
            rcases List.mem_cons.mp hx with rfl | hx
            · omega
            · have := ih hx
              omega
        have z1 := z hbm
        have z2 : (PyData.tuple bs).bulk = PyData.bulkAll bs := by simp only [PyData.bulk]
        obtain ⟨_, _, _, _, _, _, _, _, _, h24⟩ := gsz_some h
        omega
      obtain ⟨p, r, t, rfl, hp⟩ := boxN_some ha
      have q2 := sh_tup (l := [p, r, t]) (b := 200 * (40 * 24 + 60)) (p := 2 * n + 1) fun z hz => by
        obtain ⟨u, hu⟩ := sumO_mem hp hz
        have hzb : z.bulk ≤ 200 * (40 * 24 + 60) := by
          have z3 : z.bulk ≤ PyData.bulkAll [p, r, t] := by
            simp only [PyData.bulkAll]
            rcases List.mem_cons.mp hz with rfl | hz
            · omega
            rcases List.mem_cons.mp hz with rfl | hz
            · omega
            rcases List.mem_cons.mp hz with rfl | hz
            · omega
            cases hz
          have z4 : (PyData.tuple [p, r, t]).bulk = PyData.bulkAll [p, r, t] := by simp only [PyData.bulk]
          omega
        cases placeN_some hu with
        | @num i h1 h2 => exact (sh_int (i := i) (by omega)).mono (Nat.zero_le _) (by omega)
        | @tie j h1 h2 => exact (sh_tie (j := j) (by omega)).mono (by omega) (by omega)
        | graph hg =>
          have i := shq_graph n _ _ hg
          exact ⟨i.shw, i.nod, i.sho, hzb, i.dep⟩
      exact ⟨q2.shw, q2.nod, q2.sho, hba, q2.dep⟩
    exact ⟨q.shw, q.nod, q.sho, hb, q.dep⟩
mutual
theorem eqv_refl : ∀ d : PyData, tupOnly d = true → PyData.eqv d d = true
  | .int i, _ => by simp [PyData.eqv]
  | .str x, _ => by simp [PyData.eqv]
  | .tuple xs, h => by simp only [PyData.eqv]; exact eqvAll_refl xs (by simpa only [tupOnly] using h)
  | .none, h => by simp [tupOnly] at h
  | .bool _, h => by simp [tupOnly] at h
  | .list _, h => by simp [tupOnly] at h
  | .dict _, h => by simp [tupOnly] at h
theorem eqvAll_refl : ∀ ds : List PyData, tupOnlyAll ds = true → PyData.eqvAll ds ds = true
  | [], _ => by simp [PyData.eqvAll]
  | d :: ds, h => by
    simp only [tupOnlyAll, Bool.and_eq_true] at h
    simp only [PyData.eqvAll, Bool.and_eq_true]
    exact ⟨eqv_refl d h.1, eqvAll_refl ds h.2⟩
end
/-! tuples cut and put together, the tokens of the empty and the whole ones told alike -/
section
variable {K : PySem.W.Frag}
theorem catA_run {H : Hp} {a b : Addr} {xs ys : List V} {Q : VK} (ha : SqT K H a xs) (hb : SqT K H b ys) (hz : xs.length + ys.length ≤ 1000) (q : ∀ r H', Same H H' → SqT K H' r (xs ++ ys) → Q (.ref r) H') : rCatA K (.ref a) (.ref b) H Q := by
  refine ⟨a, b, xs, ys, rfl, rfl, ha, hb, small hz, fun e => ?_, fun _ e => ?_, fun _ _ p hp => q p _ (same_new hp _) (SqT.of upd_same)⟩
  · subst e
    exact q b H (Same.refl _) hb
  · subst e
    exact q a H (Same.refl _) (by rw [List.append_nil]; exact ha)
theorem slA_run {H : Hp} {a : Addr} {xs : List V} {lo hi : Option Int} {Q : VK} (ha : SqT K H a xs) (q : ∀ r H', Same H H' → SqT K H' r (cutV xs lo hi) → Q (.ref r) H') : rSlA K (.ref a) lo hi H Q := by
  refine ⟨a, xs, rfl, ha, fun wh => ?_, fun _ p hp => q p _ (same_new hp _) (SqT.of upd_same)⟩
  refine q a H (Same.refl _) ?_
  unfold cutV
  rw [wh.1, wh.2, Nat.sub_zero, List.drop_zero, List.take_length]
  exact ha
theorem cut_to {xs : List V} {b : Int} (h0 : 0 ≤ b) (h1 : b ≤ xs.length) : cutV xs none (some b) = xs.take b.toNat := by
  obtain ⟨n, rfl⟩ : ∃ n : Nat, b = n := ⟨b.toNat, by omega⟩
  unfold cutV
  rw [HT.sIx_none, HT.sIx_nat, List.drop_zero, Nat.sub_zero, Nat.min_eq_left (by omega)]
  rfl
theorem cut_from {xs : List V} {b : Int} (h0 : 0 ≤ b) (h1 : b ≤ xs.length) : cutV xs (some b) none = xs.drop b.toNat := by
  obtain ⟨n, rfl⟩ : ∃ n : Nat, b = n := ⟨b.toNat, by omega⟩
  unfold cutV
  rw [HT.sIx_none, HT.sIx_nat, Nat.min_eq_left (by omega)]
  have e : xs.length - n = (xs.drop n).length := by rw [List.length_drop]
  rw [e, List.take_length]
  rfl
theorem set_split {α : Type} : ∀ (xs : List α) (b : Nat) (v : α), b < xs.length → xs.take b ++ [v] ++ xs.drop (b + 1) = xs.set b v
  | x :: r, 0, v, _ => rfl
  | x :: r, b + 1, v, h => by
    have ih := set_split r b v (by simpa using h)
    simp only [List.take_succ_cons, List.cons_append, List.drop_succ_cons, List.set_cons_succ]
    rw [ih]
theorem dpAll_set {H : Hp} {v : V} {d : PyData} (h : Dp K H v d) : ∀ {xs : List V} {ds : List PyData} (i : Nat), DpAll K H xs ds → DpAll K H (xs.set i v) (ds.set i d)
  | _, _, _, .nil => .nil
  | _, _, 0, .cons _ t => .cons h t
  | _, _, i + 1, .cons a t => .cons a (dpAll_set h i t)
end
/-! parts of graphs, and what is made of them by one spoiling -/
inductive Part : Nat → PyData → Prop
  | int {n : Nat} {i : Int} (h : i.natAbs < 10 ^ 12) : Part n (.int i)
  | tie {n : Nat} : Part n (.str "tie")
  | tup {n : Nat} {es : List PyData} (len : es.length ≤ 8) (each : ∀ z ∈ es, Part n z) : Part (n + 1) (.tuple es)
theorem Part.mono {n : Nat} {d : PyData} (h : Part n d) : ∀ {m : Nat}, n ≤ m → Part m d := by
  induction h with
  | int h => intro m _; exact .int h
  | tie => intro m _; exact .tie
  | @tup n es len each ih =>
    intro m hm
    obtain ⟨k, rfl⟩ : ∃ k, m = k + 1 := ⟨m - 1, by omega⟩
    exact .tup len fun z hz => ih z hz (by omega)
theorem Part.shp {n : Nat} {d : PyData} (h : Part n d) : Shp n d := by
  induction h with
  | int h => exact shp_int _ _
  | tie => exact ⟨rfl, by decide +kernel, by simp only [PyData.depth]; exact Nat.zero_le _⟩
  | tup len each ih => exact shp_tup ih
theorem part_tie (n : Nat) {j : Int} (h : j.natAbs < 10 ^ 12) : Part (n + 1) (.tuple [.str "tie", .int j]) := by
  refine .tup (by show 2 ≤ 8; decide) fun z hz => ?_
  rcases List.mem_cons.mp hz with rfl | hz
  · exact .tie
  · rcases List.mem_cons.mp hz with rfl | hz
    · exact .int h
    · cases hz
theorem part_graph : ∀ (n : Nat) (d : PyData) (c : Nat), gsz n d = some c → Part (2 * n + 1) d
  | 0, d, c, h => by cases h
  | n + 1, d, c, h => by
    obtain ⟨m, bs, s, e, rfl, l1, l8, hs, _⟩ := gsz_some h
    cases e
    refine Part.mono (Part.tup (n := 2 * n + 2) l8 fun b hb => ?_) (by omega)
    obtain ⟨a, ha⟩ := sumO_mem hs hb
    obtain ⟨p, q, r, rfl, hp⟩ := boxN_some ha
    refine Part.mono (Part.tup (n := 2 * n + 1) (by show 3 ≤ 8; decide) fun z hz => ?_) (by omega)
    obtain ⟨u, hu⟩ := sumO_mem hp hz
    cases placeN_some hu with
    | @num i h1 h2 => exact .int (by omega)
    | @tie j h1 h2 => exact Part.mono (part_tie 0 (by omega)) (by omega)
    | graph hg => exact part_graph n _ _ hg
/-- may be shown; no list where there is a dict -/
structure SpOk (b p : Nat) (d : PyData) : Prop where
  shw : d.showable = true
  sho : d.leavesShort 40 = true
  one : d.hasDict = true → noL d = true
  blk : d.bulk ≤ b
  dep : d.depth ≤ p
theorem SpOk.mono {b b' p p' : Nat} {d : PyData} (h : SpOk b p d) (l : b ≤ b') (l' : p ≤ p') : SpOk b' p' d := ⟨h.shw, h.sho, h.one, Nat.le_trans h.blk l, Nat.le_trans h.dep l'⟩
theorem nol_all : ∀ {l : List PyData}, (∀ z ∈ l, noL z = true) → noLs l = true
  | [], _ => by simp only [noLs]
  | u :: v, h => by
    simp only [noLs, Bool.and_eq_true]
    exact ⟨h u List.mem_cons_self, nol_all fun z hz => h z (List.mem_cons_of_mem _ hz)⟩
structure Pf (d : PyData) : Prop where
  shw : d.showable = true
  sho : d.leavesShort 40 = true
  nod : d.hasDict = false
  nol : noL d = true
theorem Part.pf {n : Nat} {d : PyData} (h : Part n d) : Pf d := by
  induction h with
  | int h => exact ⟨(sh_int h).shw, (sh_int h).sho, (sh_int h).nod, rfl⟩
  | tie => exact ⟨sh_str.shw, sh_str.sho, sh_str.nod, rfl⟩
  | tup len each ih =>
    exact ⟨by simp only [PyData.showable]; exact show_all fun z hz => (ih z hz).shw, by simp only [PyData.leavesShort]; exact short_all fun z hz => (ih z hz).sho, by simp only [PyData.hasDict]; exact dict_all fun z hz => (ih z hz).nod, by simp only [noL]; exact nol_all fun z hz => (ih z hz).nol⟩
theorem one_tup {l : List PyData} {o : PyData} (ho : o.hasDict = true → noL o = true) (h : ∀ z ∈ l, (z.hasDict = false ∧ noL z = true) ∨ z = o) : (PyData.tuple l).hasDict = true → noL (.tuple l) = true := by
  intro hd
  by_cases e : o.hasDict = true
  · simp only [noL]
    refine nol_all fun z hz => ?_
    rcases h z hz with q | q
    · exact q.2
    · rw [q]
      exact ho e
  · have : PyData.hasDictAll l = false := dict_all fun z hz => by
      rcases h z hz with q | q
      · exact q.1
      · rw [q]
        simpa using e
    simp only [PyData.hasDict] at hd
    rw [this] at hd
    cases hd
theorem bulk_app : ∀ (a b : List PyData), PyData.bulkAll (a ++ b) = PyData.bulkAll a + PyData.bulkAll b
  | [], b => by simp [PyData.bulkAll]
  | x :: a, b => by
    simp only [List.cons_append, PyData.bulkAll]
    rw [bulk_app a b]
    omega
theorem bulk_set : ∀ {l : List PyData} {i : Nat} {e e' : PyData}, l[i]? = some e → PyData.bulkAll (l.set i e') + e.bulk = PyData.bulkAll l + e'.bulk
  | x :: l, 0, e, e', h => by
    cases h
    simp only [List.set_cons_zero, PyData.bulkAll]
    omega
  | x :: l, i + 1, e, e', h => by
    have := bulk_set (l := l) (i := i) (e := e) (e' := e') h
    simp only [List.set_cons_succ, PyData.bulkAll]
    omega
theorem bulk_cut (l : List PyData) (i : Nat) : PyData.bulkAll (l.take i) + PyData.bulkAll (l.drop i) = PyData.bulkAll l := by
  rw [← bulk_app, List.take_append_drop]
theorem bulk_drop (l : List PyData) (i : Nat) : PyData.bulkAll (l.drop i) ≤ PyData.bulkAll l := by
  have := bulk_cut l i
  omega
/-- a tuple of parts, with one thing among them -/
theorem ok_tupO {l : List PyData} {o : PyData} {b p n : Nat} (ho : SpOk b p o) (h : ∀ z ∈ l, Part n z ∨ z = o) (hn : n ≤ p) {b' : Nat} (hb : PyData.bulkAll l ≤ b') : SpOk b' (p + 1) (.tuple l) := by
  refine ⟨?_, ?_, one_tup ho.one fun z hz => (h z hz).imp (fun q => ⟨q.pf.nod, q.pf.nol⟩) id, by simp only [PyData.bulk]; exact hb, ?_⟩
  · simp only [PyData.showable]
    refine show_all fun z hz => ?_
    rcases h z hz with q | q
    · exact q.pf.shw
    · rw [q]
      exact ho.shw
  · simp only [PyData.leavesShort]
    refine short_all fun z hz => ?_
    rcases h z hz with q | q
    · exact q.pf.sho
    · rw [q]
      exact ho.sho
  · simp only [PyData.depth]
    have : PyData.depthAll l ≤ p := depth_all fun z hz => by
      rcases h z hz with q | q
      · exact Nat.le_trans q.shp.2.2 hn
      · rw [q]
        exact ho.dep
    omega
theorem ok_part {n : Nat} {d : PyData} (h : Part n d) : SpOk d.bulk n d := ⟨h.pf.shw, h.pf.sho, (fun z => by rw [h.pf.nod] at z; cases z), Nat.le_refl _, h.shp.2.2⟩
theorem ok_lst {n : Nat} {l : List PyData} (h : ∀ z ∈ l, Part n z) {b' : Nat} (hb : PyData.bulkAll l ≤ b') : SpOk b' (n + 1) (.list l) := by
  refine ⟨by simp only [PyData.showable]; exact show_all fun z hz => (h z hz).pf.shw, by simp only [PyData.leavesShort]; exact short_all fun z hz => (h z hz).pf.sho, fun z => ?_, by simp only [PyData.bulk]; exact hb, ?_⟩
  · have : PyData.hasDictAll l = false := dict_all fun z hz => (h z hz).pf.nod
    simp only [PyData.hasDict] at z
    rw [this] at z
    cases z
  · simp only [PyData.depth]
    have : PyData.depthAll l ≤ n := depth_all fun z hz => (h z hz).shp.2.2
    omega
/-- odd things that are let in here -/
def oddB (o : PyData) : Bool := o.showable && o.leavesShort 40 && (!o.hasDict || noL o) && decide (o.bulk ≤ 12) && decide (o.depth ≤ 4)
theorem oddB_ok {o : PyData} (h : oddB o = true) : SpOk 12 4 o := by
  unfold oddB at h
  simp only [Bool.and_eq_true, Bool.or_eq_true, Bool.not_eq_true', decide_eq_true_eq] at h
  obtain ⟨⟨⟨⟨h1, h2⟩, h3⟩, h4⟩, h5⟩ := h
  exact ⟨h1, h2, fun z => h3.elim (fun q => by rw [q] at z; cases z) id, h4, h5⟩
theorem odd_all : (odd0 ++ odd1 ++ odd2).all oddB = true := by decide +kernel
theorem odd_ok {o : PyData} (h : o ∈ odd0 ++ odd1 ++ odd2) : SpOk 12 4 o := oddB_ok (List.all_eq_true.mp odd_all o h)
/-- what one spoiling makes of a part of this bulk, at this depth -/
def Spt (n : Nat) (d d' : PyData) : Prop := SpOk (2 * d.bulk + 13) (n + 5) d'
/-! _law_spoil -/
theorem pss_imp {X : Cx} {sts : List Stmt} {t t' : TS} (h : PSs X sts t) (w : ∀ D σ H, t' D σ H → t D σ H) : PSs X sts t' := ⟨fun pins s σ H D I q => h.run pins s σ H D I (w _ _ _ q)⟩
def rEqSh (K : PySem.W.Frag) : R2 := fun x y Hh Q => ∃ d e, Dp K Hh x d ∧ Dp K Hh y e ∧ SeqAt.shaped d = true ∧ SeqAt.shaped e = true ∧ Q (.bl (PyData.eqv d e)) Hh
theorem op_eqSh {X : Cx} (hu : X.A.units + 64 < cLine) : OpR X (compareOp .Eq) (rEqSh X.K) := by
  intro pins s σ Hh x y v u Q I rx ry h
  obtain ⟨d, e, hd, he, sd, se, q⟩ := h
  obtain ⟨as, r1, _⟩ := Dp.rd I d x v hd rx
  obtain ⟨bs, r2, _⟩ := Dp.rd I e y u he ry
  exact SeqAt.compareEq_shaped r1 r2 sd se hu ⟨.bl _, Hh, I, rfl, q⟩
theorem sqT_mn {K : PySem.W.Frag} {H : Hp} {st r : Addr} {xs : List V} (sa : StAt H st) (h : SqT K H r xs) : SqT K (mn st H) r xs := by
  obtain ⟨l, hl⟩ := sa.some
  rcases h with (h | ⟨o, h⟩) | h
  · exact .inl (.inl (mn_at (fun e => by rw [e, hl] at h; cases h) h))
  · exact .inl (.inr ⟨o, mn_at (fun e => by rw [e, hl] at h; cases h) h⟩)
  · exact .inr h
theorem sqT_same {K : PySem.W.Frag} {H H' : Hp} {r : Addr} {xs : List V} (s : Same H H') (h : SqT K H r xs) : SqT K H' r xs := sqT_kt (KT.of_same s) h
theorem dpAll_take {K : PySem.W.Frag} {H : Hp} : ∀ {vs : List V} {ds : List PyData} (i : Nat), DpAll K H vs ds → DpAll K H (vs.take i) (ds.take i)
  | _, _, 0, _ => by simp only [List.take_zero]; exact .nil
  | _, _, i + 1, .nil => .nil
  | _, _, i + 1, .cons a t => by simp only [List.take_succ_cons]; exact .cons a (dpAll_take i t)
theorem dpAll_drop {K : PySem.W.Frag} {H : Hp} : ∀ {vs : List V} {ds : List PyData} (i : Nat), DpAll K H vs ds → DpAll K H (vs.drop i) (ds.drop i)
  | _, _, 0, h => by simp only [List.drop_zero]; exact h
  | _, _, i + 1, .nil => .nil
  | _, _, i + 1, .cons a t => by simp only [List.drop_succ_cons]; exact dpAll_drop i t
theorem cut_from0 {xs : List V} {b : Int} (h0 : 0 ≤ b) : cutV xs (some b) none = xs.drop b.toNat := by
  by_cases h1 : b ≤ xs.length
  · exact cut_from h0 h1
  · obtain ⟨n, rfl⟩ : ∃ n : Nat, b = n := ⟨b.toNat, by omega⟩
    unfold cutV
    rw [HT.sIx_none, HT.sIx_nat, Nat.min_eq_right (by omega), Nat.sub_self, List.take_zero]
    exact (List.drop_eq_nil_of_le (by omega)).symm
theorem cut_le (xs : List V) (lo hi : Option Int) (h : xs.length ≤ 8) : (cutV xs lo hi).length ≤ 8 := Nat.le_trans (cutV_length xs lo hi) h
theorem bulk_mem : ∀ {l : List PyData} {x : PyData}, x ∈ l → x.bulk + 1 ≤ PyData.bulkAll l
  | u :: v, x, h => by
    simp only [PyData.bulkAll]
    rcases List.mem_cons.mp h with rfl | h
    · omega
    · have := bulk_mem h
      omega
theorem noP {σ : L2.St} {H : Hp} {Q : Option Int → Hp → Prop} (h : Q none H) : tNoPart σ H Q := h
/-- one of the things in a list -/
theorem pick_dp {K : PySem.W.Frag} {H : Hp} {vs : List V} {ds : List PyData} {r : Int} (h : DpAll K H vs ds) (r0 : 0 ≤ r) (r1 : r < ds.length) : ∃ v d, atI vs r = some v ∧ Dp K H v d ∧ d ∈ ds := by
  have hl := dpAll_len h
  have hr : r.toNat < vs.length := by omega
  obtain ⟨d, hd, hdp⟩ := dpAll_get' h (List.getElem?_eq_getElem hr)
  exact ⟨_, d, atI_at r0 (List.getElem?_eq_getElem hr), hdp, List.mem_of_getElem? hd⟩
def tBase (K : PySem.W.Frag) (n : Nat) : TS := fun D σ H => ∃ (st : Addr) (x : V) (d : PyData) (ov : V) (o : PyData) (o3 o4 : Option V), σ = [some (.ref st), some x, some ov, o3, o4] ∧ StAt H st ∧ Dp K (mn st H) x d ∧ Part n d ∧ Dp K (mn st H) ov o ∧ SpOk 12 4 o ∧
  ∀ v d' H', Mv st H H' → Dp K (mn st H') v d' → Spt n d d' → D.rt v H'
section
variable {P : Program} {w : World} {K : PySem.W.Frag} {mg : Str → Option Value} {base : Heap} {f : Addr} {fd : FuncData}
def spSpoil (K : PySem.W.Frag) (n : Nat) : Sp := fun vs H Q _ => ∃ (st : Addr) (x : V) (d : PyData) (ov : V) (o : PyData), vs = [.ref st, x, ov] ∧ StAt H st ∧ Dp K (mn st H) x d ∧ Part n d ∧ Dp K (mn st H) ov o ∧ SpOk 12 4 o ∧ ∀ v d' H', Mv st H H' → Dp K (mn st H') v d' → Spt n d d' → Q v H'
def spSpoilS (K : PySem.W.Frag) (n : Nat) : Sp := fun vs H Q E => ∃ m, n = m + 1 ∧ spSpoil K m vs H Q E
theorem scSpoil : FnScope ["_law_state_here", "_law_thing", "_law_odd_here", "_law_some", "_law_at"] ["_law_state_here", "_law_thing", "_law_odd_here"] (defScope sSpoil) := ⟨rfl, rfl, rfl, by decide +kernel, rfl, by decide +kernel, by decide +kernel⟩
theorem ok_spoil {k n : Nat} (F : Fun K "_law_spoil" "_law_spoil" sSpoil f fd) (T : Free mg) (cC : Cal P w K mg base "_law_choice" k ["_law_state_here", "_law_many"] spChoice) (cS : Cal P w K mg base "_law_spoil" k ["_law_state_here", "_law_thing", "_law_odd_here"] (spSpoilS K n)) (hn : n ≤ 64) :
    FnOk P w K mg base CX0 (k + 1) f fd ["_law_state_here", "_law_thing", "_law_odd_here"] (spSpoil K n) := by
  refine F.ok scSpoil (fun vs H Q E h => ?_) (fun cdv A outer s H vs Q E hr h => ?_)
  · obtain ⟨st, x, d, ov, o, rfl, _⟩ := h
    rfl
  obtain ⟨st, x, d, ov, o, rfl, sa, hx, hd, ho, hok, q⟩ := h
  refine ⟨_, pss_cons (ps_if (PW.pt (pw_or (pt_not (pt_val (pe_callB call_isi rfl T.isi (by decide +kernel) (pa_cons (pv 1) (pa_cons (pe_bltn (v := .ty "tuple") rfl T.tuple (by decide +kernel) rfl) pa_nil)))))
        (pw_or (pt_cmpR (op_eqSh hr.units) (pv 1) (pe_tup pa_nil) (nomark _)) (pw_or1 (pt_cmpR op_eq (pe_cal cC hr rfl (pa_cons (pv 0) (pa_cons pe_int pa_nil))) pe_int (nomark _))))))
      (pss_imp (t' := tBase K n) (pss_cons (ps_set (i := 3) scSpoil.nd rfl (.inl rfl) (pe_lst (pa_cons (pv 2) (pa_cons (pv 1) (pa_cons (pe_lst (pa_cons (pv 1) pa_nil)) (pa_cons (pe_tup (pa_cons (pv 1) pa_nil)) (pa_cons (pv 2) pa_nil)))))))
        (pss_cons (ps_if (pt_val (pe_callB call_isi rfl T.isi (by decide +kernel) (pa_cons (pv 1) (pa_cons (pe_bltn (v := .ty "tuple") rfl T.tuple (by decide +kernel) rfl) pa_nil))))
          (pss_cons (ps_set (i := 4) scSpoil.nd rfl (.inl rfl) (pe_cal cC hr rfl (pa_cons (pv 0) (pa_cons (pe_op op_add (pe_callB call_len_seq rfl T.len PySem.boot_len (pa_cons (pv 1) pa_nil)) pe_int) pa_nil))))
          (pss_one (ps_set (i := 3) scSpoil.nd rfl (.inl rfl) (pe_lst (pa_cons (pv 2) (pa_cons (pe_callTy call_list_of rfl T.list (by decide +kernel) (pa_cons (pv 1) pa_nil))
            (pa_cons (pe_op op_catA (pe_slice sl_tupA (pv 1) po_none (po_some (pv 4))) (pe_slice sl_tupA (pv 1) (po_some (pe_op op_add (pv 4) pe_int)) po_none))
            (pa_cons (pe_op op_catA (pe_op op_catA (pe_slice sl_tupA (pv 1) po_none (po_some (pv 4))) (pe_tup (pa_cons (pv 2) pa_nil))) (pe_slice sl_tupA (pv 1) (po_some (pv 4)) po_none))
            (pa_cons (pe_op op_catA (pv 1) (pv 1)) pa_nil)))))))))
          pss_nil)
        (pss_one (ps_ret (pe_ix ix_list (pv 3) (pe_cal cC hr rfl (pa_cons (pv 0) (pa_cons pe_int pa_nil))) (fun _ _ => rfl)))))) ?base)
      pss_nil)
    (pss_cons (ps_set (i := 4) scSpoil.nd rfl (.inl rfl) (pe_cal cC hr rfl (pa_cons (pv 0) (pa_cons (pe_callB call_len_seq rfl T.len PySem.boot_len (pa_cons (pv 1) pa_nil)) pa_nil))))
    (pss_one (ps_ret (pe_op op_catA (pe_op op_catA (pe_slice sl_tupA (pv 1) po_none (po_some (pv 4))) (pe_tup (pa_cons (pe_cal cS hr rfl (pa_cons (pv 0) (pa_cons (pe_ix ix_tup (pv 1) (pv 4) (fun _ _ => rfl)) (pa_cons (pv 2) pa_nil)))) pa_nil)))
      (pe_slice sl_tupA (pv 1) (po_some (pe_op op_add (pv 4) pe_int)) po_none))))), ?_⟩
  case base =>
    clear hd hx ho hok q sa
    intro D σ H ⟨st, x, d, ov, o, o3, o4, hσ, sa, hx, hd, ho, hok, q⟩
    subst hσ
    refine ⟨_, rfl, _, rfl, _, rfl, small (by show 1 ≤ 1000; decide), fun p1 h1 => ⟨_, rfl, small (by show 1 ≤ 1000; decide), fun p2 h2 => ⟨_, rfl, small (by show 5 ≤ 1000; decide), fun p3 h3 => ?_⟩⟩⟩
    have s1 := same_new h1 (.lst [x])
    have s2 := same_new h2 (.tup [x])
    have s3 := same_new h3 (.lst [ov, x, .ref p1, .ref p2, ov])
    have sm := s1.trans (s2.trans s3)
    have sa3 := sa.same sm
    have np1 : p1 ≠ st := sa.ne h1
    have np2 : p2 ≠ st := (sa.same s1).ne h2
    have np3 : p3 ≠ st := (sa.same (s1.trans s2)).ne h3
    have m3 := mn_kp (Kp.of_same (st := st) sm)
    have all3 : DpAll K _ [ov, x, .ref p1, .ref p2, ov] [o, d, .list [d], .tuple [d], o] :=
      .cons (dp_same m3 ho) (.cons (dp_same m3 hx) (.cons (.lst (SqL.of (mn_at np1 ((s2.trans s3) _ _ upd_same))) (.cons (dp_same m3 hx) .nil)) (.cons (.tup (SqT.of (mn_at np2 (s3 _ _ upd_same))) (.cons (dp_same m3 hx) .nil)) (.cons (dp_same m3 ho) .nil))))
    have hx3 := dp_same m3 hx
    have ho3 := dp_same m3 ho
    have odd_fits : Spt n d o := hok.mono (by omega) (by omega)
    refine ⟨_, rfl, x, _, _, _, _, rfl, .ty "tuple", ty_of (dp_same mn_in hx3), kit_tuple d, _, rfl, ?_⟩
    cases ht : tupleD d with
    | false =>
      refine ifF rfl ⟨_, rfl, _, rfl, st, 5, rfl, sa3, by decide, by decide, fun r H4 r0 r1 mv => ?_⟩
      obtain ⟨v, d', hat, hdp, hm⟩ := pick_dp all3 r0 r1
      refine ⟨p3, _, r, v, rfl, rfl, SqL.of (mv.kp _ _ np3 upd_same), hat, q v d' H4 ⟨(Kp.of_same sm).trans mv.kp, mv.sa⟩ (dp_same (mn_kp mv.kp) hdp) ?_⟩
      have pd := ok_part hd
      simp only [List.mem_cons, List.not_mem_nil, or_false] at hm
      rcases hm with rfl | rfl | rfl | rfl | rfl
      · exact odd_fits
      · exact pd.mono (by omega) (by omega)
      · exact (ok_lst (n := n) (l := [d]) (b' := d.bulk + 1) (fun z hz => by rw [List.mem_singleton.mp hz]; exact hd) (by simp [PyData.bulkAll])).mono (by omega) (by omega)
      · exact (ok_tupO (n := n) (p := n) (l := [d]) (o := d) (b' := d.bulk + 1) pd (fun z hz => .inl (by rw [List.mem_singleton.mp hz]; exact hd)) (Nat.le_refl _) (by simp [PyData.bulkAll])).mono (by omega) (by omega)
      · exact odd_fits
    | true =>
      obtain ⟨ds, rfl⟩ : ∃ ds, d = .tuple ds := by
        cases d <;> first | exact ⟨_, rfl⟩ | cases ht
      cases hd with
      | @tup m _ len8 each =>
      cases hx3 with
      | @tup a xs _ at3 each3 =>
        have lx := dpAll_len each3
        have l8 : xs.length ≤ 8 := by omega
        refine ifT rfl ⟨_, rfl, _, rfl, a, xs, rfl, .inr (sqT_same mn_in at3), _, _, rfl, rfl, st, _, rfl, sa3, by omega, by omega, fun r H4 r0 r1 mv => ?_⟩
        have m4 := mn_kp mv.kp
        have at4 : SqT K H4 a xs := sqT_same mn_in (sqT_same m4 at3)
        have cl := fun lo hi => cut_le xs lo hi l8
        refine ⟨_, rfl, _, rfl, a, xs, rfl, .inr at4, fun p5 h5 => ?_⟩
        have n5 := same_new h5 (.lst xs)
        have at5 := sqT_same n5 at4
        refine ⟨_, rfl, _, rfl, _, rfl, slA_run at5 fun r6 H6 s6 h6 => ⟨_, rfl, _, rfl, _, _, rfl, rfl, _, rfl, noP (slA_run (sqT_same s6 at5) fun r7 H7 s7 h7 => ?_)⟩⟩
        refine catA_run (sqT_same s7 h6) h7 (by have := cl none (some r); have := cl (some (r + 1)) none; omega) fun r8 H8 s8 h8 => ?_
        have t8 := s6.trans (s7.trans s8)
        have at8 := sqT_same t8 at5
        refine ⟨_, rfl, _, rfl, _, rfl, slA_run at8 fun r9 H9 s9 h9 => ⟨_, rfl, small (by show 1 ≤ 1000; decide), fun p10 h10 => ?_⟩⟩
        have n10 := same_new h10 (.tup [ov])
        refine catA_run (sqT_same n10 h9) (SqT.of upd_same) (by have := cl none (some r); show _ + 1 ≤ 1000; omega) fun r11 H11 s11 h11 => ?_
        have t11 := s9.trans (n10.trans s11)
        refine ⟨_, rfl, _, rfl, _, rfl, noP (slA_run (sqT_same t11 at8) fun r12 H12 s12 h12 => ?_)⟩
        refine catA_run (sqT_same s12 h11) h12 (by have := cl none (some r); have := cl (some r) none; rw [List.length_append]; show _ + 1 + _ ≤ 1000; omega) fun r13 H13 s13 h13 => ?_
        have t13 := t11.trans (s12.trans s13)
        have at13 := sqT_same t13 at8
        refine ⟨_, rfl, _, rfl, catA_run at13 at13 (by omega) fun r14 H14 s14 h14 => ⟨small (by show 5 ≤ 1000; decide), fun p15 h15 => ?_⟩⟩
        have n15 := same_new h15 (.lst [ov, .ref p5, .ref r8, .ref r13, .ref r14])
        have u14 := s14.trans n15
        have u8 := t13.trans u14
        have u5 := t8.trans u8
        have u4 := n5.trans u5
        have sa15 := mv.sa.same u4
        have np5 : p5 ≠ st := mv.sa.ne h5
        have np15 : p15 ≠ st := (mv.sa.same (n5.trans (t8.trans (t13.trans s14)))).ne h15
        have m15 := m4.trans (mn_kp (Kp.of_same (st := st) u4))
        have each15 := dps_same m15 each3
        have ho15 := dp_same m15 ho3
        rw [cut_to r0 (by omega), cut_from0 (by omega), show (r + 1).toNat = r.toNat + 1 by omega] at h8
        rw [cut_to r0 (by omega), cut_from0 r0] at h13
        have all15 : DpAll K _ [ov, .ref p5, .ref r8, .ref r13, .ref r14] [o, .list ds, .tuple (ds.take r.toNat ++ ds.drop (r.toNat + 1)), .tuple (ds.take r.toNat ++ [o] ++ ds.drop r.toNat), .tuple (ds ++ ds)] :=
          .cons ho15 (.cons (.lst (SqL.of (mn_at np5 (u5 _ _ upd_same))) each15) (.cons (.tup (sqT_mn sa15 (sqT_same u8 h8)) (dpAll_append (dpAll_drop _ each15) (dpAll_take _ each15)))
            (.cons (.tup (sqT_mn sa15 (sqT_same u14 h13)) (dpAll_append (dpAll_drop _ each15) (dpAll_snoc ho15 (dpAll_take _ each15)))) (.cons (.tup (sqT_mn sa15 (sqT_same n15 h14)) (dpAll_append each15 each15)) .nil))))
        refine ⟨_, rfl, _, rfl, st, 5, rfl, sa15, by decide, by decide, fun r' H16 r0' r1' mv' => ?_⟩
        obtain ⟨v, d', hat, hdp, hm⟩ := pick_dp all15 r0' r1'
        refine ⟨p15, _, r', v, rfl, rfl, SqL.of (mv'.kp _ _ np15 upd_same), hat, q v d' H16 ⟨(Kp.of_same sm).trans (mv.kp.trans ((Kp.of_same u4).trans mv'.kp)), mv'.sa⟩ (dp_same (mn_kp mv'.kp) hdp) ?_⟩
        have hbd : (PyData.tuple ds).bulk = PyData.bulkAll ds := by simp only [PyData.bulk]
        have hok4 : SpOk 12 (m + 4) o := hok.mono (Nat.le_refl _) (by omega)
        have c1 := bulk_cut ds r.toNat
        simp only [List.mem_cons, List.not_mem_nil, or_false] at hm
        unfold Spt
        rw [hbd]
        rcases hm with rfl | rfl | rfl | rfl | rfl
        · exact hok.mono (by omega) (by omega)
        · exact (ok_lst each (Nat.le_refl _)).mono (by omega) (by omega)
        · refine (ok_tupO (n := m) hok4 (b' := PyData.bulkAll ds) (fun z hz => .inl ?_) (by omega) ?_).mono (by omega) (by omega)
          · rcases List.mem_append.mp hz with hz | hz
            · exact each z (List.mem_of_mem_take hz)
            · exact each z (List.mem_of_mem_drop hz)
          · rw [bulk_app]
            have := bulk_drop (ds.drop r.toNat) 1
            rw [List.drop_drop] at this
            omega
        · refine (ok_tupO (n := m) hok4 (b' := PyData.bulkAll ds + 13) (fun z hz => ?_) (by omega) ?_).mono (by omega) (by omega)
          · rcases List.mem_append.mp hz with hz | hz
            · rcases List.mem_append.mp hz with hz | hz
              · exact .inl (each z (List.mem_of_mem_take hz))
              · exact .inr (List.mem_singleton.mp hz)
            · exact .inl (each z (List.mem_of_mem_drop hz))
          · rw [bulk_app, bulk_app]
            have := hok.blk
            simp only [PyData.bulkAll]
            omega
        · refine (ok_tupO (n := m) hok4 (b' := 2 * PyData.bulkAll ds) (fun z hz => .inl ?_) (by omega) ?_).mono (by omega) (by omega)
          · rcases List.mem_append.mp hz with hz | hz <;> exact each z hz
          · rw [bulk_app]
            omega
  refine ⟨_, rfl, x, _, _, _, _, rfl, .ty "tuple", ty_of (dp_same mn_in hx), kit_tuple d, _, rfl, ?_⟩
  cases ht : tupleD d with
  | false => exact ifT rfl (ifT rfl ⟨st, x, d, ov, o, _, _, rfl, sa, hx, hd, ho, hok, q⟩)
  | true =>
    have shp := hd.shp
    obtain ⟨ds, rfl⟩ : ∃ ds, d = .tuple ds := by
      cases d <;> first | exact ⟨_, rfl⟩ | cases ht
    refine ifF rfl ⟨_, rfl, small (by show 0 ≤ 1000; decide), fun p1 h1 => ?_⟩
    have s1 := same_new h1 (.tup [])
    have sa1 := sa.same s1
    have m1 := mn_kp (Kp.of_same (st := st) s1)
    have hx1 := dp_same m1 hx
    have ho1 := dp_same m1 ho
    refine ⟨.tuple ds, .tuple [], dp_same mn_in hx1, .tup (SqT.of upd_same) .nil, shp_shaped shp hn, by decide +kernel, _, rfl, ?_⟩
    have mv1 : Mv st H _ := ⟨Kp.of_same s1, sa1⟩
    by_cases hds : ds = []
    · subst hds
      exact ifT (by simp [PyData.eqv, PyData.eqvAll]) (ifT rfl ⟨st, x, _, ov, o, _, _, rfl, sa1, hx1, hd, ho1, hok, fun v d' H2 mv2 hdp hsp => q v d' H2 (mv1.trans mv2) hdp hsp⟩)
    · have ne : PyData.eqv (.tuple ds) (.tuple []) = false := by
        cases ds with
        | nil => exact absurd rfl hds
        | cons y ys => simp [PyData.eqv, PyData.eqvAll]
      refine ifF ne ⟨_, rfl, st, 5, rfl, sa1, by decide, by decide, fun r2 H2 r20 r21 mv2 => ⟨rfl, _, rfl, ?_⟩⟩
      have m2 := m1.trans (mn_kp mv2.kp)
      have hx2 := dp_same m2 hx
      have ho2 := dp_same m2 ho
      have mvA := mv1.trans mv2
      refine ite2 (fun c => ?_) (fun c => ?_)
      · exact ⟨st, x, _, ov, o, _, _, rfl, mv2.sa, hx2, hd, ho2, hok, fun v d' H3 mv3 hdp hsp => q v d' H3 (mvA.trans mv3) hdp hsp⟩
      · cases hd with
        | @tup m _ len8 each =>
        cases hx2 with
        | @tup a xs _ at2 each2 =>
          have lx := dpAll_len each2
          have lp : 0 < ds.length := List.length_pos_iff.mpr hds
          have l8 : xs.length ≤ 8 := by omega
          have cl := fun lo hi => cut_le xs lo hi l8
          refine ⟨_, rfl, _, rfl, a, xs, rfl, .inr (sqT_same mn_in at2), st, _, rfl, mv2.sa, by omega, by omega, fun r H3 r0 r1 mv3 => ?_⟩
          have m3 := mn_kp mv3.kp
          have at3 := sqT_same m3 at2
          refine ⟨_, rfl, _, rfl, _, rfl, slA_run (sqT_same mn_in at3) fun r4 H4 s4 h4 => ?_⟩
          have k4 := mn_kp (Kp.of_same (st := st) s4)
          have at4 := sqT_same k4 at3
          have each4 := dps_same (m3.trans k4) each2
          have ho4 := dp_same (m3.trans k4) ho2
          have sa4 := mv3.sa.same s4
          have hi : r.toNat < ds.length := by omega
          obtain ⟨y, hy, hdy⟩ := dpAll_get each4 (List.getElem?_eq_getElem hi)
          refine ⟨_, rfl, _, rfl, _, rfl, a, xs, r, y, rfl, rfl, sqT_same mn_in at4, atI_at r0 hy, _, rfl, m, rfl, st, y, ds[r.toNat], ov, o, rfl, sa4, hdy, each _ (List.getElem_mem hi), ho4, hok, fun v d' H5 mv5 hdp hsp => ⟨small (by show 1 ≤ 1000; decide), fun p6 h6 => ?_⟩⟩
          have k5 := mn_kp mv5.kp
          have h4m := sqT_same mn_in (sqT_same k5 (sqT_mn sa4 h4))
          have n6 := same_new h6 (.tup [v])
          refine catA_run (sqT_same n6 h4m) (SqT.of upd_same) (by have := cl none (some r); show _ + 1 ≤ 1000; omega) fun r7 H7 s7 h7 => ?_
          have at7 := sqT_same (n6.trans s7) (sqT_same mn_in (sqT_same k5 at4))
          refine ⟨_, rfl, _, rfl, _, _, rfl, rfl, _, rfl, noP (slA_run at7 fun r8 H8 s8 h8 => ?_)⟩
          refine catA_run (sqT_same s8 h7) h8 (by have := cl none (some r); have := cl (some (r + 1)) none; rw [List.length_append]; show _ + 1 + _ ≤ 1000; omega) fun r9 H9 s9 h9 => ?_
          rw [cut_to r0 (by omega), cut_from0 (by omega), show (r + 1).toNat = r.toNat + 1 by omega, set_split xs r.toNat v (by omega)] at h9
          have t9 := n6.trans (s7.trans (s8.trans s9))
          have k9 := mn_kp (Kp.of_same (st := st) t9)
          have sa9 := mv5.sa.same t9
          refine q _ (.tuple (ds.set r.toNat d')) H9 ⟨(mvA.kp.trans mv3.kp).trans ((Kp.of_same s4).trans (mv5.kp.trans (Kp.of_same t9))), sa9⟩ (.tup (sqT_mn sa9 h9) (dpAll_set (dp_same k9 hdp) _ (dps_same (k5.trans k9) each4))) ?_
          have hbd : (PyData.tuple ds).bulk = PyData.bulkAll ds := by simp only [PyData.bulk]
          have b1 := bulk_set (e' := d') (List.getElem?_eq_getElem hi)
          have b2 := bulk_mem (List.getElem_mem hi)
          have b3 := hsp.blk
          unfold Spt
          rw [hbd]
          refine (ok_tupO (n := m) (p := m + 5) hsp (b' := 2 * PyData.bulkAll ds + 13) (fun z hz => ?_) (by omega) (by omega)).mono (Nat.le_refl _) (by omega)
          rcases List.mem_or_eq_of_mem_set hz with hz | hz
          · exact .inl (each z hz)
          · exact .inr hz
end
section
variable {P : Program} {w : World} {K : PySem.W.Frag} {mg : Str → Option Value} {base : Heap} {f : Addr} {fd : FuncData}
theorem no_spoil {k : Nat} : FnOk P w K mg base CX0 k f fd ["_law_state_here", "_law_thing", "_law_odd_here"] (spSpoilS K 0) := ⟨(fun vs H Q E h => by obtain ⟨m, e, _⟩ := h; cases e), fun A outer s H args us vs Q E hr he hb hv h => by obtain ⟨m, e, _⟩ := h; cases e⟩
theorem all_spoil {k : Nat} (F : Fun K "_law_spoil" "_law_spoil" sSpoil f fd) (hm : mg "_law_spoil" = some (.ref f)) (hb : Binds K fd ["_law_state_here", "_law_thing", "_law_odd_here"] []) (T : Free mg) (cC : Cal P w K mg base "_law_choice" k ["_law_state_here", "_law_many"] spChoice) :
    ∀ n, n ≤ 64 → FnOk P w K mg base CX0 (k + n + 1) f fd ["_law_state_here", "_law_thing", "_law_odd_here"] (spSpoil K n)
  | 0, h => ok_spoil F T cC ⟨f, fd, no_spoil, hm, F.kp, hb⟩ h
  | n + 1, h => by
    have ih := all_spoil F hm hb T cC n (by omega)
    exact ok_spoil (k := k + (n + 1)) F T (cC.mono (by omega)) ⟨f, fd, ih.imp (fun vs H Q E z => by obtain ⟨m, e, z⟩ := z; cases e; exact z), hm, F.kp, hb⟩ h
end
def fitW (m : Nat) : Option Nat → Option Nat
  | none => none
  | some s => if m + s ≤ 1000 then some (m + s) else none
def wszT (g : PyData → Option Nat) (bs : List PyData) : Option Nat := if 1 ≤ bs.length ∧ bs.length ≤ 8 then fitW bs.length (sumO (boxN (placeN g bs.length)) bs) else none
def wsz : Nat → PyData → Option Nat
  | n + 1, .tuple bs => wszT (wsz n) bs
  | _, _ => none
inductive PlaceOkW (n m : Nat) : PyData → Prop where
  | num {i : Int} (h1 : -9999 ≤ i) (h2 : i ≤ 9999) : PlaceOkW n m (.int i)
  | tie {j : Int} (h1 : 0 ≤ j) (h2 : j < m) : PlaceOkW n m (.tuple [.str "tie", .int j])
  | graph {ps r : List PyData} {k : Nat} (h : wsz n (.tuple (.tuple ps :: r)) = some k) : PlaceOkW n m (.tuple (.tuple ps :: r))
theorem wsz_some {n : Nat} {d : PyData} {k : Nat} (h : wsz n d = some k) : ∃ m bs s, n = m + 1 ∧ d = .tuple bs ∧ 1 ≤ bs.length ∧ bs.length ≤ 8 ∧ sumO (boxN (placeN (wsz m) bs.length)) bs = some s ∧ k = bs.length + s ∧ k ≤ 1000 := by
  cases n with
  | zero => cases h
  | succ m =>
    cases d with
    | tuple bs =>
      have h : wszT (wsz m) bs = some k := h
      unfold wszT at h
      by_cases hl : 1 ≤ bs.length ∧ bs.length ≤ 8
      · rw [if_pos hl] at h
        cases hs : sumO (boxN (placeN (wsz m) bs.length)) bs with
        | none => rw [hs] at h; cases h
        | some s =>
          rw [hs] at h
          have h : (if bs.length + s ≤ 1000 then some (bs.length + s) else none) = some k := h
          by_cases c : bs.length + s ≤ 1000
          · rw [if_pos c] at h
            cases h
            exact ⟨m, bs, s, rfl, rfl, hl.1, hl.2, hs, rfl, c⟩
          · rw [if_neg c] at h
            cases h
      · rw [if_neg hl] at h
        cases h
    | int _ => cases h
    | bool _ => cases h
    | none => cases h
    | str _ => cases h
    | list _ => cases h
    | dict _ => cases h
theorem placeW_some {n m : Nat} {p : PyData} {k : Nat} (h : placeN (wsz n) m p = some k) : PlaceOkW n m p := by
  unfold placeN at h
  by_cases h1 : numD p = true
  · cases p with
    | int i =>
      have : -9999 ≤ i ∧ i ≤ 9999 := by simpa [numD, withinD] using h1
      exact .num this.1 this.2
    | tuple _ => cases h1
    | bool _ => cases h1
    | none => cases h1
    | str _ => cases h1
    | list _ => cases h1
    | dict _ => cases h1
  · rw [if_neg h1] at h
    by_cases h2 : tieB m p = true
    · unfold tieB at h2
      split at h2
      · rename_i p q
        rw [Bool.and_eq_true] at h2
        obtain ⟨e, wi⟩ := h2
        rw [eqv_str e]
        cases q with
        | int j =>
          have : 0 ≤ j ∧ j ≤ (m : Int) - 1 := by simpa [withinD] using wi
          exact .tie this.1 (by omega)
        | tuple _ => cases wi
        | bool _ => cases wi
        | none => cases wi
        | str _ => cases wi
        | list _ => cases wi
        | dict _ => cases wi
      · cases h2
    · rw [if_neg h2] at h
      obtain ⟨m', bs, s, rfl, rfl, l1, l8, hs, rfl, h24⟩ := wsz_some h
      cases bs with
      | nil => simp at l1
      | cons b r =>
        obtain ⟨a, ha⟩ := sumO_mem hs List.mem_cons_self
        obtain ⟨p, q, t, rfl, _⟩ := boxN_some ha
        exact .graph h
theorem boxW_of {n : Nat} {bs : List PyData} {k i : Nat} {b : PyData} (h : wsz (n + 1) (.tuple bs) = some k) (hb : bs[i]? = some b) : ∃ p q r, b = .tuple [p, q, r] ∧ PlaceOkW n bs.length p ∧ PlaceOkW n bs.length q ∧ PlaceOkW n bs.length r := by
  obtain ⟨m, bs', s, e, e2, l1, l8, hs, _⟩ := wsz_some h
  cases e
  cases e2
  obtain ⟨a, ha⟩ := sumO_mem hs (List.mem_of_getElem? hb)
  obtain ⟨p, q, r, rfl, hp⟩ := boxN_some ha
  obtain ⟨_, h1⟩ := sumO_mem hp (x := p) (by simp)
  obtain ⟨_, h2⟩ := sumO_mem hp (x := q) (by simp)
  obtain ⟨_, h3⟩ := sumO_mem hp (x := r) (by simp)
  exact ⟨p, q, r, rfl, placeW_some h1, placeW_some h2, placeW_some h3⟩
theorem sort_kindsW {n m : Nat} {p : PyData} (h : PlaceOkW n m p) : (∃ i, p = .int i ∧ sortD p = 0) ∨ (∃ j, p = .tuple [.str "tie", .int j] ∧ sortD p = 1) ∨ (∃ ps r k, p = .tuple (.tuple ps :: r) ∧ wsz n p = some k ∧ sortD p = 2) := by
  cases h with
  | num _ _ => exact .inl ⟨_, rfl, rfl⟩
  | tie _ _ => exact .inr (.inl ⟨_, rfl, by show (if PyData.eqv (.str "tie") (.str "tie") = true then (1 : Int) else 2) = 1; rw [if_pos (eqv_str_str _)]⟩)
  | @graph ps r k h => exact .inr (.inr ⟨ps, r, k, rfl, h, by show (if PyData.eqv (.tuple ps) (.str "tie") = true then (1 : Int) else 2) = 2; rw [if_neg (by rw [eqv_tup_str]; decide)]⟩)
theorem placeW_val {n m : Nat} {p : PyData} {a : Nat} (h : placeN (wsz n) m p = some a) : (isG p = false ∧ a = 0) ∨ (isG p = true ∧ wsz n p = some a) := by
  have ok := placeW_some h
  cases ok with
  | @num i h1 h2 =>
    refine .inl ⟨rfl, ?_⟩
    unfold placeN at h
    rw [if_pos (show numD (.int i) = true by show (decide (-9999 ≤ i) && decide (i ≤ 9999)) = true; rw [decide_eq_true h1, decide_eq_true h2]; rfl)] at h
    cases h
    rfl
  | @tie j h1 h2 =>
    refine .inl ⟨isG_tie j, ?_⟩
    unfold placeN at h
    rw [if_neg (show ¬ numD (.tuple [.str "tie", .int j]) = true by intro z; cases z)] at h
    rw [if_pos (show tieB m (.tuple [.str "tie", .int j]) = true by
      show (PyData.eqv (.str "tie") (.str "tie") && (decide (0 ≤ j) && decide (j ≤ (m : Int) - 1))) = true
      rw [eqv_str_str, decide_eq_true h1, decide_eq_true (by omega)]; rfl)] at h
    cases h
    rfl
  | @graph ps r k hg =>
    refine .inr ⟨isG_graph ps r, ?_⟩
    unfold placeN at h
    rw [if_neg (show ¬ numD (.tuple (.tuple ps :: r)) = true by intro z; cases z)] at h
    rw [if_neg (show ¬ tieB m (.tuple (.tuple ps :: r)) = true by
      unfold tieB
      split
      · rename_i e
        cases e
        rw [eqv_tup_str]
        intro z
        cases z
      · intro z
        cases z)] at h
    exact h
theorem placesW_inner {n m : Nat} : ∀ {ps : List PyData} {s : Nat}, sumO (placeN (wsz n) m) ps = some s → sumO (wsz n) (ps.filter isG) = some s
  | [], s, h => h
  | p :: r, s, h => by
    obtain ⟨u, v, h1, h3, rfl⟩ := sumO_cons h
    have ih := placesW_inner h3
    rcases placeW_val h1 with ⟨e, rfl⟩ | ⟨e, e2⟩
    · rw [List.filter_cons_of_neg (by rw [e]; decide), Nat.zero_add]
      exact ih
    · rw [List.filter_cons_of_pos e]
      exact sumO_cons' e2 ih
theorem boxesW_inner {n m : Nat} : ∀ {bs : List PyData} {s : Nat}, sumO (boxN (placeN (wsz n) m)) bs = some s → sumO (wsz n) (bs.flatMap boxInner) = some s
  | [], s, h => h
  | b :: r, s, h => by
    obtain ⟨u, v, h1, h3, rfl⟩ := sumO_cons h
    have ih := boxesW_inner h3
    obtain ⟨p, q, t, rfl, hp⟩ := boxN_some h1
    rw [List.flatMap_cons]
    exact sumO_append ih (placesW_inner hp)

theorem good_shapeW : ∀ (n : Nat) (d : PyData) (c : Nat), wsz n d = some c → Shp (2 * n + 1) d
  | 0, d, c, h => by cases h
  | n + 1, d, c, h => by
    obtain ⟨m, bs, s, e, rfl, l1, l8, hs, _⟩ := wsz_some h
    cases e
    refine shp_mono (shp_tup (k := 2 * n + 2) fun b hb => ?_) (by omega)
    obtain ⟨a, ha⟩ := sumO_mem hs hb
    obtain ⟨p, q, r, rfl, hp⟩ := boxN_some ha
    refine shp_mono (shp_tup (k := 2 * n + 1) fun z hz => ?_) (by omega)
    obtain ⟨u, hu⟩ := sumO_mem hp hz
    cases placeW_some hu with
    | num _ _ => exact shp_int _ _
    | tie _ _ => exact shp_mono (shp_tie 0 _) (by omega)
    | graph hg => exact good_shapeW n _ _ hg
theorem wsz_mk {n : Nat} {bs : List PyData} {s : Nat} (l1 : 1 ≤ bs.length) (l8 : bs.length ≤ 8) (h : sumO (boxN (placeN (wsz n) bs.length)) bs = some s) (hb : bs.length + s ≤ 1000) : wsz (n + 1) (.tuple bs) = some (bs.length + s) := by
  show wszT (wsz n) bs = some (bs.length + s)
  unfold wszT
  rw [if_pos ⟨l1, l8⟩, h]
  show (if bs.length + s ≤ 1000 then some (bs.length + s) else none) = some (bs.length + s)
  rw [if_pos hb]
theorem gsz_mk {n : Nat} {bs : List PyData} {s : Nat} (l1 : 1 ≤ bs.length) (l8 : bs.length ≤ 8) (h : sumO (boxN (placeN (gsz n) bs.length)) bs = some s) (hb : bs.length + s ≤ 24) : gsz (n + 1) (.tuple bs) = some (bs.length + s) := by
  show gszT (gsz n) bs = some (bs.length + s)
  unfold gszT
  rw [if_pos ⟨l1, l8⟩, h]
  show (if bs.length + s ≤ 24 then some (bs.length + s) else none) = some (bs.length + s)
  rw [if_pos hb]
theorem sumO_monoM {f g : PyData → Option Nat} : ∀ {l : List PyData} {s : Nat}, (∀ x ∈ l, ∀ a, f x = some a → a ≤ s → g x = some a) → sumO f l = some s → sumO g l = some s
  | [], s, h, e => e
  | x :: r, s, h, e => by
    obtain ⟨a, b, h1, h2, rfl⟩ := sumO_cons e
    exact sumO_cons' (h x List.mem_cons_self _ h1 (by omega)) (sumO_monoM (fun y hy c hc hl => h y (List.mem_cons_of_mem _ hy) c hc (by omega)) h2)
theorem placeN_monoM {f g : PyData → Option Nat} {m : Nat} {p : PyData} {a : Nat} (h : f p = some a → g p = some a) (e : placeN f m p = some a) : placeN g m p = some a := by
  unfold placeN at e ⊢
  by_cases h1 : numD p = true
  · rw [if_pos h1] at e ⊢
    exact e
  · rw [if_neg h1] at e ⊢
    by_cases h2 : tieB m p = true
    · rw [if_pos h2] at e ⊢
      exact e
    · rw [if_neg h2] at e ⊢
      exact h e
theorem boxN_monoM {f g : PyData → Option Nat} {p : PyData} {a : Nat} (h : ∀ x b, f x = some b → b ≤ a → g x = some b) (e : boxN f p = some a) : boxN g p = some a := by
  obtain ⟨x, y, z, rfl, e'⟩ := boxN_some e
  show (if [x, y, z].length = 3 then sumO g [x, y, z] else none) = some a
  rw [if_pos (show [x, y, z].length = 3 from rfl)]
  exact sumO_monoM (fun x _ b hb hl => h x b hb hl) e'
theorem gsz_wsz : ∀ (n : Nat) (d : PyData) (c : Nat), gsz n d = some c → wsz n d = some c
  | 0, _, _, h => by cases h
  | n + 1, d, c, h => by
    obtain ⟨m, bs, s, e, rfl, l1, l8, hs, rfl, h24⟩ := gsz_some h
    cases e
    exact wsz_mk l1 l8 (sumO_monoM (fun b _ a ha _ => boxN_monoM (fun p u hu _ => placeN_monoM (fun z => gsz_wsz n p u z) hu) ha) hs) (by omega)
theorem wsz_gsz : ∀ (n : Nat) (d : PyData) (c : Nat), wsz n d = some c → c ≤ 24 → gsz n d = some c
  | 0, _, _, h, _ => by cases h
  | n + 1, d, c, h, h24 => by
    obtain ⟨m, bs, s, e, rfl, l1, l8, hs, rfl, _⟩ := wsz_some h
    cases e
    exact gsz_mk l1 l8 (sumO_monoM (fun b _ a ha hl => boxN_monoM (fun p u hu hl2 => placeN_monoM (fun z => wsz_gsz n p u z (by omega)) hu) ha) hs) h24
theorem wsz_succ : ∀ (n : Nat) (d : PyData) (c : Nat), wsz n d = some c → wsz (n + 1) d = some c
  | 0, _, _, h => by cases h
  | n + 1, d, c, h => by
    obtain ⟨m, bs, s, e, rfl, l1, l8, hs, rfl, hb⟩ := wsz_some h
    cases e
    exact wsz_mk l1 l8 (sumO_monoM (fun b _ a ha _ => boxN_monoM (fun p u hu _ => placeN_monoM (fun z => wsz_succ n p u z) hu) ha) hs) hb
theorem wsz_mono {n : Nat} {d : PyData} {c : Nat} (h : wsz n d = some c) : ∀ {m : Nat}, n ≤ m → wsz m d = some c := by
  intro m hm
  induction hm with
  | refl => exact h
  | step _ ih => exact wsz_succ _ _ _ ih
/-! how deep -/
def maxL : List Nat → Nat
  | [] => 0
  | x :: r => max x (maxL r)
theorem maxL_le {l : List Nat} {m : Nat} : maxL l ≤ m ↔ ∀ x ∈ l, x ≤ m := by
  induction l with
  | nil => simp [maxL]
  | cons a r ih =>
    simp only [maxL, List.mem_cons, forall_eq_or_imp]
    rw [← ih]
    omega
def deepN : Nat → PyData → Nat
  | 0, _ => 0
  | n + 1, d => 1 + maxL ((innerD d).map (deepN n))
theorem deep_ok : ∀ (n : Nat) (d : PyData) (c : Nat), wsz n d = some c → ∀ m, deepN n d ≤ m → wsz m d = some c
  | 0, _, _, h, _, _ => by cases h
  | n + 1, d, c, h, m, hm => by
    obtain ⟨n', bs, s, e, rfl, l1, l8, hs, rfl, hb⟩ := wsz_some h
    cases e
    cases m with
    | zero => simp only [deepN] at hm; omega
    | succ m =>
      have hin : ∀ p ∈ bs.flatMap boxInner, deepN n p ≤ m := by
        have : maxL ((innerD (.tuple bs)).map (deepN n)) ≤ m := by simp only [deepN] at hm; omega
        intro p hp
        exact maxL_le.mp this _ (List.mem_map.mpr ⟨p, hp, rfl⟩)
      refine wsz_mk l1 l8 (sumO_monoM (fun b hbm a ha _ => ?_) hs) hb
      obtain ⟨x, y, z, rfl, e'⟩ := boxN_some ha
      show (if [x, y, z].length = 3 then sumO _ [x, y, z] else none) = some a
      rw [if_pos (show [x, y, z].length = 3 from rfl)]
      refine sumO_monoM (fun p hp u hu _ => ?_) e'
      rcases placeW_val hu with ⟨e1, rfl⟩ | ⟨e1, e2⟩
      · cases placeW_some hu with
        | num h1 h2 => exact placeN_num h1 h2
        | tie h1 h2 => exact placeN_tie h1 h2
        | graph hg => rw [isG_graph] at e1; cases e1
      · refine placeN_monoM (fun z => deep_ok n p u z m (hin p (List.mem_flatMap.mpr ⟨_, hbm, ?_⟩))) hu
        show p ∈ [x, y, _].filter isG
        exact List.mem_filter.mpr ⟨hp, e1⟩
theorem deep_le : ∀ (n m : Nat) (d : PyData) (c : Nat), wsz m d = some c → deepN n d ≤ m
  | 0, m, _, _, _ => Nat.zero_le _
  | n + 1, m, d, c, h => by
    obtain ⟨m', bs, s, rfl, rfl, l1, l8, hs, rfl, hb⟩ := wsz_some h
    have hin := boxesW_inner hs
    have : maxL ((innerD (.tuple bs)).map (deepN n)) ≤ m' := by
      refine maxL_le.mpr fun x hx => ?_
      obtain ⟨p, hp, rfl⟩ := List.mem_map.mp hx
      obtain ⟨a, ha⟩ := sumO_mem hin hp
      exact deep_le n m' p a ha
    simp only [deepN]
    omega
/-! what the law measures -/
def plainB (m : Nat) (p : PyData) : Bool := numD p || tieB m p
theorem placeN_plain {g : PyData → Option Nat} {m : Nat} {p : PyData} : placeN g m p = if plainB m p = true then some 0 else g p := by
  unfold placeN plainB
  cases h1 : numD p with
  | true => rfl
  | false =>
    cases h2 : tieB m p with
    | true => rfl
    | false => rfl
def addO : Option Nat → Option Nat → Option Nat
  | some a, some b => some (a + b)
  | _, _ => none
theorem addO_none (x : Option Nat) : addO x none = none := by cases x <;> rfl
theorem addO_zero (x : Option Nat) : addO (some 0) x = x := by
  cases x with
  | none => rfl
  | some a => show some (0 + a) = some a; rw [Nat.zero_add]
theorem addO_zero' (x : Option Nat) : addO x (some 0) = x := by
  cases x with
  | none => rfl
  | some a => rfl
theorem addO_assoc (x y z : Option Nat) : addO (addO x y) z = addO x (addO y z) := by
  cases x with
  | none => rfl
  | some a =>
    cases y with
    | none => rfl
    | some b =>
      cases z with
      | none => rfl
      | some c => show some (a + b + c) = some (a + (b + c)); rw [Nat.add_assoc]
theorem sumO_add {f : PyData → Option Nat} {x : PyData} {r : List PyData} : sumO f (x :: r) = addO (f x) (sumO f r) := by
  simp only [sumO]
  cases f x with
  | none => rfl
  | some a => cases sumO f r <;> rfl
abbrev Ent := PyData × Nat
def entN (e : Ent) : Option Nat := wsz (5 - e.2) e.1
def sumE : List Ent → Option Nat
  | [] => some 0
  | e :: r => addO (entN e) (sumE r)
theorem sumE_app : ∀ (l l' : List Ent), sumE (l ++ l') = addO (sumE l) (sumE l')
  | [], l' => (addO_zero _).symm
  | e :: r, l' => by
    show addO (entN e) (sumE (r ++ l')) = addO (addO (entN e) (sumE r)) (sumE l')
    rw [sumE_app r l', addO_assoc]
theorem maxL_app : ∀ (l l' : List Nat), maxL (l ++ l') = max (maxL l) (maxL l')
  | [], l' => by show maxL l' = max 0 (maxL l'); omega
  | e :: r, l' => by
    show max e (maxL (r ++ l')) = max (max e (maxL r)) (maxL l')
    rw [maxL_app r l']
    omega
def topE (es : List Ent) : Nat := maxL (es.map fun e => (e.2 - 1) + deepN (5 - e.2) e.1)
theorem topE_app (l l' : List Ent) : topE (l ++ l') = max (topE l) (topE l') := by
  unfold topE
  rw [List.map_append, maxL_app]
def fin (t e : Nat) (es : List Ent) : Option (Nat × Nat) := match sumE es with
  | none => none
  | some s => if t + s ≤ 24 then some (t + s, max e (topE es)) else none
def pushB (m k : Nat) : PyData → List Ent
  | .tuple ps => (ps.filter fun p => !plainB m p).map fun p => (p, k + 1)
  | _ => []
theorem places_sum {n m k : Nat} (hk : 5 - (k + 1) = n) : ∀ ps : List PyData, sumO (placeN (wsz n) m) ps = sumE ((ps.filter fun p => !plainB m p).map fun p => (p, k + 1))
  | [] => rfl
  | p :: r => by
    rw [sumO_add, placeN_plain, places_sum hk r]
    cases h : plainB m p with
    | true =>
      rw [List.filter_cons_of_neg (by rw [h]; decide), if_pos rfl, addO_zero]
    | false =>
      rw [List.filter_cons_of_pos (by rw [h]; rfl), if_neg (by decide), List.map_cons]
      show _ = addO (wsz (5 - (k + 1)) p) _
      rw [hk]
def Tri (b : PyData) : Prop := ∃ ps, b = .tuple ps ∧ ps.length = 3
theorem boxes_sum {n m k : Nat} (hk : 5 - (k + 1) = n) : ∀ bs : List PyData, (∀ b ∈ bs, Tri b) → sumO (boxN (placeN (wsz n) m)) bs = sumE (bs.flatMap (pushB m k))
  | [], _ => rfl
  | b :: r, h => by
    obtain ⟨ps, rfl, l3⟩ := h b List.mem_cons_self
    rw [sumO_add, List.flatMap_cons, sumE_app, boxes_sum hk r fun b hb => h b (List.mem_cons_of_mem _ hb)]
    congr 1
    show (if ps.length = 3 then sumO (placeN (wsz n) m) ps else none) = _
    rw [if_pos l3, places_sum hk]
    rfl
theorem plain_isG {n m : Nat} {p : PyData} (h : PlaceOkW n m p) : (!plainB m p) = isG p := by
  cases h with
  | @num i h1 h2 =>
    have : numD (.int i) = true := by show (decide (-9999 ≤ i) && decide (i ≤ 9999)) = true; rw [decide_eq_true h1, decide_eq_true h2]; rfl
    unfold plainB
    rw [this]
    rfl
  | @tie j h1 h2 =>
    have : tieB m (.tuple [.str "tie", .int j]) = true := by
      show (PyData.eqv (.str "tie") (.str "tie") && (decide (0 ≤ j) && decide (j ≤ (m : Int) - 1))) = true
      rw [eqv_str_str, decide_eq_true h1, decide_eq_true (by omega)]; rfl
    unfold plainB
    rw [this, isG_tie, Bool.or_true]
    rfl
  | @graph ps r k h =>
    have : tieB m (.tuple (.tuple ps :: r)) = false := by
      unfold tieB
      split
      · rename_i e
        cases e
        rw [eqv_tup_str]
        rfl
      · rfl
    unfold plainB
    rw [this, isG_graph]
    rfl
theorem filter_isG {n m : Nat} : ∀ {ps : List PyData} {s : Nat}, sumO (placeN (wsz n) m) ps = some s → (ps.filter fun p => !plainB m p) = ps.filter isG
  | [], _, _ => rfl
  | p :: r, s, h => by
    obtain ⟨a, b, h1, h2, _⟩ := sumO_cons h
    have e := plain_isG (placeW_some h1)
    have ih := filter_isG h2
    cases g : isG p with
    | true => rw [List.filter_cons_of_pos (by rw [e, g]), List.filter_cons_of_pos g, ih]
    | false => rw [List.filter_cons_of_neg (by rw [e, g]; decide), List.filter_cons_of_neg (by rw [g]; decide), ih]
theorem push_inner {n m k : Nat} : ∀ {bs : List PyData} {s : Nat}, sumO (boxN (placeN (wsz n) m)) bs = some s → bs.flatMap (pushB m k) = (bs.flatMap boxInner).map fun p => (p, k + 1)
  | [], _, _ => rfl
  | b :: r, s, h => by
    obtain ⟨x, y, h1, h2, _⟩ := sumO_cons h
    obtain ⟨p, q, t, rfl, hp⟩ := boxN_some h1
    rw [List.flatMap_cons, List.flatMap_cons, List.map_append, push_inner h2]
    congr 1
    show ([p, q, t].filter fun p => !plainB m p).map _ = ([p, q, t].filter isG).map _
    rw [filter_isG hp]
theorem maxL_add (k : Nat) (f : PyData → Nat) : ∀ l : List PyData, max k (maxL (l.map fun p => k + f p)) = k + maxL (l.map f)
  | [] => by show max k 0 = k + 0; omega
  | p :: r => by
    have ih := maxL_add k f r
    show max k (max (k + f p) (maxL (r.map fun p => k + f p))) = k + max (f p) (maxL (r.map f))
    omega
theorem wsz_tup {n : Nat} {bs : List PyData} (l1 : 1 ≤ bs.length) (l8 : bs.length ≤ 8) : wsz (n + 1) (.tuple bs) = fitW bs.length (sumO (boxN (placeN (wsz n) bs.length)) bs) := by
  show wszT (wsz n) bs = _
  unfold wszT
  rw [if_pos ⟨l1, l8⟩]
/-- one graph taken off, what hangs in it put on -/
theorem fin_step {t e k : Nat} {es : List Ent} {bs : List PyData} (k1 : 1 ≤ k) (k4 : k ≤ 4) (l1 : 1 ≤ bs.length) (l8 : bs.length ≤ 8) (h3 : ∀ b ∈ bs, Tri b) :
    fin t e (es ++ [(.tuple bs, k)]) = fin (t + bs.length) (max e k) (es ++ bs.flatMap (pushB bs.length k)) := by
  obtain ⟨n, hn⟩ : ∃ n, 5 - (k + 1) = n := ⟨_, rfl⟩
  have h5 : 5 - k = n + 1 := by omega
  have bsum := boxes_sum (m := bs.length) hn bs h3
  have en : entN (.tuple bs, k) = fitW bs.length (sumE (bs.flatMap (pushB bs.length k))) := by
    show wsz (5 - k) (.tuple bs) = _
    rw [h5, wsz_tup l1 l8, bsum]
  unfold fin
  rw [sumE_app, sumE_app]
  show (match addO (sumE es) (addO (entN (.tuple bs, k)) (some 0)) with | none => none | some s => _) = _
  rw [addO_zero', en]
  cases sumE es with
  | none => rfl
  | some a =>
    cases hp : sumE (bs.flatMap (pushB bs.length k)) with
    | none => rfl
    | some s =>
      show (match addO (some a) (if bs.length + s ≤ 1000 then some (bs.length + s) else none) with | none => none | some s => _) = (if t + bs.length + (a + s) ≤ 24 then _ else none)
      by_cases c : bs.length + s ≤ 1000
      · rw [if_pos c]
        show (if t + (a + (bs.length + s)) ≤ 24 then some (t + (a + (bs.length + s)), _) else none) = _
        rw [show t + (a + (bs.length + s)) = t + bs.length + (a + s) by omega]
        by_cases z : t + bs.length + (a + s) ≤ 24
        · rw [if_pos z, if_pos z]
          congr 2
          rw [topE_app, topE_app]
          rw [hp] at bsum
          rw [push_inner bsum]
          have e1 : topE [(PyData.tuple bs, k)] = k + maxL ((bs.flatMap boxInner).map (deepN n)) := by
            show max ((k - 1) + deepN (5 - k) (.tuple bs)) 0 = _
            rw [h5]
            show max ((k - 1) + (1 + maxL ((bs.flatMap boxInner).map (deepN n)))) 0 = _
            omega
          have e2 : topE ((bs.flatMap boxInner).map fun p => (p, k + 1)) = maxL ((bs.flatMap boxInner).map fun p => k + deepN n p) := by
            unfold topE
            rw [List.map_map]
            congr 1
            refine List.map_congr_left fun p _ => ?_
            show (k + 1 - 1) + deepN (5 - (k + 1)) p = k + deepN n p
            rw [hn]
            rfl
          have e3 := maxL_add k (deepN n) (bs.flatMap boxInner)
          rw [e1, e2]
          omega
        · rw [if_neg z, if_neg z]
      · rw [if_neg c, if_neg (by omega)]
        rfl
theorem fin_none {t e : Nat} {es : List Ent} {x : Ent} (h : entN x = none) : fin t e (es ++ [x]) = none := by
  unfold fin
  rw [sumE_app]
  show (match addO (sumE es) (addO (entN x) (some 0)) with | none => none | some s => _) = _
  rw [h]
  show (match addO (sumE es) none with | none => none | some s => _) = _
  rw [addO_none]
theorem fin_start (d : PyData) : fin 0 0 [(d, 1)] = (gsz 4 d).map fun c => (c, deepN 4 d) := by
  unfold fin
  show (match addO (wsz 4 d) (some 0) with | none => none | some s => _) = _
  rw [addO_zero']
  cases h : gsz 4 d with
  | none =>
    cases hw : wsz 4 d with
    | none => rfl
    | some c =>
      show (if 0 + c ≤ 24 then _ else none) = none
      by_cases z : c ≤ 24
      · rw [wsz_gsz 4 d c hw z] at h
        cases h
      · rw [if_neg (by omega)]
  | some c =>
    rw [gsz_wsz 4 d c h]
    obtain ⟨_, _, _, _, _, _, _, _, _, h24⟩ := gsz_some h
    show (if 0 + c ≤ 24 then some (0 + c, max 0 (max (1 - 1 + deepN 4 d) 0)) else none) = some (c, deepN 4 d)
    rw [if_pos (by omega), Nat.zero_add]
    congr 2
    omega
theorem fin_nil (t e : Nat) : fin t e [] = if t ≤ 24 then some (t, e) else none := by
  show (if t + 0 ≤ 24 then some (t + 0, max e 0) else none) = _
  rw [Nat.add_zero, Nat.max_zero]
/-- how much is left -/
def muE (es : List Ent) : Nat := (es.map fun e => e.1.bulk + 1).sum
theorem muE_app (l l' : List Ent) : muE (l ++ l') = muE l + muE l' := by
  unfold muE
  rw [List.map_append, List.sum_append]
theorem len_mu : ∀ es : List Ent, es.length ≤ muE es
  | [] => Nat.le_refl _
  | e :: r => by
    have := len_mu r
    show r.length + 1 ≤ (e.1.bulk + 1) + muE r
    omega
theorem mu_places {m k : Nat} : ∀ ps : List PyData, muE ((ps.filter fun p => !plainB m p).map fun p => (p, k + 1)) ≤ PyData.bulkAll ps
  | [] => Nat.zero_le _
  | p :: r => by
    have ih := mu_places (m := m) (k := k) r
    simp only [PyData.bulkAll]
    cases h : plainB m p with
    | true =>
      rw [List.filter_cons_of_neg (by rw [h]; decide)]
      omega
    | false =>
      rw [List.filter_cons_of_pos (by rw [h]; rfl), List.map_cons]
      show (p.bulk + 1) + muE _ ≤ _
      omega
theorem mu_push {m k : Nat} : ∀ bs : List PyData, muE (bs.flatMap (pushB m k)) ≤ PyData.bulkAll bs
  | [] => Nat.zero_le _
  | b :: r => by
    have ih := mu_push (m := m) (k := k) r
    rw [List.flatMap_cons, muE_app]
    simp only [PyData.bulkAll]
    have hb : muE (pushB m k b) ≤ b.bulk := by
      cases b with
      | tuple ps =>
        have := mu_places (m := m) (k := k) ps
        simp only [PyData.bulk]
        exact this
      | int _ => exact Nat.zero_le _
      | bool _ => exact Nat.zero_le _
      | none => exact Nat.zero_le _
      | str _ => exact Nat.zero_le _
      | list _ => exact Nat.zero_le _
      | dict _ => exact Nat.zero_le _
    omega
theorem bulk_take (l : List PyData) (i : Nat) : PyData.bulkAll (l.take i) ≤ PyData.bulkAll l := by
  have := bulk_cut l i
  omega
theorem push_k {m k : Nat} {e : Ent} : ∀ {bs : List PyData}, e ∈ bs.flatMap (pushB m k) → e.2 = k + 1 := by
  intro bs h
  obtain ⟨b, _, hb⟩ := List.mem_flatMap.mp h
  cases b with
  | tuple ps =>
    obtain ⟨p, _, rfl⟩ := List.mem_map.mp hb
    rfl
  | int _ => cases hb
  | bool _ => cases hb
  | none => cases hb
  | str _ => cases hb
  | list _ => cases hb
  | dict _ => cases hb
theorem ent_bad {k : Nat} {bs : List PyData} {b : PyData} (h : b ∈ bs) (hb : ¬ Tri b) : entN (.tuple bs, k) = none := by
  show wsz (5 - k) (.tuple bs) = none
  cases 5 - k with
  | zero => rfl
  | succ n =>
    show wszT (wsz n) bs = none
    unfold wszT
    have : boxN (placeN (wsz n) bs.length) b = none := by
      cases e : boxN (placeN (wsz n) bs.length) b with
      | none => rfl
      | some a =>
        obtain ⟨p, q, r, rfl, _⟩ := boxN_some e
        exact absurd ⟨_, rfl, rfl⟩ hb
    rw [sumO_none h this]
    split <;> rfl
theorem ent_not {k : Nat} {d : PyData} (h : tupD 1 8 d = false) : entN (d, k) = none := by
  show wsz (5 - k) d = none
  cases 5 - k with
  | zero => rfl
  | succ n =>
    cases d with
    | tuple bs =>
      show wszT (wsz n) bs = none
      unfold wszT
      rw [if_neg]
      intro ⟨h1, h2⟩
      have : tupD 1 8 (.tuple bs) = true := by
        show (decide ((1 : Int) ≤ (bs.length : Int)) && decide ((bs.length : Int) ≤ 8)) = true
        rw [decide_eq_true (by omega), decide_eq_true (by omega)]; rfl
      rw [this] at h
      cases h
    | int _ => rfl
    | bool b => rfl
    | none => rfl
    | str _ => rfl
    | list _ => rfl
    | dict _ => rfl
theorem ent_deep {k : Nat} {d : PyData} (h : 5 ≤ k) : entN (d, k) = none := by
  show wsz (5 - k) d = none
  rw [show 5 - k = 0 by omega]
  rfl
/-! == [] and != [] of whatever list -/
def rNeNil (K : PySem.W.Frag) : R2 := fun x y H Q => ∃ a b xs, x = .ref a ∧ y = .ref b ∧ SqL K H a xs ∧ SqL K H b [] ∧ Q (.bl (!xs.isEmpty)) H
theorem op_neNil {X : Cx} (hu : X.A.units < cLine) : OpR X (compareOp .NotEq) (rNeNil X.K) := by
  intro pins s σ H x y v u Q I rx ry h
  obtain ⟨a, b, xs, rfl, rfl, ha, hb, q⟩ := h
  cases rx
  cases ry
  obtain ⟨its, rv, ⟨o, n, ho, hc, _, hd⟩, _⟩ := I.list ha
  obtain ⟨its2, rv2, ⟨o2, n2, ho2, hc2, _, hd2⟩, _⟩ := I.list hb
  cases rv2
  cases rv with
  | nil => exact (SeqAt.RcNeAt.lists (e := fun _ => true) ⟨o, ho, hc, n, hd⟩ ⟨o2, ho2, hc2, n2, hd2⟩ rfl hu (fun j h1 => absurd h1 (by simp))) X.prog X.w _ _ ⟨.bl false, H, I, rfl, q⟩
  | cons r1 r2 => exact (SeqAt.RcNeAt.lists_lengths ⟨o, ho, hc, n, hd⟩ ⟨o2, ho2, hc2, n2, hd2⟩ (by simp) hu) X.prog X.w _ _ ⟨.bl true, H, I, rfl, q⟩
def strD : PyData → Bool
  | .str _ => true
  | _ => false
theorem kit_str {K : PySem.W.Frag} (d : PyData) : PySem.W.kitOne K (.type (kindD d)) (.type "str") = some (strD d) := by
  cases d with
  | none => exact kit_ty (show kitB "NoneType" "str" = some false by decide +kernel)
  | bool _ => exact kit_ty (show kitB "bool" "str" = some false by decide +kernel)
  | int _ => exact kit_ty (show kitB "int" "str" = some false by decide +kernel)
  | str _ => exact kit_ty (show kitB "str" "str" = some true by decide +kernel)
  | list _ => exact kit_ty (show kitB "list" "str" = some false by decide +kernel)
  | tuple _ => exact kit_ty (show kitB "tuple" "str" = some false by decide +kernel)
  | dict _ => exact kit_ty (show kitB "dict" "str" = some false by decide +kernel)
theorem plain_num {m : Nat} {d : PyData} (h : tieB m d = false) : plainB m d = withinD (-9999) 9999 d := by
  unfold plainB
  rw [h, Bool.or_false]
  rfl
theorem tie_str {m : Int} {p q : PyData} (h : strD p = false) : tieB m (.tuple [p, q]) = false := by
  show (PyData.eqv p (.str "tie") && _) = false
  have : PyData.eqv p (.str "tie") = false := by
    cases p with
    | str _ => cases h
    | int _ => simp [PyData.eqv]
    | bool _ => simp [PyData.eqv]
    | none => simp [PyData.eqv]
    | list _ => simp [PyData.eqv]
    | tuple _ => simp [PyData.eqv]
    | dict _ => simp [PyData.eqv]
  rw [this]
  rfl
theorem len2_not {m : Int} {ds : List PyData} (h : ds.length ≠ 2) : tieB m (.tuple ds) = false := by
  unfold tieB
  split
  · rename_i e
    cases e
    exact absurd rfl h
  · rfl
section
variable {P : Program} {w : World} {K : PySem.W.Frag} {mg : Str → Option Value} {base : Heap} {f : Addr} {fd : FuncData}
theorem scFromTo : FnScope ["_law_thing", "_law_low", "_law_high"] ["_law_thing", "_law_low", "_law_high"] (defScope sFromTo) := ⟨rfl, rfl, rfl, by decide +kernel, rfl, by decide +kernel, by decide +kernel⟩
theorem ok_fromTo {k : Nat} (F : Fun K "_law_is_from_to" "_law_is_from_to" sFromTo f fd) (T : Free mg) : FnOk P w K mg base CX0 (k + 1) f fd ["_law_thing", "_law_low", "_law_high"] (spWithin K) := by
  refine F.ok scFromTo (fun vs H Q E h => ?_) (fun cdv A outer s H vs Q E hr h => ?_)
  · obtain ⟨x, d, lo, hi, rfl, _⟩ := h
    rfl
  obtain ⟨x, d, lo, hi, rfl, hx, q⟩ := h
  refine ⟨_, pss_one (ps_ret (pe_and (pe_callB call_isi rfl T.isi (by decide +kernel) (pa_cons (pv 0) (pa_cons (pe_bltn (v := .ty "int") rfl T.int (by decide +kernel) rfl) pa_nil)))
    (pe_and (pe_not (pe_callB call_isi rfl T.isi (by decide +kernel) (pa_cons (pv 0) (pa_cons (pe_bltn (v := .ty "bool") rfl T.bool (by decide +kernel) rfl) pa_nil)))) (pe_one (pe_chain op_le op_le (pv 1) (pv 0) (pv 2)))))), ?_⟩
  have ht := ty_of hx
  refine ⟨_, rfl, x, _, _, _, _, rfl, .ty "int", ht, kit_int d, _, rfl, ?_⟩
  cases d with
  | int i =>
    cases hx
    refine ifT rfl ⟨_, rfl, _, _, _, _, _, rfl, .ty "bool", ht, kit_bool _, _, rfl, _, rfl, ifT rfl ⟨_, rfl, _, rfl, _, _, rfl, rfl, _, rfl, ?_⟩⟩
    have e : withinD lo hi (.int i) = (decide (lo ≤ i) && decide (i ≤ hi)) := rfl
    rw [e] at q
    by_cases c : lo ≤ i
    · refine ifT (decide_eq_true c) ⟨_, rfl, _, _, rfl, rfl, ?_⟩
      rw [decide_eq_true c, Bool.true_and] at q
      exact q
    · refine ifF (decide_eq_false c) ?_
      rw [decide_eq_false c, Bool.false_and] at q
      exact q
  | bool b => exact ifT rfl ⟨_, rfl, _, _, _, _, _, rfl, .ty "bool", ht, kit_bool _, _, rfl, _, rfl, ifF rfl q⟩
  | none => exact ifF rfl q
  | str _ => exact ifF rfl q
  | list _ => exact ifF rfl q
  | tuple _ => exact ifF rfl q
  | dict _ => exact ifF rfl q
/-! _law_is_plain -/
def spPlain (K : PySem.W.Frag) : Sp := fun vs H Q _ => ∃ (x : V) (d : PyData) (m : Nat), vs = [x, .int m] ∧ Dp K H x d ∧ Q (.bl (plainB m d)) H
theorem scPlain : FnScope ["_law_place", "_law_many"] ["_law_place", "_law_many"] (defScope sIsPlain) := ⟨rfl, rfl, rfl, by decide +kernel, rfl, by decide +kernel, by decide +kernel⟩
theorem ok_plain {k : Nat} (F : Fun K "_law_is_plain" "_law_is_plain" sIsPlain f fd) (T : Free mg) (hS : mg "str" = none) (cF : Cal P w K mg base "_law_is_from_to" k ["_law_thing", "_law_low", "_law_high"] (spWithin K)) : FnOk P w K mg base CX0 (k + 1) f fd ["_law_place", "_law_many"] (spPlain K) := by
  refine F.ok scPlain (fun vs H Q E h => ?_) (fun cdv A outer s H vs Q E hr h => ?_)
  · obtain ⟨x, d, m, rfl, _⟩ := h
    rfl
  obtain ⟨x, d, m, rfl, hx, q⟩ := h
  refine ⟨_, pss_cons (ps_if (PW.pt (pw_and (pt_val (pe_callB call_isi rfl T.isi (by decide +kernel) (pa_cons (pv 0) (pa_cons (pe_bltn (v := .ty "tuple") rfl T.tuple (by decide +kernel) rfl) pa_nil))))
      (pw_and (pt_cmpR op_eq (pe_callB call_len_seq rfl T.len PySem.boot_len (pa_cons (pv 0) pa_nil)) pe_int (nomark _))
      (pw_and1 (pt_val (pe_callB call_isi rfl T.isi (by decide +kernel) (pa_cons (pe_ix ix_tup (pv 0) pe_int (fun _ _ => rfl)) (pa_cons (pe_bltn (v := .ty "str") rfl hS (by decide +kernel) rfl) pa_nil))))))))
      (pss_one (ps_ret (pe_and (pe_cmpR (op_eqT hr.units) (pe_ix ix_tup (pv 0) pe_int (fun _ _ => rfl)) pe_str (nomark _)) (pe_one (pe_cal cF hr rfl (pa_cons (pe_ix ix_tup (pv 0) pe_int (fun _ _ => rfl)) (pa_cons pe_int (pa_cons (pe_op op_sub (pv 1) pe_int) pa_nil)))))))) pss_nil)
    (pss_one (ps_ret (pe_cal cF hr rfl (pa_cons (pv 0) (pa_cons (pe_un un_neg pe_int) (pa_cons pe_int pa_nil)))))), ?_⟩
  have ht := ty_of hx
  refine ⟨_, rfl, x, _, _, _, _, rfl, .ty "tuple", ht, kit_tuple d, _, rfl, ?_⟩
  cases hd : tupleD d with
  | false =>
    have e : tieB m d = false := by cases d <;> first | rfl | cases hd
    rw [plain_num e] at q
    exact ifF rfl (ifF rfl ⟨_, rfl, _, rfl, x, d, _, _, rfl, hx, q⟩)
  | true =>
    obtain ⟨ds, rfl⟩ : ∃ ds, d = .tuple ds := by
      cases d <;> first | exact ⟨_, rfl⟩ | cases hd
    have hx0 := hx
    cases hx with
    | @tup a xs _ at_ each =>
      have lx := dpAll_len each
      refine ifT rfl ⟨_, rfl, a, xs, rfl, .inr at_, rfl, _, rfl, ?_⟩
      rw [lx]
      by_cases l2 : ds.length = 2
      · match ds, l2, each, q, hx0 with
        | [p, r], _, each, q, hx0 =>
          cases each with
          | cons hp each =>
            cases each with
            | cons hq each =>
              cases each
              refine ifT rfl ⟨_, rfl, a, _, 0, _, rfl, rfl, at_, rfl, _, _, _, _, _, rfl, .ty "str", ty_of hp, kit_str p, _, rfl, ?_⟩
              cases hs : strD p with
              | false =>
                rw [plain_num (tie_str hs)] at q
                exact ifF rfl ⟨_, rfl, _, rfl, _, _, _, _, rfl, hx0, q⟩
              | true =>
                have e : plainB m (.tuple [p, r]) = (PyData.eqv p (.str "tie") && withinD 0 ((m : Int) - 1) r) := by
                  unfold plainB
                  rw [show numD (.tuple [p, r]) = false from rfl, Bool.false_or]
                  rfl
                rw [e] at q
                refine ifT rfl ⟨_, rfl, a, _, 0, _, rfl, rfl, at_, rfl, p, .str "tie", hp, .str _, trivial, okR_tie, _, rfl, ?_⟩
                cases he : PyData.eqv p (.str "tie") with
                | false =>
                  rw [he] at q
                  exact ifF rfl q
                | true =>
                  rw [he] at q
                  exact ifT rfl ⟨_, rfl, a, _, 1, _, rfl, rfl, at_, rfl, _, rfl, _, _, rfl, rfl, _, r, _, _, rfl, hq, q⟩
      · rw [plain_num (len2_not l2)] at q
        refine ifF (decide_eq_false fun z => l2 ?_) (ifF rfl ⟨_, rfl, _, rfl, _, _, _, _, rfl, hx0, q⟩)
        have z : ((ds.length : Nat) : Int) = 2 := V.int.inj z
        omega
end
/-! the entries that are to be measured yet -/
inductive EntAll (K : PySem.W.Frag) (H0 H : Hp) : List V → List Ent → Prop
  | nil : EntAll K H0 H [] []
  | cons {t : Addr} {x : V} {d : PyData} {k : Nat} {vs : List V} {es : List Ent} (h : H t = some (.tup [x, .int (k : Nat)])) (hd : Dp K H0 x d) (r : EntAll K H0 H vs es) : EntAll K H0 H (.ref t :: vs) ((d, k) :: es)
section
variable {K : PySem.W.Frag} {H0 H H' : Hp}
theorem EntAll.kt (k : KT H H') : ∀ {vs : List V} {es : List Ent}, EntAll K H0 H vs es → EntAll K H0 H' vs es
  | _, _, .nil => .nil
  | _, _, .cons h hd r => .cons (k _ _ h fun l z => by cases z) hd (r.kt k)
theorem EntAll.len : ∀ {vs : List V} {es : List Ent}, EntAll K H0 H vs es → vs.length = es.length
  | _, _, .nil => rfl
  | _, _, .cons _ _ r => by rw [List.length_cons, List.length_cons, r.len]
theorem EntAll.app {ws : List V} {fs : List Ent} (q : EntAll K H0 H ws fs) : ∀ {vs : List V} {es : List Ent}, EntAll K H0 H vs es → EntAll K H0 H (vs ++ ws) (es ++ fs)
  | _, _, .nil => q
  | _, _, .cons h hd r => .cons h hd (EntAll.app q r)
theorem EntAll.last : ∀ {vs : List V} {es : List Ent}, EntAll K H0 H vs es → vs ≠ [] → ∃ vs' t x d k es', vs = vs' ++ [.ref t] ∧ es = es' ++ [(d, k)] ∧ H t = some (.tup [x, .int (k : Nat)]) ∧ Dp K H0 x d ∧ EntAll K H0 H vs' es'
  | _, _, .nil, n => absurd rfl n
  | _, _, .cons (vs := vs) h hd r, _ => by
    cases vs with
    | nil =>
      cases r
      exact ⟨[], _, _, _, _, [], rfl, rfl, h, hd, .nil⟩
    | cons v vs =>
      obtain ⟨vs', t, x, d, k, es', e1, e2, h1, h2, h3⟩ := r.last (by simp)
      exact ⟨_ :: vs', t, x, d, k, _ :: es', by rw [e1]; rfl, by rw [e2]; rfl, h1, h2, .cons h hd h3⟩
theorem same_upd {p : Addr} {o : HO} (s : Same H0 H) (n : H0 p = none) : Same H0 (upd H p o) := fun b u h => by
  rw [upd_ne (ne_of_none h n)]
  exact s b u h
end
structure MInv (K : PySem.W.Frag) (H H' : Hp) (ta : Addr) (vs : List V) (es : List Ent) (t e : Nat) (d : PyData) : Prop where
  sm : Same H H'
  new : H ta = none
  at_ : H' ta = some (.lst vs)
  ents : EntAll K H H' vs es
  mu : muE es ≤ 100001
  ks : ∀ x ∈ es, 1 ≤ x.2 ∧ x.2 ≤ 5
  fn : fin t e es = fin 0 0 [(d, 1)]
theorem small6 {n : Nat} (h : n ≤ 1000000) : n ≤ sizeLine := Nat.le_trans h (by decide)
section
variable {P : Program} {w : World} {K : PySem.W.Frag} {mg : Str → Option Value} {base : Heap} {f : Addr} {fd : FuncData}
def spMeas (K : PySem.W.Frag) : Sp := fun vs H Q _ => ∃ (x : V) (d : PyData), vs = [x] ∧ Dp K H x d ∧ d.bulk ≤ 100000 ∧ (gsz 4 d = none → ∀ H', Same H H' → Q .non H') ∧ (∀ c, gsz 4 d = some c → ∀ p H', Same H H' → H' p = some (.tup [.int (c : Nat), .int (deepN 4 d : Nat)]) → Q (.ref p) H')
theorem scMeas : FnScope ["_law_thing", "_law_todo", "_law_total", "_law_depth", "_law_some", "_law_deep", "_law_one", "_law_place"] ["_law_thing"] (defScope sMeasured) := ⟨rfl, rfl, rfl, by decide +kernel, rfl, by decide +kernel, by decide +kernel⟩
theorem ok_meas {k : Nat} (F : Fun K "_law_measured" "_law_measured" sMeasured f fd) (T : Free mg) (cP : Cal P w K mg base "_law_is_plain" k ["_law_place", "_law_many"] (spPlain K)) : FnOk P w K mg base CX0 (k + 1) f fd ["_law_thing"] (spMeas K) := by
  refine F.ok scMeas (fun vs H Q E h => ?_) (fun cdv A outer s H vs Q E hr h => ?_)
  · obtain ⟨x, d, rfl, _⟩ := h
    rfl
  obtain ⟨x, d, rfl, hx, hbk, qn, qs⟩ := h
  refine ⟨_, pss_cons (ps_par3 (i := 1) (j := 2) (l := 3) rfl scMeas.nd rfl rfl rfl (by decide) (by decide) (by decide) rfl rfl rfl (pa_cons (pe_lst (pa_cons (pe_tup (pa_cons (pv 0) (pa_cons pe_int pa_nil))) pa_nil)) (pa_cons pe_int (pa_cons pe_int pa_nil))) rfl)
    (pss_cons (ps_while PassesOwn.never (pt_cmpR (op_neNil hr.units0) (pv 1) (pe_lst pa_nil) (nomark _))
      (pss_cons (ps_asg (pe_bm0 PySem.F.plainAttrs_list PySem.F.slot_list_pop PySem.F.type_list_pop mt_pop (pv 1)) (pg_tup rfl (pgs_cons (pg_name (i := 4) scMeas.nd rfl (.inr rfl)) (pgs_cons (pg_name (i := 5) scMeas.nd rfl (.inr rfl)) pgs_nil))))
      (pss_cons (ps_if (PW.pt (pw_or (pt_not (pt_val (pe_callB call_isi rfl T.isi (by decide +kernel) (pa_cons (pv 4) (pa_cons (pe_bltn (v := .ty "tuple") rfl T.tuple (by decide +kernel) rfl) pa_nil)))))
          (pw_or (pt_not (pt_chain op_le op_le pe_int (pe_callB call_len_seq rfl T.len PySem.boot_len (pa_cons (pv 4) pa_nil)) pe_int)) (pw_or1 (pt_cmpR op_gt (pv 5) pe_int (nomark _)))))) (pss_one (ps_ret pe_non)) pss_nil)
      (pss_cons (ps_par (i := 2) (j := 3) rfl scMeas.nd rfl rfl (by decide) rfl rfl (pa_cons (pe_op op_add (pv 2) (pe_callB call_len_seq rfl T.len PySem.boot_len (pa_cons (pv 4) pa_nil))) (pa_cons (pe_callB (call_max2 rfl) rfl T.max (by decide +kernel) (pa_cons (pv 3) (pa_cons (pv 5) pa_nil))) pa_nil)) rfl)
      (pss_one (ps_for PassesOwn.never rfl (pi_tup (pv 4)) (pg_name (i := 6) scMeas.nd rfl (.inl rfl))
        (pss_cons (ps_if (PW.pt (pw_or (pt_not (pt_val (pe_callB call_isi rfl T.isi (by decide +kernel) (pa_cons (pv 6) (pa_cons (pe_bltn (v := .ty "tuple") rfl T.tuple (by decide +kernel) rfl) pa_nil)))))
            (pw_or1 (pt_cmpR op_ne (pe_callB call_len_seq rfl T.len PySem.boot_len (pa_cons (pv 6) pa_nil)) pe_int (nomark _))))) (pss_one (ps_ret pe_non)) pss_nil)
        (pss_one (ps_set (i := 1) scMeas.nd rfl (.inl rfl) (pe_op op_cat (pv 1)
          (pe_lc (own := [("_law_place", 7)]) (g := gName 7) (tt := tNot (tB (tCall (spPlain K) [] E0 (tCons (tVar 7) (tCons (tCB (fun xs H Q => ∃ p ys, xs = [.ref p] ∧ (SqL K H p ys ∨ SqT K H p ys) ∧ Q (.int ys.length) H) (tCons (tVar 4) tNil)) tNil)))))
            (te := tTup (tCons (tVar 7) (tCons (tOp (rI0 fun i j => .int (i + j)) (tVar 5) (tC (.int 1))) tNil))) rfl scMeas.nd (pi_tup (pv 6)) (blkOk_by (own := [("_law_place", 7)]) (N := ["_law_thing", "_law_todo", "_law_total", "_law_depth", "_law_some", "_law_deep", "_law_one", "_law_place"]) (sc := defScope sMeasured) (by decide +kernel))
            (fun _ _ _ _ _ => pg_name (i := 7) scMeas.nd rfl (Or.inl rfl))
            (fun _ _ _ _ _ => pts_one (pt_not (pt_val (pe_cal cP hr rfl (pa_cons (pv 7) (pa_cons (pe_callB call_len_seq rfl T.len PySem.boot_len (pa_cons (pv 4) pa_nil)) pa_nil))))))
            (fun _ _ _ _ _ => pe_tup (pa_cons (pv 7) (pa_cons (pe_op op_add (pv 5) pe_int) pa_nil))))))))))))))
    (pss_one (ps_ret (pe_ifExp (pt_cmpR op_le (pv 2) pe_int (nomark _)) (pe_tup (pa_cons (pv 2) (pa_cons (pv 3) pa_nil))) pe_non)))), ?_⟩
  -- the begin
  refine ⟨_, rfl, small (by show 2 ≤ 1000; decide), fun p1 h1 => ⟨small (by show 1 ≤ 1000; decide), fun p2 h2 => ⟨_, _, _, rfl, ?_⟩⟩⟩
  have s1 := same_new h1 (.tup [x, .int 1])
  have s2 := same_new h2 (.lst [.ref p1])
  have hfree : H p2 = none := s1.free h2
  have bad : fin 0 0 [(d, 1)] = none → gsz 4 d = none := fun e => by
    rw [fin_start] at e
    cases g : gsz 4 d with
    | none => rfl
    | some c => rw [g] at e; cases e
  refine ⟨fun m σ H' => ∃ ta vs es t e o4 o5 o6 o7, m = muE es ∧ σ = [some x, some (.ref ta), some (.int (t : Nat)), some (.int (e : Nat)), o4, o5, o6, o7] ∧ MInv K H H' ta vs es t e d,
    ⟨_, p2, [.ref p1], [(d, 1)], 0, 0, none, none, none, none, rfl, rfl, s1.trans s2, hfree, upd_same, .cons (s2 _ _ upd_same) hx .nil, ?_, fun z hz => ?_, rfl⟩, fun m σ H' hW => ?_⟩
  · show d.bulk + 1 + 0 ≤ 100001
    omega
  · rw [List.mem_singleton.mp hz]
    exact ⟨Nat.le_refl _, by show 1 ≤ 5; decide⟩
  obtain ⟨ta, vs, es, t, e, o4, o5, o6, o7, rfl, rfl, inv⟩ := hW
  refine ⟨_, rfl, small (by show 0 ≤ 1000; decide), fun p3 h3 => ?_⟩
  have s3 := same_new h3 (.lst [])
  refine ⟨ta, p3, vs, rfl, rfl, SqL.of (s3 _ _ inv.at_), SqL.of upd_same, _, rfl, ?_⟩
  by_cases hv : vs = []
  · -- nothing is left
    subst hv
    have he : es = [] := by
      have := inv.ents.len
      exact List.length_eq_zero_iff.mp this.symm
    subst he
    refine ifF rfl ⟨_, rfl, _, _, rfl, rfl, _, rfl, ?_⟩
    have hf := inv.fn
    rw [fin_nil, fin_start] at hf
    by_cases c : t ≤ 24
    · rw [if_pos c] at hf
      cases g : gsz 4 d with
      | none => rw [g] at hf; cases hf
      | some c' =>
        rw [g] at hf
        have hf : some (t, e) = some (c', deepN 4 d) := hf
        cases hf
        refine ifT (decide_eq_true (by omega)) ⟨_, rfl, _, rfl, small (by show 2 ≤ 1000; decide), fun p4 h4 => ?_⟩
        exact qs _ g p4 _ (inv.sm.trans (s3.trans (same_new h4 _))) upd_same
    · rw [if_neg c] at hf
      refine ifF (decide_eq_false (by omega)) (qn ?_ _ (inv.sm.trans s3))
      cases g : gsz 4 d with
      | none => rfl
      | some c' => rw [g] at hf; cases hf
  obtain ⟨vs', tq, xq, dq, kq, es', rfl, rfl, hq, hdq, inv'⟩ := inv.ents.last hv
  refine ifT (by cases vs' <;> rfl) ⟨_, fun σ' H'' h => h, ?_⟩
  have hta3 := s3 _ _ inv.at_
  refine ⟨_, rfl, .inl ⟨rfl, _, SqL.of hta3⟩, ta, _, .ref tq, rfl, rfl, hta3, by simp, ?_⟩
  rw [List.dropLast_concat]
  have kt4 : KT H' (upd (upd H' p3 (.lst [])) ta (.lst vs')) := (KT.of_same s3).trans (KT.upd hta3)
  have sm4 : Same H (upd (upd H' p3 (.lst [])) ta (.lst vs')) := same_upd (inv.sm.trans s3) inv.new
  have hq4 := kt4 _ _ hq (fun l z => by cases z)
  have in4 := inv'.kt kt4
  have hta4 : (upd (upd H' p3 (.lst [])) ta (.lst vs')) ta = some (.lst vs') := upd_same
  generalize upd (upd H' p3 (.lst [])) ta (.lst vs') = H4 at *
  have hdq4 := dp_same sm4 hdq
  have kk := inv.ks (dq, kq) (List.mem_append_right _ List.mem_cons_self)
  have mu4 : muE es' + (dq.bulk + 1) ≤ 100001 := by
    have := inv.mu
    rw [muE_app] at this
    exact this
  have fn4 := inv.fn
  have out : ∀ H5, Same H H5 → entN (dq, kq) = none → Q .non H5 := fun H5 s5 en => by
    rw [fin_none en] at fn4
    exact qn (bad fn4.symm) _ s5
  refine ⟨tq, _, rfl, SqT.of hq4, rfl, _, _, rfl, _, _, rfl, rfl, ?_⟩
  refine ⟨_, rfl, xq, _, _, _, _, rfl, .ty "tuple", ty_of hdq4, kit_tuple dq, _, rfl, ?_⟩
  cases ht : tupleD dq with
  | false =>
    refine ifT rfl (ifT rfl (out _ sm4 (ent_not ?_)))
    cases dq <;> first | rfl | cases ht
  | true =>
  obtain ⟨bs, rfl⟩ : ∃ ds, dq = .tuple ds := by
    cases dq <;> first | exact ⟨_, rfl⟩ | cases ht
  clear hdq4
  cases hdq with
  | @tup a xs _ at0 each0 =>
  have at4 := sqT_same sm4 at0
  have lx := dpAll_len each0
  have tup_len : tupD 1 8 (.tuple bs) = (decide ((1 : Int) ≤ (bs.length : Int)) && decide ((bs.length : Int) ≤ 8)) := rfl
  refine ifF rfl ⟨_, rfl, a, xs, rfl, .inr at4, _, _, rfl, rfl, _, rfl, ?_⟩
  rw [lx]
  by_cases c1 : (1 : Int) ≤ (bs.length : Int)
  case neg =>
    refine ifF (decide_eq_false c1) ⟨_, rfl, ifT rfl (ifT rfl (out _ sm4 (ent_not ?_)))⟩
    rw [tup_len, decide_eq_false c1]
    rfl
  refine ifT (decide_eq_true c1) ⟨_, _, rfl, rfl, _, rfl, ?_⟩
  by_cases c8 : (bs.length : Int) ≤ 8
  case neg =>
    rw [decide_eq_false c8]
    refine ifT rfl (ifT rfl (out _ sm4 (ent_not ?_)))
    rw [tup_len, decide_eq_false c8, Bool.and_false]
  rw [decide_eq_true c8]
  refine ifF rfl ⟨_, rfl, _, _, rfl, rfl, _, rfl, ?_⟩
  by_cases c4 : kq ≤ 4
  case neg => exact ifT (decide_eq_true (by omega)) (out _ sm4 (ent_deep (by omega)))
  refine ifF (decide_eq_false (by omega)) ?_
  have b1 : 1 ≤ bs.length := by omega
  have b8 : bs.length ≤ 8 := by omega
  refine ⟨_, rfl, _, rfl, a, xs, rfl, .inr at4, _, _, rfl, rfl, _, rfl, _, rfl, _, _, rfl, _, _, rfl, ?_⟩
  have emax : (if ((kq : Nat) : Int) > ((e : Nat) : Int) then ((kq : Nat) : Int) else ((e : Nat) : Int)) = ((max e kq : Nat) : Int) := by
    split <;> omega
  rw [emax, lx]
  refine ⟨_, rfl, a, rfl, ⟨xs, at4⟩, ?_⟩
  have hbb : (PyData.tuple bs).bulk = PyData.bulkAll bs := by simp only [PyData.bulk]
  rw [hbb] at mu4
  refine for_tup (xs := xs) (fun i σ H5 => ∃ ta5 vs5 o6 o7, σ = [some x, some (.ref ta5), some (.int ((t + bs.length : Nat) : Int)), some (.int ((max e kq : Nat) : Int)), some (.ref a), some (.int (kq : Nat)), o6, o7] ∧ Same H H5 ∧ H ta5 = none ∧ H5 ta5 = some (.lst vs5) ∧ EntAll K H H5 vs5 (es' ++ (bs.take i).flatMap (pushB bs.length kq)) ∧ ∀ b ∈ bs.take i, Tri b)
    ⟨ta, vs', o6, o7, rfl, sm4, inv.new, hta4, by rw [List.take_zero, List.flatMap_nil, List.append_nil]; exact in4, fun b hb => by rw [List.take_zero] at hb; cases hb⟩
    (fun i σ H5 _ h => by obtain ⟨_, _, _, _, _, sm5, _⟩ := h; exact sqT_same sm5 at0) (fun i y σ H5 hyi h => ?_) (fun σ H5 h => ?_)
  · obtain ⟨ta5, vs5, o6, o7, rfl, sm5, new5, at5, en5, tri5⟩ := h
    obtain ⟨b, hb, hdb⟩ := dpAll_get' each0 hyi
    have hbm : b ∈ bs := List.mem_of_getElem? hb
    refine ⟨_, rfl, y, _, _, _, _, rfl, .ty "tuple", ty_of (dp_same sm5 hdb), kit_tuple b, _, rfl, ?_⟩
    cases hbt : tupleD b with
    | false => exact ifT rfl (ifT rfl (out _ sm5 (ent_bad hbm (by rintro ⟨ps, rfl, _⟩; cases hbt))))
    | true =>
    obtain ⟨ps, rfl⟩ : ∃ ds, b = .tuple ds := by
      cases b <;> first | exact ⟨_, rfl⟩ | cases hbt
    cases hdb with
    | @tup ab ys _ atb eachb =>
    have ly := dpAll_len eachb
    have atb5 := sqT_same sm5 atb
    refine ifF rfl ⟨_, rfl, ab, ys, rfl, .inr atb5, rfl, _, rfl, ?_⟩
    rw [ly]
    by_cases l3 : ps.length = 3
    case neg =>
      refine ifT (by rw [decide_eq_false (fun z => l3 (by have := V.int.inj z; omega))]; rfl) (out _ sm5 (ent_bad hbm ?_))
      rintro ⟨ps', e', l'⟩
      cases e'
      exact l3 l'
    refine ifF (by rw [l3]; rfl) ?_
    refine ⟨_, rfl, _, rfl, ab, rfl, ⟨ys, atb5⟩, fun D hD => ?_⟩
    refine lc_tup (xs := ys) (fun j H6 => Same H5 H6 ∧ ∃ zs : List V, H6 D = some (.lst zs) ∧ zs.length ≤ j ∧ EntAll K H H6 zs (((ps.take j).filter fun p => !plainB bs.length p).map fun p => (p, kq + 1))) ⟨same_new hD _, [], upd_same, Nat.le_refl _, .nil⟩
      (fun j H6 _ h => sqT_same h.1 atb5) (fun j z H6 hz h => ?_) (fun H6 h => ?_)
    · obtain ⟨s6, zs, hz6, hzl, hze⟩ := h
      obtain ⟨pd, hpd, hdz⟩ := dpAll_get' eachb hz
      have hj3 : j < ps.length := (List.getElem?_eq_some_iff.mp hpd).1
      have etk := take_more hpd
      refine ⟨rfl, _, rfl, _, rfl, a, xs, rfl, .inr (sqT_same (sm5.trans s6) at0), z, pd, bs.length, by rw [lx]; rfl, dp_same (sm5.trans s6) hdz, _, rfl, ?_⟩
      cases hp : plainB bs.length pd with
      | true =>
        refine ifF rfl ⟨s6, zs, hz6, by omega, ?_⟩
        rw [etk, List.filter_append, List.filter_cons_of_neg (by rw [hp]; decide), List.filter_nil, List.append_nil]
        exact hze
      | false =>
        refine ifT rfl ⟨_, rfl, _, rfl, _, _, rfl, rfl, small (by show 2 ≤ 1000; decide), fun p6 h6 => ?_⟩
        have s7 := same_new h6 (.tup [z, .int (((kq : Nat) : Int) + 1)])
        have hz7 := s7 _ _ hz6
        refine ⟨zs, hz7, Nat.lt_of_lt_of_le (show zs.length < 1000 by omega) (small (Nat.le_refl _)), same_upd (s6.trans s7) hD, zs ++ [.ref p6], upd_same, by rw [List.length_append, List.length_singleton]; omega, ?_⟩
        rw [etk, List.filter_append, List.filter_cons_of_pos (by rw [hp]; rfl), List.filter_nil, List.map_append]
        refine EntAll.app (.cons ?_ hdz .nil) (hze.kt ((KT.of_same s7).trans (KT.upd hz7)))
        rw [upd_ne (ne_of_none hz6 h6).symm]
        exact upd_same
    · obtain ⟨s6, zs, hz6, hzl, hze⟩ := h
      rw [ly] at hzl hze
      rw [List.take_length] at hze
      have lv := en5.len
      have lm := len_mu (es' ++ (bs.take i).flatMap (pushB bs.length kq))
      rw [muE_app] at lm
      have lp := mu_push (m := bs.length) (k := kq) (bs.take i)
      have lt := bulk_take bs i
      refine ⟨ta5, D, vs5, zs, rfl, rfl, s6 _ _ at5, hz6, small6 (by omega), fun p7 h7 => ?_⟩
      have s8 := same_new h7 (.lst (vs5 ++ zs))
      refine ⟨p7, vs5 ++ zs, _, _, rfl, sm5.trans (s6.trans s8), (sm5.trans s6).free h7, upd_same, ?_, fun b hb' => ?_⟩
      · rw [take_more hb, List.flatMap_append, List.flatMap_cons, List.flatMap_nil, List.append_nil, ← List.append_assoc]
        exact EntAll.app (hze.kt (KT.of_same s8)) (en5.kt (KT.of_same (s6.trans s8)))
      · rw [take_more hb] at hb'
        rcases List.mem_append.mp hb' with hb' | hb'
        · exact tri5 b hb'
        · rw [List.mem_singleton.mp hb']
          exact ⟨ps, rfl, l3⟩
  · obtain ⟨ta5, vs5, o6, o7, rfl, sm5, new5, at5, en5, tri5⟩ := h
    rw [lx, List.take_length] at en5 tri5
    have lp := mu_push (m := bs.length) (k := kq) bs
    refine ⟨muE (es' ++ bs.flatMap (pushB bs.length kq)), ?_, ta5, vs5, es' ++ bs.flatMap (pushB bs.length kq), t + bs.length, max e kq, _, _, _, _, rfl, rfl, ⟨sm5, new5, at5, en5, ?_, fun z hz => ?_, (fin_step kk.1 c4 b1 b8 tri5).symm.trans fn4⟩⟩
    · rw [muE_app, muE_app]
      show muE es' + _ < muE es' + ((PyData.tuple bs).bulk + 1 + 0)
      rw [hbb]
      omega
    · rw [muE_app]
      omega
    · rcases List.mem_append.mp hz with hz | hz
      · exact inv.ks z (List.mem_append_left _ hz)
      · have e := push_k hz
        exact ⟨by omega, by omega⟩
end
/-- the script, which nobody writes -/
def ScrOk (K : PySem.W.Frag) (H : Hp) (a : Addr) (xs : List V) : Prop := (∃ o, H a = some (.frz o (.lst xs))) ∨
  ∃ (o : Obj) (its : Array Value) (n : Nat), K.lookup a = some o ∧ o.cls = .type "list" ∧ o.dict = none ∧ o.data = .seq its n ∧ its.size ≤ sizeLine ∧ Vals xs its.toList
theorem ScrOk.kt {K : PySem.W.Frag} {H H' : Hp} {a : Addr} {xs : List V} (h : ScrOk K H a xs) (k : KT H H') : ScrOk K H' a xs := by
  rcases h with ⟨o, z⟩ | z
  · exact .inl ⟨o, k _ _ z (fun l q => by cases q)⟩
  · exact .inr z
theorem ScrOk.sq {K : PySem.W.Frag} {H : Hp} {a : Addr} {xs : List V} (h : ScrOk K H a xs) : SqL K H a xs := by
  rcases h with h | h
  · exact .inl (.inr h)
  · exact .inr h
/-! repr, where sys.modules stands in the base: no list and no dict of the law's is it -/
section
variable {X : Cx} {pins : List (Addr × Obj)} {σ : L2.St} {H : Hp} {s : Shared}
def SysB (base : Heap) : Prop := ∃ mm, base.Ns sysModules mm
theorem list_ne_sys (I : Inv X pins σ H s) (hs : SysB X.base) {r : Addr} {us : List V} (h : SqL X.K H r us) : r ≠ sysModules := by
  obtain ⟨mm, o0, es, ep, e0, d0, _⟩ := hs
  have hn := (I.bs _ _ e0).2
  intro e
  rw [e] at h
  rcases h with (z | ⟨o, z⟩) | ⟨o, its, n, hk, hc, hdn, hd, _⟩
  · rw [hn] at z
    cases z
  · rw [hn] at z
    cases z
  · have z := I.mod.kin _ _ hk
    rw [e0] at z
    cases z
    rw [d0] at hd
    cases hd
mutual
theorem Dp.rdS (I : Inv X pins σ H s) (hs : SysB X.base) : ∀ (d : PyData) (v : V) (u : Value), Dp X.K H v d → RelV v u → ∃ as, Reads s.heap u d as ∧ sysModules ∉ as
  | .none, v, u, h, r => by cases h; cases r; exact ⟨_, .none, fun z => nomatch z⟩
  | .bool b, v, u, h, r => by cases h; cases r; exact ⟨_, .bool b, fun z => nomatch z⟩
  | .int i, v, u, h, r => by cases h; obtain ⟨t, rfl⟩ := r; exact ⟨_, .int i t, fun z => nomatch z⟩
  | .str x, v, u, h, r => by cases h; obtain ⟨t, rfl⟩ := r; exact ⟨_, .str x t, fun z => nomatch z⟩
  | .list es, v, u, h, r => by
    cases h with
    | lst at_ each =>
      cases r
      have ne := list_ne_sys I hs at_
      obtain ⟨its, rv, ⟨o, n, ho, hc, _, hd⟩, _⟩ := I.list at_
      obtain ⟨as, hr, hn⟩ := Dp.rdsS I hs es _ its each rv
      refine ⟨_, .list ho hc hd hr, fun z => ?_⟩
      rcases List.mem_cons.mp z with z | z
      · exact ne z.symm
      · exact hn z
  | .tuple es, v, u, h, r => by
    cases h with
    | tup at_ each =>
      cases r
      obtain ⟨its, rv, ⟨o, ho, hc, n, hd⟩, _⟩ := I.tuple at_
      obtain ⟨as, hr, hn⟩ := Dp.rdsS I hs es _ its each rv
      exact ⟨_, .tuple ho hc hd hr, hn⟩
  | .dict kvs, v, u, h, r => by
    cases h with
    | dct at_ =>
      cases r
      obtain ⟨_, _, _, _, _, _, ns, rd⟩ := dct_reads I at_
      exact ⟨_, rd, fun z => by
        have z : sysModules ∈ [_] := z
        exact ns (List.mem_singleton.mp z).symm⟩
theorem Dp.rdsS (I : Inv X pins σ H s) (hs : SysB X.base) : ∀ (ds : List PyData) (vs : List V) (us : List Value), DpAll X.K H vs ds → Vals vs us → ∃ as, ReadsAll s.heap us ds as ∧ sysModules ∉ as
  | [], vs, us, h, r => by cases h; cases r; exact ⟨_, .nil, fun z => nomatch z⟩
  | d :: ds, vs, us, h, r => by
    cases h with
    | cons one more =>
      cases r with
      | cons r1 r2 =>
        obtain ⟨as, q1, n1⟩ := Dp.rdS I hs d _ _ one r1
        obtain ⟨bs, q2, n2⟩ := Dp.rdsS I hs ds _ _ more r2
        refine ⟨_, .cons q1 q2, fun hm => ?_⟩
        rcases List.mem_append.mp hm with hm | hm
        · exact n1 hm
        · exact n2 hm
end
end
theorem call_reprS {X : Cx} (hs : SysB X.base) (hg : X.A.guards = some []) (hu : X.A.units + 80 < cLine) : CallR X (.builtin "repr") (fun xs H Q => ∃ (a : Addr) (d : PyData), xs = [.ref a] ∧ Dp X.K H (.ref a) d ∧ d.showable = true ∧ d.depth ≤ 64 ∧ d.shown.length ≤ sizeLine ∧ Q (.str d.shown) H) := by
  intro pins s σ H xs us Q I r h
  obtain ⟨a, d, rfl, hd, h1, h3, h4, q⟩ := h
  obtain ⟨u, rfl, ru⟩ := vals1 r
  cases ru
  obtain ⟨as, hr, hn⟩ := Dp.rdS I hs d (.ref a) (.ref a) hd rfl
  exact repr_of_reads' hr h1 (fun _ => hn) hg (by omega) (fun _ _ e => e) (fun h' u tk hk => ⟨.str d.shown, H, I.kept hk, ⟨u, rfl⟩, q⟩) h4
/-! the end of a law whose defs hold lambdas: the tables of their code are tracked, too -/
section
open PySem.Spec PyProof.Rows LamX
theorem run_law2 {P : Program} {w : World} {K : PySem.W.Frag} {mg : Str → Option Value} {base : Heap} {fa a : Addr} {fd : FuncData} {st : Stmt} {N : List Str} {k : Nat} {s : Shared} {H : Hp} {nm par : Str}
    (F : Fun K nm nm st fa fd) (S : FnScope N [par] (defScope st)) (room : Room (k + 1) callerA) (at0 : Env0 P w K mg base callerA [] s H) (bd : BindsTo s fd ⟨[.ref a], []⟩ [(par, .ref a)])
    (body : ∀ cdv, fd.code = cdv → Room k (callerA.deeper (envOfC nm (defScope st) s.heap.objs.size fa cdv)) →
      ∃ t, PSs (cxOf CX0 P w K mg base N nm (defScope st) fa cdv callerA [] s H E0).nox (defBody st) t ∧ t { nx := fun _ _ => False, rt := fun v _ => v = .bl true } (L2.start N [.ref a]) H) :
    codeAny (model P w) callerA (.call (.ref fa) ⟨[.ref a], []⟩) (CR CX0 [] P w H s (fun v _ => v = .bl true) E0) s := by
  obtain ⟨oc, od, kV, doc, pm, an, cdv, ct, osl, rfl, found, code⟩ := F.ex
  have kin : K.In s.heap := at0.mod.kin.keeps fun b o e => (at0.bs b o e).1
  have unl : s.heap.NoLimit := at0.mod.nolimit.keeps fun b o e => (at0.bs b o e).1
  have kinds : ∀ y ∈ [(par, Value.ref a)], (defScope st).names.lookup y.1 = some .local ∨ ((defScope st).names.lookup y.1 = some .cell ∧ ((cellsFrom (s.heap.objs.size + 1) (defScope st).names []).lookup y.1).isSome = true) := by
    intro y hy
    rcases List.mem_cons.mp hy with rfl | hy
    · rcases S.par par List.mem_cons_self with q | q
      · exact .inl q
      · exact .inr ⟨q, PySem.W.cellsFrom_some _ _ _ (.inl q)⟩
    · cases hy
  refine codeAny_call_function room.depth (kin _ _ found) rfl S.co S.gen rfl (PySem.W.codeRec_of kin code) (bd _ _ _ _ ?_)
  refine wpAny_newFunctionEnv_cells S.kind kinds fun env he s1 ic => ?_
  subst he
  refine ⟨unl.keeps ic.toInCall.keep, codeAny_func ?_⟩
  obtain ⟨t, ht, hq⟩ := body cdv rfl (room.deeper _)
  have start_ok := inv_start (CX := CX0) (E := E0) (us := [.ref a]) (vs := [.ref a]) S room.hd at0 rfl (.cons rfl .nil) ic
  refine wpAny_mono (ht.nox.run [] s1 _ H _ start_ok hq) (fun fl s' out => ?_) fun e s' out => out
  cases fl with
  | ret u =>
    obtain ⟨v, σ', H', J, rv, q⟩ := out
    exact ⟨v, H', J.os, J.bare, J.base, J.hok, rv, q⟩
  | next =>
    obtain ⟨_, _, _, q⟩ := out
    exact q.elim
  | brk =>
    obtain ⟨_, _, _, q⟩ := out
    exact q.elim
  | cont =>
    obtain ⟨_, _, _, q⟩ := out
    exact q.elim
/-- what the module's head leaves of tables -/
structure TabsAt (K : PySem.W.Frag) (mg : Str → Option Value) (h : Heap) (cs : List (Addr × Addr)) : Prop where
  empty : ∀ p ∈ cs, h.get? p.2 = some { cls := .none, data := .fields #[] }
  out : ∀ p ∈ cs, K.lookup p.2 = none
  heads : ∀ p ∈ cs, PySem.W.CodeHd h p.1 p.2
  sys : SysB h
  blt : ∃ (bm : Addr) (ob : Obj), mg "__builtins__" = some (.ref bm) ∧ bm ≠ builtinsNs ∧ h.get? bm = some ob ∧ ob.cls = .type "module" ∧ ob.dict = some builtinsNs ∧ ob.data = .plain
theorem law_endT {P : Program} {w : World} {K : PySem.W.Frag} {mg mb : Str → Option Value} {fa a : Addr} {cs : List (Addr × Addr)} {fd : FuncData} {st : Stmt} {N : List Str} {k : Nat} {s : Shared} {nm par : Str} {vs : List Value} {ns : List Int}
    (kin : K.In s.heap) (gl : s.heap.Ns mainGlobals mg) (bl : s.heap.Ns builtinsNs mb) (blb : ∀ x : Str, x ≠ "__name__" → mb x = bootBuiltins x) (unl : s.heap.NoLimit) (gens : s.gens = #[]) (TA : TabsAt K mg s.heap cs)
    (ha : s.heap.get? a = some { cls := .type "list", data := .seq vs.toArray }) (hi : IntsAre vs ns) (hl : ns.length ≤ sizeLine) (room : Room (k + 1) callerA)
    (F : Fun K nm nm st fa fd) (S : FnScope N [par] (defScope st)) (bd : ∀ (s : Shared) (u : Value), BindsTo s fd ⟨[u], []⟩ [(par, u)])
    (body : ∀ (base : Heap), K.In base → base.Ns mainGlobals mg → SysB base → (∀ p ∈ cs, TabB base mg p.1 p.2) → ∀ (H : Hp) cdv, fd.code = cdv → (∀ p ∈ cs, H p.2 = some (.tbl #[])) → ScrOk K H a (ns.map V.int) → Room k (callerA.deeper (envOfC nm (defScope st) s.heap.objs.size fa cdv)) →
      ∃ t, PSs (cxOf CX0 P w K mg base N nm (defScope st) fa cdv callerA [] s H E0).nox (defBody st) t ∧ t { nx := fun _ _ => False, rt := fun v _ => v = .bl true } (L2.start N [.ref a]) H) :
    codeAny (model P w) callerA (.call (.ref fa) ⟨[.ref a], []⟩) (fun r s' => r = .ok (.ret (.bool true)) ∧ OldK s.heap s'.heap ∧ s'.os = s.os ∧ AllBare s'.gens) s := by
  have vals := vals_ints hi
  have len := hi.length
  have no_tab : ∀ p ∈ cs, p.2 ≠ a := fun p hp z => by
    have e := TA.empty p hp
    rw [z, ha] at e
    have e : Data.seq vs.toArray _ = Data.fields #[] := congrArg Obj.data (Option.some.inj e)
    cases e
  -- whatever of the script is tracked
  have main : ∀ H : Hp, (∀ p ∈ cs, H p.2 = some (.tbl #[])) → ScrOk K H a (ns.map V.int) → HOk P w H s.heap →
      (∀ b u, H b = some u → (b = a ∧ K.lookup a = none ∧ ∃ o xs, u = .frz o (.lst xs)) ∨ ∃ p ∈ cs, b = p.2) →
      codeAny (model P w) callerA (.call (.ref fa) ⟨[.ref a], []⟩) (fun r s' => r = .ok (.ret (.bool true)) ∧ OldK s.heap s'.heap ∧ s'.os = s.os ∧ AllBare s'.gens) s := by
    intro H tabs scr hok alone
    have off : ∀ {b : Addr} {o : Obj}, s.heap.get? b = some o → (∀ us n, o.data ≠ .seq us n) → o.data ≠ .fields #[] → H b = none := by
      intro b o e n1 n2
      cases q : H b with
      | none => rfl
      | some u =>
        rcases alone b u q with ⟨rfl, _⟩ | ⟨p, hp, rfl⟩
        · rw [ha] at e
          cases e
          exact absurd rfl (n1 _ _)
        · rw [TA.empty p hp] at e
          cases e
          exact absurd rfl n2
    have spaces : ∀ {b : Addr} {m : Str → Option Value}, s.heap.Ns b m → (hidT s.heap H).Ns b m := by
      intro b m ⟨o, es, ep, e, d, r⟩
      refine ⟨o, es, ep, hidT_get e (off e (fun us n z => ?_) fun z => ?_), d, r⟩
      · rw [d] at z
        cases z
      · rw [d] at z
        cases z
    have kinB : K.In (hidT s.heap H) := by
      intro b o e
      refine hidT_get (kin b o e) ?_
      cases q : H b with
      | none => rfl
      | some u =>
        rcases alone b u q with ⟨rfl, z, _⟩ | ⟨p, hp, rfl⟩
        · rw [z] at e
          cases e
        · rw [TA.out p hp] at e
          cases e
    have TB : ∀ p ∈ cs, TabB (hidT s.heap H) mg p.1 p.2 := by
      intro p hp
      constructor
      · obtain ⟨o, us, x1, x2, x3, x4, x5, x6, x7, e, y1, y2, y3, y4⟩ := TA.heads p hp
        refine ⟨o, us, x1, x2, x3, x4, x5, x6, x7, hidT_get e (off e (fun vs n z => ?_) fun z => ?_), y1, y2, y3, y4⟩
        · rw [y2] at z
          cases z
        · rw [y2] at z
          cases z
          simp at y3
      · obtain ⟨bm, ob, g1, g2, g3, g4, g5, g6⟩ := TA.blt
        refine ⟨bm, ob, g1, g2, fun z => ?_, fun z => ?_, hidT_get g3 (off g3 (fun vs n z => ?_) fun z => ?_), g4, g5, g6⟩
        · obtain ⟨o, es, ep, e, d, _⟩ := gl
          rw [z, e] at g3
          cases g3
          rw [d] at g6
          cases g6
        · rw [z, TA.empty p hp] at g3
          cases g3
          cases g6
        · rw [g6] at z
          cases z
        · rw [g6] at z
          cases z
      · intro z
        obtain ⟨o, es, ep, e, d, _⟩ := gl
        rw [z, TA.empty p hp] at e
        cases e
        cases d
    obtain ⟨mc, un1, un2⟩ := unl
    have md : Mod K mg (hidT s.heap H) := ⟨kinB, spaces gl, ⟨mb, spaces bl, blb⟩, ⟨mc, spaces un1, un2⟩⟩
    have at0 : Env0 P w K mg (hidT s.heap H) callerA [] s H := by
      refine ⟨rfl, md, fun b o e => of_hidT e, Nat.le_of_eq (hidT_size _ _), trivial, fun b hb => ?_, hok, .of_eq gens⟩
      cases (show b ∈ ([] : List Addr) from hb)
    refine codeAny_mono (run_law2 F S room at0 (bd s (.ref a)) fun cdv hc hr => body _ kinB (spaces gl) (let ⟨mm, z⟩ := TA.sys; ⟨mm, spaces z⟩) TB H cdv hc tabs scr hr) fun r s' res => ?_
    match r, res with
    | .error e, res => exact (show False from res).elim
    | .ok .next, res => exact (show False from res).elim
    | .ok .brk, res => exact (show False from res).elim
    | .ok .cont, res => exact (show False from res).elim
    | .ok (.ret u), res =>
      obtain ⟨v, H', os, bare, un, hok', rv, q⟩ := res
      obtain rfl : v = .bl true := q
      obtain rfl : u = Value.bool true := rv
      have stays : ∀ b o, (∀ p ∈ cs, b ≠ p.2) → s.heap.get? b = some o → s'.heap.get? b = some o := by
        intro b o nb e
        cases q : H b with
        | none =>
          refine un.keep b o e q (fun z => ?_) (by simp)
          cases (show b ∈ ([] : List Addr) from z)
        | some u =>
          rcases alone b u q with ⟨_, _, ob, xs, rfl⟩ | ⟨p, hp, z⟩
          · obtain ⟨e1, _⟩ := hok b _ q
            obtain ⟨e2, _⟩ := hok' b _ (un.frzs b ob _ q)
            rw [e] at e1
            cases e1
            exact e2
          · exact absurd z (nb p hp)
      have grows : ∀ p ∈ cs, ∃ more : Array Value, s'.heap.get? p.2 = some { cls := .none, data := .fields more } := by
        intro p hp
        obtain ⟨more, z⟩ := un.tbls p.2 #[] (tabs p hp)
        exact ⟨_, hok' p.2 _ z⟩
      refine ⟨rfl, ⟨fun b o e => ?_, fun b o e => ?_⟩, os, bare⟩
      · by_cases nb : ∀ p ∈ cs, b ≠ p.2
        · exact .inl (stays b o nb e)
        · obtain ⟨p, hp, z⟩ : ∃ p ∈ cs, b = p.2 := by
            refine Classical.byContradiction fun no => nb fun p hp z => no ⟨p, hp, z⟩
          subst z
          obtain ⟨more, hm⟩ := grows p hp
          have e0 := TA.empty p hp
          rw [e0] at e
          cases e
          refine .inr (.inl ⟨((TA.heads p hp).tab (ps := #[]) e0).isCodeTable, rfl, #[], more, rfl, ?_⟩)
          rw [Array.empty_append]
          exact hm
      · by_cases nb : ∀ p ∈ cs, b ≠ p.2
        · exact ⟨o, stays b o nb e⟩
        · obtain ⟨p, hp, z⟩ : ∃ p ∈ cs, b = p.2 := by
            refine Classical.byContradiction fun no => nb fun p hp z => no ⟨p, hp, z⟩
          subst z
          obtain ⟨more, hm⟩ := grows p hp
          exact ⟨_, hm⟩
  -- the tables, and the script where it isn't written
  let tb : Addr → Bool := fun b => cs.any fun p => decide (b = p.2)
  have tb_in : ∀ {b}, tb b = true → ∃ p ∈ cs, b = p.2 := fun {b} z => by
    obtain ⟨p, hp, e⟩ := List.any_eq_true.mp z
    exact ⟨p, hp, of_decide_eq_true e⟩
  have in_tb : ∀ p ∈ cs, tb p.2 = true := fun p hp => List.any_eq_true.mpr ⟨p, hp, decide_eq_true rfl⟩
  cases hk : K.lookup a with
  | some o =>
    have e := kin a o hk
    rw [ha] at e
    cases e
    refine main (fun b => if tb b = true then some (.tbl #[]) else none) (fun p hp => if_pos (in_tb p hp)) (.inr ⟨_, vs.toArray, _, hk, rfl, rfl, rfl, by rw [List.size_toArray, len]; exact hl, by simpa using vals⟩) (fun b u z => ?_) (fun b u z => ?_)
    · by_cases c : tb b = true
      · obtain ⟨p, hp, rfl⟩ := tb_in c
        have z := (if_pos c).symm.trans z
        cases z
        exact TA.empty p hp
      · have z := (if_neg c).symm.trans z
        cases z
    · by_cases c : tb b = true
      · exact .inr (tb_in c)
      · have z := (if_neg c).symm.trans z
        cases z
  | none =>
    refine main (fun b => if b = a then some (.frz { cls := .type "list", data := .seq vs.toArray } (.lst (ns.map V.int))) else if tb b = true then some (.tbl #[]) else none) (fun p hp => (if_neg (no_tab p hp)).trans (if_pos (in_tb p hp))) (.inl ⟨_, if_pos rfl⟩) (fun b u z => ?_) (fun b u z => ?_)
    · by_cases c0 : b = a
      · have z := (if_pos c0).symm.trans z
        cases z
        rw [c0]
        exact ⟨ha, by rw [List.length_map]; exact hl, vs, _, vals, ha⟩
      · have z := (if_neg c0).symm.trans z
        by_cases c : tb b = true
        · obtain ⟨p, hp, rfl⟩ := tb_in c
          have z := (if_pos c).symm.trans z
          cases z
          exact TA.empty p hp
        · have z := (if_neg c).symm.trans z
          cases z
    · by_cases c0 : b = a
      · have z := (if_pos c0).symm.trans z
        exact .inl ⟨c0, hk, _, _, (Option.some.inj z).symm⟩
      · have z := (if_neg c0).symm.trans z
        by_cases c : tb b = true
        · exact .inr (tb_in c)
        · have z := (if_neg c).symm.trans z
          cases z
end
section
open PySem.Spec PyProof.Rows LamX
/-! heaps of the law -/
theorem tabs_kp {T : List (Addr × Str)} {H H' : Hp} {st : Addr} (t : Tabs T H) (sa : StAt H st) (k : Kp st H H') : Tabs T H' := by
  obtain ⟨l, hl⟩ := sa.some
  intro p hp
  obtain ⟨ps, h1, h2, h3⟩ := t p hp
  refine ⟨ps, k _ _ (fun z => by rw [z, hl] at h1; cases h1) h1, h2, fun pos cv hc => ?_⟩
  obtain ⟨c, e1, e2⟩ := h3 pos cv hc
  exact ⟨c, e1, k _ _ (fun z => by rw [z, hl] at e2; cases e2) e2⟩
theorem mn_ext {st : Addr} {H H' : Hp} (e : ExtN H H') : ExtN (mn st H) (mn st H') := fun b o h n => by
  obtain ⟨n1, h1⟩ := mn_some h
  exact mn_at n1 (e b o h1 n)
theorem kt_mn {st : Addr} {H : Hp} (sa : StAt H st) : KT H (mn st H) := fun b u h n => by
  refine mn_at (fun z => ?_) h
  obtain ⟨l, hl⟩ := sa.some
  rw [z, hl] at h
  exact n l (Option.some.inj h).symm
theorem st_ext {st : Addr} {H H' : Hp} (h : StAt H st) (e : ExtN H H') : StAt H' st := by
  obtain ⟨x, y, z, h, ok⟩ := h
  exact ⟨x, y, z, e _ _ h (fun ps q => by cases q), ok⟩
theorem scr_ext {K : PySem.W.Frag} {H H' : Hp} {a : Addr} {xs : List V} (h : ScrOk K H a xs) (e : ExtN H H') : ScrOk K H' a xs := by
  rcases h with ⟨o, z⟩ | z
  · exact .inl ⟨o, e _ _ z (fun ps q => by cases q)⟩
  · exact .inr z
structure LIv (K : PySem.W.Frag) (T : List (Addr × Str)) (a : Addr) (xs : List V) (st : Addr) (gv : V) (d : PyData) (H : Hp) : Prop where
  scr : ScrOk K H a xs
  sa : StAt H st
  gd : Dp K H gv d
  tb : Tabs T H
section
variable {K : PySem.W.Frag} {T : List (Addr × Str)} {a st : Addr} {xs : List V} {gv : V} {d : PyData} {H H' : Hp}
theorem LIv.mv (h : LIv K T a xs st gv d H) (t : tupOnly d = true) (m : Mv st H H') : LIv K T a xs st gv d H' :=
  ⟨h.scr.kt (m.kp.kt h.sa), m.sa, dp_kt (m.kp.kt h.sa) _ _ t h.gd, tabs_kp h.tb h.sa m.kp⟩
theorem LIv.ext (h : LIv K T a xs st gv d H) (e : ExtN H H') (t : Tabs T H') : LIv K T a xs st gv d H' := ⟨scr_ext h.scr e, st_ext h.sa e, dp_ext e _ _ h.gd, t⟩
theorem LIv.same (h : LIv K T a xs st gv d H) (s : Same H H') : LIv K T a xs st gv d H' := h.ext (ext_same s) (h.tb.ext s)
end
/-! _law_box_number -/
theorem pick_int {ns : List Int} {r : Int} (h0 : 0 ≤ r) (h1 : r < ns.length) : ∃ n ∈ ns, atI (ns.map V.int) r = some (.int n) := by
  have hk : r.toNat < ns.length := by omega
  exact ⟨ns[r.toNat], List.getElem_mem hk, atI_at h0 (by rw [List.getElem?_map, List.getElem?_eq_getElem hk]; rfl)⟩
variable {P : Program} {w : World} {K : PySem.W.Frag} {mg : Str → Option Value} {base : Heap} {f : Addr} {fd : FuncData}
def spBoxNo (K : PySem.W.Frag) : Sp := fun vs H Q _ => ∃ (st : Addr) (x : V) (d : PyData) (c : Nat), vs = [.ref st, x] ∧ StAt H st ∧ Dp K H x d ∧ gsz 4 d = some c ∧ ∀ (n : Int) H', Mv st H H' → Q (.int n) H'
theorem scBoxNo : FnScope ["_law_state_here", "_law_graph_here", "_law_many", "_law_some"] ["_law_state_here", "_law_graph_here"] (defScope sBoxNumber) := ⟨rfl, rfl, rfl, by decide +kernel, rfl, by decide +kernel, by decide +kernel⟩
theorem ok_boxNo {k : Nat} (F : Fun K "_law_box_number" "_law_box_number" sBoxNumber f fd) (T : Free mg) (cC : Cal P w K mg base "_law_choice" k ["_law_state_here", "_law_many"] spChoice) : FnOk P w K mg base CX0 (k + 1) f fd ["_law_state_here", "_law_graph_here"] (spBoxNo K) := by
  refine F.ok scBoxNo (fun vs H Q E h => ?_) (fun cdv A outer s H vs Q E hr h => ?_)
  · obtain ⟨st, x, d, c, rfl, _⟩ := h
    rfl
  obtain ⟨st, x, d, c, rfl, sa, hx, hG, q⟩ := h
  refine ⟨_, pss_cons (ps_set (i := 2) scBoxNo.nd rfl (.inl rfl) (pe_callB call_len_seq rfl T.len PySem.boot_len (pa_cons (pv 1) pa_nil)))
    (pss_cons (ps_set (i := 3) scBoxNo.nd rfl (.inl rfl) (pe_lst (pa_cons pe_int (pa_cons (pe_op op_sub (pv 2) pe_int) (pa_cons (pv 2) (pa_cons (pe_un un_neg pe_int) (pa_cons (pe_cal cC hr rfl (pa_cons (pv 0) (pa_cons (pv 2) pa_nil))) (pa_cons (pe_cal cC hr rfl (pa_cons (pv 0) (pa_cons (pv 2) pa_nil)))
      (pa_cons (pe_op op_pow pe_int pe_int) (pa_cons (pe_op op_sub pe_int (pe_op op_pow pe_int pe_int)) pa_nil))))))))))
    (pss_one (ps_ret (pe_ix ix_list (pv 3) (pe_cal cC hr rfl (pa_cons (pv 0) (pa_cons pe_int pa_nil))) (fun _ _ => rfl))))), ?_⟩
  obtain ⟨m, bs, s', e, rfl, l1, l8, _⟩ := gsz_some hG
  cases hx with
  | @tup a xs _ ht ha =>
  have lx := dpAll_len ha
  refine ⟨_, rfl, a, xs, rfl, .inr ht, ?_⟩
  refine ⟨_, rfl, _, _, rfl, rfl, _, rfl, _, rfl, _, rfl, _, rfl, st, _, rfl, sa, by omega, by omega, fun r1 H1 r10 r11 mv1 => ?_⟩
  refine ⟨_, rfl, _, rfl, st, _, rfl, mv1.sa, by omega, by omega, fun r2 H2 r20 r21 mv2 => ?_⟩
  refine ⟨_, _, rfl, rfl, ⟨by decide, by decide, by decide⟩, _, _, rfl, rfl, ⟨by decide, by decide, by decide⟩, _, _, rfl, rfl, small (by show 8 ≤ 1000; decide), fun p hp => ?_⟩
  have mv := (mv1.trans mv2).same (same_new hp (.lst ([0, (xs.length : Int) - 1, xs.length, -1, r1, r2, 10 ^ 29, 0 - 10 ^ 29].map V.int)))
  have nps : p ≠ st := mv2.sa.ne hp
  refine ⟨_, rfl, _, rfl, st, 8, rfl, mv.sa, by decide, by decide, fun r3 H3 r30 r31 mv3 => ?_⟩
  obtain ⟨n, hn, hat⟩ := pick_int (ns := [0, (xs.length : Int) - 1, xs.length, -1, r1, r2, 10 ^ 29, 0 - 10 ^ 29]) (r := r3) r30 r31
  exact ⟨p, _, r3, _, rfl, rfl, SqL.of (mv3.kp _ _ nps upd_same), hat, q n H3 (mv.trans mv3)⟩
/-! what is shown -/
theorem ok_fits {b p : Nat} {d : PyData} (h : SpOk b p d) (hb : b ≤ 100000) : d.shown.length ≤ sizeLine := by
  have := PyData.shown_le_bulk 40 (by decide) d h.sho
  have := h.blk
  have e : sizeLine = 16777216 := by decide
  omega
theorem ok_two {d o : PyData} {b b' p p' : Nat} (hd : SpOk b p d) (ho : SpOk b' p' o) : (PyData.list [d, o]).showable = true ∧ (PyData.list [d, o]).leavesShort 40 = true ∧ (PyData.list [d, o]).bulk ≤ b + b' + 2 ∧ (PyData.list [d, o]).depth ≤ p + p' + 1 := by
  refine ⟨?_, ?_, ?_, ?_⟩
  · simp only [PyData.showable, PyData.showableAll, hd.shw, ho.shw]
    rfl
  · simp only [PyData.leavesShort, PyData.leavesShortAll, hd.sho, ho.sho]
    rfl
  · simp only [PyData.bulk, PyData.bulkAll]
    have := hd.blk
    have := ho.blk
    omega
  · simp only [PyData.depth, PyData.depthAll]
    have := hd.dep
    have := ho.dep
    omega
theorem two_show {d o : PyData} {c : Nat} (hg : gsz 4 d = some c) (ho : SpOk 2000 20 o) : (PyData.list [d, o]).showable = true ∧ (PyData.list [d, o]).depth ≤ 64 ∧ (PyData.list [d, o]).shown.length ≤ sizeLine := by
  have hd := ok_part (part_graph 4 d c hg)
  have hb := bulk_graph 4 d c hg
  obtain ⟨_, _, _, _, _, _, _, _, _, h24⟩ := gsz_some hg
  obtain ⟨h1, h2, h3, h4⟩ := ok_two hd ho
  refine ⟨h1, by omega, ?_⟩
  have := PyData.shown_le_bulk 40 (by decide) _ h2
  have e : sizeLine = 16777216 := by decide
  omega
end
section
open PySem.Spec PyProof.Rows LamX
variable {P : Program} {w : World} {K : PySem.W.Frag} {mg : Str → Option Value} {base : Heap} {f c : Addr} {fd : FuncData}
theorem scLaw : FnScope ["_law_script", "_law_nth", "_law_state_here", "_law_turn", "_law_stood", "_law_bad", "_law_b", "_law_good", "_law_graph_here", "_law_odd_here"] ["_law_script"] (defScope sLaw) :=
  ⟨rfl, rfl, rfl, by decide +kernel, rfl, by decide +kernel, by decide +kernel⟩
def badL : List PyData := [.int 3, .int (-1), .bool true, .none, .str "0", .tuple [.int 0], .int (10 ^ 29), .bool false]
theorem bad_all : badL.all (fun e => !withinD 0 2 e) = true := by decide +kernel
theorem bad_not {e : PyData} (h : e ∈ badL) : withinD 0 2 e = false := by
  have := List.all_eq_true.mp bad_all e h
  simpa using this
def insL (d : PyData) : List PyData := [.none, .tuple [], .list [d], .tuple [.tuple [.int 0, .int 0]], .int 7, .str "graph", .dict (dictD []), .bool true]
theorem ins_ok {d o : PyData} {n : Nat} (hg : gsz 4 d = some n) (h : o ∈ insL d) : SpOk 2000 20 o ∧ gsz 4 o = none := by
  have hb := bulk_graph 4 d n hg
  obtain ⟨_, _, _, _, _, _, _, _, _, h24⟩ := gsz_some hg
  simp only [insL, List.mem_cons, List.not_mem_nil, or_false] at h
  have flat : ∀ {o : PyData}, oddB o = true → gsz 4 o = none → SpOk 2000 20 o ∧ gsz 4 o = none := fun h1 h2 => ⟨(oddB_ok h1).mono (by decide) (by decide), h2⟩
  rcases h with rfl | rfl | rfl | rfl | rfl | rfl | rfl | rfl
  · exact flat (by decide +kernel) rfl
  · exact flat (by decide +kernel) rfl
  · refine ⟨(ok_lst (n := 9) (l := [d]) (b' := d.bulk + 1) (fun z hz => by rw [List.mem_singleton.mp hz]; exact part_graph 4 d n hg) (by simp [PyData.bulkAll])).mono (by omega) (by decide), rfl⟩
  · exact flat (by decide +kernel) (by decide +kernel)
  · exact flat (by decide +kernel) rfl
  · exact flat (by decide +kernel) rfl
  · exact flat (by decide +kernel) rfl
  · exact flat (by decide +kernel) rfl
def six (wd : Str) : PyData := .list [.str wd, .str wd, .str wd, .str wd, .str wd, .str wd]
theorem w2 : wordOf 2 = ("! graph" : Str) := by decide +kernel
theorem w3 : wordOf 3 = ("! place" : Str) := by decide +kernel
theorem six_same (wd : Str) : PyData.eqv (six wd) (six wd) = true := by simp [six, PyData.eqv, PyData.eqvAll]
theorem six_shape2 : SeqAt.shaped (six "! graph") = true := by decide +kernel
theorem six_shape3 : SeqAt.shaped (six "! place") = true := by decide +kernel
theorem six_dp {H : Hp} {p : Addr} {wd : Str} (h : H p = some (.lst [.str wd, .str wd, .str wd, .str wd, .str wd, .str wd])) : Dp K H (.ref p) (six wd) :=
  .lst (SqL.of h) (.cons (.str _) (.cons (.str _) (.cons (.str _) (.cons (.str _) (.cons (.str _) (.cons (.str _) .nil))))))
/-- words(..) != [wd] * 6, behind the call -/
theorem six_go {σ : L2.St} {H : Hp} {p : Addr} {wd : Str} {Q : Bool → Hp → Prop} (hs : SeqAt.shaped (six wd) = true) (h : H p = some (.lst [.str wd, .str wd, .str wd, .str wd, .str wd, .str wd])) (q : ∀ H', Same H H' → Q false H') :
    tOp rRep (tLst (tCons (tC (.str wd)) tNil)) (tC (.int 6)) σ H fun y H2 => rNeD K (.ref p) y H2 fun x H1 => ∃ b, x = .bl b ∧ Q b H1 := by
  refine ⟨small (by show 1 ≤ 1000; decide), fun p1 h1 => ⟨p1, 6, _, rfl, rfl, upd_same, by decide, by decide, small (by show 6 ≤ 1000; decide), fun p2 h2 => ?_⟩⟩
  have s1 := same_new h1 (.lst [.str wd])
  have s2 := same_new h2 (.lst [.str wd, .str wd, .str wd, .str wd, .str wd, .str wd])
  refine ⟨six wd, six wd, six_dp ((s1.trans s2) _ _ h), six_dp upd_same, hs, hs, _, rfl, ?_⟩
  rw [six_same]
  exact q _ (s1.trans s2)
/-- what stands behind the choosing of what is no graph -/
def tRest (K : PySem.W.Frag) (T : List (Addr × Str)) (a : Addr) (xs : List V) : TS := fun D σ H => ∃ (st : Addr) (gv ov : V) (d o : PyData) (n : Nat) (o1 o3 o4 o5 o6 o7 : Option V), σ = [some (.ref a), o1, some (.ref st), o3, o4, o5, o6, o7, some gv, some ov] ∧ LIv K T a xs st gv d H ∧ gsz 4 d = some n ∧
  Dp K (mn st H) ov o ∧ SpOk 2000 20 o ∧ gsz 4 o = none ∧ ∀ H' o4 o5 o6 o7, LIv K T a xs st gv d H' → D.nx [some (.ref a), o1, some (.ref st), o3, o4, o5, o6, o7, some gv, some ov] H'
structure Law23 (P : Program) (w : World) (K : PySem.W.Frag) (mg : Str → Option Value) (base : Heap) (CS CG CP fw g : Addr) (fdg : FuncData) (T : List (Addr × Str)) (k : Nat) : Prop where
  cSt : Cal P w K mg base "_law_state" k ["_law_script", "_law_k"] (spState K)
  cSm : Cal P w K mg base "_law_some_graph" k ["_law_state_here"] (spSome K)
  cC : Cal P w K mg base "_law_choice" k ["_law_state_here", "_law_many"] spChoice
  cB : Cal P w K mg base "_law_box_number" k ["_law_state_here", "_law_graph_here"] (spBoxNo K)
  cO : Cal P w K mg base "_law_odd" k ["_law_state_here"] (spOdd K)
  cS : Cal P w K mg base "_law_spoil" k ["_law_state_here", "_law_thing", "_law_odd_here"] (spSpoil K 9)
  cM : Cal P w K mg base "_law_measured" k ["_law_thing"] (spMeas K)
  cW : Cal P w K mg base "_law_words" k ["_law_graph_here", "_law_b", "_law_k", "_law_other_own"] (spWords K CG CP T)
  Z : SaidF P w K mg base CS CG CP fw g fdg (k - 2)
  cG : CalN P w K mg base "with_graph" (k - 2) ["graph", "b", "k", "other"] 3 ["other"] (fun us ws => us ++ ws) (fun vs zs => vs ++ zs) (spBadG K CG CP)
  cR : CalX P w K mg base "grown" (k - 2) ["graph"] (spBad1 K CG)
end
section
open PySem.Spec PyProof.Rows LamX
variable {P : Program} {w : World} {K : PySem.W.Frag} {mg : Str → Option Value} {base : Heap} {f c Pt CS CG CP fw g : Addr} {fd fdg : FuncData} {Tb : List (Addr × Str)}
abbrev NLaw : List Str := ["_law_script", "_law_nth", "_law_state_here", "_law_turn", "_law_stood", "_law_bad", "_law_b", "_law_good", "_law_graph_here", "_law_odd_here"]
theorem law_body {k : Nat} {s : Shared} {H : Hp} {a : Addr} {ns : List Int} (T : Free mg) (sys : SysB base) (scr : ScrOk K H a (ns.map V.int)) (h63 : ns.length ≤ 63) (tbs : Tabs Tb H)
    (TB : LamX.TabB base mg c Pt) (hmT : (Pt, ("law" : Str) ++ ".<locals>." ++ "<lambda>") ∈ Tb) (huT : ∀ p ∈ Tb, p.1 = Pt → p.2 = ("law" : Str) ++ ".<locals>." ++ "<lambda>")
    (hr : Room (k + 2) (callerA.deeper (envOfC "law" (defScope sLaw) s.heap.objs.size f (.ref c)))) (L : Law23 P w K mg base CS CG CP fw g fdg Tb (k + 2)) :
    ∃ t, PSs (cxOf CX0 P w K mg base NLaw "law" (defScope sLaw) f (.ref c) callerA [] s H E0).nox (defBody sLaw) t ∧ t { nx := fun _ _ => False, rt := fun v _ => v = .bl true } (L2.start NLaw [.ref a]) H := by
  have hu : (callerA.deeper (envOfC "law" (defScope sLaw) s.heap.objs.size f (.ref c))).units + 80 < cLine := by
    have := hr.un
    omega
  have hun := hr.units
  refine ⟨_, pss_cons (ps_for PassesOwn.never rfl (pi_range1 rfl T.range (pa_cons (pe_callB (call_max2 rfl) rfl T.max (by decide +kernel) (pa_cons pe_int (pa_cons (pe_callB (call_min2 rfl) rfl T.min (by decide +kernel)
        (pa_cons (pe_callB call_len_seq rfl T.len PySem.boot_len (pa_cons (pv 0) pa_nil)) (pa_cons pe_int pa_nil))) pa_nil))) pa_nil)) (pg_name (i := 1) scLaw.nd rfl (.inl rfl))
    (pss_cons (ps_set (i := 2) scLaw.nd rfl (.inl rfl) (pe_cal L.cSt hr rfl (pa_cons (pv 0) (pa_cons (pv 1) pa_nil))))
    (pss_cons (ps_set (i := 8) scLaw.nd rfl (.inr rfl) (pe_cal L.cSm hr rfl (pa_cons (pv 2) pa_nil)))
    (pss_one (ps_for PassesOwn.never rfl (pi_range1 rfl T.range (pa_cons pe_int pa_nil)) (pg_name (i := 3) scLaw.nd rfl (.inl rfl))
      (pss_cons (ps_set (i := 9) scLaw.nd rfl (.inr rfl) (pe_cal L.cS hr rfl (pa_cons (pv 2) (pa_cons (pv 8) (pa_cons (pe_cal L.cO hr rfl (pa_cons (pv 2) pa_nil)) pa_nil)))))
      (pss_cons (ps_if (pt_cmpR op_notN (pe_cal L.cM hr rfl (pa_cons (pv 9) pa_nil)) pe_non (nomark _))
        (pss_one (ps_set (i := 9) scLaw.nd rfl (.inr rfl) (pe_ix ix_list (pe_lst (pa_cons pe_non (pa_cons (pe_tup pa_nil) (pa_cons (pe_lst (pa_cons (pv 8) pa_nil)) (pa_cons (pe_tup (pa_cons (pe_tup (pa_cons pe_int (pa_cons pe_int pa_nil))) pa_nil)) (pa_cons pe_int (pa_cons pe_str (pa_cons pe_dnewK (pa_cons pe_bl pa_nil))))))))) (pv 3) (fun _ _ => rfl)))) pss_nil)
      (pss_imp (t' := tRest K Tb a (ns.map V.int)) (pss_cons (ps_asg (pe_tup (pa_cons (pe_callB (call_reprS sys rfl hu) rfl T.repr (by decide +kernel) (pa_cons (pe_lst (pa_cons (pv 8) (pa_cons (pv 9) pa_nil))) pa_nil)) (pa_cons (pe_cal L.cB hr rfl (pa_cons (pv 2) (pa_cons (pv 8) pa_nil))) pa_nil)))
          (pg_tup rfl (pgs_cons (pg_name (i := 4) scLaw.nd rfl (.inl rfl)) (pgs_cons (pg_name (i := 6) scLaw.nd rfl (.inr rfl)) pgs_nil))))
        (pss_cons (ps_set (i := 5) scLaw.nd rfl (.inl rfl) (pe_ix ix_list (pe_lst (lits_cons lit_int (lits_cons (lit_neg pe_int) (lits_cons lit_bl (lits_cons lit_non (lits_cons lit_str (lits_cons (lit_tup (lits_cons lit_int lits_nil) (by decide)) (lits_cons lit_big (lits_cons lit_bl lits_nil))))))))) (pe_cal L.cC hr rfl (pa_cons (pv 2) (pa_cons pe_int pa_nil))) (fun _ _ => rfl)))
        (pss_cons (ps_set (i := 7) scLaw.nd rfl (.inr rfl) (pe_cal L.cC hr rfl (pa_cons (pv 2) (pa_cons pe_int pa_nil))))
        (pss_cons (ps_if (PW.pt (pw_or (pt_cmpR (op_neD hun) (pe_cal L.cW hr rfl (pa_cons (pv 9) (pa_cons (pv 6) (pa_cons (pv 7) (pa_cons (pv 8) pa_nil))))) (pe_op op_rep (pe_lst (pa_cons pe_str pa_nil)) pe_int) (nomark _))
            (pw_or1 (pt_cmpR (op_neD hun) (pe_cal L.cW hr rfl (pa_cons (pv 9) (pa_cons (pv 6) (pa_cons (pv 5) (pa_cons (pv 9) pa_nil))))) (pe_op op_rep (pe_lst (pa_cons pe_str pa_nil)) pe_int) (nomark _))))) (pss_one (ps_ret pe_bl)) pss_nil)
        (pss_cons (ps_if (pt_cmpR (op_neD hun) (pe_cal L.cW hr rfl (pa_cons (pv 8) (pa_cons (pv 6) (pa_cons (pv 5) (pa_cons (pv 9) pa_nil))))) (pe_op op_rep (pe_lst (pa_cons pe_str pa_nil)) pe_int) (nomark _)) (pss_one (ps_ret pe_bl)) pss_nil)
        (pss_cons (ps_if (pt_cmpR (op_neD hun) (pe_cal L.cW hr rfl (pa_cons (pv 8) (pa_cons (pv 6) (pa_cons (pv 5) (pa_cons (pv 8) pa_nil))))) (pe_op op_rep (pe_lst (pa_cons pe_str pa_nil)) pe_int) (nomark _)) (pss_one (ps_ret pe_bl)) pss_nil)
        (pss_cons (ps_if (pt_cmpR op_ne (pe_said L.Z hr rfl TB rfl hmT huT (lamS_by (sc := defScope sLaw) (by decide +kernel)) rfl (fun _ _ _ _ _ => rfl) (fun A outer s H E f c' hr2 => pe_pkX (E := E) L.cG hr2 rfl (takes_of rfl rfl rfl rfl) (pa_cons (pv 8) (pa_cons (pv 6) (pa_cons (pv 7) pa_nil))) (pk_cons (pv 9) pk_nil))) pe_str (nomark _)) (pss_one (ps_ret pe_bl)) pss_nil)
        (pss_one (ps_if (PW.pt (pw_or (pt_cmpR op_ne (pe_said L.Z hr rfl TB rfl hmT huT (lamS_by (sc := defScope sLaw) (by decide +kernel)) rfl (fun _ _ _ _ _ => rfl) (fun A outer s H E f c' hr2 => pe_calX (E := E) L.cR hr2 rfl (takes_of rfl rfl rfl rfl) (pa_cons (pv 9) pa_nil))) pe_str (nomark _))
            (pw_or1 (pt_cmpR op_ne (pe_callB (call_reprS sys rfl hu) rfl T.repr (by decide +kernel) (pa_cons (pe_lst (pa_cons (pv 8) (pa_cons (pv 9) pa_nil))) pa_nil)) (pv 4) (nomark _))))) (pss_one (ps_ret pe_bl)) pss_nil))))))))) ?rest))))))))
    (pss_one (ps_ret pe_bl)), ?_⟩
  have no : ∀ {x y : Str}, x = y → (!decide (V.str x = V.str y)) = false := fun e => by rw [e, decide_eq_true rfl]; rfl
  case rest =>
    clear scr tbs
    intro D σ H ⟨st, gv, ov, d, o, n, o1, o3, o4, o5, o6, o7, hσ, iv, hg, hov, hok, hno, q⟩
    subst hσ
    have dt : tupOnly d = true := (good_shape 4 d n hg).1
    obtain ⟨sh1, sh2, sh3⟩ := two_show hg hok
    -- stood, b
    refine ⟨_, rfl, _, rfl, small (by show 2 ≤ 1000; decide), fun p1 h1 => ?_⟩
    have s1 := same_new h1 (.lst [gv, ov])
    have iv1 := iv.same s1
    have ov1 := dp_same (mn_kp (Kp.of_same (st := st) s1)) hov
    refine ⟨p1, _, rfl, .lst (SqL.of upd_same) (.cons iv1.gd (.cons (dp_same mn_in ov1) .nil)), sh1, sh2, sh3, ?_⟩
    refine ⟨_, rfl, _, rfl, st, gv, d, n, rfl, iv1.sa, iv1.gd, hg, fun b H2 mv2 => ?_⟩
    have iv2 := iv1.mv dt mv2
    have ov2 := dp_same (mn_kp mv2.kp) ov1
    refine ⟨small (by show 2 ≤ 1000; decide), fun p2 h2 => ⟨p2, _, rfl, SqT.of upd_same, rfl, _, _, rfl, _, _, rfl, rfl, ?_⟩⟩
    have s3 := same_new h2 (.tup [.str (PyData.list [d, o]).shown, .int b])
    have iv3 := iv2.same s3
    have ov3 := dp_same (mn_kp (Kp.of_same (st := st) s3)) ov2
    generalize upd H2 p2 (.tup [.str (PyData.list [d, o]).shown, .int b]) = H3 at *
    -- bad
    intro vs4 H4 s4 d4
    have l4 := dpAll_len d4
    refine ⟨small (by rw [l4]; decide), fun p5 h5 => ?_⟩
    have s5 := same_new h5 (.lst vs4)
    have iv5 := iv3.same (s4.trans s5)
    have ov5 := dp_same (mn_kp (Kp.of_same (st := st) (s4.trans s5))) ov3
    have np5 : p5 ≠ st := (iv3.sa.same s4).ne h5
    have stx : ∃ l, H3 st = some l := by
      obtain ⟨l, hl⟩ := iv3.sa.some
      exact ⟨_, hl⟩
    have d5 : DpAll K (mn st (upd H4 p5 (.lst vs4))) vs4 badL := dps_same ((dif_l s5).trans (mn_dif stx)) d4
    refine ⟨_, rfl, st, 8, rfl, iv5.sa, by decide, by decide, fun r H6 r0 r1 mv6 => ?_⟩
    obtain ⟨bv, e, hat, hbv, hm⟩ := pick_dp (dps_same (mn_kp mv6.kp) d5) r0 r1
    refine ⟨p5, _, r, bv, rfl, rfl, SqL.of (mv6.kp _ _ np5 upd_same), hat, ?_⟩
    have iv6 := iv5.mv dt mv6
    have ov6 := dp_same (mn_kp mv6.kp) ov5
    have hb := bad_not hm
    -- good
    refine ⟨_, rfl, st, 3, rfl, iv6.sa, by decide, by decide, fun gd H7 g0 g1 mv7 => ?_⟩
    have iv7 := iv6.mv dt mv7
    have ov7 := dp_same (mn_kp mv7.kp) ov6
    have bv7 := dp_same (mn_kp mv7.kp) hbv
    -- words of what is no graph
    refine ⟨_, rfl, _, rfl, _, rfl, _, rfl, ov, .int b, .int gd, gv, wordOf 2, rfl, iv7.tb, bad_graph (dp_same mn_in ov7) hno, fun p8 H8 e8 t8 h8 => ?_⟩
    rw [w2] at h8
    refine six_go six_shape2 h8 fun H9 s9 => ifF rfl ?_
    have iv9 := (iv7.ext e8 t8).same s9
    have x9 := e8.trans (ext_same s9)
    have ov9 := dp_ext (mn_ext (st := st) x9) _ _ ov7
    have bv9 := dp_ext (mn_ext (st := st) x9) _ _ bv7
    refine ⟨_, rfl, _, rfl, _, rfl, _, rfl, ov, .int b, bv, ov, wordOf 2, rfl, iv9.tb, bad_graph (dp_same mn_in ov9) hno, fun p10 H10 e10 t10 h10 => ?_⟩
    rw [w2] at h10
    refine six_go six_shape2 h10 fun H11 s11 => ifF rfl ?_
    have iv11 := (iv9.ext e10 t10).same s11
    have x11 := e10.trans (ext_same s11)
    have ov11 := dp_ext (mn_ext (st := st) x11) _ _ ov9
    have bv11 := dp_ext (mn_ext (st := st) x11) _ _ bv9
    -- words of what is no place
    refine ⟨_, rfl, _, rfl, _, rfl, _, rfl, gv, .int b, bv, ov, wordOf 3, rfl, iv11.tb, bad_place iv11.gd hg (dp_same mn_in bv11) hb, fun p12 H12 e12 t12 h12 => ?_⟩
    rw [w3] at h12
    refine six_go six_shape3 h12 fun H13 s13 => ifF rfl ?_
    have iv13 := (iv11.ext e12 t12).same s13
    have x13 := e12.trans (ext_same s13)
    have ov13 := dp_ext (mn_ext (st := st) x13) _ _ ov11
    have bv13 := dp_ext (mn_ext (st := st) x13) _ _ bv11
    refine ⟨_, rfl, _, rfl, _, rfl, _, rfl, gv, .int b, bv, gv, wordOf 3, rfl, iv13.tb, bad_place iv13.gd hg (dp_same mn_in bv13) hb, fun p14 H14 e14 t14 h14 => ?_⟩
    rw [w3] at h14
    refine six_go six_shape3 h14 fun H15 s15 => ifF rfl ?_
    have iv15 := (iv13.ext e14 t14).same s15
    have x15 := e14.trans (ext_same s15)
    have ov15 := dp_ext (mn_ext (st := st) x15) _ _ ov13
    -- the graph to be hung is none
    have hgd : withinD 0 2 (.int gd) = true := by
      show (decide (0 ≤ gd) && decide (gd ≤ 2)) = true
      rw [decide_eq_true g0, decide_eq_true (by omega)]
      rfl
    refine ⟨iv15.tb, fun H16 e16 t16 => ⟨_, rfl, _, rfl, _, rfl, _, rfl, rfl, rfl, gv, .int b, .int gd, ov, rfl, .inr ⟨d, n, .int gd, o, dp_ext e16 _ _ iv15.gd, hg, .int gd, hgd, dp_ext e16 _ _ (dp_same mn_in ov15), hno, .inl ⟨rfl, rfl, fun H17 s17 => ?_⟩⟩⟩⟩
    have x17 := e16.trans (ext_same s17)
    have iv17 := iv15.ext x17 (t16.ext s17)
    have ov17 := dp_ext (mn_ext (st := st) x17) _ _ ov15
    refine ⟨rfl, _, rfl, ifF (no w2) ?_⟩
    -- grown
    refine ⟨iv17.tb, fun H18 e18 t18 => ⟨_, rfl, ov, o, rfl, dp_ext e18 _ _ (dp_same mn_in ov17), hno, .inl ⟨rfl, rfl, fun H19 s19 => ?_⟩⟩⟩
    have x19 := e18.trans (ext_same s19)
    have iv19 := iv17.ext x19 (t18.ext s19)
    have ov19 := dp_ext (mn_ext (st := st) x19) _ _ ov17
    refine ⟨rfl, _, rfl, ifF (no w2) ?_⟩
    refine ⟨_, rfl, _, rfl, small (by show 2 ≤ 1000; decide), fun p20 h20 => ?_⟩
    have s20 := same_new h20 (.lst [gv, ov])
    have iv20 := iv19.same s20
    have ov20 := dp_same (mn_kp (Kp.of_same (st := st) s20)) ov19
    refine ⟨p20, _, rfl, .lst (SqL.of upd_same) (.cons iv20.gd (.cons (dp_same mn_in ov20) .nil)), sh1, sh2, sh3, _, rfl, rfl, _, rfl, ?_⟩
    rw [no rfl]
    exact ifF rfl (q _ _ _ _ _ iv20)
  have ll : (ns.map V.int).length = ns.length := List.length_map _
  have hm : 0 ≤ (if (if (3 : Int) < ((ns.map V.int).length : Int) then 3 else ((ns.map V.int).length : Int)) > 1 then (if (3 : Int) < ((ns.map V.int).length : Int) then 3 else ((ns.map V.int).length : Int)) else 1) ∧
      (if (if (3 : Int) < ((ns.map V.int).length : Int) then 3 else ((ns.map V.int).length : Int)) > 1 then (if (3 : Int) < ((ns.map V.int).length : Int) then 3 else ((ns.map V.int).length : Int)) else 1) ≤ 3 := by
    split <;> split <;> omega
  refine ⟨_, rfl, a, _, rfl, .inl scr.sq, _, _, rfl, _, _, rfl, _, rfl, by omega, by omega, ?_⟩
  refine for_range (lo := 0) (fun i σ H' => ∃ o1 o2 o3 o4 o5 o6 o7 o8 o9, σ = [some (.ref a), o1, o2, o3, o4, o5, o6, o7, o8, o9] ∧ ScrOk K H' a (ns.map V.int) ∧ Tabs Tb H') ⟨_, _, _, _, _, _, _, _, _, rfl, scr, tbs⟩ (fun i σ H' hi h => ?_) (fun σ H' h => rfl)
  obtain ⟨o1, o2, o3, o4, o5, o6, o7, o8, o9, rfl, sc, tb'⟩ := h
  refine ⟨_, rfl, _, rfl, a, ns, 0 + (i : Int), rfl, sc.sq, by omega, fun st x y z hst ok => ?_⟩
  have s0 := same_new hst (.lst [.int x, .int y, .int z])
  have sa0 : StAt (upd H' st (.lst [.int x, .int y, .int z])) st := ⟨x, y, z, upd_same, ok⟩
  refine ⟨_, rfl, st, rfl, sa0, fun gv d n H1 mv1 hd0 hg => ?_⟩
  have dt : tupOnly d = true := (good_shape 4 d n hg).1
  have iv1 : LIv K Tb a (ns.map V.int) st gv d H1 := ⟨sc.kt ((KT.of_same s0).trans (mv1.kp.kt sa0)), mv1.sa, hd0, tabs_kp (tb'.ext s0) sa0 mv1.kp⟩
  have hbk := bulk_graph 4 d n hg
  have h24 : n ≤ 24 := by
    obtain ⟨_, _, _, _, _, _, _, _, _, h24⟩ := gsz_some hg
    exact h24
  refine ⟨8, rfl, by decide, by decide, ?_⟩
  refine for_range (lo := 0) (n := 8) (fun j σ H2 => ∃ o3 o4 o5 o6 o7 o9, σ = [some (.ref a), some (.int (0 + (i : Int))), some (.ref st), o3, o4, o5, o6, o7, some gv, o9] ∧ LIv K Tb a (ns.map V.int) st gv d H2) ⟨_, _, _, _, _, _, rfl, iv1⟩ (fun j σ H2 hj h => ?_) (fun σ H2 h => ?_)
  · obtain ⟨o3, o4, o5, o6, o7, o9, rfl, iv⟩ := h
    refine ⟨_, rfl, _, rfl, _, rfl, st, rfl, iv.sa, fun v0 o0 H3 mv3 hv0 hm0 => ?_⟩
    have iv3 := iv.mv dt mv3
    refine ⟨st, gv, d, v0, o0, rfl, iv3.sa, dp_kt (kt_mn iv3.sa) _ _ dt iv3.gd, part_graph 4 d n hg, hv0, odd_ok hm0, fun ov o H4 mv4 hov hspt => ?_⟩
    have iv4 := iv3.mv dt mv4
    have hsp : SpOk 2000 20 o := SpOk.mono hspt (by omega) (by decide)
    refine ⟨_, rfl, ov, o, rfl, dp_same mn_in hov, Nat.le_trans hsp.blk (by decide), fun hn H5 s5 => ?_, fun c5 hc5 p5 H5 s5 hp5 => ?_⟩
    · refine ⟨rfl, _, rfl, ifF rfl ?_⟩
      exact ⟨st, gv, ov, d, o, n, _, _, _, _, _, _, rfl, iv4.same s5, hg, dp_same (mn_kp (Kp.of_same (st := st) s5)) hov, hsp, hn, fun H6 _ _ _ _ iv6 => ⟨_, _, _, _, _, _, rfl, iv6⟩⟩
    · refine ⟨rfl, _, rfl, ifT rfl ?_⟩
      have iv5 := iv4.same s5
      refine ⟨small (by show 0 ≤ 1000; decide), fun p1 h1 => ⟨_, rfl, small (by show 1 ≤ 1000; decide), fun p2 h2 => ⟨small (by show 2 ≤ 1000; decide), fun p3 h3 => ⟨small (by show 1 ≤ 1000; decide), fun p4 h4 => fun p6 h6 => ⟨small (by show 8 ≤ 1000; decide), fun p7 h7 => ?_⟩⟩⟩⟩⟩
      have s1 := same_new h1 (.tup [])
      have s2 := same_new h2 (.lst [gv])
      have s3 := same_new h3 (.tup [.int 0, .int 0])
      have s4 := same_new h4 (.tup [.ref p3])
      have s6 := same_new h6 (.dK [])
      have s7 := same_new h7 (.lst [.non, .ref p1, .ref p2, .ref p4, .int 7, .str "graph", .ref p6, .bl true])
      have t6 := s6.trans s7
      have t4 := s4.trans t6
      have t3 := s3.trans t4
      have t2 := s2.trans t3
      have t1 := s1.trans t2
      have iv7 := iv5.same t1
      have n1 : p1 ≠ st := iv5.sa.ne h1
      have n2 : p2 ≠ st := (iv5.sa.same s1).ne h2
      have n3 : p3 ≠ st := (iv5.sa.same (s1.trans s2)).ne h3
      have n4 : p4 ≠ st := (iv5.sa.same (s1.trans (s2.trans s3))).ne h4
      have n6 : p6 ≠ st := (iv5.sa.same (s1.trans (s2.trans (s3.trans s4)))).ne h6
      have all : DpAll K (mn st _) [.non, .ref p1, .ref p2, .ref p4, .int 7, .str "graph", .ref p6, .bl true] (insL d) :=
        .cons .non (.cons (.tup (SqT.of (mn_at n1 (t2 _ _ upd_same))) .nil) (.cons (.lst (SqL.of (mn_at n2 (t3 _ _ upd_same))) (.cons (dp_kt (kt_mn iv7.sa) _ _ dt iv7.gd) .nil))
          (.cons (.tup (SqT.of (mn_at n4 (t6 _ _ upd_same))) (.cons (.tup (SqT.of (mn_at n3 (t4 _ _ upd_same))) (.cons (.int 0) (.cons (.int 0) .nil))) .nil)) (.cons (.int 7) (.cons (.str _) (.cons (.dct (ms := []) (mn_at n6 (s7 _ _ upd_same))) (.cons (.bl true) .nil)))))))
      obtain ⟨v, o', hat, hdp, hmem⟩ := pick_dp (r := 0 + (j : Int)) all (by omega) (by show 0 + (j : Int) < 8; omega)
      obtain ⟨hok', hno'⟩ := ins_ok hg hmem
      refine ⟨_, rfl, p7, _, _, v, rfl, rfl, SqL.of upd_same, hat, ?_⟩
      exact ⟨st, gv, v, d, o', n, _, _, _, _, _, _, rfl, iv7, hg, hdp, hok', hno', fun H8 _ _ _ _ iv8 => ⟨_, _, _, _, _, _, rfl, iv8⟩⟩
  · obtain ⟨o3, o4, o5, o6, o7, o9, rfl, iv⟩ := h
    exact ⟨_, _, _, _, _, _, _, _, _, rfl, iv.scr, iv.tb⟩
end
section
variable {P : Program} {w : World} {K : PySem.W.Frag} {mg : Str → Option Value} {base : Heap} {f : Addr} {fd : FuncData}
theorem kb_n3 (F : Fun K "with_number" "with_number" sWithNumber f fd) : KBn K fd ["graph", "b", "k", "number"] 3 ["number"] (fun us ws => us ++ ws) (fun vs zs => vs ++ zs) := by
  obtain ⟨oc, od, kV, doc, pm, an, cdv, ct, osl, rfl, lk, hcd⟩ := F.ex
  refine ⟨fun s us ws _ l1 l2 => ?_, fun r1 r2 => r1.append r2⟩
  match us, ws, l1, l2 with
  | [a, b, c], [d], _, _ => exact .of_eq rfl
theorem kb_t3 (F : Fun K "with_tie" "with_tie" sWithTie f fd) : KBn K fd ["graph", "b", "k", "to"] 3 ["to"] (fun us ws => us ++ ws) (fun vs zs => vs ++ zs) := by
  obtain ⟨oc, od, kV, doc, pm, an, cdv, ct, osl, rfl, lk, hcd⟩ := F.ex
  refine ⟨fun s us ws _ l1 l2 => ?_, fun r1 r2 => r1.append r2⟩
  match us, ws, l1, l2 with
  | [a, b, c], [d], _, _ => exact .of_eq rfl
theorem kb_g3 (F : Fun K "with_graph" "with_graph" sWithGraph f fd) : KBn K fd ["graph", "b", "k", "other"] 3 ["other"] (fun us ws => us ++ ws) (fun vs zs => vs ++ zs) := by
  obtain ⟨oc, od, kV, doc, pm, an, cdv, ct, osl, rfl, lk, hcd⟩ := F.ex
  refine ⟨fun s us ws _ l1 l2 => ?_, fun r1 r2 => r1.append r2⟩
  match us, ws, l1, l2 with
  | [a, b, c], [d], _, _ => exact .of_eq rfl
end
/-- a def of the text that stands under its name -/
structure Std0 (K : PySem.W.Frag) (mg : Str → Option Value) (x : Str) (st : Stmt) (f : Addr) (fd : FuncData) : Prop where
  fn : Fun K x x st f fd
  nm : mg x = some (.ref f)
structure Std (K : PySem.W.Frag) (mg : Str → Option Value) (x : Str) (st : Stmt) (ps : List Str) (f : Addr) (fd : FuncData) : Prop where
  fn : Fun K x x st f fd
  nm : mg x = some (.ref f)
  bi : Binds K fd ps []
theorem Std.cal {P : Program} {w : World} {K : PySem.W.Frag} {mg : Str → Option Value} {base : Heap} {x : Str} {st : Stmt} {ps : List Str} {f : Addr} {fd : FuncData} {k j : Nat} {sp : Sp} (D : Std K mg x st ps f fd) (F : FnOk P w K mg base CX0 k f fd ps sp) (h : k ≤ j := by omega) : Cal P w K mg base x j ps sp :=
  ⟨f, fd, F.mono h, D.nm, D.fn.kp, D.bi⟩
theorem Std.calX {P : Program} {w : World} {K : PySem.W.Frag} {mg : Str → Option Value} {base : Heap} {x : Str} {st : Stmt} {ps : List Str} {f : Addr} {fd : FuncData} {k j : Nat} {sp : Sp} (D : Std K mg x st ps f fd) (F : FnOk P w K mg base (L2.CX P w) k f fd ps sp) (h : k ≤ j := by omega) : CalX P w K mg base x j ps sp :=
  ⟨f, fd, F.mono h, D.nm, D.fn.kp, D.bi⟩
theorem exm_mk {K : PySem.W.Frag} {C S : Addr} (h1 : PySem.W.subIn K (.ref S) (.type "BaseException") = some true) (h2 : PySem.W.isClsIn K S = true) (h3 : PySem.W.typeIn K (.ref S) = some (.type "type")) (h4 : PySem.W.subIn K (.ref C) (.ref S) = some true) : PySem.W.exmOne K (.ref C) (.ref S) = some true := by
  have h2 : (PySem.W.clsIn K S).isSome = true := h2
  unfold PySem.W.exmOne
  rw [if_pos (by rw [h1]; rfl)]
  show (if ((PySem.W.clsIn K S).isSome && PySem.W.typeIn K (.ref S) == some (.type "type")) = true then PySem.W.subIn K (.ref C) (.ref S) else none) = _
  rw [if_pos (by rw [h2, h3]; rfl), h4]
section
open PySem.Spec PyProof.Rows LamX
def TbOf (PW PL : Addr) : List (Addr × Str) := [(PW, ("_law_words" : Str) ++ ".<locals>." ++ "<lambda>"), (PL, ("law" : Str) ++ ".<locals>." ++ "<lambda>")]
theorem all_cals {P : Program} {w : World} {K : PySem.W.Frag} {mg : Str → Option Value} {base : Heap} {PW PL CS CG CP cW : Addr} (T : Free mg) (C : Cst mg) (hStr : mg "str" = none) (hVe : mg "ValueError" = none) (hLe : mg "LookupError" = none) (hGe : mg "GiveError" = some (.ref CS))
    (XG : Exn K mg "NoGraph" CG) (XP : Exn K mg "NoPlace" CP) (KG : Kin K mg CG 2) (KP : Kin K mg CP 3) (mG : PySem.W.exmOne K (.ref CG) (.ref CS) = some true) (mP : PySem.W.exmOne K (.ref CP) (.ref CS) = some true) (ap : PW ≠ PL)
    {f0 : Addr} {d0 : FuncData} (D0 : Std K mg "is_whole" sWhole ["thing"] f0 d0) {f1 : Addr} {d1 : FuncData} (D1 : Std K mg "is_within" sWithin ["thing", "least", "most"] f1 d1) {f2 : Addr} {d2 : FuncData} (D2 : Std K mg "is_tuple" sTuple ["thing", "least", "most"] f2 d2) {f3 : Addr} {d3 : FuncData} (D3 : Std K mg "is_number" sNumber ["thing"] f3 d3) {f4 : Addr} {d4 : FuncData} (D4 : Std K mg "is_place" sPlace ["thing"] f4 d4) {f5 : Addr} {d5 : FuncData} (D5 : Std K mg "has_box" sHasBox ["graph", "b"] f5 d5) {f6 : Addr} {d6 : FuncData} (D6 : Std K mg "is_tie" sTie ["thing", "graph"] f6 d6) {f7 : Addr} {d7 : FuncData} (D7 : Std K mg "place_size" sPsz ["thing", "graph", "deep"] f7 d7) {f8 : Addr} {d8 : FuncData} (D8 : Std K mg "graph_size" sGsz ["thing", "deep"] f8 d8) {f9 : Addr} {d9 : FuncData} (D9 : Std K mg "is_graph" sIsGraph ["thing"] f9 d9) {f10 : Addr} {d10 : FuncData} (D10 : Std K mg "check_graph" sCheckG ["graph"] f10 d10) {f11 : Addr} {d11 : FuncData} (D11 : Std K mg "check_place" sCheckP ["k"] f11 d11) {f12 : Addr} {d12 : FuncData} (D12 : Std K mg "can_grow" sCanGrow ["graph"] f12 d12) {f13 : Addr} {d13 : FuncData} (D13 : Std K mg "grown" sGrown ["graph"] f13 d13) {f14 : Addr} {d14 : FuncData} (D14 : Std0 K mg "with_number" sWithNumber f14 d14) {f15 : Addr} {d15 : FuncData} (D15 : Std0 K mg "with_tie" sWithTie f15 d15) {f16 : Addr} {d16 : FuncData} (D16 : Std K mg "can_hang" sCanHang ["graph", "b", "k", "other"] f16 d16) {f17 : Addr} {d17 : FuncData} (D17 : Std0 K mg "with_graph" sWithGraph f17 d17) {f18 : Addr} {d18 : FuncData} (D18 : Std K mg "sort_at" sSortAt ["graph", "b", "k"] f18 d18) {f19 : Addr} {d19 : FuncData} (D19 : Std K mg "number_at" sNumAt ["graph", "b", "k"] f19 d19) {f20 : Addr} {d20 : FuncData} (D20 : Std K mg "graph_at" sGraphAt ["graph", "b", "k"] f20 d20) {f21 : Addr} {d21 : FuncData} (D21 : Std K mg "_law_is_from_to" sFromTo ["_law_thing", "_law_low", "_law_high"] f21 d21) {f22 : Addr} {d22 : FuncData} (D22 : Std K mg "_law_odd" sOdd ["_law_state_here"] f22 d22) {f23 : Addr} {d23 : FuncData} (D23 : Std K mg "_law_spoil" sSpoil ["_law_state_here", "_law_thing", "_law_odd_here"] f23 d23) {f24 : Addr} {d24 : FuncData} (D24 : Std0 K mg "_law_word" sWord f24 d24) {f25 : Addr} {d25 : FuncData} (D25 : Std K mg "_law_said" sSaid ["_law_call"] f25 d25) {f26 : Addr} {d26 : FuncData} (D26 : Std K mg "_law_is_plain" sIsPlain ["_law_place", "_law_many"] f26 d26) {f27 : Addr} {d27 : FuncData} (D27 : Std K mg "_law_size" sSize ["_law_graph_here"] f27 d27) {f28 : Addr} {d28 : FuncData} (D28 : Std K mg "_law_graph" sGraph ["_law_state_here", "_law_deep", "_law_room"] f28 d28) {f29 : Addr} {d29 : FuncData} (D29 : Std K mg "_law_some_graph" sSome ["_law_state_here"] f29 d29) {f30 : Addr} {d30 : FuncData} (D30 : Std K mg "_law_cell_at" sCell ["_law_script", "_law_k"] f30 d30) {f31 : Addr} {d31 : FuncData} (D31 : Std K mg "_law_state" sState ["_law_script", "_law_k"] f31 d31) {f32 : Addr} {d32 : FuncData} (D32 : Std K mg "_law_choice" sChoice ["_law_state_here", "_law_many"] f32 d32) {f33 : Addr} {d33 : FuncData} (D33 : Std K mg "_law_inner" sInner ["_law_graph_here"] f33 d33) {f34 : Addr} {d34 : FuncData} (D34 : Std K mg "_law_measured" sMeasured ["_law_thing"] f34 d34) {f35 : Addr} {d35 : FuncData} (D35 : Std K mg "_law_box_number" sBoxNumber ["_law_state_here", "_law_graph_here"] f35 d35) {f36 : Addr} {d36 : FuncData} (D36 : Std K mg "_law_words" sWords ["_law_graph_here", "_law_b", "_law_k", "_law_other_own"] f36 d36)
    (bW : ∀ (s : Shared) (u : Value), BindsTo s d24 ⟨[u], []⟩ [("_law_e", u)]) (cdW : d36.code = .ref cW) (TB : LamX.TabB base mg cW PW) : Law23 P w K mg base CS CG CP f24 f25 d25 (TbOf PW PL) 20 := by
  have cW := D0.cal (j := 1) (ok_whole (P := P) (w := w) (base := base) (k := 0) D0.fn T)
  have cWi := D1.cal (j := 2) (ok_within D1.fn cW)
  have cTu := D2.cal (j := 2) (ok_tuple (P := P) (w := w) (base := base) (k := 0) D2.fn T)
  have cNm := D3.cal (j := 3) (ok_number D3.fn C cWi)
  have cPl := D4.cal (j := 3) (ok_placeD D4.fn C cWi)
  have cHb := D5.cal (j := 3) (ok_hasBox D5.fn T cWi)
  have cTi := D6.cal (j := 4) (ok_tie D6.fn (cTu.mono (by omega)) cHb)
  have sizes : ∀ n : Nat, Cal P w K mg base "graph_size" (5 + 2 * n) ["thing", "deep"] (spGsz K n) := by
    intro n
    induction n with
    | zero => exact D8.cal (ok_gsz (k := 4) (n := 0) D8.fn T C (cTu.mono (by omega)) (fun z => absurd rfl z))
    | succ n ih =>
      have cP : Cal P w K mg base "place_size" (6 + 2 * n) ["thing", "graph", "deep"] (spPsz K n) := D7.cal (ok_psz (k := 5 + 2 * n) D7.fn (cNm.mono (by omega)) (cTi.mono (by omega)) ih)
      exact D8.cal (ok_gsz (k := 6 + 2 * n) (n := n + 1) D8.fn T C (cTu.mono (by omega)) (fun _ => cP))
  have cIs := D9.cal (j := 14) (ok_isGraph D9.fn C (sizes 4))
  have cCg := D10.calX (j := 15) (ok_checkGX D10.fn XG cIs)
  have cCp := D11.calX (j := 15) (ok_checkPX D11.fn XP cPl)
  have oN := bad_wn (n := 15) D14.fn cCg cCp
  have oT := bad_wt (n := 15) D15.fn cCg cCp
  have oG := bad_wg (n := 15) D17.fn cCg cCp
  have cSa := D18.calX (j := 16) (bad_sa D18.fn cCg cCp)
  have cNa := D19.calX (j := 17) (bad_na D19.fn cSa)
  have cGa := D20.calX (j := 17) (bad_ga D20.fn C cSa)
  have cGr := D13.calX (j := 18) (bad_gr (n := 15) D13.fn cCg)
  have Z : SaidF P w K mg base CS CG CP f24 f25 d25 17 := ⟨⟨hGe, T.repr, D24.nm, D24.fn.kp, ok_word (k := 16) D24.fn bW T hVe hLe KG (.inl rfl), ok_word (k := 16) D24.fn bW T hVe hLe KP (.inr rfl), mG, mP⟩, D25.fn, D25.bi, D25.nm⟩
  have huW : ∀ p ∈ TbOf PW PL, p.1 = PW → p.2 = ("_law_words" : Str) ++ ".<locals>." ++ "<lambda>" := by
    intro p hp e
    rcases List.mem_cons.mp hp with rfl | hp
    · rfl
    · rw [List.mem_singleton.mp hp] at e
      exact absurd e.symm ap
  have cWs := D36.cal (j := 20) (ok_words (n := 17) D36.fn cdW TB List.mem_cons_self huW Z ⟨_, _, oN.mono (by omega), D14.nm, D14.fn.kp, kb_n3 D14.fn⟩ ⟨_, _, oT.mono (by omega), D15.nm, D15.fn.kp, kb_t3 D15.fn⟩ ⟨_, _, oG.mono (by omega), D17.nm, D17.fn.kp, kb_g3 D17.fn⟩ (cSa.mono (by omega)) cNa cGa)
  have cCh := D32.cal (j := 1) (ok_choice (P := P) (w := w) (base := base) (mg := mg) (k := 0) D32.fn)
  have cCe := D30.cal (j := 1) (ok_cell (P := P) (w := w) (base := base) (k := 0) D30.fn T)
  have cIn := D33.cal (j := 1) (ok_inner (P := P) (w := w) (base := base) (k := 0) D33.fn T)
  have lsz : ∀ n : Nat, Cal P w K mg base "_law_size" (2 + n) ["_law_graph_here"] (spSize K n) := by
    intro n
    induction n with
    | zero => exact D27.cal (no_size (k := 2) D27.fn)
    | succ n ih => exact D27.cal (ok_size (k := 2 + n) D27.fn T (cIn.mono (by omega)) ih)
  have lgr : ∀ n : Nat, FnOk P w K mg base CX0 (6 + n) f28 d28 ["_law_state_here", "_law_deep", "_law_room"] (spGraph K n) := by
    intro n
    induction n with
    | zero => exact no_graph
    | succ n ih => exact ok_graph (k := 6 + n) D28.fn T (cCh.mono (by omega)) ((lsz n).mono (by omega)) (D28.cal ih)
  have cAny := D28.cal (j := 10) (FnOk.anyG fun n hn => (lgr n).mono (k := 10) (by omega))
  have cFt := D21.cal (j := 1) (ok_fromTo (P := P) (w := w) (base := base) (k := 0) D21.fn T)
  have cPn := D26.cal (j := 2) (ok_plain D26.fn T hStr cFt)
  exact {
    cSt := D31.cal (ok_state D31.fn T cCe)
    cSm := D29.cal (ok_some D29.fn T (cCh.mono (by omega)) cAny)
    cC := cCh.mono (by omega)
    cB := D35.cal (ok_boxNo D35.fn T cCh)
    cO := D22.cal (ok_odd D22.fn T cCh)
    cS := D23.cal (all_spoil D23.fn D23.nm D23.bi T cCh 9 (by decide))
    cM := D34.cal (ok_meas D34.fn T cPn)
    cW := cWs
    Z := ⟨Z.S.mono (by omega), Z.F, Z.B, Z.M⟩
    cG := ⟨_, _, oG.mono (by omega), D17.nm, D17.fn.kp, kb_g3 D17.fn⟩
    cR := cGr }
/-- what the top leaves -/
def Left23 (K : PySem.W.Frag) (mg : Str → Option Value) (fa : Addr) : Prop := ∃ (fd dW : FuncData) (fW cW PW cL PL CS CG CP fw g : Addr) (fdg : FuncData) (oT oU : Obj) (vT vU : Array Value), Fun K "law" "law" sLaw fa fd ∧ fd.code = .ref cL ∧ (∀ (s : Shared) (v : Value), BindsTo s fd ⟨[v], []⟩ [("_law_script", v)]) ∧ Free mg ∧
  mg "_law_words" = some (.ref fW) ∧ Fun K "_law_words" "_law_words" sWords fW dW ∧ dW.code = .ref cW ∧ K.lookup cW = some oT ∧ oT.data = .fields vT ∧ vT[11]? = some (.ref PW) ∧ K.lookup PW = none ∧ K.lookup cL = some oU ∧ oU.data = .fields vU ∧ vU[11]? = some (.ref PL) ∧ K.lookup PL = none ∧ PW ≠ PL ∧
  ∀ (P : Program) (w : World) (base : Heap), LamX.TabB base mg cW PW → Law23 P w K mg base CS CG CP fw g fdg (TbOf PW PL) 20
set_option maxHeartbeats 8000000 in
theorem all_mk {K : PySem.W.Frag} {h : Heap} {mg : Str → Option Value} {fa : Addr} (X : K.In h) (G : h.Ns mainGlobals mg) (hfa : mg "law" = some (.ref fa))
    {f0 : Addr} {od0 an0 : Option Addr} {sl0 : Array (Option Value)} {oc0 kV0 dc0 pm0 ct0 : Value} {cd0 : Value}
    (a0 : PySem.W.nsIn K mainGlobals "is_whole" = some (some (.ref f0))) (l0 : K.lookup f0 = some ⟨oc0, od0, .func (PySem.W.fnOf "is_whole" "is_whole" (defArgs sWhole) (defBody sWhole) (defScope sWhole) .none kV0 dc0 pm0 an0 cd0 ct0), sl0⟩) (c0 : PySem.W.codeIn K cd0 "is_whole" = true) (k0 : PySem.W.keepIn K (.ref f0) = true)
    {f1 : Addr} {od1 an1 : Option Addr} {sl1 : Array (Option Value)} {oc1 kV1 dc1 pm1 ct1 : Value} {cd1 : Value}
    (a1 : PySem.W.nsIn K mainGlobals "is_within" = some (some (.ref f1))) (l1 : K.lookup f1 = some ⟨oc1, od1, .func (PySem.W.fnOf "is_within" "is_within" (defArgs sWithin) (defBody sWithin) (defScope sWithin) .none kV1 dc1 pm1 an1 cd1 ct1), sl1⟩) (c1 : PySem.W.codeIn K cd1 "is_within" = true) (k1 : PySem.W.keepIn K (.ref f1) = true)
    {f2 : Addr} {od2 an2 : Option Addr} {sl2 : Array (Option Value)} {oc2 kV2 dc2 pm2 ct2 : Value} {cd2 : Value}
    (a2 : PySem.W.nsIn K mainGlobals "is_tuple" = some (some (.ref f2))) (l2 : K.lookup f2 = some ⟨oc2, od2, .func (PySem.W.fnOf "is_tuple" "is_tuple" (defArgs sTuple) (defBody sTuple) (defScope sTuple) .none kV2 dc2 pm2 an2 cd2 ct2), sl2⟩) (c2 : PySem.W.codeIn K cd2 "is_tuple" = true) (k2 : PySem.W.keepIn K (.ref f2) = true)
    {f3 : Addr} {od3 an3 : Option Addr} {sl3 : Array (Option Value)} {oc3 kV3 dc3 pm3 ct3 : Value} {cd3 : Value}
    (a3 : PySem.W.nsIn K mainGlobals "is_number" = some (some (.ref f3))) (l3 : K.lookup f3 = some ⟨oc3, od3, .func (PySem.W.fnOf "is_number" "is_number" (defArgs sNumber) (defBody sNumber) (defScope sNumber) .none kV3 dc3 pm3 an3 cd3 ct3), sl3⟩) (c3 : PySem.W.codeIn K cd3 "is_number" = true) (k3 : PySem.W.keepIn K (.ref f3) = true)
    {f4 : Addr} {od4 an4 : Option Addr} {sl4 : Array (Option Value)} {oc4 kV4 dc4 pm4 ct4 : Value} {cd4 : Value}
    (a4 : PySem.W.nsIn K mainGlobals "is_place" = some (some (.ref f4))) (l4 : K.lookup f4 = some ⟨oc4, od4, .func (PySem.W.fnOf "is_place" "is_place" (defArgs sPlace) (defBody sPlace) (defScope sPlace) .none kV4 dc4 pm4 an4 cd4 ct4), sl4⟩) (c4 : PySem.W.codeIn K cd4 "is_place" = true) (k4 : PySem.W.keepIn K (.ref f4) = true)
    {f5 : Addr} {od5 an5 : Option Addr} {sl5 : Array (Option Value)} {oc5 kV5 dc5 pm5 ct5 : Value} {cd5 : Value}
    (a5 : PySem.W.nsIn K mainGlobals "has_box" = some (some (.ref f5))) (l5 : K.lookup f5 = some ⟨oc5, od5, .func (PySem.W.fnOf "has_box" "has_box" (defArgs sHasBox) (defBody sHasBox) (defScope sHasBox) .none kV5 dc5 pm5 an5 cd5 ct5), sl5⟩) (c5 : PySem.W.codeIn K cd5 "has_box" = true) (k5 : PySem.W.keepIn K (.ref f5) = true)
    {f6 : Addr} {od6 an6 : Option Addr} {sl6 : Array (Option Value)} {oc6 kV6 dc6 pm6 ct6 : Value} {cd6 : Value}
    (a6 : PySem.W.nsIn K mainGlobals "is_tie" = some (some (.ref f6))) (l6 : K.lookup f6 = some ⟨oc6, od6, .func (PySem.W.fnOf "is_tie" "is_tie" (defArgs sTie) (defBody sTie) (defScope sTie) .none kV6 dc6 pm6 an6 cd6 ct6), sl6⟩) (c6 : PySem.W.codeIn K cd6 "is_tie" = true) (k6 : PySem.W.keepIn K (.ref f6) = true)
    {f7 : Addr} {od7 an7 : Option Addr} {sl7 : Array (Option Value)} {oc7 kV7 dc7 pm7 ct7 : Value} {cd7 : Value}
    (a7 : PySem.W.nsIn K mainGlobals "place_size" = some (some (.ref f7))) (l7 : K.lookup f7 = some ⟨oc7, od7, .func (PySem.W.fnOf "place_size" "place_size" (defArgs sPsz) (defBody sPsz) (defScope sPsz) .none kV7 dc7 pm7 an7 cd7 ct7), sl7⟩) (c7 : PySem.W.codeIn K cd7 "place_size" = true) (k7 : PySem.W.keepIn K (.ref f7) = true)
    {f8 : Addr} {od8 an8 : Option Addr} {sl8 : Array (Option Value)} {oc8 kV8 dc8 pm8 ct8 : Value} {cd8 : Value}
    (a8 : PySem.W.nsIn K mainGlobals "graph_size" = some (some (.ref f8))) (l8 : K.lookup f8 = some ⟨oc8, od8, .func (PySem.W.fnOf "graph_size" "graph_size" (defArgs sGsz) (defBody sGsz) (defScope sGsz) .none kV8 dc8 pm8 an8 cd8 ct8), sl8⟩) (c8 : PySem.W.codeIn K cd8 "graph_size" = true) (k8 : PySem.W.keepIn K (.ref f8) = true)
    {f9 : Addr} {od9 an9 : Option Addr} {sl9 : Array (Option Value)} {oc9 kV9 dc9 pm9 ct9 : Value} {cd9 : Value}
    (a9 : PySem.W.nsIn K mainGlobals "is_graph" = some (some (.ref f9))) (l9 : K.lookup f9 = some ⟨oc9, od9, .func (PySem.W.fnOf "is_graph" "is_graph" (defArgs sIsGraph) (defBody sIsGraph) (defScope sIsGraph) .none kV9 dc9 pm9 an9 cd9 ct9), sl9⟩) (c9 : PySem.W.codeIn K cd9 "is_graph" = true) (k9 : PySem.W.keepIn K (.ref f9) = true)
    {f10 : Addr} {od10 an10 : Option Addr} {sl10 : Array (Option Value)} {oc10 kV10 dc10 pm10 ct10 : Value} {cd10 : Value}
    (a10 : PySem.W.nsIn K mainGlobals "check_graph" = some (some (.ref f10))) (l10 : K.lookup f10 = some ⟨oc10, od10, .func (PySem.W.fnOf "check_graph" "check_graph" (defArgs sCheckG) (defBody sCheckG) (defScope sCheckG) .none kV10 dc10 pm10 an10 cd10 ct10), sl10⟩) (c10 : PySem.W.codeIn K cd10 "check_graph" = true) (k10 : PySem.W.keepIn K (.ref f10) = true)
    {f11 : Addr} {od11 an11 : Option Addr} {sl11 : Array (Option Value)} {oc11 kV11 dc11 pm11 ct11 : Value} {cd11 : Value}
    (a11 : PySem.W.nsIn K mainGlobals "check_place" = some (some (.ref f11))) (l11 : K.lookup f11 = some ⟨oc11, od11, .func (PySem.W.fnOf "check_place" "check_place" (defArgs sCheckP) (defBody sCheckP) (defScope sCheckP) .none kV11 dc11 pm11 an11 cd11 ct11), sl11⟩) (c11 : PySem.W.codeIn K cd11 "check_place" = true) (k11 : PySem.W.keepIn K (.ref f11) = true)
    {f12 : Addr} {od12 an12 : Option Addr} {sl12 : Array (Option Value)} {oc12 kV12 dc12 pm12 ct12 : Value} {cd12 : Value}
    (a12 : PySem.W.nsIn K mainGlobals "can_grow" = some (some (.ref f12))) (l12 : K.lookup f12 = some ⟨oc12, od12, .func (PySem.W.fnOf "can_grow" "can_grow" (defArgs sCanGrow) (defBody sCanGrow) (defScope sCanGrow) .none kV12 dc12 pm12 an12 cd12 ct12), sl12⟩) (c12 : PySem.W.codeIn K cd12 "can_grow" = true) (k12 : PySem.W.keepIn K (.ref f12) = true)
    {f13 : Addr} {od13 an13 : Option Addr} {sl13 : Array (Option Value)} {oc13 kV13 dc13 pm13 ct13 : Value} {cd13 : Value}
    (a13 : PySem.W.nsIn K mainGlobals "grown" = some (some (.ref f13))) (l13 : K.lookup f13 = some ⟨oc13, od13, .func (PySem.W.fnOf "grown" "grown" (defArgs sGrown) (defBody sGrown) (defScope sGrown) .none kV13 dc13 pm13 an13 cd13 ct13), sl13⟩) (c13 : PySem.W.codeIn K cd13 "grown" = true) (k13 : PySem.W.keepIn K (.ref f13) = true)
    {f14 : Addr} {od14 an14 : Option Addr} {sl14 : Array (Option Value)} {oc14 kV14 dc14 pm14 ct14 : Value} {cd14 : Value}
    (a14 : PySem.W.nsIn K mainGlobals "with_number" = some (some (.ref f14))) (l14 : K.lookup f14 = some ⟨oc14, od14, .func (PySem.W.fnOf "with_number" "with_number" (defArgs sWithNumber) (defBody sWithNumber) (defScope sWithNumber) .none kV14 dc14 pm14 an14 cd14 ct14), sl14⟩) (c14 : PySem.W.codeIn K cd14 "with_number" = true) (k14 : PySem.W.keepIn K (.ref f14) = true)
    {f15 : Addr} {od15 an15 : Option Addr} {sl15 : Array (Option Value)} {oc15 kV15 dc15 pm15 ct15 : Value} {cd15 : Value}
    (a15 : PySem.W.nsIn K mainGlobals "with_tie" = some (some (.ref f15))) (l15 : K.lookup f15 = some ⟨oc15, od15, .func (PySem.W.fnOf "with_tie" "with_tie" (defArgs sWithTie) (defBody sWithTie) (defScope sWithTie) .none kV15 dc15 pm15 an15 cd15 ct15), sl15⟩) (c15 : PySem.W.codeIn K cd15 "with_tie" = true) (k15 : PySem.W.keepIn K (.ref f15) = true)
    {f16 : Addr} {od16 an16 : Option Addr} {sl16 : Array (Option Value)} {oc16 kV16 dc16 pm16 ct16 : Value} {cd16 : Value}
    (a16 : PySem.W.nsIn K mainGlobals "can_hang" = some (some (.ref f16))) (l16 : K.lookup f16 = some ⟨oc16, od16, .func (PySem.W.fnOf "can_hang" "can_hang" (defArgs sCanHang) (defBody sCanHang) (defScope sCanHang) .none kV16 dc16 pm16 an16 cd16 ct16), sl16⟩) (c16 : PySem.W.codeIn K cd16 "can_hang" = true) (k16 : PySem.W.keepIn K (.ref f16) = true)
    {f17 : Addr} {od17 an17 : Option Addr} {sl17 : Array (Option Value)} {oc17 kV17 dc17 pm17 ct17 : Value} {cd17 : Value}
    (a17 : PySem.W.nsIn K mainGlobals "with_graph" = some (some (.ref f17))) (l17 : K.lookup f17 = some ⟨oc17, od17, .func (PySem.W.fnOf "with_graph" "with_graph" (defArgs sWithGraph) (defBody sWithGraph) (defScope sWithGraph) .none kV17 dc17 pm17 an17 cd17 ct17), sl17⟩) (c17 : PySem.W.codeIn K cd17 "with_graph" = true) (k17 : PySem.W.keepIn K (.ref f17) = true)
    {f18 : Addr} {od18 an18 : Option Addr} {sl18 : Array (Option Value)} {oc18 kV18 dc18 pm18 ct18 : Value} {cd18 : Value}
    (a18 : PySem.W.nsIn K mainGlobals "sort_at" = some (some (.ref f18))) (l18 : K.lookup f18 = some ⟨oc18, od18, .func (PySem.W.fnOf "sort_at" "sort_at" (defArgs sSortAt) (defBody sSortAt) (defScope sSortAt) .none kV18 dc18 pm18 an18 cd18 ct18), sl18⟩) (c18 : PySem.W.codeIn K cd18 "sort_at" = true) (k18 : PySem.W.keepIn K (.ref f18) = true)
    {f19 : Addr} {od19 an19 : Option Addr} {sl19 : Array (Option Value)} {oc19 kV19 dc19 pm19 ct19 : Value} {cd19 : Value}
    (a19 : PySem.W.nsIn K mainGlobals "number_at" = some (some (.ref f19))) (l19 : K.lookup f19 = some ⟨oc19, od19, .func (PySem.W.fnOf "number_at" "number_at" (defArgs sNumAt) (defBody sNumAt) (defScope sNumAt) .none kV19 dc19 pm19 an19 cd19 ct19), sl19⟩) (c19 : PySem.W.codeIn K cd19 "number_at" = true) (k19 : PySem.W.keepIn K (.ref f19) = true)
    {f20 : Addr} {od20 an20 : Option Addr} {sl20 : Array (Option Value)} {oc20 kV20 dc20 pm20 ct20 : Value} {cd20 : Value}
    (a20 : PySem.W.nsIn K mainGlobals "graph_at" = some (some (.ref f20))) (l20 : K.lookup f20 = some ⟨oc20, od20, .func (PySem.W.fnOf "graph_at" "graph_at" (defArgs sGraphAt) (defBody sGraphAt) (defScope sGraphAt) .none kV20 dc20 pm20 an20 cd20 ct20), sl20⟩) (c20 : PySem.W.codeIn K cd20 "graph_at" = true) (k20 : PySem.W.keepIn K (.ref f20) = true)
    {f21 : Addr} {od21 an21 : Option Addr} {sl21 : Array (Option Value)} {oc21 kV21 dc21 pm21 ct21 : Value} {cd21 : Value}
    (a21 : PySem.W.nsIn K mainGlobals "_law_is_from_to" = some (some (.ref f21))) (l21 : K.lookup f21 = some ⟨oc21, od21, .func (PySem.W.fnOf "_law_is_from_to" "_law_is_from_to" (defArgs sFromTo) (defBody sFromTo) (defScope sFromTo) .none kV21 dc21 pm21 an21 cd21 ct21), sl21⟩) (c21 : PySem.W.codeIn K cd21 "_law_is_from_to" = true) (k21 : PySem.W.keepIn K (.ref f21) = true)
    {f22 : Addr} {od22 an22 : Option Addr} {sl22 : Array (Option Value)} {oc22 kV22 dc22 pm22 ct22 : Value} {cd22 : Value}
    (a22 : PySem.W.nsIn K mainGlobals "_law_odd" = some (some (.ref f22))) (l22 : K.lookup f22 = some ⟨oc22, od22, .func (PySem.W.fnOf "_law_odd" "_law_odd" (defArgs sOdd) (defBody sOdd) (defScope sOdd) .none kV22 dc22 pm22 an22 cd22 ct22), sl22⟩) (c22 : PySem.W.codeIn K cd22 "_law_odd" = true) (k22 : PySem.W.keepIn K (.ref f22) = true)
    {f23 : Addr} {od23 an23 : Option Addr} {sl23 : Array (Option Value)} {oc23 kV23 dc23 pm23 ct23 : Value} {cd23 : Value}
    (a23 : PySem.W.nsIn K mainGlobals "_law_spoil" = some (some (.ref f23))) (l23 : K.lookup f23 = some ⟨oc23, od23, .func (PySem.W.fnOf "_law_spoil" "_law_spoil" (defArgs sSpoil) (defBody sSpoil) (defScope sSpoil) .none kV23 dc23 pm23 an23 cd23 ct23), sl23⟩) (c23 : PySem.W.codeIn K cd23 "_law_spoil" = true) (k23 : PySem.W.keepIn K (.ref f23) = true)
    {f24 : Addr} {od24 an24 : Option Addr} {sl24 : Array (Option Value)} {oc24 kV24 dc24 pm24 ct24 : Value} {cd24 : Value}
    (a24 : PySem.W.nsIn K mainGlobals "_law_word" = some (some (.ref f24))) (l24 : K.lookup f24 = some ⟨oc24, od24, .func (PySem.W.fnOf "_law_word" "_law_word" (defArgs sWord) (defBody sWord) (defScope sWord) .none kV24 dc24 pm24 an24 cd24 ct24), sl24⟩) (c24 : PySem.W.codeIn K cd24 "_law_word" = true) (k24 : PySem.W.keepIn K (.ref f24) = true)
    {f25 : Addr} {od25 an25 : Option Addr} {sl25 : Array (Option Value)} {oc25 kV25 dc25 pm25 ct25 : Value} {cd25 : Value}
    (a25 : PySem.W.nsIn K mainGlobals "_law_said" = some (some (.ref f25))) (l25 : K.lookup f25 = some ⟨oc25, od25, .func (PySem.W.fnOf "_law_said" "_law_said" (defArgs sSaid) (defBody sSaid) (defScope sSaid) .none kV25 dc25 pm25 an25 cd25 ct25), sl25⟩) (c25 : PySem.W.codeIn K cd25 "_law_said" = true) (k25 : PySem.W.keepIn K (.ref f25) = true)
    {f26 : Addr} {od26 an26 : Option Addr} {sl26 : Array (Option Value)} {oc26 kV26 dc26 pm26 ct26 : Value} {cd26 : Value}
    (a26 : PySem.W.nsIn K mainGlobals "_law_is_plain" = some (some (.ref f26))) (l26 : K.lookup f26 = some ⟨oc26, od26, .func (PySem.W.fnOf "_law_is_plain" "_law_is_plain" (defArgs sIsPlain) (defBody sIsPlain) (defScope sIsPlain) .none kV26 dc26 pm26 an26 cd26 ct26), sl26⟩) (c26 : PySem.W.codeIn K cd26 "_law_is_plain" = true) (k26 : PySem.W.keepIn K (.ref f26) = true)
    {f27 : Addr} {od27 an27 : Option Addr} {sl27 : Array (Option Value)} {oc27 kV27 dc27 pm27 ct27 : Value} {cd27 : Value}
    (a27 : PySem.W.nsIn K mainGlobals "_law_size" = some (some (.ref f27))) (l27 : K.lookup f27 = some ⟨oc27, od27, .func (PySem.W.fnOf "_law_size" "_law_size" (defArgs sSize) (defBody sSize) (defScope sSize) .none kV27 dc27 pm27 an27 cd27 ct27), sl27⟩) (c27 : PySem.W.codeIn K cd27 "_law_size" = true) (k27 : PySem.W.keepIn K (.ref f27) = true)
    {f28 : Addr} {od28 an28 : Option Addr} {sl28 : Array (Option Value)} {oc28 kV28 dc28 pm28 ct28 : Value} {cd28 : Value}
    (a28 : PySem.W.nsIn K mainGlobals "_law_graph" = some (some (.ref f28))) (l28 : K.lookup f28 = some ⟨oc28, od28, .func (PySem.W.fnOf "_law_graph" "_law_graph" (defArgs sGraph) (defBody sGraph) (defScope sGraph) .none kV28 dc28 pm28 an28 cd28 ct28), sl28⟩) (c28 : PySem.W.codeIn K cd28 "_law_graph" = true) (k28 : PySem.W.keepIn K (.ref f28) = true)
    {f29 : Addr} {od29 an29 : Option Addr} {sl29 : Array (Option Value)} {oc29 kV29 dc29 pm29 ct29 : Value} {cd29 : Value}
    (a29 : PySem.W.nsIn K mainGlobals "_law_some_graph" = some (some (.ref f29))) (l29 : K.lookup f29 = some ⟨oc29, od29, .func (PySem.W.fnOf "_law_some_graph" "_law_some_graph" (defArgs sSome) (defBody sSome) (defScope sSome) .none kV29 dc29 pm29 an29 cd29 ct29), sl29⟩) (c29 : PySem.W.codeIn K cd29 "_law_some_graph" = true) (k29 : PySem.W.keepIn K (.ref f29) = true)
    {f30 : Addr} {od30 an30 : Option Addr} {sl30 : Array (Option Value)} {oc30 kV30 dc30 pm30 ct30 : Value} {cd30 : Value}
    (a30 : PySem.W.nsIn K mainGlobals "_law_cell_at" = some (some (.ref f30))) (l30 : K.lookup f30 = some ⟨oc30, od30, .func (PySem.W.fnOf "_law_cell_at" "_law_cell_at" (defArgs sCell) (defBody sCell) (defScope sCell) .none kV30 dc30 pm30 an30 cd30 ct30), sl30⟩) (c30 : PySem.W.codeIn K cd30 "_law_cell_at" = true) (k30 : PySem.W.keepIn K (.ref f30) = true)
    {f31 : Addr} {od31 an31 : Option Addr} {sl31 : Array (Option Value)} {oc31 kV31 dc31 pm31 ct31 : Value} {cd31 : Value}
    (a31 : PySem.W.nsIn K mainGlobals "_law_state" = some (some (.ref f31))) (l31 : K.lookup f31 = some ⟨oc31, od31, .func (PySem.W.fnOf "_law_state" "_law_state" (defArgs sState) (defBody sState) (defScope sState) .none kV31 dc31 pm31 an31 cd31 ct31), sl31⟩) (c31 : PySem.W.codeIn K cd31 "_law_state" = true) (k31 : PySem.W.keepIn K (.ref f31) = true)
    {f32 : Addr} {od32 an32 : Option Addr} {sl32 : Array (Option Value)} {oc32 kV32 dc32 pm32 ct32 : Value} {cd32 : Value}
    (a32 : PySem.W.nsIn K mainGlobals "_law_choice" = some (some (.ref f32))) (l32 : K.lookup f32 = some ⟨oc32, od32, .func (PySem.W.fnOf "_law_choice" "_law_choice" (defArgs sChoice) (defBody sChoice) (defScope sChoice) .none kV32 dc32 pm32 an32 cd32 ct32), sl32⟩) (c32 : PySem.W.codeIn K cd32 "_law_choice" = true) (k32 : PySem.W.keepIn K (.ref f32) = true)
    {f33 : Addr} {od33 an33 : Option Addr} {sl33 : Array (Option Value)} {oc33 kV33 dc33 pm33 ct33 : Value} {cd33 : Value}
    (a33 : PySem.W.nsIn K mainGlobals "_law_inner" = some (some (.ref f33))) (l33 : K.lookup f33 = some ⟨oc33, od33, .func (PySem.W.fnOf "_law_inner" "_law_inner" (defArgs sInner) (defBody sInner) (defScope sInner) .none kV33 dc33 pm33 an33 cd33 ct33), sl33⟩) (c33 : PySem.W.codeIn K cd33 "_law_inner" = true) (k33 : PySem.W.keepIn K (.ref f33) = true)
    {f34 : Addr} {od34 an34 : Option Addr} {sl34 : Array (Option Value)} {oc34 kV34 dc34 pm34 ct34 : Value} {cd34 : Value}
    (a34 : PySem.W.nsIn K mainGlobals "_law_measured" = some (some (.ref f34))) (l34 : K.lookup f34 = some ⟨oc34, od34, .func (PySem.W.fnOf "_law_measured" "_law_measured" (defArgs sMeasured) (defBody sMeasured) (defScope sMeasured) .none kV34 dc34 pm34 an34 cd34 ct34), sl34⟩) (c34 : PySem.W.codeIn K cd34 "_law_measured" = true) (k34 : PySem.W.keepIn K (.ref f34) = true)
    {f35 : Addr} {od35 an35 : Option Addr} {sl35 : Array (Option Value)} {oc35 kV35 dc35 pm35 ct35 : Value} {cd35 : Value}
    (a35 : PySem.W.nsIn K mainGlobals "_law_box_number" = some (some (.ref f35))) (l35 : K.lookup f35 = some ⟨oc35, od35, .func (PySem.W.fnOf "_law_box_number" "_law_box_number" (defArgs sBoxNumber) (defBody sBoxNumber) (defScope sBoxNumber) .none kV35 dc35 pm35 an35 cd35 ct35), sl35⟩) (c35 : PySem.W.codeIn K cd35 "_law_box_number" = true) (k35 : PySem.W.keepIn K (.ref f35) = true)
    {f36 : Addr} {od36 an36 : Option Addr} {sl36 : Array (Option Value)} {oc36 kV36 dc36 pm36 ct36 : Value} {cc36 : Addr}
    (a36 : PySem.W.nsIn K mainGlobals "_law_words" = some (some (.ref f36))) (l36 : K.lookup f36 = some ⟨oc36, od36, .func (PySem.W.fnOf "_law_words" "_law_words" (defArgs sWords) (defBody sWords) (defScope sWords) .none kV36 dc36 pm36 an36 (.ref cc36) ct36), sl36⟩) (c36 : PySem.W.codeIn K (.ref cc36) "_law_words" = true) (k36 : PySem.W.keepIn K (.ref f36) = true)
    {f37 : Addr} {od37 an37 : Option Addr} {sl37 : Array (Option Value)} {oc37 kV37 dc37 pm37 ct37 : Value} {cc37 : Addr}
    (a37 : PySem.W.nsIn K mainGlobals "law" = some (some (.ref f37))) (l37 : K.lookup f37 = some ⟨oc37, od37, .func (PySem.W.fnOf "law" "law" (defArgs sLaw) (defBody sLaw) (defScope sLaw) .none kV37 dc37 pm37 an37 (.ref cc37) ct37), sl37⟩) (c37 : PySem.W.codeIn K (.ref cc37) "law" = true) (k37 : PySem.W.keepIn K (.ref f37) = true)
    {t0 : Tok} (n0 : PySem.W.nsIn K mainGlobals "MOST_BOXES" = some (some (.int 8 t0)))
    {t1 : Tok} (n1 : PySem.W.nsIn K mainGlobals "MOST_IN_ALL" = some (some (.int 24 t1)))
    {t2 : Tok} (n2 : PySem.W.nsIn K mainGlobals "MOST_DEEP" = some (some (.int 4 t2)))
    {t3 : Tok} (n3 : PySem.W.nsIn K mainGlobals "PLACES" = some (some (.int 3 t3)))
    {t4 : Tok} (n4 : PySem.W.nsIn K mainGlobals "GREATEST" = some (some (.int 9999 t4)))
    {t5 : Tok} (n5 : PySem.W.nsIn K mainGlobals "NUMBER" = some (some (.int 0 t5)))
    {t6 : Tok} (n6 : PySem.W.nsIn K mainGlobals "TIE" = some (some (.int 1 t6)))
    {t7 : Tok} (n7 : PySem.W.nsIn K mainGlobals "GRAPH" = some (some (.int 2 t7)))
    {t8 : Tok} (n8 : PySem.W.nsIn K mainGlobals "NOTHING" = some (some (.int 3 t8)))
    (z0 : PySem.W.nsIn K mainGlobals "isinstance" = some none)
    (z1 : PySem.W.nsIn K mainGlobals "int" = some none)
    (z2 : PySem.W.nsIn K mainGlobals "bool" = some none)
    (z3 : PySem.W.nsIn K mainGlobals "tuple" = some none)
    (z4 : PySem.W.nsIn K mainGlobals "len" = some none)
    (z5 : PySem.W.nsIn K mainGlobals "range" = some none)
    (z6 : PySem.W.nsIn K mainGlobals "min" = some none)
    (z7 : PySem.W.nsIn K mainGlobals "max" = some none)
    (z8 : PySem.W.nsIn K mainGlobals "sum" = some none)
    (z9 : PySem.W.nsIn K mainGlobals "list" = some none)
    (z10 : PySem.W.nsIn K mainGlobals "repr" = some none)
    (z11 : PySem.W.nsIn K mainGlobals "str" = some none)
    (z12 : PySem.W.nsIn K mainGlobals "ValueError" = some none)
    (z13 : PySem.W.nsIn K mainGlobals "LookupError" = some none)
    {C0 : Addr} {C1 : Addr} {C2 : Addr} {C3 : Addr} {C4 : Addr} {C5 : Addr} {C6 : Addr} {C7 : Addr} {C8 : Addr} {C9 : Addr} {C10 : Addr} {C11 : Addr} {C12 : Addr} {C13 : Addr} {C14 : Addr} {C15 : Addr} {C16 : Addr} {C17 : Addr} {C18 : Addr} (x0 : PySem.W.nsIn K mainGlobals "NoChart" = some (some (.ref C0))) (x1 : PySem.W.nsIn K mainGlobals "NoPoints" = some (some (.ref C1))) (x2 : PySem.W.nsIn K mainGlobals "NoGraph" = some (some (.ref C2))) (x3 : PySem.W.nsIn K mainGlobals "NoPlace" = some (some (.ref C3))) (x4 : PySem.W.nsIn K mainGlobals "NoNet" = some (some (.ref C4))) (x5 : PySem.W.nsIn K mainGlobals "NoActor" = some (some (.ref C5))) (x6 : PySem.W.nsIn K mainGlobals "NoWeaving" = some (some (.ref C6))) (x7 : PySem.W.nsIn K mainGlobals "NoName" = some (some (.ref C7))) (x8 : PySem.W.nsIn K mainGlobals "NoChannel" = some (some (.ref C8))) (x9 : PySem.W.nsIn K mainGlobals "NoMost" = some (some (.ref C9))) (x10 : PySem.W.nsIn K mainGlobals "NoCode" = some (some (.ref C10))) (x11 : PySem.W.nsIn K mainGlobals "NoRow" = some (some (.ref C11))) (x12 : PySem.W.nsIn K mainGlobals "NoAddress" = some (some (.ref C12))) (x13 : PySem.W.nsIn K mainGlobals "NoDeed" = some (some (.ref C13))) (x14 : PySem.W.nsIn K mainGlobals "NotFull" = some (some (.ref C14))) (x15 : PySem.W.nsIn K mainGlobals "NotStill" = some (some (.ref C15))) (x16 : PySem.W.nsIn K mainGlobals "NoLine" = some (some (.ref C16))) (x17 : PySem.W.nsIn K mainGlobals "NoText" = some (some (.ref C17))) (x18 : PySem.W.nsIn K mainGlobals "Unsafe" = some (some (.ref C18)))
    {CS : Addr} (xs : PySem.W.nsIn K mainGlobals "GiveError" = some (some (.ref CS))) (og : PySem.W.specialIn K (.builtin "object.__class__") "__get__" = some (some (.builtin "getset_descriptor.__get__"))) (ot : PySem.W.takesIn K (.builtin "object.__class__") = some true) (sb : PySem.W.subIn K (.ref CS) (.type "BaseException") = some true) (si : PySem.W.isClsIn K CS = true) (stt : PySem.W.typeIn K (.ref CS) = some (.type "type"))
     (qG : PySem.W.excIn K C2 [.type "ValueError", .type "Exception", .type "BaseException", .type "object"] "ValueError.__new__" = true) (eGk : PySem.W.keepIn K (.ref C2) = true) (eGs : PySem.W.subIn K (.ref C2) (.type "BaseException") = some true) (eGt : PySem.W.typeIn K (.ref C2) = some (.type "type")) (eGg : PySem.W.findIn K (.ref C2) "__getattribute__" = some (some (.builtin "BaseException.__getattribute__"))) (eGh : PySem.W.findIn K (.ref C2) "__getattr__" = some none) (eGd : PySem.W.hasDictIn K C2 = true) (eGa : PySem.W.findIn K (.ref C2) "__class__" = some (some (.builtin "object.__class__"))) (eGm : PySem.W.mroIn K C2 (.type "object") = some true) (eGv : PySem.W.kitOne K (.ref C2) (.type "ValueError") = some true) (eGl : PySem.W.kitOne K (.ref C2) (.type "LookupError") = some false) (eGx : PySem.W.subIn K (.ref C2) (.ref CS) = some true)
     (qP : PySem.W.excIn K C3 [.type "ValueError", .type "Exception", .type "BaseException", .type "object"] "ValueError.__new__" = true) (ePk : PySem.W.keepIn K (.ref C3) = true) (ePs : PySem.W.subIn K (.ref C3) (.type "BaseException") = some true) (ePt : PySem.W.typeIn K (.ref C3) = some (.type "type")) (ePg : PySem.W.findIn K (.ref C3) "__getattribute__" = some (some (.builtin "BaseException.__getattribute__"))) (ePh : PySem.W.findIn K (.ref C3) "__getattr__" = some none) (ePd : PySem.W.hasDictIn K C3 = true) (ePa : PySem.W.findIn K (.ref C3) "__class__" = some (some (.builtin "object.__class__"))) (ePm : PySem.W.mroIn K C3 (.type "object") = some true) (ePv : PySem.W.kitOne K (.ref C3) (.type "ValueError") = some true) (ePl : PySem.W.kitOne K (.ref C3) (.type "LookupError") = some false) (ePx : PySem.W.subIn K (.ref C3) (.ref CS) = some true)
     (kitG0 : PySem.W.kitOne K (.ref C2) (.ref C0) = some false) (kitG1 : PySem.W.kitOne K (.ref C2) (.ref C1) = some false) (kitG2 : PySem.W.kitOne K (.ref C2) (.ref C2) = some true) (kitG3 : PySem.W.kitOne K (.ref C2) (.ref C3) = some false) (kitG4 : PySem.W.kitOne K (.ref C2) (.ref C4) = some false) (kitG5 : PySem.W.kitOne K (.ref C2) (.ref C5) = some false) (kitG6 : PySem.W.kitOne K (.ref C2) (.ref C6) = some false) (kitG7 : PySem.W.kitOne K (.ref C2) (.ref C7) = some false) (kitG8 : PySem.W.kitOne K (.ref C2) (.ref C8) = some false) (kitG9 : PySem.W.kitOne K (.ref C2) (.ref C9) = some false) (kitG10 : PySem.W.kitOne K (.ref C2) (.ref C10) = some false) (kitG11 : PySem.W.kitOne K (.ref C2) (.ref C11) = some false) (kitG12 : PySem.W.kitOne K (.ref C2) (.ref C12) = some false) (kitG13 : PySem.W.kitOne K (.ref C2) (.ref C13) = some false) (kitG14 : PySem.W.kitOne K (.ref C2) (.ref C14) = some false) (kitG15 : PySem.W.kitOne K (.ref C2) (.ref C15) = some false) (kitG16 : PySem.W.kitOne K (.ref C2) (.ref C16) = some false) (kitG17 : PySem.W.kitOne K (.ref C2) (.ref C17) = some false) (kitG18 : PySem.W.kitOne K (.ref C2) (.ref C18) = some false)
     (kitP0 : PySem.W.kitOne K (.ref C3) (.ref C0) = some false) (kitP1 : PySem.W.kitOne K (.ref C3) (.ref C1) = some false) (kitP2 : PySem.W.kitOne K (.ref C3) (.ref C2) = some false) (kitP3 : PySem.W.kitOne K (.ref C3) (.ref C3) = some true) (kitP4 : PySem.W.kitOne K (.ref C3) (.ref C4) = some false) (kitP5 : PySem.W.kitOne K (.ref C3) (.ref C5) = some false) (kitP6 : PySem.W.kitOne K (.ref C3) (.ref C6) = some false) (kitP7 : PySem.W.kitOne K (.ref C3) (.ref C7) = some false) (kitP8 : PySem.W.kitOne K (.ref C3) (.ref C8) = some false) (kitP9 : PySem.W.kitOne K (.ref C3) (.ref C9) = some false) (kitP10 : PySem.W.kitOne K (.ref C3) (.ref C10) = some false) (kitP11 : PySem.W.kitOne K (.ref C3) (.ref C11) = some false) (kitP12 : PySem.W.kitOne K (.ref C3) (.ref C12) = some false) (kitP13 : PySem.W.kitOne K (.ref C3) (.ref C13) = some false) (kitP14 : PySem.W.kitOne K (.ref C3) (.ref C14) = some false) (kitP15 : PySem.W.kitOne K (.ref C3) (.ref C15) = some false) (kitP16 : PySem.W.kitOne K (.ref C3) (.ref C16) = some false) (kitP17 : PySem.W.kitOne K (.ref C3) (.ref C17) = some false) (kitP18 : PySem.W.kitOne K (.ref C3) (.ref C18) = some false)
    {oTW : Option Addr} {vTW : Array Value} {sTW : Array (Option Value)} {PW : Addr} (lkW : K.lookup cc36 = some ⟨.type "code", oTW, .fields vTW, sTW⟩) (pW : vTW[11]? = some (.ref PW)) (noW : K.lookup PW = none)
    {oTL : Option Addr} {vTL : Array Value} {sTL : Array (Option Value)} {PL : Addr} (lkL : K.lookup cc37 = some ⟨.type "code", oTL, .fields vTL, sTL⟩) (pL : vTL[11]? = some (.ref PL)) (noL : K.lookup PL = none)
     (apart : PW ≠ PL) :
    Left23 K mg fa := by
  have e := hfa.symm.trans (PySem.W.mg_of X G a37)
  cases e
  have T : Free mg := ⟨PySem.W.mg_none_of X G z0, PySem.W.mg_none_of X G z1, PySem.W.mg_none_of X G z2, PySem.W.mg_none_of X G z3, PySem.W.mg_none_of X G z4, PySem.W.mg_none_of X G z5, PySem.W.mg_none_of X G z6, PySem.W.mg_none_of X G z7, PySem.W.mg_none_of X G z8, PySem.W.mg_none_of X G z9, PySem.W.mg_none_of X G z10⟩
  have C : Cst mg := ⟨⟨_, PySem.W.mg_of X G n0⟩, ⟨_, PySem.W.mg_of X G n1⟩, ⟨_, PySem.W.mg_of X G n2⟩, ⟨_, PySem.W.mg_of X G n3⟩, ⟨_, PySem.W.mg_of X G n4⟩, ⟨_, PySem.W.mg_of X G n5⟩, ⟨_, PySem.W.mg_of X G n6⟩, ⟨_, PySem.W.mg_of X G n7⟩, ⟨_, PySem.W.mg_of X G n8⟩⟩
  have XG : Exn K mg "NoGraph" C2 := ⟨qG, PySem.W.mg_of X G x2, eGk, eGs, eGt⟩
  have XP : Exn K mg "NoPlace" C3 := ⟨qP, PySem.W.mg_of X G x3, ePk, ePs, ePt⟩
  have KG : Kin K mg C2 2 := by
    refine ⟨⟨eGg, eGh, eGs, eGd, eGa, og, ot, eGm⟩, fun i x e => ?_, eGv, eGl⟩
    match i, e with
    | 0, e => cases e; exact ⟨_, PySem.W.mg_of X G x0, kitG0⟩
    | 1, e => cases e; exact ⟨_, PySem.W.mg_of X G x1, kitG1⟩
    | 2, e => cases e; exact ⟨_, PySem.W.mg_of X G x2, kitG2⟩
    | 3, e => cases e; exact ⟨_, PySem.W.mg_of X G x3, kitG3⟩
    | 4, e => cases e; exact ⟨_, PySem.W.mg_of X G x4, kitG4⟩
    | 5, e => cases e; exact ⟨_, PySem.W.mg_of X G x5, kitG5⟩
    | 6, e => cases e; exact ⟨_, PySem.W.mg_of X G x6, kitG6⟩
    | 7, e => cases e; exact ⟨_, PySem.W.mg_of X G x7, kitG7⟩
    | 8, e => cases e; exact ⟨_, PySem.W.mg_of X G x8, kitG8⟩
    | 9, e => cases e; exact ⟨_, PySem.W.mg_of X G x9, kitG9⟩
    | 10, e => cases e; exact ⟨_, PySem.W.mg_of X G x10, kitG10⟩
    | 11, e => cases e; exact ⟨_, PySem.W.mg_of X G x11, kitG11⟩
    | 12, e => cases e; exact ⟨_, PySem.W.mg_of X G x12, kitG12⟩
    | 13, e => cases e; exact ⟨_, PySem.W.mg_of X G x13, kitG13⟩
    | 14, e => cases e; exact ⟨_, PySem.W.mg_of X G x14, kitG14⟩
    | 15, e => cases e; exact ⟨_, PySem.W.mg_of X G x15, kitG15⟩
    | 16, e => cases e; exact ⟨_, PySem.W.mg_of X G x16, kitG16⟩
    | 17, e => cases e; exact ⟨_, PySem.W.mg_of X G x17, kitG17⟩
    | 18, e => cases e; exact ⟨_, PySem.W.mg_of X G x18, kitG18⟩
    | n + 19, e => exact absurd e (by simp [names19])
  have KP : Kin K mg C3 3 := by
    refine ⟨⟨ePg, ePh, ePs, ePd, ePa, og, ot, ePm⟩, fun i x e => ?_, ePv, ePl⟩
    match i, e with
    | 0, e => cases e; exact ⟨_, PySem.W.mg_of X G x0, kitP0⟩
    | 1, e => cases e; exact ⟨_, PySem.W.mg_of X G x1, kitP1⟩
    | 2, e => cases e; exact ⟨_, PySem.W.mg_of X G x2, kitP2⟩
    | 3, e => cases e; exact ⟨_, PySem.W.mg_of X G x3, kitP3⟩
    | 4, e => cases e; exact ⟨_, PySem.W.mg_of X G x4, kitP4⟩
    | 5, e => cases e; exact ⟨_, PySem.W.mg_of X G x5, kitP5⟩
    | 6, e => cases e; exact ⟨_, PySem.W.mg_of X G x6, kitP6⟩
    | 7, e => cases e; exact ⟨_, PySem.W.mg_of X G x7, kitP7⟩
    | 8, e => cases e; exact ⟨_, PySem.W.mg_of X G x8, kitP8⟩
    | 9, e => cases e; exact ⟨_, PySem.W.mg_of X G x9, kitP9⟩
    | 10, e => cases e; exact ⟨_, PySem.W.mg_of X G x10, kitP10⟩
    | 11, e => cases e; exact ⟨_, PySem.W.mg_of X G x11, kitP11⟩
    | 12, e => cases e; exact ⟨_, PySem.W.mg_of X G x12, kitP12⟩
    | 13, e => cases e; exact ⟨_, PySem.W.mg_of X G x13, kitP13⟩
    | 14, e => cases e; exact ⟨_, PySem.W.mg_of X G x14, kitP14⟩
    | 15, e => cases e; exact ⟨_, PySem.W.mg_of X G x15, kitP15⟩
    | 16, e => cases e; exact ⟨_, PySem.W.mg_of X G x16, kitP16⟩
    | 17, e => cases e; exact ⟨_, PySem.W.mg_of X G x17, kitP17⟩
    | 18, e => cases e; exact ⟨_, PySem.W.mg_of X G x18, kitP18⟩
    | n + 19, e => exact absurd e (by simp [names19])
  have F0 := fun_mk (st := sWhole) l0 c0 k0
  have S0 : Std K mg "is_whole" sWhole ["thing"] f0 _ := ⟨F0, PySem.W.mg_of X G a0, F0.binds (ps := ["thing"]) fun _ _ _ _ _ _ us hl => match us, hl with | [_], _ => rfl⟩
  have F1 := fun_mk (st := sWithin) l1 c1 k1
  have S1 : Std K mg "is_within" sWithin ["thing", "least", "most"] f1 _ := ⟨F1, PySem.W.mg_of X G a1, F1.binds (ps := ["thing", "least", "most"]) fun _ _ _ _ _ _ us hl => match us, hl with | [_, _, _], _ => rfl⟩
  have F2 := fun_mk (st := sTuple) l2 c2 k2
  have S2 : Std K mg "is_tuple" sTuple ["thing", "least", "most"] f2 _ := ⟨F2, PySem.W.mg_of X G a2, F2.binds (ps := ["thing", "least", "most"]) fun _ _ _ _ _ _ us hl => match us, hl with | [_, _, _], _ => rfl⟩
  have F3 := fun_mk (st := sNumber) l3 c3 k3
  have S3 : Std K mg "is_number" sNumber ["thing"] f3 _ := ⟨F3, PySem.W.mg_of X G a3, F3.binds (ps := ["thing"]) fun _ _ _ _ _ _ us hl => match us, hl with | [_], _ => rfl⟩
  have F4 := fun_mk (st := sPlace) l4 c4 k4
  have S4 : Std K mg "is_place" sPlace ["thing"] f4 _ := ⟨F4, PySem.W.mg_of X G a4, F4.binds (ps := ["thing"]) fun _ _ _ _ _ _ us hl => match us, hl with | [_], _ => rfl⟩
  have F5 := fun_mk (st := sHasBox) l5 c5 k5
  have S5 : Std K mg "has_box" sHasBox ["graph", "b"] f5 _ := ⟨F5, PySem.W.mg_of X G a5, F5.binds (ps := ["graph", "b"]) fun _ _ _ _ _ _ us hl => match us, hl with | [_, _], _ => rfl⟩
  have F6 := fun_mk (st := sTie) l6 c6 k6
  have S6 : Std K mg "is_tie" sTie ["thing", "graph"] f6 _ := ⟨F6, PySem.W.mg_of X G a6, F6.binds (ps := ["thing", "graph"]) fun _ _ _ _ _ _ us hl => match us, hl with | [_, _], _ => rfl⟩
  have F7 := fun_mk (st := sPsz) l7 c7 k7
  have S7 : Std K mg "place_size" sPsz ["thing", "graph", "deep"] f7 _ := ⟨F7, PySem.W.mg_of X G a7, F7.binds (ps := ["thing", "graph", "deep"]) fun _ _ _ _ _ _ us hl => match us, hl with | [_, _, _], _ => rfl⟩
  have F8 := fun_mk (st := sGsz) l8 c8 k8
  have S8 : Std K mg "graph_size" sGsz ["thing", "deep"] f8 _ := ⟨F8, PySem.W.mg_of X G a8, F8.binds (ps := ["thing", "deep"]) fun _ _ _ _ _ _ us hl => match us, hl with | [_, _], _ => rfl⟩
  have F9 := fun_mk (st := sIsGraph) l9 c9 k9
  have S9 : Std K mg "is_graph" sIsGraph ["thing"] f9 _ := ⟨F9, PySem.W.mg_of X G a9, F9.binds (ps := ["thing"]) fun _ _ _ _ _ _ us hl => match us, hl with | [_], _ => rfl⟩
  have F10 := fun_mk (st := sCheckG) l10 c10 k10
  have S10 : Std K mg "check_graph" sCheckG ["graph"] f10 _ := ⟨F10, PySem.W.mg_of X G a10, F10.binds (ps := ["graph"]) fun _ _ _ _ _ _ us hl => match us, hl with | [_], _ => rfl⟩
  have F11 := fun_mk (st := sCheckP) l11 c11 k11
  have S11 : Std K mg "check_place" sCheckP ["k"] f11 _ := ⟨F11, PySem.W.mg_of X G a11, F11.binds (ps := ["k"]) fun _ _ _ _ _ _ us hl => match us, hl with | [_], _ => rfl⟩
  have F12 := fun_mk (st := sCanGrow) l12 c12 k12
  have S12 : Std K mg "can_grow" sCanGrow ["graph"] f12 _ := ⟨F12, PySem.W.mg_of X G a12, F12.binds (ps := ["graph"]) fun _ _ _ _ _ _ us hl => match us, hl with | [_], _ => rfl⟩
  have F13 := fun_mk (st := sGrown) l13 c13 k13
  have S13 : Std K mg "grown" sGrown ["graph"] f13 _ := ⟨F13, PySem.W.mg_of X G a13, F13.binds (ps := ["graph"]) fun _ _ _ _ _ _ us hl => match us, hl with | [_], _ => rfl⟩
  have F14 := fun_mk (st := sWithNumber) l14 c14 k14
  have S14 : Std0 K mg "with_number" sWithNumber f14 _ := ⟨F14, PySem.W.mg_of X G a14⟩
  have F15 := fun_mk (st := sWithTie) l15 c15 k15
  have S15 : Std0 K mg "with_tie" sWithTie f15 _ := ⟨F15, PySem.W.mg_of X G a15⟩
  have F16 := fun_mk (st := sCanHang) l16 c16 k16
  have S16 : Std K mg "can_hang" sCanHang ["graph", "b", "k", "other"] f16 _ := ⟨F16, PySem.W.mg_of X G a16, F16.binds (ps := ["graph", "b", "k", "other"]) fun _ _ _ _ _ _ us hl => match us, hl with | [_, _, _, _], _ => rfl⟩
  have F17 := fun_mk (st := sWithGraph) l17 c17 k17
  have S17 : Std0 K mg "with_graph" sWithGraph f17 _ := ⟨F17, PySem.W.mg_of X G a17⟩
  have F18 := fun_mk (st := sSortAt) l18 c18 k18
  have S18 : Std K mg "sort_at" sSortAt ["graph", "b", "k"] f18 _ := ⟨F18, PySem.W.mg_of X G a18, F18.binds (ps := ["graph", "b", "k"]) fun _ _ _ _ _ _ us hl => match us, hl with | [_, _, _], _ => rfl⟩
  have F19 := fun_mk (st := sNumAt) l19 c19 k19
  have S19 : Std K mg "number_at" sNumAt ["graph", "b", "k"] f19 _ := ⟨F19, PySem.W.mg_of X G a19, F19.binds (ps := ["graph", "b", "k"]) fun _ _ _ _ _ _ us hl => match us, hl with | [_, _, _], _ => rfl⟩
  have F20 := fun_mk (st := sGraphAt) l20 c20 k20
  have S20 : Std K mg "graph_at" sGraphAt ["graph", "b", "k"] f20 _ := ⟨F20, PySem.W.mg_of X G a20, F20.binds (ps := ["graph", "b", "k"]) fun _ _ _ _ _ _ us hl => match us, hl with | [_, _, _], _ => rfl⟩
  have F21 := fun_mk (st := sFromTo) l21 c21 k21
  have S21 : Std K mg "_law_is_from_to" sFromTo ["_law_thing", "_law_low", "_law_high"] f21 _ := ⟨F21, PySem.W.mg_of X G a21, F21.binds (ps := ["_law_thing", "_law_low", "_law_high"]) fun _ _ _ _ _ _ us hl => match us, hl with | [_, _, _], _ => rfl⟩
  have F22 := fun_mk (st := sOdd) l22 c22 k22
  have S22 : Std K mg "_law_odd" sOdd ["_law_state_here"] f22 _ := ⟨F22, PySem.W.mg_of X G a22, F22.binds (ps := ["_law_state_here"]) fun _ _ _ _ _ _ us hl => match us, hl with | [_], _ => rfl⟩
  have F23 := fun_mk (st := sSpoil) l23 c23 k23
  have S23 : Std K mg "_law_spoil" sSpoil ["_law_state_here", "_law_thing", "_law_odd_here"] f23 _ := ⟨F23, PySem.W.mg_of X G a23, F23.binds (ps := ["_law_state_here", "_law_thing", "_law_odd_here"]) fun _ _ _ _ _ _ us hl => match us, hl with | [_, _, _], _ => rfl⟩
  have F24 := fun_mk (st := sWord) l24 c24 k24
  have S24 : Std0 K mg "_law_word" sWord f24 _ := ⟨F24, PySem.W.mg_of X G a24⟩
  have F25 := fun_mk (st := sSaid) l25 c25 k25
  have S25 : Std K mg "_law_said" sSaid ["_law_call"] f25 _ := ⟨F25, PySem.W.mg_of X G a25, F25.binds (ps := ["_law_call"]) fun _ _ _ _ _ _ us hl => match us, hl with | [_], _ => rfl⟩
  have F26 := fun_mk (st := sIsPlain) l26 c26 k26
  have S26 : Std K mg "_law_is_plain" sIsPlain ["_law_place", "_law_many"] f26 _ := ⟨F26, PySem.W.mg_of X G a26, F26.binds (ps := ["_law_place", "_law_many"]) fun _ _ _ _ _ _ us hl => match us, hl with | [_, _], _ => rfl⟩
  have F27 := fun_mk (st := sSize) l27 c27 k27
  have S27 : Std K mg "_law_size" sSize ["_law_graph_here"] f27 _ := ⟨F27, PySem.W.mg_of X G a27, F27.binds (ps := ["_law_graph_here"]) fun _ _ _ _ _ _ us hl => match us, hl with | [_], _ => rfl⟩
  have F28 := fun_mk (st := sGraph) l28 c28 k28
  have S28 : Std K mg "_law_graph" sGraph ["_law_state_here", "_law_deep", "_law_room"] f28 _ := ⟨F28, PySem.W.mg_of X G a28, F28.binds (ps := ["_law_state_here", "_law_deep", "_law_room"]) fun _ _ _ _ _ _ us hl => match us, hl with | [_, _, _], _ => rfl⟩
  have F29 := fun_mk (st := sSome) l29 c29 k29
  have S29 : Std K mg "_law_some_graph" sSome ["_law_state_here"] f29 _ := ⟨F29, PySem.W.mg_of X G a29, F29.binds (ps := ["_law_state_here"]) fun _ _ _ _ _ _ us hl => match us, hl with | [_], _ => rfl⟩
  have F30 := fun_mk (st := sCell) l30 c30 k30
  have S30 : Std K mg "_law_cell_at" sCell ["_law_script", "_law_k"] f30 _ := ⟨F30, PySem.W.mg_of X G a30, F30.binds (ps := ["_law_script", "_law_k"]) fun _ _ _ _ _ _ us hl => match us, hl with | [_, _], _ => rfl⟩
  have F31 := fun_mk (st := sState) l31 c31 k31
  have S31 : Std K mg "_law_state" sState ["_law_script", "_law_k"] f31 _ := ⟨F31, PySem.W.mg_of X G a31, F31.binds (ps := ["_law_script", "_law_k"]) fun _ _ _ _ _ _ us hl => match us, hl with | [_, _], _ => rfl⟩
  have F32 := fun_mk (st := sChoice) l32 c32 k32
  have S32 : Std K mg "_law_choice" sChoice ["_law_state_here", "_law_many"] f32 _ := ⟨F32, PySem.W.mg_of X G a32, F32.binds (ps := ["_law_state_here", "_law_many"]) fun _ _ _ _ _ _ us hl => match us, hl with | [_, _], _ => rfl⟩
  have F33 := fun_mk (st := sInner) l33 c33 k33
  have S33 : Std K mg "_law_inner" sInner ["_law_graph_here"] f33 _ := ⟨F33, PySem.W.mg_of X G a33, F33.binds (ps := ["_law_graph_here"]) fun _ _ _ _ _ _ us hl => match us, hl with | [_], _ => rfl⟩
  have F34 := fun_mk (st := sMeasured) l34 c34 k34
  have S34 : Std K mg "_law_measured" sMeasured ["_law_thing"] f34 _ := ⟨F34, PySem.W.mg_of X G a34, F34.binds (ps := ["_law_thing"]) fun _ _ _ _ _ _ us hl => match us, hl with | [_], _ => rfl⟩
  have F35 := fun_mk (st := sBoxNumber) l35 c35 k35
  have S35 : Std K mg "_law_box_number" sBoxNumber ["_law_state_here", "_law_graph_here"] f35 _ := ⟨F35, PySem.W.mg_of X G a35, F35.binds (ps := ["_law_state_here", "_law_graph_here"]) fun _ _ _ _ _ _ us hl => match us, hl with | [_, _], _ => rfl⟩
  have F36 := fun_mk (st := sWords) l36 c36 k36
  have S36 : Std K mg "_law_words" sWords ["_law_graph_here", "_law_b", "_law_k", "_law_other_own"] f36 _ := ⟨F36, PySem.W.mg_of X G a36, F36.binds (ps := ["_law_graph_here", "_law_b", "_law_k", "_law_other_own"]) fun _ _ _ _ _ _ us hl => match us, hl with | [_, _, _, _], _ => rfl⟩
  have F37 := fun_mk (st := sLaw) l37 c37 k37
  exact ⟨_, _, _, _, _, _, _, _, _, _, _, _, _, _, _, _, _, F37, rfl, fun s v => .of_eq rfl, T, PySem.W.mg_of X G a36, F36, rfl, lkW, rfl, pW, noW, lkL, rfl, pL, noL, apart, fun P w base TB =>
    all_cals T C (PySem.W.mg_none_of X G z11) (PySem.W.mg_none_of X G z12) (PySem.W.mg_none_of X G z13) (PySem.W.mg_of X G xs) XG XP KG KP (exm_mk sb si stt eGx) (exm_mk sb si stt ePx) apart S0 S1 S2 S3 S4 S5 S6 S7 S8 S9 S10 S11 S12 S13 S14 S15 S16 S17 S18 S19 S20 S21 S22 S23 S24 S25 S26 S27 S28 S29 S30 S31 S32 S33 S34 S35 S36 (fun s v => .of_eq rfl) rfl TB⟩
theorem tab_of {q : Program} {loose : List Str} {mean : ExcName → Option Value} {mg mb : Str → Option Value} {h : Heap} (T : Top q loose mean mg mb h) {x : Str} (hx : (recsOf q).any (fun d => d.name == x) = true) {K : PySem.W.Frag} (KX : K.In h) {st : Stmt} {f c Pt : Addr} {fd : FuncData} (F : Fun K x x st f fd) (hm : mg x = some (.ref f)) (hc : fd.code = .ref c)
    {oT : Obj} {vT : Array Value} (lk : K.lookup c = some oT) (hd : oT.data = .fields vT) (hp : vT[11]? = some (.ref Pt)) : h.get? Pt = some { cls := .none, data := .fields #[] } ∧ PySem.W.CodeHd h c Pt := by
  obtain ⟨d, hdm, e⟩ := List.any_eq_true.mp hx
  have e : d.name = x := eq_of_beq e
  obtain ⟨a, o, fd', c', P', m1, g1, d1, c1, isC, tab⟩ := T.tab d hdm
  rw [e, hm] at m1
  cases m1
  obtain ⟨oc, od, kV, doc, pm, an, cdv, ct, osl, rfl, found, code⟩ := F.ex
  have g2 := KX _ _ found
  rw [g1] at g2
  cases g2
  cases d1
  have hc : cdv = .ref c := hc
  have c1 : cdv = .ref c' := c1
  rw [hc] at c1
  cases c1
  obtain ⟨⟨o2, vs2, e1, e2, e3, e4⟩, e5⟩ := id tab
  have g3 := KX _ _ lk
  rw [e1] at g3
  cases g3
  rw [e3] at hd
  cases hd
  rw [e4] at hp
  cases hp
  exact ⟨e5, PySem.W.CodeHd.of isC tab⟩
theorem walk {l : PySem.W.OpenLaw} {q : Program} {loose : List Str} {XP : (Str → Option Value) → Heap → Prop} {YP : World → Heap → Prop} {d : DefRec} {K : Params → PySem.W.Frag} (hn : l.most = some 63) (hdf : d.params.defaults = []) (hnm : d.name = "law") (hi : importsNone q = true) (hw : (recsOf q).any (fun d => d.name == ("_law_words" : Str)) = true) (hl : (recsOf q).any (fun d => d.name == ("law" : Str)) = true)
    (hY : ∀ (w : World) (h : Heap), YP w h → (K w.params).In h)
    (F : ∀ (w : World) (mg : Str → Option Value) (fa : Addr) (h : Heap), (K w.params).In h → h.Ns mainGlobals mg → mg d.name = some (.ref fa) → Left23 (K w.params) mg fa) :
    PySem.W.WalkO q loose XP YP l.row.toRowW d [] (fun f vs => PySem.call f vs) := by
  refine Att.attach_call hn hdf fun w s0 s1 mg mb fa o pm cd doc a vs ns G Y ho hd hcd hmg hobj hints hlen hg => ?_
  have KX := hY w _ Y
  obtain ⟨fd, dW, fW, cW, PW, cL, PL, CS, CG, CP, fw, g, fdg, oT, oU, vT, vU, FL, codeL, bd, T, mW, FW, codeW, lk1, d1, p1, n1, lk2, d2, p2, n2, ap, cals⟩ := F w mg fa _ KX G.T.g hmg
  obtain ⟨t1, t2⟩ := tab_of G.T hw KX FW mW codeW lk1 d1 p1
  rw [hnm] at hmg
  obtain ⟨u1, u2⟩ := tab_of G.T hl KX FL hmg codeL lk2 d2 p2
  obtain ⟨mm, sy, _⟩ := (G.T.seer hi).mods
  refine law_endT (k := 20) (cs := [(cW, PW), (cL, PL)]) KX G.T.g G.T.b G.T.builtins G.T.nolimit hg ⟨fun p hp => ?_, fun p hp => ?_, fun p hp => ?_, ⟨mm, sy⟩, G.T.bmain⟩ hobj hints (small (by omega)) ⟨rfl, by decide, by decide⟩ FL scLaw bd fun base _ _ sb TB H cdv hc tabs scr hr => ?_
  · rcases List.mem_cons.mp hp with rfl | hp
    · exact t1
    · rw [List.mem_singleton.mp hp]; exact u1
  · rcases List.mem_cons.mp hp with rfl | hp
    · exact n1
    · rw [List.mem_singleton.mp hp]; exact n2
  · rcases List.mem_cons.mp hp with rfl | hp
    · exact t2
    · rw [List.mem_singleton.mp hp]; exact u2
  · rw [codeL] at hc
    subst hc
    have tW := TB _ (List.mem_cons_self)
    have tL := TB _ (List.mem_cons_of_mem _ List.mem_cons_self)
    refine law_body (k := 18) T sb scr hlen (fun p hp => ?_) tL (List.mem_cons_of_mem _ List.mem_cons_self) (fun p hp e => ?_) hr (cals l.prog w base tW)
    · rcases List.mem_cons.mp hp with rfl | hp
      · exact TabS.nil (tabs _ (List.mem_cons_self))
      · rw [List.mem_singleton.mp hp]
        exact TabS.nil (tabs _ (List.mem_cons_of_mem _ List.mem_cons_self))
    · rcases List.mem_cons.mp hp with rfl | hp
      · exact absurd e ap
      · rw [List.mem_singleton.mp hp]
end
end Gw
open PySem PySem.W PyProof.Rows
set_option maxRecDepth 100000 in
set_option maxHeartbeats 0 in
theorem PySem.Challenge.cw_giveway_k23_graphs_refused_holds : PySem.Challenge.rw_giveway_k23_graphs_refused.Holds := by
  w_on; o_law; k_head; (case hw => w_witness2)
  k_fill
  refine Gw.walk (l := PySem.Challenge.rw_giveway_k23_graphs_refused) rfl rfl rfl (by decide +kernel) (by decide +kernel) (by decide +kernel) (fun w h Y => PySem.W.km_in_of Y) ?F
  case F =>
    intro w mg fa h KX G hmg
    refine' Gw.all_mk KX G hmg ?a0 ?l0 ?c0 ?k0 ?a1 ?l1 ?c1 ?k1 ?a2 ?l2 ?c2 ?k2 ?a3 ?l3 ?c3 ?k3 ?a4 ?l4 ?c4 ?k4 ?a5 ?l5 ?c5 ?k5 ?a6 ?l6 ?c6 ?k6 ?a7 ?l7 ?c7 ?k7 ?a8 ?l8 ?c8 ?k8 ?a9 ?l9 ?c9 ?k9 ?a10 ?l10 ?c10 ?k10 ?a11 ?l11 ?c11 ?k11 ?a12 ?l12 ?c12 ?k12 ?a13 ?l13 ?c13 ?k13 ?a14 ?l14 ?c14 ?k14 ?a15 ?l15 ?c15 ?k15 ?a16 ?l16 ?c16 ?k16 ?a17 ?l17 ?c17 ?k17 ?a18 ?l18 ?c18 ?k18 ?a19 ?l19 ?c19 ?k19 ?a20 ?l20 ?c20 ?k20 ?a21 ?l21 ?c21 ?k21 ?a22 ?l22 ?c22 ?k22 ?a23 ?l23 ?c23 ?k23 ?a24 ?l24 ?c24 ?k24 ?a25 ?l25 ?c25 ?k25 ?a26 ?l26 ?c26 ?k26 ?a27 ?l27 ?c27 ?k27 ?a28 ?l28 ?c28 ?k28 ?a29 ?l29 ?c29 ?k29 ?a30 ?l30 ?c30 ?k30 ?a31 ?l31 ?c31 ?k31 ?a32 ?l32 ?c32 ?k32 ?a33 ?l33 ?c33 ?k33 ?a34 ?l34 ?c34 ?k34 ?a35 ?l35 ?c35 ?k35 ?a36 ?l36 ?c36 ?k36 ?a37 ?l37 ?c37 ?k37 ?n0 ?n1 ?n2 ?n3 ?n4 ?n5 ?n6 ?n7 ?n8 ?z0 ?z1 ?z2 ?z3 ?z4 ?z5 ?z6 ?z7 ?z8 ?z9 ?z10 ?z11 ?z12 ?z13 ?x0 ?x1 ?x2 ?x3 ?x4 ?x5 ?x6 ?x7 ?x8 ?x9 ?x10 ?x11 ?x12 ?x13 ?x14 ?x15 ?x16 ?x17 ?x18 ?xs ?og ?ot ?sb ?si ?stt ?qG ?eGk ?eGs ?eGt ?eGg ?eGh ?eGd ?eGa ?eGm ?eGv ?eGl ?eGx ?qP ?ePk ?ePs ?ePt ?ePg ?ePh ?ePd ?ePa ?ePm ?ePv ?ePl ?ePx ?kitG0 ?kitG1 ?kitG2 ?kitG3 ?kitG4 ?kitG5 ?kitG6 ?kitG7 ?kitG8 ?kitG9 ?kitG10 ?kitG11 ?kitG12 ?kitG13 ?kitG14 ?kitG15 ?kitG16 ?kitG17 ?kitG18 ?kitP0 ?kitP1 ?kitP2 ?kitP3 ?kitP4 ?kitP5 ?kitP6 ?kitP7 ?kitP8 ?kitP9 ?kitP10 ?kitP11 ?kitP12 ?kitP13 ?kitP14 ?kitP15 ?kitP16 ?kitP17 ?kitP18 ?lkW ?pW ?noW ?lkL ?pL ?noL ?apart
    (case a0 => k_is)
    (case l0 => k_is)
    (case c0 => k_is)
    (case k0 => k_is)
    (case a1 => k_is)
    (case l1 => k_is)
    (case c1 => k_is)
    (case k1 => k_is)
    (case a2 => k_is)
    (case l2 => k_is)
    (case c2 => k_is)
    (case k2 => k_is)
    (case a3 => k_is)
    (case l3 => k_is)
    (case c3 => k_is)
    (case k3 => k_is)
    (case a4 => k_is)
    (case l4 => k_is)
    (case c4 => k_is)
    (case k4 => k_is)
    (case a5 => k_is)
    (case l5 => k_is)
    (case c5 => k_is)
    (case k5 => k_is)
    (case a6 => k_is)
    (case l6 => k_is)
    (case c6 => k_is)
    (case k6 => k_is)
    (case a7 => k_is)
    (case l7 => k_is)
    (case c7 => k_is)
    (case k7 => k_is)
    (case a8 => k_is)
    (case l8 => k_is)
    (case c8 => k_is)
    (case k8 => k_is)
    (case a9 => k_is)
    (case l9 => k_is)
    (case c9 => k_is)
    (case k9 => k_is)
    (case a10 => k_is)
    (case l10 => k_is)
    (case c10 => k_is)
    (case k10 => k_is)
    (case a11 => k_is)
    (case l11 => k_is)
    (case c11 => k_is)
    (case k11 => k_is)
    (case a12 => k_is)
    (case l12 => k_is)
    (case c12 => k_is)
    (case k12 => k_is)
    (case a13 => k_is)
    (case l13 => k_is)
    (case c13 => k_is)
    (case k13 => k_is)
    (case a14 => k_is)
    (case l14 => k_is)
    (case c14 => k_is)
    (case k14 => k_is)
    (case a15 => k_is)
    (case l15 => k_is)
    (case c15 => k_is)
    (case k15 => k_is)
    (case a16 => k_is)
    (case l16 => k_is)
    (case c16 => k_is)
    (case k16 => k_is)
    (case a17 => k_is)
    (case l17 => k_is)
    (case c17 => k_is)
    (case k17 => k_is)
    (case a18 => k_is)
    (case l18 => k_is)
    (case c18 => k_is)
    (case k18 => k_is)
    (case a19 => k_is)
    (case l19 => k_is)
    (case c19 => k_is)
    (case k19 => k_is)
    (case a20 => k_is)
    (case l20 => k_is)
    (case c20 => k_is)
    (case k20 => k_is)
    (case a21 => k_is)
    (case l21 => k_is)
    (case c21 => k_is)
    (case k21 => k_is)
    (case a22 => k_is)
    (case l22 => k_is)
    (case c22 => k_is)
    (case k22 => k_is)
    (case a23 => k_is)
    (case l23 => k_is)
    (case c23 => k_is)
    (case k23 => k_is)
    (case a24 => k_is)
    (case l24 => k_is)
    (case c24 => k_is)
    (case k24 => k_is)
    (case a25 => k_is)
    (case l25 => k_is)
    (case c25 => k_is)
    (case k25 => k_is)
    (case a26 => k_is)
    (case l26 => k_is)
    (case c26 => k_is)
    (case k26 => k_is)
    (case a27 => k_is)
    (case l27 => k_is)
    (case c27 => k_is)
    (case k27 => k_is)
    (case a28 => k_is)
    (case l28 => k_is)
    (case c28 => k_is)
    (case k28 => k_is)
    (case a29 => k_is)
    (case l29 => k_is)
    (case c29 => k_is)
    (case k29 => k_is)
    (case a30 => k_is)
    (case l30 => k_is)
    (case c30 => k_is)
    (case k30 => k_is)
    (case a31 => k_is)
    (case l31 => k_is)
    (case c31 => k_is)
    (case k31 => k_is)
    (case a32 => k_is)
    (case l32 => k_is)
    (case c32 => k_is)
    (case k32 => k_is)
    (case a33 => k_is)
    (case l33 => k_is)
    (case c33 => k_is)
    (case k33 => k_is)
    (case a34 => k_is)
    (case l34 => k_is)
    (case c34 => k_is)
    (case k34 => k_is)
    (case a35 => k_is)
    (case l35 => k_is)
    (case c35 => k_is)
    (case k35 => k_is)
    (case a36 => k_is)
    (case l36 => k_is)
    (case c36 => k_is)
    (case k36 => k_is)
    (case a37 => k_is)
    (case l37 => k_is)
    (case c37 => k_is)
    (case k37 => k_is)
    (case n0 => k_is)
    (case n1 => k_is)
    (case n2 => k_is)
    (case n3 => k_is)
    (case n4 => k_is)
    (case n5 => k_is)
    (case n6 => k_is)
    (case n7 => k_is)
    (case n8 => k_is)
    (case z0 => k_is)
    (case z1 => k_is)
    (case z2 => k_is)
    (case z3 => k_is)
    (case z4 => k_is)
    (case z5 => k_is)
    (case z6 => k_is)
    (case z7 => k_is)
    (case z8 => k_is)
    (case z9 => k_is)
    (case z10 => k_is)
    (case z11 => k_is)
    (case z12 => k_is)
    (case z13 => k_is)
    (case x0 => k_is)
    (case x1 => k_is)
    (case x2 => k_is)
    (case x3 => k_is)
    (case x4 => k_is)
    (case x5 => k_is)
    (case x6 => k_is)
    (case x7 => k_is)
    (case x8 => k_is)
    (case x9 => k_is)
    (case x10 => k_is)
    (case x11 => k_is)
    (case x12 => k_is)
    (case x13 => k_is)
    (case x14 => k_is)
    (case x15 => k_is)
    (case x16 => k_is)
    (case x17 => k_is)
    (case x18 => k_is)
    (case xs => k_is)
    (case og => k_is)
    (case ot => k_is)
    (case sb => k_is)
    (case si => k_is)
    (case stt => k_is)
    (case qG => k_exc)
    (case eGk => k_is)
    (case eGs => k_is)
    (case eGt => k_is)
    (case eGg => k_is)
    (case eGh => k_is)
    (case eGd => k_is)
    (case eGa => k_is)
    (case eGm => k_is)
    (case eGv => kit_is)
    (case eGl => kit_is)
    (case eGx => k_is)
    (case qP => k_exc)
    (case ePk => k_is)
    (case ePs => k_is)
    (case ePt => k_is)
    (case ePg => k_is)
    (case ePh => k_is)
    (case ePd => k_is)
    (case ePa => k_is)
    (case ePm => k_is)
    (case ePv => kit_is)
    (case ePl => kit_is)
    (case ePx => k_is)
    (case kitG0 => kit_is)
    (case kitG1 => kit_is)
    (case kitG2 => kit_is)
    (case kitG3 => kit_is)
    (case kitG4 => kit_is)
    (case kitG5 => kit_is)
    (case kitG6 => kit_is)
    (case kitG7 => kit_is)
    (case kitG8 => kit_is)
    (case kitG9 => kit_is)
    (case kitG10 => kit_is)
    (case kitG11 => kit_is)
    (case kitG12 => kit_is)
    (case kitG13 => kit_is)
    (case kitG14 => kit_is)
    (case kitG15 => kit_is)
    (case kitG16 => kit_is)
    (case kitG17 => kit_is)
    (case kitG18 => kit_is)
    (case kitP0 => kit_is)
    (case kitP1 => kit_is)
    (case kitP2 => kit_is)
    (case kitP3 => kit_is)
    (case kitP4 => kit_is)
    (case kitP5 => kit_is)
    (case kitP6 => kit_is)
    (case kitP7 => kit_is)
    (case kitP8 => kit_is)
    (case kitP9 => kit_is)
    (case kitP10 => kit_is)
    (case kitP11 => kit_is)
    (case kitP12 => kit_is)
    (case kitP13 => kit_is)
    (case kitP14 => kit_is)
    (case kitP15 => kit_is)
    (case kitP16 => kit_is)
    (case kitP17 => kit_is)
    (case kitP18 => kit_is)
    (case lkW => k_is)
    (case pW => rfl)
    (case noW => first | rfl | k_is)
    (case lkL => k_is)
    (case pL => rfl)
    (case noL => first | rfl | k_is)
    (case apart => decide)
