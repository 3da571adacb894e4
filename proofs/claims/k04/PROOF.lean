import PyProof.Rows.All
import Wide.All
import OpenK.AllK
import Wide.FinOn
import HandS.ForMost
import HandS.IsInst
import HandS.Defaults
import HandS.Conv
import HandS.TupAny
import KE.DataMinMax
import HandS.ForExc
import HandS.Lambda
import HandS.ExcIs
import HandS.Dict
import HandS.EndTab
import PyProof.FactsAll.dict
import HandS.GenList
import HandS.AnyAll
import HandS.RaiseMore
import HandS.List
import HandS.Codes
import HandS.DictComp
import HandS.DictTup
import HandS.SetFor
import HandS.Strs
import HandS.Iter
import KE.GoesMore
import HandS.HotCalls
import HandS.SortKw
import HandS.Style
import HandS.TupLe
import KE.SortData
import KE.DataEq
import HandS.Ends
import KE.RegKIsAll
import PySem.Challenge.RW_giveway_k04_charts_refused
set_option Elab.async false
set_option linter.all false
set_option maxRecDepth 100000
namespace Gw
open PySem L2
def top (i : Nat) : Stmt := PySem.Challenge.pw_giveway_k04_charts_refused.main.body.getD i (.Pass ⟨0, 0, 0, 0⟩)
abbrev sWhole : Stmt := top 22
abbrev sWithin : Stmt := top 23
abbrev sPoints : Stmt := top 25
abbrev sIsChart : Stmt := top 26
abbrev sCheckCh : Stmt := top 27
abbrev sCheckCase : Stmt := top 28
abbrev sIsWalk : Stmt := top 29
abbrev sIsWay : Stmt := top 30
abbrev sIsBar : Stmt := top 31
abbrev sBefores : Stmt := top 32
abbrev sDist : Stmt := top 33
abbrev sNear : Stmt := top 34
abbrev sShort : Stmt := top 35
abbrev sPaper : Stmt := top 36
abbrev sRanks : Stmt := top 37
abbrev sLring : Stmt := top 38
abbrev sRounds : Stmt := top 39
abbrev sIsRing : Stmt := top 40
abbrev sAreRanks : Stmt := top 41
abbrev sCell : Stmt := top 43
abbrev sState : Stmt := top 44
abbrev sChoice : Stmt := top 45
abbrev sMarks : Stmt := top 46
abbrev sWord : Stmt := top 47
abbrev sSaid : Stmt := top 48
abbrev sLWhole : Stmt := top 49
abbrev sOdd : Stmt := top 50
abbrev sBent : Stmt := top 51
abbrev sChart : Stmt := top 52
abbrev sSomeP : Stmt := top 53
abbrev sLPoints : Stmt := top 54
abbrev sLChart : Stmt := top 55
abbrev sRight : Stmt := top 56
abbrev sLaw : Stmt := top 57
/-! data, dicts of whole numbers among it -/
def dictK (ms : List (Int × Int)) : List (Key × V) := ms.map fun m => (Sum.inl m.1, V.int m.2)
def dictD (ms : List (Int × Int)) : List (PyData × PyData) := ms.map fun m => (PyData.int m.1, PyData.int m.2)
mutual
inductive Dp (K : PySem.W.Frag) (Hh : Hp) : V → PyData → Prop
  | non : Dp K Hh .non .none
  | bl (t : Bool) : Dp K Hh (.bl t) (.bool t)
  | int (n : Int) : Dp K Hh (.int n) (.int n)
  | str (t : Str) : Dp K Hh (.str t) (.str t)
  | lst {r : Addr} {us : List V} {es : List PyData} (at_ : SqL K Hh r us) (each : DpAll K Hh us es) : Dp K Hh (.ref r) (.list es)
  | tup {r : Addr} {us : List V} {es : List PyData} (at_ : SqT K Hh r us) (each : DpAll K Hh us es) : Dp K Hh (.ref r) (.tuple es)
  | dct {r : Addr} {ms : List (Int × Int)} (at_ : Hh r = some (.dK (dictK ms))) : Dp K Hh (.ref r) (.dict (dictD ms))
inductive DpAll (K : PySem.W.Frag) (Hh : Hp) : List V → List PyData → Prop
  | nil : DpAll K Hh [] []
  | cons {u : V} {us : List V} {e : PyData} {es : List PyData} (one : Dp K Hh u e) (more : DpAll K Hh us es) : DpAll K Hh (u :: us) (e :: es)
end
/-! no list is in it -/
mutual
def noL : PyData → Bool
  | .list _ => false
  | .tuple es => noLs es
  | _ => true
def noLs : List PyData → Bool
  | [] => true
  | e :: es => noL e && noLs es
end
theorem reads_dict {Pg : Program} {wd : World} {h : Heap} : ∀ (ms : List (Int × Int)) (vs : List (Key × Value)) (es : List DictEntry), KV (dictK ms) vs → Pairs (mixKind Pg wd) es vs →
    ReadsAll h (es.map fun e => e.key) ((dictD ms).map fun p => p.1) [] ∧ ReadsAll h (es.map fun e => e.val) ((dictD ms).map fun p => p.2) []
  | [], vs, es, kv, pr => by
    cases kv
    cases pr
    exact ⟨.nil, .nil⟩
  | m :: ms, vs, es, kv, pr => by
    cases kv with
    | cons h1 h2 =>
      cases pr with
      | cons p1 p2 p3 =>
        obtain ⟨q1, q2⟩ := reads_dict (h := h) ms _ _ h2 p3
        obtain ⟨e1, e2⟩ := h1
        rw [← e1] at p1
        have p1 : keyIs (Sum.inl m.1) _ = true := p1
        rcases keyIs_shape p1 with ⟨i, t, z1, z2⟩ | ⟨x, t, z1, z2⟩
        · cases z1
          obtain ⟨t2, e2⟩ := e2
          refine ⟨?_, ?_⟩
          · refine (show ReadsAll h (_ :: _) (PyData.int m.1 :: _) ([] ++ []) from ?_)
            dsimp only
            rw [z2]
            exact .cons (.int _ _) q1
          · refine (show ReadsAll h (_ :: _) (PyData.int m.2 :: _) ([] ++ []) from ?_)
            dsimp only
            rw [p2, e2]
            exact .cons (.int _ _) q2
        · cases z1
section
variable {X : Cx} {pins : List (Addr × Obj)} {σ : L2.St} {H : Hp} {s : Shared}
theorem dct_reads (I : Inv X pins σ H s) {r : Addr} {ms : List (Int × Int)} (h : H r = some (.dK (dictK ms))) : ∃ o es n, s.heap.get? r = some o ∧ o.ExactDict ∧ o.data = .dict es n ∧ r ≠ sysModules ∧ Reads s.heap (.ref r) (.dict (dictD ms)) (r :: [] ++ []) := by
  obtain ⟨_, ns, vs, kv, o, es, ep, g, ex, dd, _, pr, _⟩ := I.hok r _ h
  obtain ⟨q1, q2⟩ := reads_dict ms vs es.toList kv pr
  exact ⟨o, es, ep, g, ex, dd, beq_eq_false_iff_ne.mp ns, .dict g ex.1 dd q1 q2⟩
mutual
theorem Dp.rd (I : Inv X pins σ H s) : ∀ (d : PyData) (v : V) (u : Value), Dp X.K H v d → RelV v u → ∃ as, Reads s.heap u d as ∧ (noL d = true → sysModules ∉ as)
  | .none, v, u, h, r => by cases h; cases r; exact ⟨_, .none, fun _ z => nomatch z⟩
  | .bool b, v, u, h, r => by cases h; cases r; exact ⟨_, .bool b, fun _ z => nomatch z⟩
  | .int i, v, u, h, r => by cases h; obtain ⟨t, rfl⟩ := r; exact ⟨_, .int i t, fun _ z => nomatch z⟩
  | .str x, v, u, h, r => by cases h; obtain ⟨t, rfl⟩ := r; exact ⟨_, .str x t, fun _ z => nomatch z⟩
  | .list es, v, u, h, r => by
    cases h with
    | lst at_ each =>
      cases r
      obtain ⟨its, rv, ⟨o, n, ho, hc, _, hd⟩, _⟩ := I.list at_
      obtain ⟨as, hr, _⟩ := Dp.rds I es _ its each rv
      exact ⟨_, .list ho hc hd hr, fun z => by simp [noL] at z⟩
  | .tuple es, v, u, h, r => by
    cases h with
    | tup at_ each =>
      cases r
      obtain ⟨its, rv, ⟨o, ho, hc, n, hd⟩, _⟩ := I.tuple at_
      obtain ⟨as, hr, hn⟩ := Dp.rds I es _ its each rv
      exact ⟨_, .tuple ho hc hd hr, fun z => hn (by simpa only [noL] using z)⟩
  | .dict kvs, v, u, h, r => by
    cases h with
    | dct at_ =>
      cases r
      obtain ⟨_, _, _, _, _, _, ns, rd⟩ := dct_reads I at_
      exact ⟨_, rd, fun _ z => by
        have z : sysModules ∈ [_] := z
        exact ns (List.mem_singleton.mp z).symm⟩
theorem Dp.rds (I : Inv X pins σ H s) : ∀ (ds : List PyData) (vs : List V) (us : List Value), DpAll X.K H vs ds → Vals vs us → ∃ as, ReadsAll s.heap us ds as ∧ (noLs ds = true → sysModules ∉ as)
  | [], vs, us, h, r => by cases h; cases r; exact ⟨_, .nil, fun _ z => nomatch z⟩
  | d :: ds, vs, us, h, r => by
    cases h with
    | cons one more =>
      cases r with
      | cons r1 r2 =>
        obtain ⟨as, q1, n1⟩ := Dp.rd I d _ _ one r1
        obtain ⟨bs, q2, n2⟩ := Dp.rds I ds _ _ more r2
        refine ⟨_, .cons q1 q2, fun z => ?_⟩
        have z' : noL d = true ∧ noLs ds = true := by simpa [noLs] using z
        intro hm
        rcases List.mem_append.mp hm with hm | hm
        · exact n1 z'.1 hm
        · exact n2 z'.2 hm
end
end
/-! a dict against a text -/
section
open PySem.SeqAt
theorem dict_declines (l : Addr) (es : Array DictEntry) (n : Nat) (b : Str) (u : Tok) :
    Meets (Builtin.«dict.__eq__» ⟨[.ref l, .str b u], []⟩) (fun _ R s => s.heap.get? l = some { cls := .type "dict", data := .dict es n } ∧ R (.ok (.ret .notImplemented)) s) :=
  .of_wp fun prog w A R s h => by obtain ⟨hp, g, d, tk, os⟩ := s; obtain ⟨hl, h⟩ := h; have f1 := F.sub_str_dict; wp_walk using AutoSeq1.wpAny_loadPart' hl; exact ⟨_, rfl, h⟩
theorem str_declines_dict (b : Str) (u : Tok) (l : Addr) (es : Array DictEntry) (n : Nat) :
    Meets (Builtin.«str.__eq__» ⟨[.str b u, .ref l], []⟩) (fun _ R s => s.heap.get? l = some { cls := .type "dict", data := .dict es n } ∧ R (.ok (.ret .notImplemented)) s) :=
  .of_wp fun prog w A R s h => by obtain ⟨hp, g, d, tk, os⟩ := s; obtain ⟨hl, h⟩ := h; wp_walk using AutoSeq1.wpAny_loadPart' hl, wpAny_load hl; exact ⟨_, rfl, h⟩
theorem rc_dict_str {A : Around} {s : Shared} {l : Addr} {es : Array DictEntry} {n : Nat} (b : Str) (u : Tok) (ho : s.heap.get? l = some { cls := .type "dict", data := .dict es n }) (hu : A.units < cLine) : RcAt A s (.ref l) (.str b u) false := fun prog w E Q h =>
  rc_eq_decline_or (k := false) ⟨_, ho, rfl⟩ (typeIs_str s b u) (by decide) F.sub_str_dict F.slot_dict_eq F.slot_str_eq_refl
    (fun _ hq => call_meets F.slot_dict_eq ⟨_, ho, rfl⟩ F.entry_dict_eq (F.args_dict_eq_2 _ _) (dict_declines l es n b u) ⟨ho, hq⟩)
    (fun _ hq => call_meets F.slot_str_eq_refl (typeIs_str s b u) F.entry_str_eq (F.args_str_eq_2 _ _) (str_declines_dict b u l es n) ⟨ho, hq⟩)
    (fun _ hq => wpAny_of_eq (rfl : isSame (.ref l) (.str b u) = pure false) hq) (.inr hu) h
end
def OkL (_ : PyData) : Prop := True
def OkR (e : PyData) : Prop := ∃ t, e = .str t
theorem okL_mem {ds : List PyData} {d : PyData} (h : OkL (.tuple ds)) (hm : d ∈ ds) : OkL d := trivial
theorem okR_tie : OkR (.str "tie") := ⟨_, rfl⟩
/-- whatever it is against a text -/
def rEqT (K : PySem.W.Frag) : R2 := fun x y H Q => ∃ d e, Dp K H x d ∧ Dp K H y e ∧ OkL d ∧ OkR e ∧ Q (.bl (PyData.eqv d e)) H
theorem op_eqT {X : Cx} (hu : X.A.units + 64 < cLine) : OpR X (compareOp .Eq) (rEqT X.K) := by
  intro pins s σ H x y v u Q I rx ry h
  obtain ⟨d, e, hd, he, _, ⟨t, rfl⟩, q⟩ := h
  cases he
  obtain ⟨tk, rfl⟩ := ry
  have fin : ∀ b, PyData.eqv d (.str t) = b → SeqAt.RcAt X.A s v (.str t tk) b → wpAny (model X.prog X.w) X.A (compareOp .Eq v (.str t tk)) (EP X pins σ Q) X.xe s := fun b e rc => by
    refine rc X.prog X.w _ _ ⟨.bl b, H, I, rfl, ?_⟩
    rw [← e]
    exact q
  have hu' : X.A.units < cLine := by omega
  cases hd with
  | non => cases rx; exact fin false (by simp [PyData.eqv]) (SeqAt.RcAt.none_str _ _)
  | bl b => cases rx; exact fin false (by simp [PyData.eqv]) (SeqAt.RcAt.bool_str _ _ _)
  | int i => obtain ⟨k, rfl⟩ := rx; exact fin false (by simp [PyData.eqv]) (SeqAt.RcAt.int_str _ _ _ _)
  | str z => obtain ⟨k, rfl⟩ := rx; exact fin (z == t) (by simp [PyData.eqv]) (SeqAt.RcAt.str_str _ _ _ _)
  | lst at_ each =>
    cases rx
    obtain ⟨its, rv, ⟨o, n, ho, hc, _, hd⟩, _⟩ := I.list at_
    exact fin false (by simp [PyData.eqv]) (SeqAt.RcAt.list_str _ _ ⟨o, ho, hc, n, hd⟩ hu')
  | tup at_ each =>
    cases rx
    obtain ⟨its, rv, ⟨o, ho, hc, n, hd⟩, _⟩ := I.tuple at_
    exact fin false (by simp [PyData.eqv]) (SeqAt.RcAt.tuple_str _ _ ⟨o, ho, hc, n, hd⟩ hu')
  | dct at_ =>
    cases rx
    obtain ⟨⟨oc, od, oda, osl⟩, es, n, g, ⟨e1, e2, e3⟩, e4, _, _⟩ := dct_reads I at_
    dsimp only at e1 e2 e3 e4
    subst e1 e2 e3 e4
    exact fin false (by simp [PyData.eqv]) (rc_dict_str _ _ g hu')
/-- data without dicts against such -/
def rNeD (K : PySem.W.Frag) : R2 := fun x y Hh Q => ∃ d e, Dp K Hh x d ∧ Dp K Hh y e ∧ SeqAt.shaped d = true ∧ SeqAt.shaped e = true ∧ Q (.bl (!PyData.eqv d e)) Hh
theorem op_neD {X : Cx} (hu : X.A.units + 64 < cLine) : OpR X (compareOp .NotEq) (rNeD X.K) := by
  intro pins s σ Hh x y v u Q I rx ry h
  obtain ⟨d, e, hd, he, sd, se, q⟩ := h
  obtain ⟨as, r1, _⟩ := Dp.rd I d x v hd rx
  obtain ⟨bs, r2, _⟩ := Dp.rd I e y u he ry
  exact SeqAt.compareNe_shaped r1 r2 sd se hu ⟨.bl _, Hh, I, rfl, q⟩
/-! repr -/
theorem call_reprD {X : Cx} (hg : X.A.guards = some []) (hu : X.A.units + 80 < cLine) : CallR X (.builtin "repr") (fun xs H Q => ∃ (a : Addr) (d : PyData), xs = [.ref a] ∧ Dp X.K H (.ref a) d ∧ d.showable = true ∧ (d.hasDict = true → noL d = true) ∧ d.depth ≤ 64 ∧ d.shown.length ≤ sizeLine ∧ Q (.str d.shown) H) := by
  intro pins s σ H xs us Q I r h
  obtain ⟨a, d, rfl, hd, h1, h2, h3, h4, q⟩ := h
  obtain ⟨u, rfl, ru⟩ := vals1 r
  cases ru
  obtain ⟨as, hr, hn⟩ := Dp.rd I d (.ref a) (.ref a) hd rfl
  exact repr_of_reads' hr h1 (fun z => hn (h2 z)) hg (by omega) (fun _ _ e => e) (fun h' u tk hk => ⟨.str d.shown, H, I.kept hk, ⟨u, rfl⟩, q⟩) h4
/-- the names that the module leaves to the built-ins -/
structure Free (mg : Str → Option Value) : Prop where
  isi : mg "isinstance" = none
  int : mg "int" = none
  bool : mg "bool" = none
  tuple : mg "tuple" = none
  len : mg "len" = none
  range : mg "range" = none
  min : mg "min" = none
  max : mg "max" = none
  sum : mg "sum" = none
  list : mg "list" = none
  repr : mg "repr" = none
/-- a def that stands under its name and keeps a promise -/
def Cal (P : Program) (w : World) (K : PySem.W.Frag) (mg : Str → Option Value) (base : Heap) (x : Str) (k : Nat) (ps : List Str) (sp : Sp) : Prop :=
  ∃ (f : Addr) (fd : FuncData), FnOk P w K mg base CX0 k f fd ps sp ∧ mg x = some (.ref f) ∧ PySem.W.keepIn K (.ref f) = true ∧ Binds K fd ps []
theorem Cal.mono {P : Program} {w : World} {K : PySem.W.Frag} {mg : Str → Option Value} {base : Heap} {x : Str} {j k : Nat} {ps : List Str} {sp : Sp} (C : Cal P w K mg base x j ps sp) (h : j ≤ k) : Cal P w K mg base x k ps sp := by
  obtain ⟨f, fd, F, r⟩ := C
  exact ⟨f, fd, F.mono h, r⟩
theorem pe_cal {X : Cx} {x : Str} {p pos : Pos} {e : Expr} {es : List Expr} {t : TA} {k : Nat} {ps : List Str} {sp : Sp} (C : Cal X.prog X.w X.K X.mg X.base x k ps sp) (hr : Room k X.A) (hg : Gl X x) (ha : PA X (e :: es) t)
    (hdb : (x == ("__debug__" : Str)) = false := by decide) (he : starEach (e :: es) X.env = (false, eval e X.env) :: starEach es X.env := by rfl) (hpl : ((backTo pos (starEach es X.env)).any fun x => x.fst) = false := by rfl) :
    PE X (.Call (.Name x p) (e :: es) [] pos) (tCall sp [] E0 t) := by
  obtain ⟨f, fd, F, hm, hk, hb⟩ := C
  exact pe_call F hr hg hm hk hb .nil pass0 ha hdb he hpl
/-! the kinds of data -/
def kindD : PyData → String
  | .none => "NoneType"
  | .bool _ => "bool"
  | .int _ => "int"
  | .str _ => "str"
  | .list _ => "list"
  | .tuple _ => "tuple"
  | .dict _ => "dict"
theorem ty_lst {K : PySem.W.Frag} {H : Hp} {a : Addr} {xs : List V} (h : SqL K H a xs) : TyX K H (.ref a) (.type "list") := by
  rcases h with (h | ⟨o, h⟩) | ⟨o, its, n, hk, hc, _⟩
  · exact .base (.lst h)
  · exact .base (.frz h)
  · exact .kList hk hc
theorem ty_tup {K : PySem.W.Frag} {H : Hp} {a : Addr} {xs : List V} (h : SqT K H a xs) : TyX K H (.ref a) (.type "tuple") := by
  rcases h with (h | ⟨o, h⟩) | ⟨o, its, n, hk, hc, _⟩
  · exact .base (.tup h)
  · exact .fTuple h
  · exact .kTuple hk hc
theorem ty_of {K : PySem.W.Frag} {H : Hp} {x : V} {d : PyData} (h : Dp K H x d) : TyX K H x (.type (kindD d)) := by
  cases h with
  | non => exact .base .non
  | bl b => exact .base (.bl b)
  | int i => exact .base (.int i)
  | str s => exact .base (.str s)
  | lst h _ => exact ty_lst h
  | dct h => exact .base (.dK h)
  | tup h _ => exact ty_tup h
def intD : PyData → Bool
  | .int _ => true
  | .bool _ => true
  | _ => false
def boolD : PyData → Bool
  | .bool _ => true
  | _ => false
def tupleD : PyData → Bool
  | .tuple _ => true
  | _ => false
theorem kit_int {K : PySem.W.Frag} (d : PyData) : PySem.W.kitOne K (.type (kindD d)) (.type "int") = some (intD d) := by
  cases d with
  | none => exact kit_ty (show kitB "NoneType" "int" = some false by decide +kernel)
  | bool _ => exact kit_ty (show kitB "bool" "int" = some true by decide +kernel)
  | int _ => exact kit_ty (show kitB "int" "int" = some true by decide +kernel)
  | str _ => exact kit_ty (show kitB "str" "int" = some false by decide +kernel)
  | list _ => exact kit_ty (show kitB "list" "int" = some false by decide +kernel)
  | tuple _ => exact kit_ty (show kitB "tuple" "int" = some false by decide +kernel)
  | dict _ => exact kit_ty (show kitB "dict" "int" = some false by decide +kernel)
theorem kit_bool {K : PySem.W.Frag} (d : PyData) : PySem.W.kitOne K (.type (kindD d)) (.type "bool") = some (boolD d) := by
  cases d with
  | none => exact kit_ty (show kitB "NoneType" "bool" = some false by decide +kernel)
  | bool _ => exact kit_ty (show kitB "bool" "bool" = some true by decide +kernel)
  | int _ => exact kit_ty (show kitB "int" "bool" = some false by decide +kernel)
  | str _ => exact kit_ty (show kitB "str" "bool" = some false by decide +kernel)
  | list _ => exact kit_ty (show kitB "list" "bool" = some false by decide +kernel)
  | tuple _ => exact kit_ty (show kitB "tuple" "bool" = some false by decide +kernel)
  | dict _ => exact kit_ty (show kitB "dict" "bool" = some false by decide +kernel)
theorem kit_tuple {K : PySem.W.Frag} (d : PyData) : PySem.W.kitOne K (.type (kindD d)) (.type "tuple") = some (tupleD d) := by
  cases d with
  | none => exact kit_ty (show kitB "NoneType" "tuple" = some false by decide +kernel)
  | bool _ => exact kit_ty (show kitB "bool" "tuple" = some false by decide +kernel)
  | int _ => exact kit_ty (show kitB "int" "tuple" = some false by decide +kernel)
  | str _ => exact kit_ty (show kitB "str" "tuple" = some false by decide +kernel)
  | list _ => exact kit_ty (show kitB "list" "tuple" = some false by decide +kernel)
  | tuple _ => exact kit_ty (show kitB "tuple" "tuple" = some true by decide +kernel)
  | dict _ => exact kit_ty (show kitB "dict" "tuple" = some false by decide +kernel)
theorem ifT {c : Bool} {A B : Prop} (e : c = true) (h : A) : if c = true then A else B := by rw [if_pos e]; exact h
theorem ifF {c : Bool} {A B : Prop} (e : c = false) (h : B) : if c = true then A else B := by rw [if_neg (by rw [e]; decide)]; exact h
def wholeD : PyData → Bool
  | .int _ => true
  | _ => false
def withinD (lo hi : Int) : PyData → Bool
  | .int i => decide (lo ≤ i) && decide (i ≤ hi)
  | _ => false
def tupD (lo hi : Int) : PyData → Bool
  | .tuple xs => decide (lo ≤ (xs.length : Int)) && decide ((xs.length : Int) ≤ hi)
  | _ => false
theorem dpAll_len {K : PySem.W.Frag} {H : Hp} : ∀ {xs : List V} {ds : List PyData}, DpAll K H xs ds → xs.length = ds.length
  | _, _, .nil => rfl
  | _, _, .cons _ t => by rw [List.length_cons, List.length_cons, dpAll_len t]
theorem dpAll_get {K : PySem.W.Frag} {H : Hp} : ∀ {xs : List V} {ds : List PyData} {i : Nat} {d : PyData}, DpAll K H xs ds → ds[i]? = some d → ∃ x, xs[i]? = some x ∧ Dp K H x d
  | _, _, 0, _, .cons h _, e => by cases e; exact ⟨_, rfl, h⟩
  | _, _, i + 1, _, .cons _ t, e => dpAll_get (i := i) t e
  | _, _, _, _, .nil, e => by cases e
theorem dpAll_get' {K : PySem.W.Frag} {H : Hp} : ∀ {xs : List V} {ds : List PyData} {i : Nat} {x : V}, DpAll K H xs ds → xs[i]? = some x → ∃ d, ds[i]? = some d ∧ Dp K H x d
  | _, _, 0, _, .cons h _, e => by cases e; exact ⟨_, rfl, h⟩
  | _, _, i + 1, _, .cons _ t, e => dpAll_get' (i := i) t e
  | _, _, _, _, .nil, e => by cases e
section
variable {P : Program} {w : World} {K : PySem.W.Frag} {mg : Str → Option Value} {base : Heap} {f : Addr} {fd : FuncData}
def spWhole (K : PySem.W.Frag) : Sp := fun vs H Q _ => ∃ (x : V) (d : PyData), vs = [x] ∧ Dp K H x d ∧ Q (.bl (wholeD d)) H
theorem scWhole : FnScope ["thing"] ["thing"] (defScope sWhole) := ⟨rfl, rfl, rfl, by decide +kernel, rfl, by decide +kernel, by decide +kernel⟩
theorem ok_whole {k : Nat} (F : Fun K "is_whole" "is_whole" sWhole f fd) (T : Free mg) : FnOk P w K mg base CX0 (k + 1) f fd ["thing"] (spWhole K) := by
  refine F.ok scWhole (fun vs H Q E h => ?_) (fun cdv A outer s H vs Q E hr h => ?_)
  · obtain ⟨x, d, rfl, _⟩ := h
    rfl
  obtain ⟨x, d, rfl, hx, q⟩ := h
  refine ⟨_, pss_one (ps_ret (pe_and (pe_callB call_isi rfl T.isi (by decide +kernel) (pa_cons (pv 0) (pa_cons (pe_bltn (v := .ty "int") rfl T.int (by decide +kernel) rfl) pa_nil)))
    (pe_one (pe_not (pe_callB call_isi rfl T.isi (by decide +kernel) (pa_cons (pv 0) (pa_cons (pe_bltn (v := .ty "bool") rfl T.bool (by decide +kernel) rfl) pa_nil))))))), ?_⟩
  have ht := ty_of hx
  refine ⟨_, rfl, x, _, _, _, _, rfl, .ty "int", ht, kit_int d, _, rfl, ?_⟩
  cases d with
  | int i => exact ifT rfl ⟨_, rfl, _, _, _, _, _, rfl, .ty "bool", ht, kit_bool _, _, rfl, q⟩
  | bool b => exact ifT rfl ⟨_, rfl, _, _, _, _, _, rfl, .ty "bool", ht, kit_bool _, _, rfl, q⟩
  | none => exact ifF rfl q
  | str _ => exact ifF rfl q
  | list _ => exact ifF rfl q
  | tuple _ => exact ifF rfl q
  | dict _ => exact ifF rfl q
/-! is_within -/
def spWithin (K : PySem.W.Frag) : Sp := fun vs H Q _ => ∃ (x : V) (d : PyData) (lo hi : Int), vs = [x, .int lo, .int hi] ∧ Dp K H x d ∧ Q (.bl (withinD lo hi d)) H
theorem scWithin : FnScope ["thing", "least", "most"] ["thing", "least", "most"] (defScope sWithin) := ⟨rfl, rfl, rfl, by decide +kernel, rfl, by decide +kernel, by decide +kernel⟩
theorem ok_within {k : Nat} (F : Fun K "is_within" "is_within" sWithin f fd) (cW : Cal P w K mg base "is_whole" k ["thing"] (spWhole K)) : FnOk P w K mg base CX0 (k + 1) f fd ["thing", "least", "most"] (spWithin K) := by
  refine F.ok scWithin (fun vs H Q E h => ?_) (fun cdv A outer s H vs Q E hr h => ?_)
  · obtain ⟨x, d, lo, hi, rfl, _⟩ := h
    rfl
  obtain ⟨x, d, lo, hi, rfl, hx, q⟩ := h
  refine ⟨_, pss_one (ps_ret (pe_and (pe_cal cW hr rfl (pa_cons (pv 0) pa_nil)) (pe_one (pe_chain op_le op_le (pv 1) (pv 0) (pv 2))))), ?_⟩
  refine ⟨_, rfl, x, d, rfl, hx, _, rfl, ?_⟩
  cases d with
  | int i =>
    cases hx
    refine ifT rfl ⟨_, rfl, _, rfl, _, _, rfl, rfl, _, rfl, ?_⟩
    have e : withinD lo hi (.int i) = (decide (lo ≤ i) && decide (i ≤ hi)) := rfl
    rw [e] at q
    by_cases c : lo ≤ i
    · refine ifT (decide_eq_true c) ⟨_, rfl, _, _, rfl, rfl, ?_⟩
      rw [decide_eq_true c, Bool.true_and] at q
      exact q
    · refine ifF (decide_eq_false c) ?_
      rw [decide_eq_false c, Bool.false_and] at q
      exact q
  | bool b => exact ifF rfl q
  | none => exact ifF rfl q
  | str _ => exact ifF rfl q
  | list _ => exact ifF rfl q
  | tuple _ => exact ifF rfl q
  | dict _ => exact ifF rfl q
/-! is_tuple -/
end
theorem atI_at {α : Type} {xs : List α} {i : Int} {v : α} (h0 : 0 ≤ i) (h : xs[i.toNat]? = some v) : atI xs i = some v := by
  have q := atI_nat h
  rw [show ((i.toNat : Nat) : Int) = i by omega] at q
  exact q
/-! heaps: what stands, but for the state's list -/
def StOk (x y z : Int) : Prop := 0 ≤ x ∧ 0 ≤ y ∧ y < 4294967296
def StAt (H : Hp) (st : Addr) : Prop := ∃ x y z, H st = some (.lst [.int x, .int y, .int z]) ∧ StOk x y z
def Kp (st : Addr) (H H' : Hp) : Prop := ∀ b u, b ≠ st → H b = some u → H' b = some u
structure Mv (st : Addr) (H H' : Hp) : Prop where
  kp : Kp st H H'
  sa : StAt H' st
/-- what is no list stands -/
def KT (H H' : Hp) : Prop := ∀ b u, H b = some u → (∀ l, u ≠ .lst l) → H' b = some u
theorem Kp.refl (st : Addr) (H : Hp) : Kp st H H := fun _ _ _ h => h
theorem Kp.trans {st : Addr} {H H1 H2 : Hp} (a : Kp st H H1) (b : Kp st H1 H2) : Kp st H H2 := fun c u n h => b c u n (a c u n h)
theorem Kp.of_same {st : Addr} {H H' : Hp} (a : Same H H') : Kp st H H' := fun c u _ h => a c u h
theorem KT.refl (H : Hp) : KT H H := fun _ _ h _ => h
theorem KT.trans {H H1 H2 : Hp} (a : KT H H1) (b : KT H1 H2) : KT H H2 := fun c u h n => b c u (a c u h n) n
theorem KT.of_same {H H' : Hp} (a : Same H H') : KT H H' := fun c u h _ => a c u h
theorem Kp.kt {st : Addr} {H H' : Hp} (k : Kp st H H') (s : StAt H st) : KT H H' := fun b u h n => k b u (fun e => by
  obtain ⟨x, y, z, hs, _⟩ := s
  rw [e, hs] at h
  cases h
  exact n _ rfl) h
theorem KT.upd {H : Hp} {p : Addr} {l l' : List V} (h : H p = some (.lst l)) : KT H (upd H p (.lst l')) := fun b u hb n => by
  by_cases e : b = p
  · subst e
    rw [h] at hb
    cases hb
    exact absurd rfl (n l)
  · rw [upd_ne e]
    exact hb
theorem same_new {H : Hp} {p : Addr} (h : H p = none) (o : HO) : Same H (upd H p o) := fun b u q => by rw [upd_ne (ne_of_none q h)]; exact q
theorem Kp.upd {st : Addr} {H0 H : Hp} {p : Addr} {o : HO} (k : Kp st H0 H) (h : H0 p = none) : Kp st H0 (upd H p o) := fun b u n hb => by
  rw [upd_ne (ne_of_none hb h)]
  exact k b u n hb
theorem Kp.free {st : Addr} {H H' : Hp} (k : Kp st H H') {p : Addr} (n : p ≠ st) (h : H' p = none) : H p = none := by
  cases e : H p with
  | none => rfl
  | some u =>
    rw [k p u n e] at h
    cases h
theorem StAt.some {H : Hp} {st : Addr} (s : StAt H st) : ∃ l, H st = some (.lst l) := by
  obtain ⟨x, y, z, h, _⟩ := s
  exact ⟨_, h⟩
theorem StAt.ne {H : Hp} {st p : Addr} (s : StAt H st) (h : H p = none) : p ≠ st := fun e => by
  obtain ⟨l, hs⟩ := s.some
  rw [e, hs] at h
  cases h
theorem StAt.same {H H' : Hp} {st : Addr} (s : StAt H st) (k : Same H H') : StAt H' st := by
  obtain ⟨x, y, z, h, ok⟩ := s
  exact ⟨x, y, z, k _ _ h, ok⟩
theorem StAt.upd {H : Hp} {st p : Addr} {o : HO} (s : StAt H st) (n : p ≠ st) : StAt (upd H p o) st := by
  obtain ⟨x, y, z, h, ok⟩ := s
  exact ⟨x, y, z, by rw [upd_ne n.symm]; exact h, ok⟩
/-! data that is tuples, ints and texts alone -/
mutual
def tupOnly : PyData → Bool
  | .int _ | .str _ => true
  | .tuple xs => tupOnlyAll xs
  | _ => false
def tupOnlyAll : List PyData → Bool
  | [] => true
  | x :: r => tupOnly x && tupOnlyAll r
end
theorem sqT_kt {K : PySem.W.Frag} {H H' : Hp} {a : Addr} {xs : List V} (k : KT H H') (h : SqT K H a xs) : SqT K H' a xs := by
  rcases h with (h | ⟨o, h⟩) | h
  · exact .inl (.inl (k _ _ h (fun l z => by cases z)))
  · exact .inl (.inr ⟨o, k _ _ h (fun l z => by cases z)⟩)
  · exact .inr h
mutual
theorem dp_kt {K : PySem.W.Frag} {H H' : Hp} (k : KT H H') : ∀ (d : PyData) (v : V), tupOnly d = true → Dp K H v d → Dp K H' v d
  | .int i, v, _, h => by cases h; exact .int i
  | .str x, v, _, h => by cases h; exact .str x
  | .tuple ds, v, t, h => by
    cases h with
    | tup hs ha => exact .tup (sqT_kt k hs) (dpAll_kt k ds _ (by simpa only [tupOnly] using t) ha)
  | .none, v, t, h => by simp [tupOnly] at t
  | .bool _, v, t, h => by simp [tupOnly] at t
  | .list _, v, t, h => by simp [tupOnly] at t
  | .dict _, v, t, h => by simp [tupOnly] at t
theorem dpAll_kt {K : PySem.W.Frag} {H H' : Hp} (k : KT H H') : ∀ (ds : List PyData) (vs : List V), tupOnlyAll ds = true → DpAll K H vs ds → DpAll K H' vs ds
  | [], vs, _, h => by cases h; exact .nil
  | d :: ds, vs, t, h => by
    simp only [tupOnlyAll, Bool.and_eq_true] at t
    cases h with
    | cons h1 h2 => exact .cons (dp_kt k d _ t.1 h1) (dpAll_kt k ds _ t.2 h2)
end
theorem dpAll_snoc {K : PySem.W.Frag} {H : Hp} {v : V} {d : PyData} (h : Dp K H v d) : ∀ {vs : List V} {ds : List PyData}, DpAll K H vs ds → DpAll K H (vs ++ [v]) (ds ++ [d])
  | _, _, .nil => .cons h .nil
  | _, _, .cons a t => .cons a (dpAll_snoc h t)
theorem dpAll_append {K : PySem.W.Frag} {H : Hp} {ws : List V} {es : List PyData} (h : DpAll K H ws es) : ∀ {vs : List V} {ds : List PyData}, DpAll K H vs ds → DpAll K H (vs ++ ws) (ds ++ es)
  | _, _, .nil => h
  | _, _, .cons a t => .cons a (dpAll_append h t)
theorem tupOnly_snoc : ∀ {ds : List PyData} {d : PyData}, tupOnlyAll ds = true → tupOnly d = true → tupOnlyAll (ds ++ [d]) = true
  | [], d, _, h => by simp [tupOnlyAll, h]
  | x :: r, d, t, h => by
    simp only [tupOnlyAll, Bool.and_eq_true, List.cons_append] at *
    exact ⟨t.1, tupOnly_snoc t.2 h⟩
theorem small {n : Nat} (h : n ≤ 1000) : n ≤ sizeLine := Nat.le_of_lt (small1000 h)
section
variable {P : Program} {w : World} {K : PySem.W.Frag} {mg : Str → Option Value} {base : Heap} {f : Addr} {fd : FuncData}
/-! _law_cell_at -/
def spCell (K : PySem.W.Frag) : Sp := fun vs H Q _ => ∃ (a : Addr) (ns : List Int) (i : Int), vs = [.ref a, .int i] ∧ SqL K H a (ns.map V.int) ∧ 0 ≤ i ∧ ∀ n : Int, Q (.int n) H
theorem scCell : FnScope ["_law_script", "_law_k"] ["_law_script", "_law_k"] (defScope sCell) := ⟨rfl, rfl, rfl, by decide +kernel, rfl, by decide +kernel, by decide +kernel⟩
theorem ok_cell {k : Nat} (F : Fun K "_law_cell_at" "_law_cell_at" sCell f fd) (T : Free mg) : FnOk P w K mg base CX0 (k + 1) f fd ["_law_script", "_law_k"] (spCell K) := by
  refine F.ok scCell (fun vs H Q E h => ?_) (fun cdv A outer s H vs Q E hr h => ?_)
  · obtain ⟨a, ns, i, rfl, _⟩ := h
    rfl
  obtain ⟨a, ns, i, rfl, hs, h0, q⟩ := h
  refine ⟨_, pss_cons (ps_if (pt_cmpR op_lt (pv 1) (pe_callB call_len_seq rfl T.len PySem.boot_len (pa_cons (pv 0) pa_nil)) (nomark _)) (pss_one (ps_ret (pe_ix ix_list (pv 0) (pv 1) (fun _ _ => rfl)))) pss_nil) (pss_one (ps_ret pe_int)), ?_⟩
  refine ⟨_, rfl, _, rfl, a, _, rfl, .inl hs, _, _, rfl, rfl, _, rfl, ?_⟩
  refine ite2 (fun c => ?_) (fun c => q 0)
  have c : i < (((ns.map V.int).length : Nat) : Int) := of_decide_eq_true c
  have hk : i.toNat < ns.length := by rw [List.length_map] at c; omega
  exact ⟨_, rfl, _, rfl, a, _, i, .int ns[i.toNat], rfl, rfl, hs, atI_at h0 (by rw [List.getElem?_map, List.getElem?_eq_getElem hk] <;> rfl), q _⟩
/-! _law_state -/
def spState (K : PySem.W.Frag) : Sp := fun vs H Q _ => ∃ (a : Addr) (ns : List Int) (i : Int), vs = [.ref a, .int i] ∧ SqL K H a (ns.map V.int) ∧ 0 ≤ i ∧ ∀ p x y z, H p = none → StOk x y z → Q (.ref p) (upd H p (.lst [.int x, .int y, .int z]))
theorem scState : FnScope ["_law_script", "_law_k", "_law_cell"] ["_law_script", "_law_k"] (defScope sState) := ⟨rfl, rfl, rfl, by decide +kernel, rfl, by decide +kernel, by decide +kernel⟩
theorem ok_state {k : Nat} (F : Fun K "_law_state" "_law_state" sState f fd) (T : Free mg) (cC : Cal P w K mg base "_law_cell_at" k ["_law_script", "_law_k"] (spCell K)) : FnOk P w K mg base CX0 (k + 1) f fd ["_law_script", "_law_k"] (spState K) := by
  refine F.ok scState (fun vs H Q E h => ?_) (fun cdv A outer s H vs Q E hr h => ?_)
  · obtain ⟨a, ns, i, rfl, _⟩ := h
    rfl
  obtain ⟨a, ns, i, rfl, hs, h0, q⟩ := h
  refine ⟨_, pss_cons (ps_set (i := 2) scState.nd rfl (.inl rfl) (pe_cal cC hr rfl (pa_cons (pv 0) (pa_cons (pv 1) pa_nil))))
    (pss_one (ps_ret (pe_lst (pa_cons (pe_callB (call_max2 rfl) rfl T.max (by decide +kernel) (pa_cons pe_int (pa_cons (pe_op op_sub (pv 2) (pe_op op_pow pe_int pe_int)) pa_nil)))
      (pa_cons (pe_op op_add (pe_op op_mod (pv 2) pe_int) pe_int) (pa_cons pe_int pa_nil)))))), ?_⟩
  refine ⟨_, rfl, _, rfl, a, ns, i, rfl, hs, h0, fun n => ?_⟩
  refine ⟨_, rfl, _, _, rfl, rfl, ⟨by decide, by decide, by decide⟩, _, _, rfl, rfl, _, _, rfl, ?_⟩
  refine ⟨_, rfl, _, _, rfl, rfl, (by show (0 : Int) < 2147483629; decide), _, _, rfl, rfl, small (by show 3 ≤ 1000; decide), fun p hp => ?_⟩
  refine q p _ _ _ hp ⟨?_, ?_, ?_⟩
  · split <;> omega
  · have := Int.emod_nonneg n (show (2147483629 : Int) ≠ 0 by decide)
    omega
  · have := Int.emod_lt_of_pos n (show (0 : Int) < 2147483629 by decide)
    omega
/-! _law_choice -/
def spChoice : Sp := fun vs H Q _ => ∃ (st : Addr) (many : Int), vs = [.ref st, .int many] ∧ StAt H st ∧ 0 < many ∧ many < 1000000 ∧ ∀ r H', 0 ≤ r → r < many → Mv st H H' → Q (.int r) H'
theorem scChoice : FnScope ["_law_state_here", "_law_many", "_law_found", "_law_mixed"] ["_law_state_here", "_law_many"] (defScope sChoice) := ⟨rfl, rfl, rfl, by decide +kernel, rfl, by decide +kernel, by decide +kernel⟩
theorem mv_upd {H : Hp} {st : Addr} {x y z : Int} (ok : StOk x y z) : Mv st H (upd H st (.lst [.int x, .int y, .int z])) :=
  ⟨fun b u n h => by rw [upd_ne n]; exact h, ⟨x, y, z, upd_same, ok⟩⟩
theorem ok_choice {k : Nat} (F : Fun K "_law_choice" "_law_choice" sChoice f fd) : FnOk P w K mg base CX0 (k + 1) f fd ["_law_state_here", "_law_many"] spChoice := by
  refine F.ok scChoice (fun vs H Q E h => ?_) (fun cdv A outer s H vs Q E hr h => ?_)
  · obtain ⟨st, many, rfl, _⟩ := h
    rfl
  obtain ⟨st, many, rfl, ⟨x, y, z, hst, hx, hy, hy2⟩, h0, hm, q⟩ := h
  refine ⟨_, pss_cons (ps_if (pt_cmpR op_gt (pe_ix ix_list (pv 0) pe_int (fun _ _ => rfl)) pe_int (nomark _))
      (pss_cons (ps_set (i := 2) scChoice.nd rfl (.inl rfl) (pe_op op_mod (pe_ix ix_list (pv 0) pe_int (fun _ _ => rfl)) (pv 1)))
      (pss_cons (ps_asg (pe_op op_fdiv (pe_ix ix_list (pv 0) pe_int (fun _ _ => rfl)) (pv 1)) (pg_sub (pv 0) pe_int set_list))
      (pss_one (ps_ret (pv 2))))) pss_nil)
    (pss_cons (ps_asg (pe_op op_add (pe_ix ix_list (pv 0) pe_int (fun _ _ => rfl)) pe_int) (pg_sub (pv 0) pe_int set_list))
    (pss_cons (ps_asg (pe_op op_mod (pe_op op_add (pe_op op_add (pe_op op_mul (pe_ix ix_list (pv 0) pe_int (fun _ _ => rfl)) pe_int) pe_int) (pe_ix ix_list (pv 0) pe_int (fun _ _ => rfl))) pe_int) (pg_sub (pv 0) pe_int set_list))
    (pss_cons (ps_set (i := 3) scChoice.nd rfl (.inl rfl) (pe_op op_mod (pe_op op_add (pe_op op_add (pe_op op_mul (pe_ix ix_list (pv 0) pe_int (fun _ _ => rfl)) (pe_ix ix_list (pv 0) pe_int (fun _ _ => rfl))) (pe_op op_mul pe_int (pe_ix ix_list (pv 0) pe_int (fun _ _ => rfl)))) pe_int) pe_int))
    (pss_cons (ps_set (i := 3) scChoice.nd rfl (.inl rfl) (pe_op op_mod (pe_op op_add (pe_op op_mul (pv 3) (pv 3)) (pe_op op_mul pe_int (pv 3))) pe_int))
    (pss_one (ps_ret (pe_op op_mod (pe_op op_fdiv (pv 3) pe_int) (pv 1)))))))), ?_⟩
  have rd : ∀ {H : Hp} {x y z : Int}, H st = some (.lst [.int x, .int y, .int z]) → SqL K H st [.int x, .int y, .int z] := fun h => SqL.of h
  refine ⟨_, rfl, st, _, 0, _, rfl, rfl, rd hst, rfl, _, _, rfl, rfl, _, rfl, ?_⟩
  refine ite2 (fun c => ?_) (fun c => ?_)
  · refine ⟨_, rfl, st, _, 0, _, rfl, rfl, rd hst, rfl, _, rfl, _, _, rfl, rfl, h0, ?_⟩
    refine ⟨_, rfl, st, _, 0, _, rfl, rfl, rd hst, rfl, _, rfl, _, _, rfl, rfl, ⟨h0, by omega⟩, ?_⟩
    refine ⟨_, rfl, st, _, 0, 0, rfl, rfl, hst, rfl, ?_⟩
    refine ⟨_, rfl, q _ _ (Int.emod_nonneg x (by omega)) (Int.emod_lt_of_pos x h0) (mv_upd (x := x / many) (y := y) (z := z) ⟨Int.ediv_nonneg hx (by omega), hy, hy2⟩)⟩
  · refine ⟨_, rfl, st, _, 2, _, rfl, rfl, rd hst, rfl, _, _, rfl, rfl, ?_⟩
    refine ⟨_, rfl, st, _, 2, 2, rfl, rfl, hst, rfl, ?_⟩
    refine ⟨_, rfl, st, _, 1, _, rfl, rfl, rd upd_same, rfl, _, _, rfl, rfl, .inl ⟨by omega, by omega⟩, _, _, rfl, rfl, _, rfl, st, _, 2, _, rfl, rfl, rd upd_same, rfl, _, _, rfl, rfl, _, _, rfl, rfl, (by show (0 : Int) < 2147483647; decide), ?_⟩
    refine ⟨_, rfl, st, _, 1, 1, rfl, rfl, upd_same, rfl, ?_⟩
    rw [upd_upd]
    have b1 := Int.emod_nonneg (y * 48271 + 29 + (z + 1)) (show (2147483647 : Int) ≠ 0 by decide)
    have b2 := Int.emod_lt_of_pos (y * 48271 + 29 + (z + 1)) (show (0 : Int) < 2147483647 by decide)
    generalize hv : (y * 48271 + 29 + (z + 1)) % 2147483647 = v at b1 b2
    show tSeq _ _ _ _ (upd H st (.lst [.int x, .int ((y * 48271 + 29 + (z + 1)) % 2147483647), .int (z + 1)]))
    rw [hv]
    refine ⟨_, rfl, st, _, 1, _, rfl, rfl, rd upd_same, rfl, _, rfl, st, _, 1, _, rfl, rfl, rd upd_same, rfl, _, _, rfl, rfl, .inl ⟨by omega, by omega⟩, _, rfl, st, _, 1, _, rfl, rfl, rd upd_same, rfl, _, _, rfl, rfl, .inl ⟨by decide, by decide⟩, _, _, rfl, rfl, _, _, rfl, rfl, _, _, rfl, rfl, (by show (0 : Int) < 2147483629; decide), ?_⟩
    have c1 := Int.emod_nonneg (v * v + 39373 * v + 7) (show (2147483629 : Int) ≠ 0 by decide)
    have c2 := Int.emod_lt_of_pos (v * v + 39373 * v + 7) (show (0 : Int) < 2147483629 by decide)
    refine ⟨_, rfl, _, rfl, _, _, rfl, rfl, .inl ⟨by omega, by omega⟩, _, rfl, _, _, rfl, rfl, .inl ⟨by decide, by decide⟩, _, _, rfl, rfl, _, _, rfl, rfl, (by show (0 : Int) < 2147483587; decide), ?_⟩
    refine ⟨_, rfl, _, _, rfl, rfl, ⟨by decide, by decide⟩, _, rfl, _, _, rfl, rfl, h0, ?_⟩
    exact q _ _ (Int.emod_nonneg _ (by omega)) (Int.emod_lt_of_pos _ h0) (mv_upd ⟨hx, b1, by omega⟩)
end
section
open PySem.Spec PyProof.Rows LamX
theorem okC {P : Program} {w : World} {K : PySem.W.Frag} {mg : Str → Option Value} {base : Heap} {x qual : Str} {st : Stmt} {f c : Addr} {fd : FuncData} {N ps : List Str} {k : Nat} {sp : Sp} (F : Fun K x qual st f fd) (hc : fd.code = .ref c) (S : FnScope N ps (defScope st)) (len : ∀ vs H Q E, sp vs H Q E → vs.length = ps.length)
    (hbody : ∀ (A : Around) (outer : List Env) (s : Shared) (H : Hp) (vs : List V) (Q : VK) (E : XK), Room k (A.deeper (envOfC qual (defScope st) s.heap.objs.size f (.ref c))) → sp vs H Q E →
      ∃ t, PSs (cxOf CX0 P w K mg base N qual (defScope st) f (.ref c) A outer s H E).nox (defBody st) t ∧ t { nx := fun _ H' => Q .non H', rt := Q } (L2.start N vs) H) : FnOk P w K mg base CX0 (k + 1) f fd ps sp := by
  obtain ⟨oc, od, kV, doc, pm, an, cdv, ct, osl, rfl, lk, hcd⟩ := F.ex
  obtain rfl : cdv = .ref c := hc
  refine fn_of lk hcd S len fun A outer s H vs Q E hr hsp => ?_
  obtain ⟨t, h, q⟩ := hbody A outer s H vs Q E hr hsp
  exact ⟨t, h.nox, q⟩
mutual
theorem dp_ext {K : PySem.W.Frag} {H H' : Hp} (e : ExtN H H') : ∀ (d : PyData) (v : V), Dp K H v d → Dp K H' v d
  | .none, v, h => by cases h; exact .non
  | .bool b, v, h => by cases h; exact .bl b
  | .int i, v, h => by cases h; exact .int i
  | .str x, v, h => by cases h; exact .str x
  | .list es, v, h => by
    cases h with
    | lst at_ each =>
      refine .lst ?_ (dp_exts e es _ each)
      rcases at_ with (z | ⟨o, z⟩) | z
      · exact .inl (.inl (e _ _ z fun ps q => by cases q))
      · exact .inl (.inr ⟨o, e _ _ z fun ps q => by cases q⟩)
      · exact .inr z
  | .tuple es, v, h => by
    cases h with
    | tup at_ each =>
      refine .tup ?_ (dp_exts e es _ each)
      rcases at_ with (z | ⟨o, z⟩) | z
      · exact .inl (.inl (e _ _ z fun ps q => by cases q))
      · exact .inl (.inr ⟨o, e _ _ z fun ps q => by cases q⟩)
      · exact .inr z
  | .dict kvs, v, h => by
    cases h with
    | dct at_ => exact .dct (e _ _ at_ fun ps q => by cases q)
theorem dp_exts {K : PySem.W.Frag} {H H' : Hp} (e : ExtN H H') : ∀ (ds : List PyData) (vs : List V), DpAll K H vs ds → DpAll K H' vs ds
  | [], vs, h => by cases h; exact .nil
  | d :: ds, vs, h => by
    cases h with
    | cons one more => exact .cons (dp_ext e d _ one) (dp_exts e ds _ more)
end
theorem tabs_upd {T : List (Addr × Str)} {H : Hp} {fa : Addr} {l l' : List V} (t : Tabs T H) (h : H fa = some (.lst l)) : Tabs T (upd H fa (.lst l')) := by
  intro p hp
  obtain ⟨ps, h1, h2, h3⟩ := t p hp
  refine ⟨ps, ?_, h2, fun pos cv hc => ?_⟩
  · rw [upd_ne (show p.1 ≠ fa from fun z => by rw [z, h] at h1; cases h1)]
    exact h1
  · obtain ⟨c, e1, e2⟩ := h3 pos cv hc
    refine ⟨c, e1, ?_⟩
    rw [upd_ne (show c ≠ fa from fun z => by rw [z, h] at e2; cases e2)]
    exact e2
theorem ext_upd {H0 H : Hp} {fa : Addr} {o : HO} (e : ExtN H0 H) (h : ∀ u, H0 fa = some u → ∃ ps, u = .tbl ps) : ExtN H0 (upd H fa o) := fun b u hb n => by
  have nb : b ≠ fa := fun z => by
    rw [z] at hb
    obtain ⟨ps, q⟩ := h u hb
    exact n ps q
  rw [upd_ne nb]
  exact e b u hb n
theorem ext_lst {H H' : Hp} {p : Addr} {l : List V} (e : ExtN H H') (h : H p = some (.lst l)) : H' p = some (.lst l) := e _ _ h fun ps q => by cases q
theorem ext_same {H H' : Hp} (s : Same H H') : ExtN H H' := fun b o h _ => s b o h
end
/-! all(.. for ..) and any(.. for ..), whatever is walked, the element may call defs -/
section
open PySem.Spec PyProof.Rows
/-- the generator expression's own frame, woken from the frames of X -/
def gxCx (X : Cx) (A : Around) (s : Shared) (H : Hp) (ce : Env) (fp : List Addr) (pn : List (Addr × Obj)) : Cx where
  prog := X.prog
  w := X.w
  K := X.K
  mg := X.mg
  base := X.base
  A := A
  N := X.N
  s_0 := s
  H_0 := H
  env := ce
  outer := X.stack
  stack := ce :: X.stack
  ex := fp
  fn := fun _ => false
  calm := true
  pn := pn
  xe := fun _ _ => False
theorem inv_sh {X : Cx} {pins : List (Addr × Obj)} {σ : L2.St} {H : Hp} {s s' : Shared} (I : Inv X pins σ H s) (h1 : s'.heap = s.heap) (h2 : s'.os = s.os) (h3 : AllBare s'.gens) : Inv X pins σ H s' :=
  ⟨I.ok, h2.trans I.os, h3, by rw [h1]; exact I.base, by rw [h1]; exact I.loc, by rw [h1]; exact I.cell, I.free, I.freeC, by rw [h1]; exact I.pin, by rw [h1]; exact I.hok, I.len⟩
section
variable {X : Cx} {pins : List (Addr × Obj)} {σ : L2.St} {H : Hp} {s : Shared}
theorem gx_start {A : Around} {scope : Scope} {own : List (Str × Nat)} {fp : List Addr} {code : Value} {a : Addr} {go : Obj} {h5 : Heap} {g5 : Array GenState} {t5 : Nat} {m0 : Str → Option Value}
    (I : Inv X pins σ H s) (hN : X.N.Nodup) (ok : BlkOk X.N X.env.scope scope own) (nocell : ∀ y ∈ scope.names, y.2 ≠ .cell) (hA : A.handled = none)
    (hfr : A.frames = some (genEnv scope (cloFrom X.env.cells scope.names []) s.heap.objs.size code builtinsNs X.env :: X.stack)) (hfp : ∀ b ∈ fp, FpOk X pins H b ∧ b < s.heap.objs.size)
    (hns : h5.Ns s.heap.objs.size m0) (kp : ∀ b o, s.heap.get? b = some o → h5.get? b = some o) (hgo : h5.get? a = some go) (ha : s.heap.objs.size < a) (hgd : ∀ v, go.data ≠ .cell v) (hg : AllBare g5) :
    Inv (gxCx X A s H (genEnv scope (cloFrom X.env.cells scope.names []) s.heap.objs.size code builtinsNs X.env) fp [(a, go)]) [] (wipe σ (own.map (·.2))) H { s with heap := h5, gens := g5, toks := t5 } := by
  have cm : ∀ {y c}, (cloFrom X.env.cells scope.names []).lookup y = some c → X.env.cells.lookup y = some c := fun {y c} e => by
    rcases cloFrom_mem (PySem.mem_of_lookup e) with hm | ⟨h1, h2⟩
    · cases hm
    · have hy : ∃ c1, X.env.cells.lookup y = some c1 := by
        rcases ok.free _ h1 rfl with k | k
        · exact I.ok.has _ (.inl k)
        · exact I.ok.has _ (.inr k)
      obtain ⟨c1, hc⟩ := hy
      have e2 : c = c1 := by
        rw [h2, hc] <;> rfl
      rw [e2]
      exact hc
  have look : ∀ {y}, scope.names.lookup y = some .free → ∃ c, (cloFrom X.env.cells scope.names []).lookup y = some c := fun {y} hl =>
    mem_lookup (cloFrom_has (cells := X.env.cells) (acc := []) (PySem.mem_of_lookup hl : (y, NameKind.free) ∈ scope.names))
  have cellK : ∀ {c : Addr} {v : Option Value}, s.heap.IsCell c v → h5.IsCell c v := fun {c v} ⟨o, ho, hd⟩ => ⟨o, kp _ _ ho, hd⟩
  refine ⟨⟨I.ok.mod, ok.kind, I.ok.glob, rfl, Nat.le_refl _, fun y z c e1 e2 => I.ok.inj y z c (cm e1) (cm e2), fun y hy => ?_, fun y c z _ => ?_, fun _ => hA, hfr, .inr ⟨rfl, rfl⟩, fun b hb => ⟨?_, fun y c e => ?_⟩, I.bs, Nat.le_trans I.ok.bsz I.sz, fun b o e hb => ?_, fun b hb z => ?_, I.stack, I.stkFree⟩,
    rfl, hg, Un.kept kp, ⟨m0, hns, fun i y v e1 e2 e3 => ?_⟩, fun y c e => ?_, I.hok.fresh (Nat.le_refl _), fun y c e => I.freeC y c (cm e), fun p hp => ?_, I.hok.kept kp, ?_⟩
  · have hy : scope.names.lookup y = some .cell ∨ scope.names.lookup y = some .free := hy
    rcases hy with hy | hy
    · exact absurd rfl (nocell _ (PySem.mem_of_lookup hy))
    · exact look hy
  · have z : false = true := z
    cases z
  · exact Nat.ne_of_lt (hfp b hb).2
  · exact (hfp b hb).1.2.2.2.2.1 y c (cm e)
  · rcases (hfp b hb).1.2.2.2.1 with z | z
    · exact I.ok.noex b o e z
    · have h1 : b < X.base.objs.size := Heap.lt_size e
      exact absurd (Nat.lt_of_lt_of_le h1 (Nat.le_trans I.ok.bsz z)) (Nat.lt_irrefl _)
  · rcases List.mem_cons.mp (I.stkSub b z) with z | z
    · exact (hfp b hb).1.2.1 z
    · exact (hfp b hb).1.2.2.1 z
  · obtain ⟨e2, nv⟩ := wipe_some e2
    have e3 : Vis scope y := e3
    rcases e3 with k | k | k
    · rcases ok.own _ (PySem.mem_of_lookup k) (.inl rfl) with z | z
      · obtain ⟨p, hp, ep⟩ := List.mem_map.mp z
        have e4 := ok.ix p hp
        rw [show p.1 = y from ep] at e4
        exact absurd (List.mem_map.mpr ⟨p, hp, nodup_ix hN e4 e1⟩) nv
      · exact absurd (List.mem_of_getElem? e1) z
    · exact absurd rfl (nocell _ (PySem.mem_of_lookup k))
    · obtain ⟨m, hn, hl⟩ := I.loc
      have hvis : Vis X.env.scope y := (ok.free _ (PySem.mem_of_lookup k) rfl).elim (fun k => .inr (.inl k)) (fun k => .inr (.inr k))
      obtain ⟨u, r, q⟩ := hl i y v e1 e2 hvis
      obtain ⟨c2, h2⟩ := look k
      refine ⟨u, r, .inr ⟨.inr k, c2, h2, ?_⟩⟩
      have c1 := cm h2
      rcases q with ⟨k', _⟩ | ⟨_, c3, e', z⟩
      · have k' : X.env.scope.names.lookup y = some .local := k'
        rcases ok.free _ (PySem.mem_of_lookup k) rfl with k2 | k2 <;> rw [show X.env.scope.names.lookup y = _ from k2] at k' <;> cases k'
      · rw [c1] at e'
        cases e'
        exact cellK z
  · obtain ⟨u, z⟩ := I.cell y c (cm e)
    exact ⟨u, cellK z⟩
  · have hp : p ∈ [(a, go)] ++ [] := hp
    rw [List.append_nil] at hp
    rw [List.mem_singleton.mp hp]
    refine ⟨hgo, I.hok.fresh (Nat.le_of_lt ha), Nat.ne_of_gt ha, fun z => ?_, hgd⟩
    rcases List.mem_cons.mp (I.stkSub a z) with z | z
    · have h1 := I.lt
      rw [z] at ha
      exact absurd (Nat.lt_trans ha h1) (Nat.lt_irrefl _)
    · exact I.nofs (Nat.le_of_lt ha) z
  · rw [wipe_length]
    exact I.len
end
/-- what stands where the generator ends, and where it hands out a truth -/
def GxE (Z : Cx) (σ0 : L2.St) (Qe : Hp → Prop) : Nat → Shared → Shared → Prop := fun _ _ s1 => ∃ H, Inv Z [] σ0 H s1 ∧ Qe H
def GxY (Z : Cx) (e : Bool) (Qn : Hp → Prop) : Protocol := fun _ _ v s kap => ∃ (c : Bool) (H : Hp) (σ' : L2.St), v = .bool c ∧ Inv Z [] σ' H s ∧ (c = e → ∀ s' : Shared, s'.heap = s.heap → s'.os = s.os → AllBare s'.gens → kap (.send .none) s') ∧ (c ≠ e → Qn H)
abbrev gxTurn (J : It) (g : TG) (tt : TT) (te : TE) (vs : List Nat) (σ0 : L2.St) (e : Bool) (Qe Qn : Hp → Prop) (W : Nat → Nat → Hp → Prop) : Prop :=
  ∀ i m H, W i m H → (J.stop i H ∧ Qe H) ∨ (J.go i H ∧ ∃ Nx : Hp → Prop, (∀ H', Nx H' → ∃ m', m' < m ∧ W (i + 1) m' H') ∧ ∀ x H', J.yld i H x H' → g x σ0 H' fun σ2 H2 => wipe σ2 vs = σ0 ∧ tt σ2 H2 fun b H3 =>
    if b = true then te σ2 H3 fun y H4 => ∃ c, y = .bl c ∧ (c = e → Nx H4) ∧ (c ≠ e → Qn H4) else Nx H3)
section
variable {X : Cx} {A0 : Around} {s1 : Shared} {H1 : Hp} {ce : Env} {fp : List Addr} {pn : List (Addr × Obj)} {elt tg iter : Expr} {ifs : List Expr} {scope : Scope} {gpos : Pos} {it : Addr} {tn : Nat → Heap → Prop} {J : It} {g : TG} {tt : TT} {te : TE} {vs : List Nat} {σ0 : L2.St} {e : Bool} {Qe Qn : Hp → Prop} {W : Nat → Nat → Hp → Prop}
abbrev gxCode (elt tg iter : Expr) (ifs : List Expr) (scope : Scope) (gpos : Pos) (it : Addr) (ce : Env) : Code := .compLoop (.GeneratorExp elt [⟨tg, iter, ifs, 0⟩] scope gpos) 0 (.ref it) .none ce
abbrev gxZ (X : Cx) (A0 : Around) (s1 : Shared) (H1 : Hp) (ce : Env) (fp : List Addr) (pn : List (Addr × Obj)) (elt tg iter : Expr) (ifs : List Expr) (scope : Scope) (gpos : Pos) (it : Addr) : Cx := gxCx X (A0.over (gxCode elt tg iter ifs scope gpos it ce) []) s1 H1 ce fp pn
theorem gx_fp {Z : Cx} (hZ : Z = gxZ X A0 s1 H1 ce fp pn elt tg iter ifs scope gpos it) (hpn : ∀ p ∈ pn, p.1 ∉ fp) {σ' : L2.St} {H' : Hp} {s' : Shared} (I : Inv Z [] σ' H' s') (hn : ∀ b ∈ fp, H' b = none) : ∀ b ∈ fp, FpOk Z [] H' b := by
  subst hZ
  intro b hb
  refine ⟨hn b hb, (I.ok.exf b hb).1, I.ok.exfs b hb, .inl hb, fun x c e => (I.ok.exf b hb).2 x c e, fun p hp z => ?_⟩
  have hp : p ∈ pn := by
    rcases List.mem_append.mp hp with hp | hp
    · exact hp
    · cases hp
  exact hpn p hp (by rw [z]; exact hb)
theorem seg_gx {Z : Cx} (hZ : Z = gxZ X A0 s1 H1 ce fp pn elt tg iter ifs scope gpos it) (hpn : ∀ p ∈ pn, p.1 ∉ fp) (hco : ce.scope.isCoroutine = false) (T : Turn X.prog X.w X.K tg J fp it tn) (pg : PG Z tg g) (pt : PTs Z ifs tt) (pe : PE Z elt te) (turn : gxTurn J g tt te vs σ0 e Qe Qn W) :
    ∀ (m i n : Nat) (s₀ s : Shared) (H : Hp), m < n → W i m H → Inv Z [] σ0 H s → tn i s.heap → (∀ b ∈ fp, H b = none) →
      Seg (model X.prog X.w) A0 (fun n s₀ r s1 => r = .ok .next ∧ GxE Z σ0 Qe n s₀ s1) (GxY Z e Qn) n s₀ (gxCode elt tg iter ifs scope gpos it ce) ((model X.prog X.w).den (gxCode elt tg iter ifs scope gpos it ce)) [] s := by
  intro m
  induction m using Nat.strongRecOn with
  | ind m ih =>
    intro i n s₀ s H hmn w0 I st nf
    have fpo := gx_fp hZ hpn I nf
    show Seg _ A0 _ _ _ s₀ _ ((compTurn (.GeneratorExp elt [⟨tg, iter, ifs, 0⟩] scope gpos) 0 (.ref it) .none ce).onRaise (leaving ce)) [] s
    rw [compTurn_gen, Sem.onRaise_eq_wrap]
    refine seg_bind_wrap (wpAny_standAt ?_)
    rcases turn i m H w0 with ⟨stop, qe⟩ | ⟨go, Nx, hNx, step⟩
    · have td := T.done Z (by rw [hZ]; rfl) (by rw [hZ]; rfl) (by rw [hZ]; rfl) (by rw [hZ]; rfl) i [] s σ0 H (fun _ _ => False) I fpo st stop
      have hA : Z.A = A0.over (gxCode elt tg iter ifs scope gpos it ce) [] := by rw [hZ]; rfl
      rw [hA] at td
      refine seg_bind_wrap (wpAny_mono td (fun r s2 hr => ?_) fun _ _ z => z.elim)
      obtain ⟨rfl, I2⟩ := hr
      exact seg_end (.ok .next) ⟨rfl, H, I2, qe⟩
    · have hA : Z.A = A0.over (gxCode elt tg iter ifs scope gpos it ce) [] := by rw [hZ]; rfl
      have hE : Z.env = ce := by rw [hZ]; rfl
      have hPr : Z.prog = X.prog := by rw [hZ]; rfl
      have hWd : Z.w = X.w := by rw [hZ]; rfl
      have hXe : Z.xe = fun _ _ => False := by rw [hZ]; rfl
      have ti := T.item Z hPr hWd (by rw [hZ]; rfl) (by rw [hZ]; rfl) i [] s σ0 H (fun _ _ => False) I fpo st go
      rw [hA] at ti
      refine seg_bind_wrap (wpAny_mono ti (fun r s2 hr => ?_) fun _ _ z => z.elim)
      obtain ⟨u, rfl, ti⟩ := hr
      refine seg_bind_wrap (wpAny_mono ti (fun _ s7 h7 => ?_) fun _ _ z => z.elim)
      obtain ⟨x, H7, I7, r7, y7, st7, n7⟩ := h7
      have I7' := I7.pinned (gx_fp hZ hpn I7 n7) (T.obj _ _ st7)
      have ta := pg.run _ s7 _ H7 x u _ I7' r7 (step x H7 y7)
      rw [hPr, hWd, hA, hE, hXe] at ta
      refine seg_bind_wrap (wpAny_mono ta (fun _ s8 h8 => ?_) fun _ _ z => z.elim)
      obtain ⟨σ8, H8, I8, hw8, q8⟩ := h8
      have tt' := pt.run _ s8 σ8 H8 _ I8 q8
      rw [hPr, hWd, hA, hE, hXe] at tt'
      refine seg_bind_wrap (wpAny_mono tt' (fun b s9 h9 => ?_) fun _ _ z => z.elim)
      obtain ⟨H9, I9, q9⟩ := h9
      -- what stands at the next turn
      have next : ∀ {sn s' : Shared} {H' : Hp}, Inv Z ([] ++ pinsAt fp s7.heap) σ8 H' sn → s'.heap = sn.heap → s'.os = sn.os → AllBare s'.gens → Inv Z [] σ0 H' s' ∧ tn (i + 1) s'.heap ∧ ∀ b ∈ fp, H' b = none := fun {sn s' H'} I' e1 e2 e3 => by
        have pin' : ∀ b ∈ fp, ∀ o, s7.heap.get? b = some o → sn.heap.get? b = some o ∧ H' b = none := fun b hb o eo =>
          let z := I'.pin (b, o) (List.mem_append_right _ (List.mem_append_right _ (mem_pinsAt hb eo)))
          ⟨z.1, z.2.1⟩
        have hl : σ0.length = σ8.length := by rw [← hw8, wipe_length]
        have I'' : Inv Z [] σ0 H' sn := (I'.unpinned (pins := [])).weak hl fun j v ev => by
          rw [← hw8] at ev
          exact (wipe_some ev).1
        refine ⟨inv_sh I'' e1 e2 e3, ?_, fun b hb => ?_⟩
        · rw [e1]
          exact T.keep _ _ _ st7 fun b hb o eo => (pin' b hb o eo).1
        · obtain ⟨o, eo, _⟩ := T.obj _ _ st7 b hb
          exact (pin' b hb o eo).2
      cases b with
      | false =>
        simp only [Bool.false_eq_true, if_false] at q9 ⊢
        obtain ⟨m', hm, w'⟩ := hNx _ q9
        obtain ⟨J1, J2, J3⟩ := next I9 rfl rfl I9.bare
        exact seg_again rfl (ih m' hm (i + 1) n s₀ s9 H9 (by omega) w' J1 J2 J3)
      | true =>
        simp only [if_true] at q9 ⊢
        have out : ∀ v, yieldOut ce v = yieldValue v := fun v => by simp only [yieldOut, hco, Bool.false_eq_true, if_false]
        simp only [out]
        rw [Sem.bind_eq_wrap', Sem.bind_eq_wrap']; rw [Sem.wrap_wrap, Sem.wrap_wrap]
        have tel := pe.run _ s9 σ8 H9 _ I9 q9
        rw [hPr, hWd, hA, hE, hXe] at tel
        refine seg_wrap (wpAny_mono tel (fun y s10 h10 => ?_) fun _ _ z => z.elim)
        obtain ⟨yv, H10, I10, r10, cb, rfl, qn, qx⟩ := h10
        obtain rfl : y = Value.bool cb := r10
        obtain ⟨n', rfl⟩ : ∃ n', n = n' + 1 := ⟨n - 1, by omega⟩
        refine seg_at (seg_yield rfl rfl rfl ⟨cb, H10, σ8, rfl, I10.unpinned, fun hc s' e1 e2 e3 => ?_, qx⟩)
        obtain ⟨m', hm, w'⟩ := hNx _ (qn hc)
        obtain ⟨J1, J2, J3⟩ := next I10 e1 e2 e3
        exact seg_again rfl (ih m' hm (i + 1) n' s' s' H10 (by omega) w' J1 J2 J3)
/-- its begin -/
theorem seg_gx0 {Z : Cx} (hZ : Z = gxZ X A0 s1 H1 ce fp pn elt tg iter ifs scope gpos it) (hpn : ∀ p ∈ pn, p.1 ∉ fp) (hco : ce.scope.isCoroutine = false) (T : Turn X.prog X.w X.K tg J fp it tn) (pg : PG Z tg g) (pt : PTs Z ifs tt) (pe : PE Z elt te) (turn : gxTurn J g tt te vs σ0 e Qe Qn W)
    {m n : Nat} {s₀ s : Shared} {H : Hp} (hmn : m < n) (w0 : W 0 m H) (I : Inv Z [] σ0 H s) (st : tn 0 s.heap) (nf : ∀ b ∈ fp, H b = none) :
    Seg (model X.prog X.w) A0 (fun n s₀ r s1 => r = .ok .next ∧ GxE Z σ0 Qe n s₀ s1) (GxY Z e Qn) n s₀ (.compStart (.GeneratorExp elt [⟨tg, iter, ifs, 0⟩] scope gpos) 0 (.ref it) .none ce) ((model X.prog X.w).den (.compStart (.GeneratorExp elt [⟨tg, iter, ifs, 0⟩] scope gpos) 0 (.ref it) .none ce)) [] s := by
  have loop := seg_gx hZ hpn hco T pg pt pe turn m 0 n s₀ s H hmn w0 I st nf
  show Seg _ A0 _ _ _ s₀ _ ((compStart (.GeneratorExp elt [⟨tg, iter, ifs, 0⟩] scope gpos) 0 (.ref it) .none ce).onRaise (leaving ce)) [] s
  unfold compStart
  rw [Sem.onRaise_eq_wrap]
  show Seg _ A0 _ _ _ s₀ _ ((ask >>= _).wrap _ _ _ _) [] s
  refine seg_bind_wrap (wpAny_askSetting ?_)
  split
  · exact seg_again rfl loop
  · refine seg_bind_wrap (wpAny_rule ?_)
    show Seg _ A0 _ _ _ s₀ _ ((standAt iter.pos >>= _).wrap _ _ _ _) [] s
    exact seg_bind_wrap (wpAny_standAt (seg_bind_wrap (T.self _ 0 s _ _ st (seg_again rfl loop))))
end
theorem un_kept {fs ex : List Addr} {H H' : Hp} {h h1 h2 : Heap} (u : Un fs ex H H' h h1) (k : ∀ b o, h1.get? b = some o → h2.get? b = some o) : Un fs ex H H' h h2 := u.trans (Un.kept k)
/-- all, over it -/
theorem gx_all {Z : Cx} {A : Around} {a : Addr} {g : Nat} {σ0 : L2.St} {Qe Qn : Hp → Prop} {R : Result → Shared → Prop} (hh : A.handled = none) (hd : A.depth < recursionLimit) (isG : ∀ {σ' : L2.St} {H' : Hp} {s' : Shared}, Inv Z [] σ' H' s' → s'.heap.IsGen a g)
    (hE : ∀ (s' : Shared) (H' : Hp), s'.os = Z.s_0.os → AllBare s'.gens → Un Z.fs Z.ex Z.H_0 H' Z.s_0.heap s'.heap → HOk Z.prog Z.w H' s'.heap → Qe H' → R (.ok (.ret (.bool true))) s')
    (hN : ∀ (s' : Shared) (H' : Hp), s'.os = Z.s_0.os → AllBare s'.gens → Un Z.fs Z.ex Z.H_0 H' Z.s_0.heap s'.heap → HOk Z.prog Z.w H' s'.heap → Qn H' → R (.ok (.ret (.bool false))) s') :
    ∀ (m : Nat) (s : Shared), s.heap.IsGen a g → s.heap.NoLimit → (∃ gs, s.gens[g]? = some gs ∧ gs.Goes (model Z.prog Z.w) A.in1.in1 (fun n s₀ r s1 => r = .ok .next ∧ GxE Z σ0 Qe n s₀ s1) (GxY Z true Qn) m (.send .none) (s.setGen g .running)) →
      codeAny (model Z.prog Z.w) A (.builtin "all.loop" ⟨[.ref a], []⟩) R s := by
  intro m
  induction m with
  | zero =>
    intro s hg hl ⟨gs, hgs, goes⟩
    refine codeAny_builtin F.entry_all_loop ?_
    rw [Around.under_plainId F.plain_all_loop _]
    show wpAny _ A.in1 (pyNext (.ref a) >>= _) _ _ s
    refine wpAny_bind (wpAny_pyNext_genexpQ (A := A.in1) hh hl hd hg hgs goes (fun v s1 gs' hbare hv => ?_) (fun s1 hp h' hk => ?_))
    · obtain ⟨c, H', σ', rfl, I, more, last⟩ := hv
      have b1 := allBare_setGen (g := g) I.bare hbare
      refine wpAny_bind (wpAny_holding (wpAny_truthy_bool (wpAny_bind (wpAny_letGo ?_))))
      cases c with
      | true => exact False.elim (more rfl s1 rfl rfl I.bare)
      | false =>
        simp only [Bool.false_eq_true, if_false]
        exact wpAny_bind (wpAny_rule (wpAny_pure (hN _ H' I.os b1 I.base I.hok (last (by decide)))))
    · obtain ⟨H', I, q⟩ := hp
      exact wpAny_bind (wpAny_rule (wpAny_pure (hE _ H' I.os (allBare_setGen I.bare rfl) (un_kept I.base hk) (I.hok.kept hk) q)))
  | succ m ih =>
    intro s hg hl ⟨gs, hgs, goes⟩
    have hgl : g < s.gens.size := (Array.getElem?_eq_some_iff.mp hgs).1
    refine codeAny_builtin F.entry_all_loop ?_
    rw [Around.under_plainId F.plain_all_loop _]
    show wpAny _ A.in1 (pyNext (.ref a) >>= _) _ _ s
    refine wpAny_bind (GenW.wpAny_gsz (n := g + 1) hgl (wpAny_pyNext_genexpQ (A := A.in1) hh hl hd hg hgs goes (fun v s1 gs' hbare hv => ?_) (fun s1 hp h' hk => ?_)))
    · intro hsz
      obtain ⟨c, H', σ', rfl, I, more, last⟩ := hv
      have b1 := allBare_setGen (g := g) I.bare hbare
      refine wpAny_bind (wpAny_holding (wpAny_truthy_bool (wpAny_bind (wpAny_letGo ?_))))
      cases c with
      | true =>
        simp only [if_true]
        have hsz1 : g < s1.gens.size := by
          have q : (s1.setGen g gs').gens.size = s1.gens.size := GenW.setGen_size _ _ _
          have hsz' : g + 1 ≤ (s1.setGen g gs').gens.size := hsz
          omega
        refine wpAny_pure ⟨plainId_quiet F.plain_all_loop _, ih (s1.setGen g gs') (isG (s' := s1) I) I.nolimit ⟨gs', setGen_at hsz1, ?_⟩⟩
        exact more rfl _ rfl rfl (allBare_setGen (s := s1.setGen g gs') b1 rfl)
      | false =>
        simp only [Bool.false_eq_true, if_false]
        exact wpAny_bind (wpAny_rule (wpAny_pure (hN _ H' I.os b1 I.base I.hok (last (by decide)))))
    · intro hsz
      obtain ⟨H', I, q⟩ := hp
      exact wpAny_bind (wpAny_rule (wpAny_pure (hE _ H' I.os (allBare_setGen I.bare rfl) (un_kept I.base hk) (I.hok.kept hk) q)))
/-- any, over it -/
theorem gx_any {Z : Cx} {A : Around} {a : Addr} {g : Nat} {σ0 : L2.St} {Qe Qn : Hp → Prop} {R : Result → Shared → Prop} (hh : A.handled = none) (hd : A.depth < recursionLimit) (isG : ∀ {σ' : L2.St} {H' : Hp} {s' : Shared}, Inv Z [] σ' H' s' → s'.heap.IsGen a g)
    (hE : ∀ (s' : Shared) (H' : Hp), s'.os = Z.s_0.os → AllBare s'.gens → Un Z.fs Z.ex Z.H_0 H' Z.s_0.heap s'.heap → HOk Z.prog Z.w H' s'.heap → Qe H' → R (.ok (.ret (.bool false))) s')
    (hN : ∀ (s' : Shared) (H' : Hp), s'.os = Z.s_0.os → AllBare s'.gens → Un Z.fs Z.ex Z.H_0 H' Z.s_0.heap s'.heap → HOk Z.prog Z.w H' s'.heap → Qn H' → R (.ok (.ret (.bool true))) s') :
    ∀ (m : Nat) (s : Shared), s.heap.IsGen a g → s.heap.NoLimit → (∃ gs, s.gens[g]? = some gs ∧ gs.Goes (model Z.prog Z.w) A.in1.in1 (fun n s₀ r s1 => r = .ok .next ∧ GxE Z σ0 Qe n s₀ s1) (GxY Z false Qn) m (.send .none) (s.setGen g .running)) →
      codeAny (model Z.prog Z.w) A (.builtin "any.loop" ⟨[.ref a], []⟩) R s := by
  intro m
  induction m with
  | zero =>
    intro s hg hl ⟨gs, hgs, goes⟩
    refine codeAny_builtin F.entry_any_loop ?_
    rw [Around.under_plainId F.plain_any_loop _]
    show wpAny _ A.in1 (pyNext (.ref a) >>= _) _ _ s
    refine wpAny_bind (wpAny_pyNext_genexpQ (A := A.in1) hh hl hd hg hgs goes (fun v s1 gs' hbare hv => ?_) (fun s1 hp h' hk => ?_))
    · obtain ⟨c, H', σ', rfl, I, more, last⟩ := hv
      have b1 := allBare_setGen (g := g) I.bare hbare
      refine wpAny_bind (wpAny_holding (wpAny_truthy_bool (wpAny_bind (wpAny_letGo ?_))))
      cases c with
      | false => exact False.elim (more rfl s1 rfl rfl I.bare)
      | true =>
        simp only [if_true]
        exact wpAny_bind (wpAny_rule (wpAny_pure (hN _ H' I.os b1 I.base I.hok (last (by decide)))))
    · obtain ⟨H', I, q⟩ := hp
      exact wpAny_bind (wpAny_rule (wpAny_pure (hE _ H' I.os (allBare_setGen I.bare rfl) (un_kept I.base hk) (I.hok.kept hk) q)))
  | succ m ih =>
    intro s hg hl ⟨gs, hgs, goes⟩
    have hgl : g < s.gens.size := (Array.getElem?_eq_some_iff.mp hgs).1
    refine codeAny_builtin F.entry_any_loop ?_
    rw [Around.under_plainId F.plain_any_loop _]
    show wpAny _ A.in1 (pyNext (.ref a) >>= _) _ _ s
    refine wpAny_bind (GenW.wpAny_gsz (n := g + 1) hgl (wpAny_pyNext_genexpQ (A := A.in1) hh hl hd hg hgs goes (fun v s1 gs' hbare hv => ?_) (fun s1 hp h' hk => ?_)))
    · intro hsz
      obtain ⟨c, H', σ', rfl, I, more, last⟩ := hv
      have b1 := allBare_setGen (g := g) I.bare hbare
      refine wpAny_bind (wpAny_holding (wpAny_truthy_bool (wpAny_bind (wpAny_letGo ?_))))
      cases c with
      | false =>
        simp only [Bool.false_eq_true, if_false]
        have hsz1 : g < s1.gens.size := by
          have q : (s1.setGen g gs').gens.size = s1.gens.size := GenW.setGen_size _ _ _
          have hsz' : g + 1 ≤ (s1.setGen g gs').gens.size := hsz
          omega
        refine wpAny_pure ⟨plainId_quiet F.plain_any_loop _, ih (s1.setGen g gs') (isG (s' := s1) I) I.nolimit ⟨gs', setGen_at hsz1, ?_⟩⟩
        exact more rfl _ rfl rfl (allBare_setGen (s := s1.setGen g gs') b1 rfl)
      | true =>
        simp only [if_true]
        exact wpAny_bind (wpAny_rule (wpAny_pure (hN _ H' I.os b1 I.base I.hok (last (by decide)))))
    · intro hsz
      obtain ⟨H', I, q⟩ := hp
      exact wpAny_bind (wpAny_rule (wpAny_pure (hE _ H' I.os (allBare_setGen I.bare rfl) (un_kept I.base hk) (I.hok.kept hk) q)))
/-- the generator stands ready to be walked -/
def GxReady (X : Cx) (pins : List (Addr × Obj)) (σ : L2.St) (e : Bool) (Qe Qn : Hp → Prop) (a : Addr) (s5 : Shared) : Prop :=
  ∃ (g m : Nat) (Z : Cx) (σ0 : L2.St), Z.prog = X.prog ∧ Z.w = X.w ∧ s5.heap.IsGen a g ∧ s5.heap.NoLimit ∧ (∀ {σ' : L2.St} {H' : Hp} {s' : Shared}, Inv Z [] σ' H' s' → s'.heap.IsGen a g) ∧
    (∃ gs, s5.gens[g]? = some gs ∧ gs.Goes (model Z.prog Z.w) X.A.in1.in1 (fun n s₀ r s1 => r = .ok .next ∧ GxE Z σ0 Qe n s₀ s1) (GxY Z e Qn) m (.send .none) (s5.setGen g .running)) ∧
    ∀ (s' : Shared) (H' : Hp), s'.os = Z.s_0.os → AllBare s'.gens → Un Z.fs Z.ex Z.H_0 H' Z.s_0.heap s'.heap → HOk Z.prog Z.w H' s'.heap → Inv X pins σ H' s'
theorem gx_room {A : Around} {k : Nat} {elt tg iter : Expr} {ifs : List Expr} {scope : Scope} {gpos : Pos} {it : Addr} {ce : Env} (r : Room (k + 1) A) : Room k (A.in1.in1.over (gxCode elt tg iter ifs scope gpos it ce) []) :=
  ⟨r.hd, by have := r.dp; show A.depth + 1 + 3 * k + 5 < _; omega, by have := r.un; show A.units + 1 + 1 + 3 + 16 * k + 200 < _; omega⟩
theorem gx_frames {A : Around} {st : List Env} {elt tg iter : Expr} {ifs : List Expr} {scope : Scope} {gpos : Pos} {it : Addr} {ce : Env} (h : A.frames = some st) : (A.in1.in1.over (gxCode elt tg iter ifs scope gpos it ce) []).frames = some (ce :: st) := by
  obtain ⟨hd, d, fr, gs, u⟩ := A
  obtain rfl : fr = some st := h
  rfl
abbrev tQuant (P : Addr) (wi : TI) (g : TG) (tt : TT) (te : TE) (vs : List Nat) (e : Bool) : TE := fun σ H Q => wi σ H fun J H1 => GxR.TabG H1 P ∧ ∀ H2, GxR.Tabbed P H1 H2 → ∃ W : Nat → Nat → Hp → Prop, (∃ m, W 0 m H2) ∧ gxTurn J g tt te vs (wipe σ vs) e (fun H => Q (.bl e) H) (fun H => Q (.bl (!e)) H) W
theorem gx_eval {X : Cx} {pins : List (Addr × Obj)} {σ : L2.St} {H : Hp} {s : Shared} {c P : Addr} {elt tg iter : Expr} {ifs : List Expr} {scope : Scope} {own : List (Str × Nat)} {gpos : Pos} {wi : TI} {g : TG} {tt : TT} {te : TE} {e : Bool} {k : Nat} {Q : VK} {Q' : Value → Shared → Prop}
    (hN : X.N.Nodup) (hr : Room (k + 1) X.A) (TB : LamX.TabB X.base X.mg c P) (hcode : X.env.code = .ref c) (ok : BlkOk X.N X.env.scope scope own) (nocell : ∀ y ∈ scope.names, y.2 ≠ .cell) (hco : scope.isCoroutine = false) (dot : scope.names.lookup (".0" : Str) = some NameKind.local)
    (hi : PI X tg iter wi)
    (hg : ∀ (A : Around) (s : Shared) (H : Hp) (cl : List (Str × Addr)) (C : Addr) (code : Value) (bi : Addr) (fp : List Addr) (pn : List (Addr × Obj)), Room k A → PG (gxCx X A s H (genEnv scope cl C code bi X.env) fp pn) tg g)
    (ht : ∀ (A : Around) (s : Shared) (H : Hp) (cl : List (Str × Addr)) (C : Addr) (code : Value) (bi : Addr) (fp : List Addr) (pn : List (Addr × Obj)), Room k A → PTs (gxCx X A s H (genEnv scope cl C code bi X.env) fp pn) ifs tt)
    (he : ∀ (A : Around) (s : Shared) (H : Hp) (cl : List (Str × Addr)) (C : Addr) (code : Value) (bi : Addr) (fp : List Addr) (pn : List (Addr × Obj)), Room k A → PE (gxCx X A s H (genEnv scope cl C code bi X.env) fp pn) elt te)
    (hs : ∀ v, genFold iter X.env v = pure v) (I : Inv X pins σ H s) (h : tQuant P wi g tt te (own.map (·.2)) e σ H Q)
    (hQ : ∀ a s5, GxReady X pins σ e (fun H => Q (.bl e) H) (fun H => Q (.bl (!e)) H) a s5 → Q' (.ref a) s5) :
    wpAny (model X.prog X.w) X.A (eval (.GeneratorExp elt [⟨tg, iter, ifs, 0⟩] scope gpos) X.env) Q' X.xe s := by
  have hfree : ∀ y ∈ scope.names, y.2 = .free → ∃ c, X.env.cells.lookup y.1 = some c := fun y hy ey => by
    rcases ok.free y hy ey with z | z
    · exact I.ok.has _ (.inl z)
    · exact I.ok.has _ (.inr z)
  refine wpAny_GeneratorExp_make hco (closure_ok hfree) nocell dot ok.kind hr.depth ?_ hs
  refine thn (hi.run pins s σ H _ I h) fun xv s1 hx => thn hx fun itv s2 h2 => ?_
  obtain ⟨it, fp, tn, J, H2, rfl, I2, T, st2, f2, ⟨ps, hP, tro⟩, q⟩ := h2
  refine ⟨I2.nolimit, ?_⟩
  have hPs : s2.heap.get? P = some { cls := .none, data := .fields ps } := I2.hok P _ hP
  have cd : PySem.W.CodeHd s2.heap c P := TB.code.keeps fun b u z => I2.bk b u z
  have szf : ∀ b ∈ fp, b < s2.heap.objs.size := fun b hb => by
    obtain ⟨o, eo, _⟩ := T.obj _ _ st2 b hb
    exact Heap.lt_size eo
  -- behind the code object
  have cont : ∀ (code : Value) (h3 : Heap) (tk : Nat) (ps' : Array Value), Heap.ExtBut P s2.heap h3 → s2.heap.objs.size ≤ h3.objs.size → h3.get? P = some { cls := .none, data := .fields ps' } → (∃ more, ps' = ps ++ more) → TriplesOk ps'.toList →
      wpAny (model X.prog X.w) X.A (builtinsFor X.env.globals X.env.builtins) (fun bi s4 => ∀ h', h'.Ns s4.heap.objs.size (fun y => if y = ".0" then some (.ref it) else none) → Heap.SameBut s4.heap.objs.size (s4.heap.push { cls := .type "frame", data := .dict #[] }) h' →
        Q' (.ref h'.objs.size) { s4 with
          gens := s4.gens.push (.fresh (.compStart (.GeneratorExp elt [⟨tg, iter, ifs, 0⟩] scope gpos) 0 (.ref it) .none (genEnv scope (cloFrom X.env.cells scope.names []) s4.heap.objs.size code bi X.env)))
          toks := s4.toks + 1 + 1 + 1
          heap := h'.push { cls := .type "generator", data := .fields #[.int s4.gens.size 0, .str "<genexpr>" (s4.toks + 1), .str (X.env.qual ++ "<genexpr>") (s4.toks + 1 + 1)] } }) X.xe { s2 with heap := h3, toks := tk } := by
    intro code h3 tk ps' hx hsz hP3 ⟨more, em⟩ tro'
    obtain ⟨bm, ob, e1, e2, e3, e4, e5, e6, e7, e8⟩ := TB.bm
    have keep3 : ∀ b u, b ≠ P → s2.heap.get? b = some u → h3.get? b = some u := fun b u hb z => hx b u hb z
    refine wpAny_builtinsFor (m := X.mg) (by rw [I2.ok.glob]; exact (I2.mod.glob.keeps I2.bk).extBut hx TB.gP) e1 e2 (keep3 _ _ e4 (I2.bk _ _ e5)) e6 e7 e8 ?_
    intro h' hns hsame
    have J4 := GxR.inv_tab (more := more) (h' := h3) (g' := s2.gens) (d' := s2.drawn) (t' := tk) I2 hP keep3 (by rw [← em]; exact hP3) I2.bare
    have tabbed : GxR.Tabbed P H2 (upd H2 P (.tbl (ps ++ more))) := ⟨⟨ps ++ more, upd_same, by rw [← em]; exact tro'⟩, fun b hb => upd_ne hb⟩
    obtain ⟨W, ⟨m0, w0⟩, turn⟩ := q _ tabbed
    have hsz' : h'.objs.size = h3.objs.size + 1 := by rw [hsame.1, Heap.size_push]
    have kp5 : ∀ (go : Obj) b o, h3.get? b = some o → (h'.push go).get? b = some o := fun go b o eo => Heap.get?_push_of_some _ (hsame.extBut b o (Nat.ne_of_lt (Heap.lt_size eo)) (Heap.get?_push_of_some _ eo))
    have fpP : ∀ b ∈ fp, b ≠ P := fun b hb z => by
      have := (f2 b hb).1
      rw [z, hP] at this
      cases this
    have nf : ∀ b ∈ fp, upd H2 P (.tbl (ps ++ more)) b = none := fun b hb => by rw [upd_ne (fpP b hb)]; exact (f2 b hb).1
    have f3 : ∀ b ∈ fp, FpOk X pins (upd H2 P (.tbl (ps ++ more))) b ∧ b < h3.objs.size := fun b hb => ⟨⟨nf b hb, (f2 b hb).2⟩, Nat.lt_of_lt_of_le (szf b hb) hsz⟩
    refine hQ _ _ ?_
    show GxReady X pins σ e _ _ h'.objs.size { s2 with
      gens := s2.gens.push (.fresh (.compStart (.GeneratorExp elt [⟨tg, iter, ifs, 0⟩] scope gpos) 0 (.ref it) .none (genEnv scope (cloFrom X.env.cells scope.names []) h3.objs.size code builtinsNs X.env)))
      toks := tk + 1 + 1 + 1
      heap := h'.push { cls := .type "generator", data := .fields #[.int s2.gens.size 0, .str "<genexpr>" (tk + 1), .str (X.env.qual ++ "<genexpr>") (tk + 1 + 1)] } }
    generalize hgo : ({ cls := .type "generator", data := .fields #[.int s2.gens.size 0, .str "<genexpr>" (tk + 1), .str (X.env.qual ++ "<genexpr>") (tk + 1 + 1)] } : Obj) = go
    have goC : go.cls = .type "generator" := by rw [← hgo]
    have goD : go.data = .fields #[.int s2.gens.size 0, .str "<genexpr>" (tk + 1), .str (X.env.qual ++ "<genexpr>") (tk + 1 + 1)] := by rw [← hgo]
    have goS : go.slots = #[] := by rw [← hgo]
    have at5 : (h'.push go).get? h'.objs.size = some go := by rw [← hgo]; exact Heap.get?_push_size _ rfl
    have isG : ∀ h : Heap, h.get? h'.objs.size = some go → h.IsGen h'.objs.size s2.gens.size := fun h eo => ⟨go, _, _, eo, goC, goD, goS⟩
    generalize hst : GenState.fresh (.compStart (.GeneratorExp elt [⟨tg, iter, ifs, 0⟩] scope gpos) 0 (.ref it) .none (genEnv scope (cloFrom X.env.cells scope.names []) h3.objs.size code builtinsNs X.env)) = fr
    have bare5 : AllBare (s2.gens.push fr) := I2.bare.push (by rw [← hst]; rfl)
    have rm := gx_room (elt := elt) (tg := tg) (iter := iter) (ifs := ifs) (scope := scope) (gpos := gpos) (it := it) (ce := genEnv scope (cloFrom X.env.cells scope.names []) h3.objs.size code builtinsNs X.env) hr
    obtain ⟨ce, hce⟩ : ∃ ce, ce = genEnv scope (cloFrom X.env.cells scope.names []) h3.objs.size code builtinsNs X.env := ⟨_, rfl⟩
    obtain ⟨s4, hs4⟩ : ∃ s4 : Shared, s4 = { s2 with heap := h3, gens := s2.gens, drawn := s2.drawn, toks := tk } := ⟨_, rfl⟩
    obtain ⟨H4, hH4⟩ : ∃ H4, H4 = upd H2 P (.tbl (ps ++ more)) := ⟨_, rfl⟩
    obtain ⟨Z, hZ⟩ : ∃ Z, Z = gxZ X X.A.in1.in1 s4 H4 ce fp [(h'.objs.size, go)] elt tg iter ifs scope gpos it := ⟨_, rfl⟩
    have J4' : Inv X pins σ H4 s4 := by rw [hs4, hH4]; exact J4
    have Z0 : Inv Z [] (wipe σ (own.map (·.2))) H4 { s2 with heap := h'.push go, gens := s2.gens.push fr, toks := tk + 1 + 1 + 1 } := by
      rw [hZ, hs4, hH4, hce]
      exact gx_start (A := X.A.in1.in1.over (gxCode elt tg iter ifs scope gpos it (genEnv scope (cloFrom X.env.cells scope.names []) h3.objs.size code builtinsNs X.env)) []) (a := h'.objs.size) (go := go) (h5 := h'.push go) (g5 := s2.gens.push fr) (t5 := tk + 1 + 1 + 1) (code := code) J4 hN ok nocell rm.hd (gx_frames J4.ok.frames) f3 (hns.push _) (kp5 go) at5 (by show h3.objs.size < _; omega) (fun v z => by rw [goD] at z; cases z) bare5
    rw [← hH4] at w0
    refine ⟨s2.gens.size, m0 + 1, Z, wipe σ (own.map (·.2)), by rw [hZ]; rfl, by rw [hZ]; rfl, isG _ at5, Z0.nolimit, fun {σ' H' s'} IZ => ?_, ⟨fr, Array.getElem?_push_size .., ?_⟩, fun s' H' os bare un hok => ?_⟩
    · refine isG _ (IZ.pin (h'.objs.size, go) (List.mem_append_left _ ?_)).1
      rw [hZ]
      exact List.mem_cons_self
    · rw [← hst, show Z.prog = X.prog by rw [hZ]; rfl, show Z.w = X.w by rw [hZ]; rfl, ← hce]
      refine ⟨rfl, seg_gx0 (H := H4) hZ (fun p hp z => ?_) (by rw [hce]; exact hco) T (by rw [hZ, hce]; exact hg _ _ _ _ _ _ _ _ _ rm) (by rw [hZ, hce]; exact ht _ _ _ _ _ _ _ _ _ rm) (by rw [hZ, hce]; exact he _ _ _ _ _ _ _ _ _ rm) turn (Nat.lt_succ_self _) w0 (inv_sh Z0 rfl rfl (allBare_setGen (by show AllBare (s2.gens.push _); rw [hce, hst]; exact bare5) rfl)) ?_ fun b hb => by rw [hH4]; exact nf b hb⟩
      · rw [List.mem_singleton.mp hp] at z
        have z1 := (f3 _ z).2
        have z2 : h'.objs.size < h3.objs.size := z1
        omega
      · exact T.keep _ _ _ st2 fun b hb o eo => kp5 go b o (keep3 b o (fpP b hb) eo)
    · refine J4'.call' (ch := fp) ?_ ?_ ?_ bare fun b hb => ?_
      · rw [os, hZ]
        rfl
      · rw [hZ] at un
        exact un
      · rw [hZ] at hok
        exact hok
      · have z := (f3 b hb).1
        exact ⟨z.2.2.2.1, z.2.1, z.2.2.2.2.1, z.2.2.2.2.2⟩
  cases hf : codeAmong gpos ps.toList with
  | none =>
    refine wpAny_genexprCodeX hcode (cd.code hPs tro) (cd.tab hPs) hf fun c' h' tk hx hge hlt hco' _ htab' _ => ?_
    obtain ⟨o1, us, y1, y2, y3, y4, y5, y6, y7, y8, _, _, _, _, _, _, _, _, _, htr, _⟩ := hco'
    exact cont _ h' tk _ hx (Nat.le_trans hge (Nat.le_of_lt hlt)) htab'.2 ⟨_, rfl⟩ htr
  | some cv =>
    refine wpAny_genexprCode_hit hcode (cd.code hPs tro) hf ?_
    exact cont cv s2.heap s2.toks ps (Heap.ExtBut.refl _ _) (Nat.le_refl _) hPs ⟨#[], by simp⟩ tro
end
section
variable {X : Cx} {c P : Addr} {elt tg iter : Expr} {ifs : List Expr} {scope : Scope} {own : List (Str × Nat)} {p pos gpos : Pos} {wi : TI} {g : TG} {tt : TT} {te : TE} {k : Nat}
theorem pe_allG (hN : X.N.Nodup) (hr : Room (k + 1) X.A) (hg : Gl X "all") (hm : X.mg "all" = none) (hb : bootBuiltins "all" = some (.builtin "all")) (TB : LamX.TabB X.base X.mg c P) (hcode : X.env.code = .ref c) (ok : BlkOk X.N X.env.scope scope own) (nocell : ∀ y ∈ scope.names, y.2 ≠ .cell) (hco : scope.isCoroutine = false) (dot : scope.names.lookup (".0" : Str) = some NameKind.local)
    (hi : PI X tg iter wi)
    (pg : ∀ (A : Around) (s : Shared) (H : Hp) (cl : List (Str × Addr)) (C : Addr) (code : Value) (bi : Addr) (fp : List Addr) (pn : List (Addr × Obj)), Room k A → PG (gxCx X A s H (genEnv scope cl C code bi X.env) fp pn) tg g)
    (pt : ∀ (A : Around) (s : Shared) (H : Hp) (cl : List (Str × Addr)) (C : Addr) (code : Value) (bi : Addr) (fp : List Addr) (pn : List (Addr × Obj)), Room k A → PTs (gxCx X A s H (genEnv scope cl C code bi X.env) fp pn) ifs tt)
    (pe : ∀ (A : Around) (s : Shared) (H : Hp) (cl : List (Str × Addr)) (C : Addr) (code : Value) (bi : Addr) (fp : List Addr) (pn : List (Addr × Obj)), Room k A → PE (gxCx X A s H (genEnv scope cl C code bi X.env) fp pn) elt te)
    (hs : ∀ v, genFold iter X.env v = pure v)
    (he : starEach [.GeneratorExp elt [⟨tg, iter, ifs, 0⟩] scope gpos] X.env = (false, eval (.GeneratorExp elt [⟨tg, iter, ifs, 0⟩] scope gpos) X.env) :: starEach [] X.env := by rfl) :
    PE X (.Call (.Name "all" p) [.GeneratorExp elt [⟨tg, iter, ifs, 0⟩] scope gpos] [] pos) (tQuant P wi g tt te (own.map (·.2)) true) := by
  refine ⟨fun pins s σ H Q I h => ?_⟩
  refine wpAny_Call_Name_kw (ld_blt I hg hm hb ?_)
  refine PyProof.Rows.callWith_builtin1 ?_ he (by rfl)
  rw [he]
  show wpAny _ _ (spliced ((false, eval (.GeneratorExp elt [⟨tg, iter, ifs, 0⟩] scope gpos) X.env) :: backTo pos (starEach [] X.env))) _ _ s
  refine Calls.spliced_cons (gx_eval hN hr TB hcode ok nocell hco dot hi pg pt pe hs I h fun a s5 hR => ?_)
  obtain ⟨gi, m, Z, σ0, e1, e2, isG, nl, isG', goes, back⟩ := hR
  refine Calls.spliced_nil ?_
  refine call_function_tree F.kind_all F.plain_all F.entry_all (F.args_all1 _) ?_
  unfold Builtin.«all»
  refine wpAny_bind ?_
  show wpAny _ _ (pure (Value.ref a)) _ _ s5
  refine wpAny_pure (wpAny_bind (wpAny_pyIter_gen isG (wpAny_pure ⟨plainId_quiet F.plain_all_loop _, ?_⟩)))
  rw [← e1, ← e2]
  exact gx_all hr.hd (by have := hr.dp; omega) isG' (fun s' H' o1 o2 o3 o4 q => ⟨.bl true, H', back s' H' o1 o2 o3 o4, rfl, q⟩) (fun s' H' o1 o2 o3 o4 q => ⟨.bl false, H', back s' H' o1 o2 o3 o4, rfl, q⟩) m s5 isG nl goes
theorem pe_anyG (hN : X.N.Nodup) (hr : Room (k + 1) X.A) (hg : Gl X "any") (hm : X.mg "any" = none) (hb : bootBuiltins "any" = some (.builtin "any")) (TB : LamX.TabB X.base X.mg c P) (hcode : X.env.code = .ref c) (ok : BlkOk X.N X.env.scope scope own) (nocell : ∀ y ∈ scope.names, y.2 ≠ .cell) (hco : scope.isCoroutine = false) (dot : scope.names.lookup (".0" : Str) = some NameKind.local)
    (hi : PI X tg iter wi)
    (pg : ∀ (A : Around) (s : Shared) (H : Hp) (cl : List (Str × Addr)) (C : Addr) (code : Value) (bi : Addr) (fp : List Addr) (pn : List (Addr × Obj)), Room k A → PG (gxCx X A s H (genEnv scope cl C code bi X.env) fp pn) tg g)
    (pt : ∀ (A : Around) (s : Shared) (H : Hp) (cl : List (Str × Addr)) (C : Addr) (code : Value) (bi : Addr) (fp : List Addr) (pn : List (Addr × Obj)), Room k A → PTs (gxCx X A s H (genEnv scope cl C code bi X.env) fp pn) ifs tt)
    (pe : ∀ (A : Around) (s : Shared) (H : Hp) (cl : List (Str × Addr)) (C : Addr) (code : Value) (bi : Addr) (fp : List Addr) (pn : List (Addr × Obj)), Room k A → PE (gxCx X A s H (genEnv scope cl C code bi X.env) fp pn) elt te)
    (hs : ∀ v, genFold iter X.env v = pure v)
    (he : starEach [.GeneratorExp elt [⟨tg, iter, ifs, 0⟩] scope gpos] X.env = (false, eval (.GeneratorExp elt [⟨tg, iter, ifs, 0⟩] scope gpos) X.env) :: starEach [] X.env := by rfl) :
    PE X (.Call (.Name "any" p) [.GeneratorExp elt [⟨tg, iter, ifs, 0⟩] scope gpos] [] pos) (tQuant P wi g tt te (own.map (·.2)) false) := by
  refine ⟨fun pins s σ H Q I h => ?_⟩
  refine wpAny_Call_Name_kw (ld_blt I hg hm hb ?_)
  refine PyProof.Rows.callWith_builtin1 ?_ he (by rfl)
  rw [he]
  show wpAny _ _ (spliced ((false, eval (.GeneratorExp elt [⟨tg, iter, ifs, 0⟩] scope gpos) X.env) :: backTo pos (starEach [] X.env))) _ _ s
  refine Calls.spliced_cons (gx_eval hN hr TB hcode ok nocell hco dot hi pg pt pe hs I h fun a s5 hR => ?_)
  obtain ⟨gi, m, Z, σ0, e1, e2, isG, nl, isG', goes, back⟩ := hR
  refine Calls.spliced_nil ?_
  refine call_function_tree F.kind_any F.plain_any F.entry_any (F.args_any1 _) ?_
  unfold Builtin.«any»
  refine wpAny_bind ?_
  show wpAny _ _ (pure (Value.ref a)) _ _ s5
  refine wpAny_pure (wpAny_bind (wpAny_pyIter_gen isG (wpAny_pure ⟨plainId_quiet F.plain_any_loop _, ?_⟩)))
  rw [← e1, ← e2]
  exact gx_any hr.hd (by have := hr.dp; omega) isG' (fun s' H' o1 o2 o3 o4 q => ⟨.bl false, H', back s' H' o1 o2 o3 o4, rfl, q⟩) (fun s' H' o1 o2 o3 o4 q => ⟨.bl true, H', back s' H' o1 o2 o3 o4, rfl, q⟩) m s5 isG nl goes
end
/-! charts -/
def ptsFrom (many : Int) : Int → List PyData → Bool
  | _, [] => true
  | least, .int i :: r => withinD least (many - 1) (.int i) && ptsFrom many (i + 1) r
  | _, _ :: _ => false
def pointsD (many : Int) : PyData → Bool
  | .tuple ds => ptsFrom many 0 ds
  | _ => false
def chartD : PyData → Bool
  | .tuple ds => ds.all (pointsD ds.length)
  | _ => false
/-- tables of generator expressions, tables of lambdas, apart -/
structure TbP where
  g : List Addr
  t : List (Addr × Str)
  ap : ∀ p ∈ t, p.1 ∉ g
def TabsG (PT : TbP) (H : Hp) : Prop := (∀ P ∈ PT.g, GxR.TabG H P) ∧ LamX.Tabs PT.t H
theorem TabsG.same {PT : TbP} {H H' : Hp} (t : TabsG PT H) (s : Same H H') : TabsG PT H' := ⟨fun P hP => by
  obtain ⟨ps, h, ok⟩ := t.1 P hP
  exact ⟨ps, s _ _ h, ok⟩, t.2.ext s⟩
theorem tabbed_ext {P : Addr} {H H' : Hp} (t : GxR.TabG H P) (b : GxR.Tabbed P H H') : LamX.ExtN H H' := fun c o h n => by
  by_cases e : c = P
  · subst e
    obtain ⟨ps, h', _⟩ := t
    rw [h] at h'
    cases h'
    exact absurd rfl (n ps)
  · rw [b.2 c e]
    exact h
theorem TabsG.tabbed {PT : TbP} {P : Addr} {H H' : Hp} (t : TabsG PT H) (hP : P ∈ PT.g) (b : GxR.Tabbed P H H') : TabsG PT H' := ⟨fun Q hQ => by
  by_cases e : Q = P
  · rw [e]
    exact b.1
  · obtain ⟨ps, h, ok⟩ := t.1 Q hQ
    exact ⟨ps, by rw [b.2 Q e]; exact h, ok⟩, fun p hp => by
  obtain ⟨ps, h1, h2, h3⟩ := t.2 p hp
  have n : p.1 ≠ P := fun e => PT.ap p hp (by rw [e]; exact hP)
  obtain ⟨qs, hq, _⟩ := t.1 P hP
  refine ⟨ps, by rw [b.2 _ n]; exact h1, h2, fun pos cv hc => ?_⟩
  obtain ⟨c, e1, e2⟩ := h3 pos cv hc
  refine ⟨c, e1, ?_⟩
  rw [b.2 c (fun z => by rw [z, hq] at e2; exact LamX.codeO_ne _ (Option.some.inj e2).symm)]
  exact e2⟩
/-- a generator over a tuple that the element leaves as it is -/
theorem gx_tup {K : PySem.W.Frag} {a : Addr} {xs : List V} {g : TG} {tt : TT} {te : TE} {vs : List Nat} {σ0 : L2.St} {e : Bool} {Qe Qn : Hp → Prop} {H : Hp} (Pv : Nat → Hp → Prop) (h0 : Pv 0 H) (hl : ∀ i H, i ≤ xs.length → Pv i H → SqT K H a xs)
    (hs : ∀ i x H, xs[i]? = some x → Pv i H → g x σ0 H fun σ2 H2 => wipe σ2 vs = σ0 ∧ tt σ2 H2 fun b H3 => if b = true then te σ2 H3 fun y H4 => ∃ c, y = .bl c ∧ (c = e → Pv (i + 1) H4) ∧ (c ≠ e → Qn H4) else Pv (i + 1) H3) (hd : ∀ H, Pv xs.length H → Qe H) :
    ∃ W : Nat → Nat → Hp → Prop, (∃ m, W 0 m H) ∧ gxTurn (Itt K a) g tt te vs σ0 e Qe Qn W := by
  refine ⟨fun i m H => m = xs.length - i ∧ i ≤ xs.length ∧ Pv i H, ⟨xs.length, by simp, Nat.zero_le _, h0⟩, ?_⟩
  rintro i m H ⟨rfl, hi, p⟩
  have q := hl i H hi p
  by_cases hlt : i < xs.length
  · refine .inr ⟨⟨xs, xs[i], q, by simp [hlt]⟩, Pv (i + 1), fun H' p' => ⟨xs.length - (i + 1), by omega, rfl, hlt, p'⟩, fun x H' y => ?_⟩
    obtain ⟨e, y⟩ := y
    subst e
    exact hs i x _ (y xs q) p
  · have e : i = xs.length := by omega
    subst e
    exact .inl ⟨⟨xs, q, Nat.le_refl _⟩, hd H p⟩
theorem sqT_ext {K : PySem.W.Frag} {H H' : Hp} (e : LamX.ExtN H H') {a : Addr} {xs : List V} (h : SqT K H a xs) : SqT K H' a xs := by
  rcases h with (z | ⟨o, z⟩) | z
  · exact .inl (.inl (e _ _ z fun ps q => by cases q))
  · exact .inl (.inr ⟨o, e _ _ z fun ps q => by cases q⟩)
  · exact .inr z
theorem yesG {σ : L2.St} {H : Hp} {R : Bool → Hp → Prop} (h : R true H) : tYes σ H R := h
theorem all_take {α : Type} {p : α → Bool} {l : List α} {i : Nat} {x : α} (h : l[i]? = some x) : (l.take (i + 1)).all p = ((l.take i).all p && p x) := by
  have hi : i < l.length := by
    obtain ⟨q, _⟩ := List.getElem?_eq_some_iff.mp h
    exact q
  rw [List.take_add_one, h]
  simp [List.all_append]
theorem pts_drop {many least : Int} {ds : List PyData} {i : Nat} {d : PyData} (h : ds[i]? = some d) : ds.drop i = d :: ds.drop (i + 1) := by
  obtain ⟨q, e⟩ := List.getElem?_eq_some_iff.mp h
  rw [List.drop_eq_getElem_cons q, e]
section
variable {P : Program} {w : World} {K : PySem.W.Frag} {mg : Str → Option Value} {base : Heap} {f : Addr} {fd : FuncData}
def spPoints (K : PySem.W.Frag) : Sp := fun vs H Q _ => ∃ (x : V) (d : PyData) (many : Int), vs = [x, .int many] ∧ Dp K H x d ∧ Q (.bl (pointsD many d)) H
theorem scPoints : FnScope ["thing", "many", "least", "point"] ["thing", "many"] (defScope sPoints) := ⟨rfl, rfl, rfl, by decide +kernel, rfl, by decide +kernel, by decide +kernel⟩
theorem ok_points {k : Nat} (F : Fun K "are_points" "are_points" sPoints f fd) (T : Free mg) (cW : Cal P w K mg base "is_within" k ["thing", "least", "most"] (spWithin K)) : FnOk P w K mg base CX0 (k + 1) f fd ["thing", "many"] (spPoints K) := by
  refine F.ok scPoints (fun vs H Q E h => ?_) (fun cdv A outer s H vs Q E hr h => ?_)
  · obtain ⟨x, d, m, rfl, _⟩ := h
    rfl
  obtain ⟨x, d, m, rfl, hx, q⟩ := h
  refine ⟨_, pss_cons (ps_if (pt_not (pt_val (pe_callB call_isi rfl T.isi (by decide +kernel) (pa_cons (pv 0) (pa_cons (pe_bltn (v := .ty "tuple") rfl T.tuple (by decide +kernel) rfl) pa_nil))))) (pss_one (ps_ret pe_bl)) pss_nil)
    (pss_cons (ps_set (i := 2) scPoints.nd rfl (.inl rfl) pe_int)
    (pss_cons (ps_for PassesOwn.never rfl (pi_tup (pv 0)) (pg_name (i := 3) scPoints.nd rfl (.inl rfl))
      (pss_cons (ps_if (pt_not (pt_val (pe_cal cW hr rfl (pa_cons (pv 3) (pa_cons (pv 2) (pa_cons (pe_op op_sub (pv 1) pe_int) pa_nil)))))) (pss_one (ps_ret pe_bl)) pss_nil)
      (pss_one (ps_set (i := 2) scPoints.nd rfl (.inl rfl) (pe_op op_add (pv 3) pe_int)))))
    (pss_one (ps_ret pe_bl)))), ?_⟩
  refine ⟨_, rfl, x, _, _, _, _, rfl, .ty "tuple", ty_of hx, kit_tuple d, _, rfl, ?_⟩
  cases ht : tupleD d with
  | false =>
    refine ifT rfl ?_
    have e : pointsD m d = false := by cases d <;> first | rfl | cases ht
    rw [e] at q
    exact q
  | true =>
    obtain ⟨ds, rfl⟩ : ∃ ds, d = .tuple ds := by
      cases d <;> first | exact ⟨_, rfl⟩ | cases ht
    refine ifF rfl ?_
    have q : Q (.bl (ptsFrom m 0 ds)) H := q
    cases hx with
    | @tup a xs _ ht ha =>
      have lx := dpAll_len ha
      refine ⟨_, rfl, a, rfl, ⟨xs, ht⟩, ?_⟩
      refine for_tup (xs := xs) (fun i σ H' => ∃ (least : Int) (o3 : Option V), ptsFrom m 0 ds = ptsFrom m least (ds.drop i) ∧ σ = [some (.ref a), some (.int m), some (.int least), o3] ∧ H' = H)
        ⟨0, none, rfl, rfl, rfl⟩ (fun i σ H' _ h => by obtain ⟨_, _, _, _, rfl⟩ := h; exact ht) (fun i x σ H' hxi h => ?_) (fun σ H' h => ?_)
      · obtain ⟨least, o3, hp, rfl, rfl⟩ := h
        obtain ⟨d, hd, hdx⟩ := dpAll_get' ha hxi
        rw [pts_drop (many := 0) (least := 0) hd] at hp
        refine ⟨_, rfl, _, rfl, _, rfl, _, _, rfl, rfl, x, d, least, m - 1, rfl, hdx, _, rfl, ?_⟩
        cases hw : withinD least (m - 1) d with
        | false =>
          refine ifT rfl ?_
          have e : ptsFrom m 0 ds = false := by
            rw [hp]
            cases d <;> first | rfl | (unfold ptsFrom; rw [hw]; rfl)
          rw [e] at q
          exact q
        | true =>
          refine ifF rfl ?_
          cases d with
          | int n =>
            cases hdx
            refine ⟨_, rfl, _, _, rfl, rfl, n + 1, _, ?_, rfl, rfl⟩
            rw [hp]
            show (withinD least (m - 1) (.int n) && _) = _
            rw [hw, Bool.true_and]
          | none => cases hw
          | bool _ => cases hw
          | str _ => cases hw
          | list _ => cases hw
          | tuple _ => cases hw
          | dict _ => cases hw
      · obtain ⟨least, o3, hp, rfl, rfl⟩ := h
        rw [lx, List.drop_length] at hp
        rw [hp] at q
        exact q
abbrev rLen (K : PySem.W.Frag) : List V → Hp → VK → Prop := fun xs H Q => ∃ p ys, xs = [.ref p] ∧ (SqL K H p ys ∨ SqT K H p ys) ∧ Q (.int ys.length) H
def spIsChart (K : PySem.W.Frag) (PT : TbP) : Sp := fun vs H Q _ => ∃ (x : V) (d : PyData), vs = [x] ∧ Dp K H x d ∧ TabsG PT H ∧ ∀ H', LamX.ExtN H H' → TabsG PT H' → Q (.bl (chartD d)) H'
theorem scIsChart : FnScope ["thing", "nexts"] ["thing"] (defScope sIsChart) := ⟨rfl, rfl, rfl, by decide +kernel, rfl, by decide +kernel, by decide +kernel⟩
theorem ok_isChart {k : Nat} {c Pc : Addr} {PT : TbP} (F : Fun K "is_chart" "is_chart" sIsChart f fd) (hc : fd.code = .ref c) (TB : LamX.TabB base mg c Pc) (hPT : Pc ∈ PT.g) (T : Free mg) (hA : mg "all" = none) (cP : Cal P w K mg base "are_points" k ["thing", "many"] (spPoints K)) : FnOk P w K mg base CX0 (k + 2) f fd ["thing"] (spIsChart K PT) := by
  refine okC F hc scIsChart (fun vs H Q E h => ?_) (fun A outer s H vs Q E hr h => ?_)
  · obtain ⟨x, d, rfl, _⟩ := h
    rfl
  obtain ⟨x, d, rfl, hx, tb, q⟩ := h
  refine ⟨_, pss_one (ps_ret (pe_and (pe_callB call_isi rfl T.isi (by decide +kernel) (pa_cons (pv 0) (pa_cons (pe_bltn (v := .ty "tuple") rfl T.tuple (by decide +kernel) rfl) pa_nil)))
    (pe_one (pe_allG (own := [("nexts", 1)]) (wi := iTup K (tVar 0)) (g := gName 1) (tt := tYes) (te := tCall (spPoints K) [] E0 (tCons (tVar 1) (tCons (tCB (rLen K) (tCons (tVar 0) tNil)) tNil))) scIsChart.nd hr rfl hA (by decide +kernel) TB rfl
      (blkOk_by (own := [("nexts", 1)]) (N := ["thing", "nexts"]) (sc := defScope sIsChart) (by decide +kernel)) (by decide +kernel) rfl rfl (pi_tup (pv 0))
      (fun _ _ _ _ _ _ _ _ _ _ => pg_name (i := 1) scIsChart.nd rfl (Or.inl rfl)) (fun _ _ _ _ _ _ _ _ _ _ => pts_nil)
      (fun _ _ _ _ _ _ _ _ _ hr' => pe_cal cP hr' rfl (pa_cons (pv 1) (pa_cons (pe_callB call_len_seq rfl T.len PySem.boot_len (pa_cons (pv 0) pa_nil)) pa_nil))) (fun _ => rfl))))), ?_⟩
  refine ⟨_, rfl, x, _, _, _, _, rfl, .ty "tuple", ty_of hx, kit_tuple d, _, rfl, ?_⟩
  cases ht : tupleD d with
  | false =>
    have e : chartD d = false := by cases d <;> first | rfl | cases ht
    rw [e] at q
    exact ifF rfl (q H (LamX.ExtN.refl _) tb)
  | true =>
    obtain ⟨ds, rfl⟩ : ∃ ds, d = .tuple ds := by
      cases d <;> first | exact ⟨_, rfl⟩ | cases ht
    have q : ∀ H', LamX.ExtN H H' → TabsG PT H' → Q (.bl (ds.all (pointsD ds.length))) H' := q
    cases hx with
    | @tup a xs _ at_ each =>
      have lx := dpAll_len each
      refine ifT rfl ⟨_, rfl, a, rfl, ⟨xs, at_⟩, tb.1 Pc hPT, fun H2 b2 => ?_⟩
      have e2 := tabbed_ext (tb.1 Pc hPT) b2
      refine gx_tup (xs := xs) (fun i H' => LamX.ExtN H H' ∧ TabsG PT H' ∧ (ds.take i).all (pointsD ds.length) = true) ⟨e2, tb.tabbed hPT b2, rfl⟩ (fun i H' _ h => ?_) (fun i y H' hy h => ?_) (fun H' h => ?_)
      · exact sqT_ext h.1 at_
      · obtain ⟨e3, t3, all3⟩ := h
        obtain ⟨d, hd, hdy⟩ := dpAll_get' each hy
        refine ⟨rfl, yesG ⟨_, rfl, _, rfl, a, xs, rfl, .inr (sqT_ext e3 at_), y, d, _, rfl, dp_ext e3 _ _ hdy, _, rfl, fun c => ⟨e3, t3, ?_⟩, fun c => ?_⟩⟩
        · rw [lx] at c
          rw [all_take hd, all3, c]
          rfl
        · rw [lx] at c
          have e : ds.all (pointsD ds.length) = false := by
            cases z : ds.all (pointsD ds.length) with
            | false => rfl
            | true => exact absurd (List.all_eq_true.mp z d (List.mem_of_getElem? hd)) c
          have r := q H' e3 t3
          rw [e] at r
          exact r
      · obtain ⟨e3, t3, all3⟩ := h
        rw [lx, List.take_length] at all3
        have r := q H' e3 t3
        rw [all3] at r
        exact r
end
/-! what is written down, laid anew -/
def dif (H H' : Hp) : Hp := fun b => match H b with
  | none => H' b
  | some _ => none
theorem dif_at {H H' : Hp} {p : Addr} {o : HO} (h : H p = none) (h' : H' p = some o) : dif H H' p = some o := by
  unfold dif
  rw [h]
  exact h'
theorem dif_some {H H' : Hp} {p : Addr} {o : HO} (h : dif H H' p = some o) : H p = none ∧ H' p = some o := by
  unfold dif at h
  cases e : H p with
  | none =>
    rw [e] at h
    exact ⟨rfl, h⟩
  | some u =>
    rw [e] at h
    cases h
theorem dif_l {H H1 H2 : Hp} (s : Same H1 H2) : Same (dif H H1) (dif H H2) := fun b o h => by
  obtain ⟨h1, h2⟩ := dif_some h
  exact dif_at h1 (s _ _ h2)
theorem dif_r {H H1 H2 : Hp} (s : Same H H1) : Same (dif H1 H2) (dif H H2) := fun b o h => by
  obtain ⟨h1, h2⟩ := dif_some h
  exact dif_at (s.free h1) h2
theorem dif_in {H H' : Hp} : Same (dif H H') H' := fun b o h => (dif_some h).2
theorem dp_same {K : PySem.W.Frag} {H H' : Hp} (s : Same H H') {d : PyData} {v : V} (h : Dp K H v d) : Dp K H' v d := dp_ext (ext_same s) d v h
theorem dps_same {K : PySem.W.Frag} {H H' : Hp} (s : Same H H') {ds : List PyData} {vs : List V} (h : DpAll K H vs ds) : DpAll K H' vs ds := dp_exts (ext_same s) ds vs h
def tLit (K : PySem.W.Frag) (d : PyData) : TE := fun _ H Q => ∀ v H', Same H H' → Dp K (dif H H') v d → Q v H'
def tLits (K : PySem.W.Frag) (ds : List PyData) : TA := fun _ H Q => ∀ vs H', Same H H' → DpAll K (dif H H') vs ds → Q vs H'
theorem pe_imp {X : Cx} {e : Expr} {t t' : TE} (h : PE X e t) (w : ∀ σ H Q, t' σ H Q → t σ H Q) : PE X e t' := ⟨fun pins s σ H Q I q => h.run pins s σ H Q I (w _ _ _ q)⟩
theorem pa_imp {X : Cx} {es : List Expr} {t t' : TA} (h : PA X es t) (w : ∀ σ H Q, t' σ H Q → t σ H Q) : PA X es t' := ⟨fun pos pins s σ H Q I q => h.run pos pins s σ H Q I (w _ _ _ q)⟩
section
variable {X : Cx}
theorem lits_nil : PA X [] (tLits X.K []) := pa_imp pa_nil fun σ H Q q => q [] H (Same.refl _) .nil
theorem lits_cons {e : Expr} {es : List Expr} {d : PyData} {ds : List PyData} (h : PE X e (tLit X.K d)) (hs : PA X es (tLits X.K ds)) (hst : starEach (e :: es) X.env = (false, eval e X.env) :: starEach es X.env := by rfl) : PA X (e :: es) (tLits X.K (d :: ds)) :=
  pa_imp (pa_cons h hs hst) fun σ H Q q v H1 s1 d1 vs H2 s2 d2 => q (v :: vs) H2 (s1.trans s2) (.cons (dp_same (dif_l s2) d1) (dps_same (dif_r s1) d2))
theorem lit_int {i : Int} {j : Nat} {pos : Pos} : PE X (.Constant (.int i) j pos) (tLit X.K (.int i)) := pe_imp pe_int fun σ H Q q => q _ H (Same.refl _) (.int _)
theorem lit_str {x : Str} {j : Nat} {pos : Pos} : PE X (.Constant (.str x) j pos) (tLit X.K (.str x)) := pe_imp pe_str fun σ H Q q => q _ H (Same.refl _) (.str _)
theorem lit_bl {b : Bool} {j : Nat} {pos : Pos} : PE X (.Constant (.bool b) j pos) (tLit X.K (.bool b)) := pe_imp pe_bl fun σ H Q q => q _ H (Same.refl _) (.bl _)
theorem lit_non {j : Nat} {pos : Pos} : PE X (.Constant .none j pos) (tLit X.K .none) := pe_imp pe_non fun σ H Q q => q _ H (Same.refl _) .non
theorem lit_neg {e : Expr} {i : Int} {pos : Pos} (h : PE X e (tC (.int i))) : PE X (.UnaryOp .USub e pos) (tLit X.K (.int (-i))) := pe_imp (pe_un un_neg h) fun σ H Q q => ⟨i, rfl, q _ H (Same.refl _) (.int _)⟩
theorem lit_tup {es : List Expr} {ds : List PyData} {x1 : Nat} {pos : Pos} (h : PA X es (tLits X.K ds)) (hl : ds.length ≤ 1000) : PE X (.Tuple es x1 pos) (tLit X.K (.tuple ds)) :=
  pe_imp (pe_tup h) fun σ H Q q vs H1 s1 d1 => ⟨small (by rw [dpAll_len d1]; exact hl), fun p hp => q _ _ (s1.trans (same_new hp _)) (.tup (SqT.of (dif_at (s1.free hp) upd_same)) (dps_same (dif_l (same_new hp _)) d1))⟩
theorem lit_lst {es : List Expr} {ds : List PyData} {pos : Pos} (h : PA X es (tLits X.K ds)) (hl : ds.length ≤ 1000) : PE X (.List es pos) (tLit X.K (.list ds)) :=
  pe_imp (pe_lst h) fun σ H Q q vs H1 s1 d1 => ⟨small (by rw [dpAll_len d1]; exact hl), fun p hp => q _ _ (s1.trans (same_new hp _)) (.lst (SqL.of (dif_at (s1.free hp) upd_same)) (dps_same (dif_l (same_new hp _)) d1))⟩
theorem lit_dict0 {pos : Pos} : PE X (.Dict [] [] pos) (tLit X.K (.dict (dictD []))) := pe_imp pe_dnewK fun σ H Q q p hp => q _ _ (same_new hp _) (.dct (ms := []) (dif_at hp upd_same))
theorem lit_dict1 {i k : Int} {j1 j2 : Nat} {p1 p2 pos : Pos} : PE X (.Dict [some (.Constant (.int i) j1 p1)] [.Constant (.int k) j2 p2] pos) (tLit X.K (.dict (dictD [(i, k)]))) :=
  pe_imp (pe_disp (pps_cons pe_int pe_int pps_nil) rfl rfl (by simp) (by show 1 ≤ 15; decide)) fun σ H Q q p hp => ⟨upd_same, [(Sum.inl i, V.int k)], rfl, by show 1 ≤ 15; decide, by
    rw [upd_upd]
    exact q _ _ (same_new hp _) (.dct (ms := [(i, k)]) (dif_at hp upd_same))⟩
end
section
variable {X : Cx}
theorem lit_big {j1 j2 : Nat} {p1 p2 pos : Pos} : PE X (.BinOp (.Constant (.int 10) j1 p1) .Pow (.Constant (.int 29) j2 p2) pos) (tLit X.K (.int (10 ^ 29))) := pe_imp (pe_op op_pow pe_int pe_int) fun σ H Q q => ⟨_, _, rfl, rfl, ⟨by decide, by decide, by decide⟩, q _ H (Same.refl _) (.int _)⟩
theorem lit_low {j0 j1 j2 : Nat} {p0 p1 p2 p3 pos : Pos} : PE X (.BinOp (.Constant (.int 0) j0 p0) .Sub (.BinOp (.Constant (.int 10) j1 p1) .Pow (.Constant (.int 29) j2 p2) p3) pos) (tLit X.K (.int (0 - 10 ^ 29))) := pe_imp (pe_op op_sub pe_int (pe_op op_pow pe_int pe_int)) fun σ H Q q => ⟨_, _, rfl, rfl, ⟨by decide, by decide, by decide⟩, _, _, rfl, rfl, q _ H (Same.refl _) (.int _)⟩
end
/-! odd things -/
def odd0 : List PyData := [.none, .bool true, .bool false, .int 0, .int 1, .int (-1), .int (10 ^ 29), .str "", .str "a", .str "G", .str "tie", .tuple [], .list [], .dict (dictD []), .tuple [.int 0], .list [.int 0], .tuple [.none]]
def odd1 : List PyData := [.tuple [.tuple []], .str "actor"]
def odd2 : List PyData := [.str "show", .dict (dictD [(0, 1)]), .tuple [.str "tie", .int 0], .tuple [.int 0, .int 1]]
/-- all but the state's list -/
def mn (st : Addr) (H : Hp) : Hp := fun b => if b = st then none else H b
theorem mn_at {st p : Addr} {H : Hp} {o : HO} (n : p ≠ st) (h : H p = some o) : mn st H p = some o := by
  unfold mn
  rw [if_neg n]
  exact h
theorem mn_some {st p : Addr} {H : Hp} {o : HO} (h : mn st H p = some o) : p ≠ st ∧ H p = some o := by
  unfold mn at h
  by_cases e : p = st
  · rw [if_pos e] at h
    cases h
  · rw [if_neg e] at h
    exact ⟨e, h⟩
theorem mn_kp {st : Addr} {H H' : Hp} (k : Kp st H H') : Same (mn st H) (mn st H') := fun b o h => by
  obtain ⟨n, h⟩ := mn_some h
  exact mn_at n (k b o n h)
theorem mn_in {st : Addr} {H : Hp} : Same (mn st H) H := fun b o h => (mn_some h).2
theorem mn_dif {st : Addr} {H H' : Hp} (s : ∃ l, H st = some l) : Same (dif H H') (mn st H') := fun b o h => by
  obtain ⟨h1, h2⟩ := dif_some h
  obtain ⟨l, hl⟩ := s
  exact mn_at (ne_of_none hl h1).symm h2
/-! a tuple against the empty one, a list against the empty one -/
section
variable {X : Cx}
def rNeE (K : PySem.W.Frag) : R2 := fun x y H Q => ∃ a b xs, x = .ref a ∧ y = .ref b ∧ SqT K H a xs ∧ SqT K H b [] ∧ Q (.bl (!xs.isEmpty)) H
theorem op_neE (hu : X.A.units + 64 < cLine) : OpR X (compareOp .NotEq) (rNeE X.K) := by
  intro pins s σ H x y v u Q I rx ry h
  obtain ⟨a, b, xs, rfl, rfl, ha, hb, q⟩ := h
  cases rx
  cases ry
  obtain ⟨its, r1, ⟨o1, g1, c1, n1, d1⟩, _⟩ := I.tuple ha
  obtain ⟨its2, r2, ⟨o2, g2, c2, n2, d2⟩, _⟩ := I.tuple hb
  cases r2
  refine SeqAt.RcNeAt.tuples (e := fun _ => true) ⟨o1, g1, c1, n1, d1⟩ ⟨o2, g2, c2, n2, d2⟩ (by omega) (fun j _ h2 => absurd h2 (by simp)) X.prog X.w _ _ ⟨.bl (!xs.isEmpty), H, I, ?_, q⟩
  have l := r1.length
  cases xs with
  | nil =>
    cases r1
    rfl
  | cons z zs =>
    cases r1 with
    | cons _ _ => rfl
def rNeLE (K : PySem.W.Frag) : R2 := fun x y H Q => ∃ a b xs, x = .ref a ∧ y = .ref b ∧ SqL K H a xs ∧ SqL K H b [] ∧ Q (.bl (!xs.isEmpty)) H
theorem op_neLE (hu : X.A.units + 64 < cLine) : OpR X (compareOp .NotEq) (rNeLE X.K) := by
  intro pins s σ H x y v u Q I rx ry h
  obtain ⟨a, b, xs, rfl, rfl, ha, hb, q⟩ := h
  cases rx
  cases ry
  obtain ⟨its, r1, ⟨o1, n1, g1, c1, _, d1⟩, _⟩ := I.list ha
  obtain ⟨its2, r2, ⟨o2, n2, g2, c2, _, d2⟩, _⟩ := I.list hb
  cases r2
  cases xs with
  | nil =>
    cases r1
    exact SeqAt.RcNeAt.lists (e := fun _ => true) ⟨o1, g1, c1, n1, d1⟩ ⟨o2, g2, c2, n2, d2⟩ rfl (by omega) (fun j _ h2 => absurd h2 (by simp)) X.prog X.w _ _ ⟨.bl false, H, I, rfl, q⟩
  | cons z zs =>
    cases r1 with
    | cons _ _ => exact SeqAt.RcNeAt.lists_lengths ⟨o1, g1, c1, n1, d1⟩ ⟨o2, g2, c2, n2, d2⟩ (by simp) (by omega) X.prog X.w _ _ ⟨.bl true, H, I, rfl, q⟩
end
/-! t[::-1] -/
section
open PySem.Spec PyProof.Rows
theorem fm_congr {α β : Type} {f g : α → Option β} : ∀ {l : List α}, (∀ k ∈ l, f k = g k) → l.filterMap f = l.filterMap g
  | [], _ => rfl
  | x :: r, h => by rw [List.filterMap_cons, List.filterMap_cons, h x List.mem_cons_self, fm_congr fun k hk => h k (List.mem_cons_of_mem _ hk)]
theorem rev_pick (xs : Array Value) : ((List.range xs.size).filterMap fun (k : Nat) => xs[(((xs.size : Int) - 1) + (k : Int) * (-1)).toNat]?) = xs.toList.reverse := by
  have e : ∀ k ∈ List.range xs.size, xs[(((xs.size : Int) - 1) + (k : Int) * (-1)).toNat]? = some (xs.toList.reverse.getD k .none) := fun k hk => by
    have hk : k < xs.size := List.mem_range.mp hk
    have e1 : (((xs.size : Int) - 1) + (k : Int) * (-1)).toNat = xs.size - 1 - k := by omega
    have h2 : k < xs.toList.reverse.length := by simpa using hk
    rw [e1, List.getD_eq_getElem?_getD, List.getElem?_eq_getElem h2, List.getElem_reverse, Array.getElem?_eq_getElem (by omega)]
    simp
  rw [fm_congr e]
  refine List.ext_getElem? fun i => ?_
  rw [show (fun k => some (xs.toList.reverse.getD k Value.none)) = (some ∘ fun k => xs.toList.reverse.getD k Value.none) from rfl, List.filterMap_eq_map, List.getElem?_map]
  by_cases hi : i < xs.size
  · have h2 : i < xs.toList.reverse.length := by simpa using hi
    rw [List.getElem?_range hi, List.getElem?_eq_getElem h2]
    simp [List.getD_eq_getElem?_getD, List.getElem?_eq_getElem h2]
  · rw [List.getElem?_eq_none (by simpa using hi), List.getElem?_eq_none (by simpa using hi)]
    rfl
variable {prog : Program} {w : World} {A : Around} {E : Value → Shared → Prop} {s : Shared}
theorem getItem_tuple_rev {t sl : Addr} {items : Array Value} {u : Tok} {Q : Value → Shared → Prop} (ht : IsTup s.heap t items) (hs : s.heap.IsSliceOf sl .none .none (.int (-1) u))
    (h : Q (.ref s.heap.objs.size) { s with heap := s.heap.push { cls := .type "tuple", data := .seq items.toList.reverse.toArray } })
    (hsz : items.size ≤ sizeLine) : wpAny (model prog w) A (getItem (.ref t) (.ref sl)) Q E s := by
  have htake : sizeOk (.seq items.toList.reverse.toArray) := by
    show items.toList.reverse.toArray.size ≤ sizeLine
    rw [List.size_toArray, List.length_reverse, Array.length_toList]
    exact hsz
  obtain ⟨so, so1, so2, so3⟩ := id hs
  have slot := PyProof.Rows.slot_tuple_getitem
  have tt := ht.typeIs
  unfold getItem; (try with_reducible refine wpAny_holding ?_); (first | refine wpAny_bind (wpAny_pure ?_) | skip); refine wpAny_bind (wpAny_sequenceKey tt (by decide) ?_)
  refine wpAny_bind (wpAny_callSpecial?_slot (name := Str.ofString "__getitem__") tt slot (wpAny_call_entry slot tt entry_tuple_getitem ?_ (args_tuple_getitem _ _)))
  show wpAny _ _ (Builtin.Tuple.tupleItemsOf (.ref t) >>= _) _ _ s; refine wpAny_bind (tupleItemsOf_ ht (wpAny_bind (wpAny_typeOf ⟨so, so1, so2⟩ ?_))); rw [if_pos (by decide)]
  have places : Builtin.Slice.slicePlaces ((items.size : Int) - 1) (-1) (-1) = items.size := by
    unfold Builtin.Slice.slicePlaces
    rw [if_neg (by decide)]
    by_cases c : (items.size : Int) - 1 > -1
    · rw [if_pos c]
      show (((items.size : Int) - 1 - -1 - 1) / 1 + 1).toNat = _
      rw [Int.ediv_one]
      omega
    · rw [if_neg c]
      omega
  have applied : ∀ {Q : Int × Int × Nat → Shared → Prop}, Q ((items.size : Int) - 1, -1, items.size) s → wpAny (model prog w) A.in1 (Builtin.Slice.sliceApplied (.ref sl) (pure (items.size : Int))) Q E s := fun {Q} h => by
    unfold Builtin.Slice.sliceApplied Builtin.Slice.sliceFields
    refine wpAny_bind (wpAny_bind (wpAny_field so1 so3 (x := .none) rfl (wpAny_bind (wpAny_field so1 so3 (x := .none) rfl (wpAny_bind (wpAny_field so1 so3 (x := .int (-1) u) rfl (wpAny_pure ?_)))))))
    refine wpAny_bind (slicePart_int ?_)
    show wpAny _ _ (if ((-1 : Int) == 0) = true then _ else _) _ _ s
    rw [if_neg (by decide)]
    refine wpAny_bind (slicePart_none (wpAny_bind (slicePart_none (wpAny_bind (wpAny_pure ?_)))))
    show wpAny _ _ (pure ((items.size : Int) - 1, (-1 : Int), Builtin.Slice.slicePlaces ((items.size : Int) - 1) (-1) (-1))) _ _ s
    rw [places]
    exact wpAny_pure h
  refine wpAny_bind (applied ?_)
  show wpAny _ _ (if ((items.size : Int) - 1 == 0 && (-1 : Int) == 1 && items.size == items.size) = true then _ else _) _ _ s
  rw [if_neg (by simp), rev_pick]
  refine wpAny_bind (m := Builtin.Tuple.tupleExact _) (wpAny_newObj_type (wpAny_pure ⟨_, rfl, wpAny_pure h⟩) htake)
end
section
open PySem.Spec PyProof.Rows
def tRev (K : PySem.W.Frag) (te : TE) : TE := fun σ H Q => te σ H fun x H1 => ∃ a xs, x = .ref a ∧ SqT K H1 a xs ∧ ∀ p, H1 p = none → Q (.ref p) (upd H1 p (.tup xs.reverse))
theorem pe_rev {X : Cx} {e : Expr} {te : TE} {j : Nat} {p1 p2 p3 pos : Pos} (he : PE X e te) : PE X (.Subscript e (.Slice none none (some (.UnaryOp .USub (.Constant (.int 1) j p1) p2)) p3) pos) (tRev X.K te) := by
  refine ⟨fun pins s σ H Q I h => ?_⟩
  refine Subscript_ (thn (he.run pins s σ H _ I h) fun v s1 ⟨x, H1, I1, r1, q1⟩ => ?_)
  obtain ⟨a, xs, rfl, hx, q⟩ := q1
  cases r1
  refine wpAny_Slice ?_
  rw [evalPart_none, evalPart_some]
  refine wpAny_pure (wpAny_pure ?_)
  refine thn ((pe_un (X := X) un_neg (pe_int (X := X) (i := 1) (j := j) (pos := p1))).run pins s1 σ H1 (fun v H' => v = .int (-1) ∧ H' = H1) I1 ⟨1, rfl, rfl, rfl⟩) fun u s2 ⟨z, H2, I2, r2, e1, e2⟩ => ?_
  subst e1 e2
  obtain ⟨t, rfl⟩ := r2
  have I4 : Inv X pins σ H2 { s2 with heap := s2.heap.push { cls := .type "slice", data := .fields #[.none, .none, .int (-1) t] } } := I2.kept (t' := s2.toks) fun b ob q => Heap.get?_push_of_some _ q
  obtain ⟨its, r, ht, hz⟩ := I4.tuple hx
  have hlen : its.toArray.size = xs.length := by rw [List.size_toArray]; exact r.length.symm
  refine tail_any (ops := [.ref a, .ref s2.heap.objs.size]) ht.typeIs PyProof.Rows.slot_tuple_getitem.lookup ?_ (by with_unfolding_all rfl)
  refine getItem_tuple_rev ht (Heap.IsSliceOf.new ..) ?_ (by rw [hlen]; exact hz)
  refine ⟨.ref _, _, I4.laid (t' := s2.toks) (o := .tup xs.reverse) (fun b ob q => Heap.get?_push_of_some _ q) (Nat.le_refl _) ?_, rfl, q _ (I4.hok.fresh (Nat.le_refl _))⟩
  exact ⟨by rw [List.length_reverse]; exact hz, _, r.reverse, IsTup.new _ _⟩
end
/-! tuples cut and put together, the tokens of the empty and the whole ones told alike -/
section
variable {K : PySem.W.Frag}
theorem catA_run {H : Hp} {a b : Addr} {xs ys : List V} {Q : VK} (ha : SqT K H a xs) (hb : SqT K H b ys) (hz : xs.length + ys.length ≤ 1000) (q : ∀ r H', Same H H' → SqT K H' r (xs ++ ys) → Q (.ref r) H') : rCatA K (.ref a) (.ref b) H Q := by
  refine ⟨a, b, xs, ys, rfl, rfl, ha, hb, small hz, fun e => ?_, fun _ e => ?_, fun _ _ p hp => q p _ (same_new hp _) (SqT.of upd_same)⟩
  · subst e
    exact q b H (Same.refl _) hb
  · subst e
    exact q a H (Same.refl _) (by rw [List.append_nil]; exact ha)
theorem slA_run {H : Hp} {a : Addr} {xs : List V} {lo hi : Option Int} {Q : VK} (ha : SqT K H a xs) (q : ∀ r H', Same H H' → SqT K H' r (cutV xs lo hi) → Q (.ref r) H') : rSlA K (.ref a) lo hi H Q := by
  refine ⟨a, xs, rfl, ha, fun wh => ?_, fun _ p hp => q p _ (same_new hp _) (SqT.of upd_same)⟩
  refine q a H (Same.refl _) ?_
  unfold cutV
  rw [wh.1, wh.2, Nat.sub_zero, List.drop_zero, List.take_length]
  exact ha
theorem cut_to {xs : List V} {b : Int} (h0 : 0 ≤ b) (h1 : b ≤ xs.length) : cutV xs none (some b) = xs.take b.toNat := by
  obtain ⟨n, rfl⟩ : ∃ n : Nat, b = n := ⟨b.toNat, by omega⟩
  unfold cutV
  rw [HT.sIx_none, HT.sIx_nat, List.drop_zero, Nat.sub_zero, Nat.min_eq_left (by omega)]
  rfl
theorem cut_from {xs : List V} {b : Int} (h0 : 0 ≤ b) (h1 : b ≤ xs.length) : cutV xs (some b) none = xs.drop b.toNat := by
  obtain ⟨n, rfl⟩ : ∃ n : Nat, b = n := ⟨b.toNat, by omega⟩
  unfold cutV
  rw [HT.sIx_none, HT.sIx_nat, Nat.min_eq_left (by omega)]
  have e : xs.length - n = (xs.drop n).length := by rw [List.length_drop]
  rw [e, List.take_length]
  rfl
theorem set_split {α : Type} : ∀ (xs : List α) (b : Nat) (v : α), b < xs.length → xs.take b ++ [v] ++ xs.drop (b + 1) = xs.set b v
  | x :: r, 0, v, _ => rfl
  | x :: r, b + 1, v, h => by
    have ih := set_split r b v (by simpa using h)
    simp only [List.take_succ_cons, List.cons_append, List.drop_succ_cons, List.set_cons_succ]
    rw [ih]
theorem dpAll_set {H : Hp} {v : V} {d : PyData} (h : Dp K H v d) : ∀ {xs : List V} {ds : List PyData} (i : Nat), DpAll K H xs ds → DpAll K H (xs.set i v) (ds.set i d)
  | _, _, _, .nil => .nil
  | _, _, 0, .cons _ t => .cons h t
  | _, _, i + 1, .cons a t => .cons a (dpAll_set h i t)
end
section
theorem depth_all {k : Nat} : ∀ {l : List PyData}, (∀ z ∈ l, z.depth ≤ k) → PyData.depthAll l ≤ k
  | [], _ => by simp only [PyData.depthAll]; exact Nat.zero_le _
  | u :: v, h => by
    have h1 := h u List.mem_cons_self
    have h2 := depth_all (l := v) fun z hz => h z (List.mem_cons_of_mem _ hz)
    simp only [PyData.depthAll]
    omega
theorem short_all {B : Nat} : ∀ {l : List PyData}, (∀ z ∈ l, z.leavesShort B = true) → PyData.leavesShortAll B l = true
  | [], _ => by simp only [PyData.leavesShortAll]
  | u :: v, h => by
    simp only [PyData.leavesShortAll, Bool.and_eq_true]
    exact ⟨h u List.mem_cons_self, short_all fun z hz => h z (List.mem_cons_of_mem _ hz)⟩
theorem show_all : ∀ {l : List PyData}, (∀ z ∈ l, z.showable = true) → PyData.showableAll l = true
  | [], _ => by simp only [PyData.showableAll]
  | u :: v, h => by
    simp only [PyData.showableAll, Bool.and_eq_true]
    exact ⟨h u List.mem_cons_self, show_all fun z hz => h z (List.mem_cons_of_mem _ hz)⟩
theorem bulk_app : ∀ (a b : List PyData), PyData.bulkAll (a ++ b) = PyData.bulkAll a + PyData.bulkAll b
  | [], b => by simp [PyData.bulkAll]
  | x :: a, b => by
    simp only [List.cons_append, PyData.bulkAll]
    rw [bulk_app a b]
    omega
theorem bulk_set : ∀ {l : List PyData} {i : Nat} {e e' : PyData}, l[i]? = some e → PyData.bulkAll (l.set i e') + e.bulk = PyData.bulkAll l + e'.bulk
  | x :: l, 0, e, e', h => by
    cases h
    simp only [List.set_cons_zero, PyData.bulkAll]
    omega
  | x :: l, i + 1, e, e', h => by
    have := bulk_set (l := l) (i := i) (e := e) (e' := e') h
    simp only [List.set_cons_succ, PyData.bulkAll]
    omega
theorem bulk_cut (l : List PyData) (i : Nat) : PyData.bulkAll (l.take i) + PyData.bulkAll (l.drop i) = PyData.bulkAll l := by
  rw [← bulk_app, List.take_append_drop]
theorem bulk_drop (l : List PyData) (i : Nat) : PyData.bulkAll (l.drop i) ≤ PyData.bulkAll l := by
  have := bulk_cut l i
  omega
theorem sqT_mn {K : PySem.W.Frag} {H : Hp} {st r : Addr} {xs : List V} (sa : StAt H st) (h : SqT K H r xs) : SqT K (mn st H) r xs := by
  obtain ⟨l, hl⟩ := sa.some
  rcases h with (h | ⟨o, h⟩) | h
  · exact .inl (.inl (mn_at (fun e => by rw [e, hl] at h; cases h) h))
  · exact .inl (.inr ⟨o, mn_at (fun e => by rw [e, hl] at h; cases h) h⟩)
  · exact .inr h
theorem sqT_same {K : PySem.W.Frag} {H H' : Hp} {r : Addr} {xs : List V} (s : Same H H') (h : SqT K H r xs) : SqT K H' r xs := sqT_kt (KT.of_same s) h
theorem dpAll_take {K : PySem.W.Frag} {H : Hp} : ∀ {vs : List V} {ds : List PyData} (i : Nat), DpAll K H vs ds → DpAll K H (vs.take i) (ds.take i)
  | _, _, 0, _ => by simp only [List.take_zero]; exact .nil
  | _, _, i + 1, .nil => .nil
  | _, _, i + 1, .cons a t => by simp only [List.take_succ_cons]; exact .cons a (dpAll_take i t)
theorem dpAll_drop {K : PySem.W.Frag} {H : Hp} : ∀ {vs : List V} {ds : List PyData} (i : Nat), DpAll K H vs ds → DpAll K H (vs.drop i) (ds.drop i)
  | _, _, 0, h => by simp only [List.drop_zero]; exact h
  | _, _, i + 1, .nil => .nil
  | _, _, i + 1, .cons a t => by simp only [List.drop_succ_cons]; exact dpAll_drop i t
theorem cut_from0 {xs : List V} {b : Int} (h0 : 0 ≤ b) : cutV xs (some b) none = xs.drop b.toNat := by
  by_cases h1 : b ≤ xs.length
  · exact cut_from h0 h1
  · obtain ⟨n, rfl⟩ : ∃ n : Nat, b = n := ⟨b.toNat, by omega⟩
    unfold cutV
    rw [HT.sIx_none, HT.sIx_nat, Nat.min_eq_right (by omega), Nat.sub_self, List.take_zero]
    exact (List.drop_eq_nil_of_le (by omega)).symm
theorem bulk_mem : ∀ {l : List PyData} {x : PyData}, x ∈ l → x.bulk + 1 ≤ PyData.bulkAll l
  | u :: v, x, h => by
    simp only [PyData.bulkAll]
    rcases List.mem_cons.mp h with rfl | h
    · omega
    · have := bulk_mem h
      omega
theorem noP {σ : L2.St} {H : Hp} {Q : Option Int → Hp → Prop} (h : Q none H) : tNoPart σ H Q := h
theorem pick_dp {K : PySem.W.Frag} {H : Hp} {vs : List V} {ds : List PyData} {r : Int} (h : DpAll K H vs ds) (r0 : 0 ≤ r) (r1 : r < ds.length) : ∃ v d, atI vs r = some v ∧ Dp K H v d ∧ d ∈ ds := by
  have hl := dpAll_len h
  have hr : r.toNat < vs.length := by omega
  obtain ⟨d, hd, hdp⟩ := dpAll_get' h (List.getElem?_eq_getElem hr)
  exact ⟨_, d, atI_at r0 (List.getElem?_eq_getElem hr), hdp, List.mem_of_getElem? hd⟩
theorem pss_imp {X : Cx} {sts : List Stmt} {t t' : TS} (h : PSs X sts t) (w : ∀ D σ H, t' D σ H → t D σ H) : PSs X sts t' := ⟨fun pins s σ H D I q => h.run pins s σ H D I (w _ _ _ q)⟩
def strD : PyData → Bool
  | .str _ => true
  | _ => false
theorem kit_str {K : PySem.W.Frag} (d : PyData) : PySem.W.kitOne K (.type (kindD d)) (.type "str") = some (strD d) := by
  cases d with
  | none => exact kit_ty (show kitB "NoneType" "str" = some false by decide +kernel)
  | bool _ => exact kit_ty (show kitB "bool" "str" = some false by decide +kernel)
  | int _ => exact kit_ty (show kitB "int" "str" = some false by decide +kernel)
  | str _ => exact kit_ty (show kitB "str" "str" = some true by decide +kernel)
  | list _ => exact kit_ty (show kitB "list" "str" = some false by decide +kernel)
  | tuple _ => exact kit_ty (show kitB "tuple" "str" = some false by decide +kernel)
  | dict _ => exact kit_ty (show kitB "dict" "str" = some false by decide +kernel)
end
section
variable {K : PySem.W.Frag}
theorem big {n : Nat} (h : n ≤ 1000000) : n ≤ sizeLine := Nat.le_trans h (by decide)
theorem catB_run {H : Hp} {a b : Addr} {xs ys : List V} {Q : VK} (ha : SqT K H a xs) (hb : SqT K H b ys) (hz : xs.length + ys.length ≤ 1000000) (q : ∀ r H', Same H H' → SqT K H' r (xs ++ ys) → Q (.ref r) H') : rCatA K (.ref a) (.ref b) H Q := by
  refine ⟨a, b, xs, ys, rfl, rfl, ha, hb, big hz, fun e => ?_, fun _ e => ?_, fun _ _ p hp => q p _ (same_new hp _) (SqT.of upd_same)⟩
  · subst e
    exact q b H (Same.refl _) hb
  · subst e
    exact q a H (Same.refl _) (by rw [List.append_nil]; exact ha)
end
theorem Mv.trans {st : Addr} {H H1 H2 : Hp} (a : Mv st H H1) (b : Mv st H1 H2) : Mv st H H2 := ⟨a.kp.trans b.kp, b.sa⟩
theorem bulk_tup (l : List PyData) : (PyData.tuple l).bulk = PyData.bulkAll l := by simp only [PyData.bulk]
theorem bulk_lst (l : List PyData) : (PyData.list l).bulk = PyData.bulkAll l := by simp only [PyData.bulk]
theorem depth_tup (l : List PyData) : (PyData.tuple l).depth = 1 + PyData.depthAll l := by simp only [PyData.depth]; omega
theorem depth_lst (l : List PyData) : (PyData.list l).depth = 1 + PyData.depthAll l := by simp only [PyData.depth]; omega
/-! _law_chart -/
def ChOk (most : Int) (d : PyData) : Prop := ∃ rows : List (List Int), d = .tuple (rows.map fun ns => .tuple (ns.map .int)) ∧ (rows.length : Int) ≤ most ∧ ∀ ns ∈ rows, ns.length ≤ rows.length ∧ (∀ i ∈ ns, 0 ≤ i ∧ i < rows.length) ∧ ptsFrom rows.length 0 (ns.map .int) = true
theorem pts_snoc {many j : Int} : ∀ (ns : List Int) (least : Int), (∀ n ∈ ns, n < j) → least ≤ j → j < many → ptsFrom many least (ns.map .int) = true → ptsFrom many least ((ns ++ [j]).map .int) = true
  | [], least, _, h1, h2, _ => by
    show (withinD least (many - 1) (.int j) && true) = true
    simp only [withinD, Bool.and_true, Bool.and_eq_true, decide_eq_true_eq]
    omega
  | i :: r, least, hn, h1, h2, h => by
    have h : (withinD least (many - 1) (.int i) && ptsFrom many (i + 1) (r.map .int)) = true := h
    rw [Bool.and_eq_true] at h
    show (withinD least (many - 1) (.int i) && ptsFrom many (i + 1) ((r ++ [j]).map .int)) = true
    rw [h.1, pts_snoc r (i + 1) (fun n hm => hn n (List.mem_cons_of_mem _ hm)) (by have := hn i List.mem_cons_self; omega) h2 h.2]
    rfl
theorem kt_mn {H : Hp} {st : Addr} (sa : StAt H st) : KT H (mn st H) := fun b u h n => mn_at (fun e => by
  obtain ⟨l, hl⟩ := sa.some
  rw [e, hl] at h
  cases h
  exact n _ rfl) h
theorem tupO_ints : ∀ ns : List Int, tupOnlyAll (ns.map .int) = true
  | [] => rfl
  | n :: r => by
    show (tupOnly (.int n) && tupOnlyAll (r.map .int)) = true
    rw [tupO_ints r]
    rfl
def rowsD (rows : List (List Int)) : List PyData := rows.map fun ns => .tuple (ns.map .int)
theorem tupO_rows : ∀ rows : List (List Int), tupOnlyAll (rowsD rows) = true
  | [] => rfl
  | r :: rs => by
    show (tupOnly (.tuple (r.map .int)) && tupOnlyAll (rowsD rs)) = true
    rw [tupO_rows rs, show tupOnly (.tuple (r.map .int)) = tupOnlyAll (r.map .int) by simp only [tupOnly], tupO_ints]
    rfl
theorem dp_ints {K : PySem.W.Frag} {H : Hp} : ∀ ns : List Int, DpAll K H (ns.map V.int) (ns.map PyData.int)
  | [] => .nil
  | n :: r => .cons (.int n) (dp_ints r)
theorem rows_snoc (rows : List (List Int)) (ns : List Int) : rowsD (rows ++ [ns]) = rowsD rows ++ [.tuple (ns.map .int)] := by
  unfold rowsD
  rw [List.map_append]
  rfl
section
variable {P : Program} {w : World} {K : PySem.W.Frag} {mg : Str → Option Value} {base : Heap} {f : Addr} {fd : FuncData}
def spChartG (K : PySem.W.Frag) : Sp := fun vs H Q _ => ∃ (st : Addr) (most : Int), vs = [.ref st, .int most] ∧ StAt H st ∧ 0 ≤ most ∧ most ≤ 100 ∧ ∀ v d H', Mv st H H' → Dp K (mn st H') v d → ChOk most d → Q v H'
abbrev rTupOf (K : PySem.W.Frag) : List V → Hp → VK → Prop := fun xs H Q => ∃ p ys, xs = [.ref p] ∧ ((SqL K H p ys ∧ ∀ l, H l = none → Q (.ref l) (upd H l (.tup ys))) ∨ (SqT K H p ys ∧ Q (.ref p) H))
abbrev scP : Scope := { kind := .function, names := [(".0", .local), ("_law_point", .local), ("tuple", .globalImplicit), ("range", .globalImplicit), ("_law_many", .free), ("_law_share", .free), ("_law_state_here", .free)], isGenerator := false, isCoroutine := false }
theorem scChart : FnScope ["_law_state_here", "_law_most", "_law_many", "_law_share", "_law_to", "_law_point"] ["_law_state_here", "_law_most"] (defScope sChart) := ⟨rfl, rfl, rfl, by decide +kernel, rfl, by decide +kernel, by decide +kernel⟩
theorem ok_chart {k : Nat} (F : Fun K "_law_chart" "_law_chart" sChart f fd) (T : Free mg) (cC : Cal P w K mg base "_law_choice" k ["_law_state_here", "_law_many"] spChoice) : FnOk P w K mg base CX0 (k + 1) f fd ["_law_state_here", "_law_most"] (spChartG K) := by
  refine F.ok scChart (fun vs H Q E h => ?_) (fun cdv A outer s H vs Q E hr h => ?_)
  · obtain ⟨st, most, rfl, _⟩ := h
    rfl
  obtain ⟨st, most, rfl, sa, m0, m1, q⟩ := h
  refine ⟨_, pss_cons (ps_asg (pe_tup (pa_cons (pe_cal cC hr rfl (pa_cons (pv 0) (pa_cons (pe_op op_add (pv 1) pe_int) pa_nil))) (pa_cons (pe_ix ix_list (pe_lst (pa_cons pe_int (pa_cons pe_int (pa_cons pe_int (pa_cons pe_int pa_nil))))) (pe_cal cC hr rfl (pa_cons (pv 0) (pa_cons pe_int pa_nil))) (fun _ _ => rfl)) pa_nil)))
      (pg_tup rfl (pgs_cons (pg_name (i := 2) scChart.nd rfl (.inr rfl)) (pgs_cons (pg_name (i := 3) scChart.nd rfl (.inr rfl)) pgs_nil))))
    (pss_one (ps_ret (pe_callTy call_tuple_of rfl T.tuple (by decide +kernel) (pa_cons
      (pe_lc (own := [("_law_point", 5)]) (g := gName 5) (tt := tYes) (te := tCB (rTupOf K) (tCons (tLc (iRng1 (tCons (tVar 2) tNil)) (gName 4) (tTest (tOp (rI0 fun i j => .bl (decide (i < j))) (tCall spChoice [] E0 (tCons (tVar 0) (tCons (tC (.int 8)) tNil))) (tVar 3))) (tVar 4) [4]) tNil)) rfl scChart.nd (pi_range1 rfl T.range (pa_cons (pv 2) pa_nil))
        (blkOk_by (own := [("_law_point", 5)]) (N := ["_law_state_here", "_law_most", "_law_many", "_law_share", "_law_to", "_law_point"]) (sc := defScope sChart) (by decide +kernel))
        (fun _ _ _ _ _ => pg_name (i := 5) scChart.nd rfl (Or.inl rfl)) (fun _ _ _ _ _ => pts_nil)
        (fun _ _ _ _ _ => pe_callTy call_tuple_of rfl T.tuple (by decide +kernel) (pa_cons
          (pe_lc (own := [("_law_to", 4)]) (g := gName 4) (tt := tTest (tOp (rI0 fun i j => .bl (decide (i < j))) (tCall spChoice [] E0 (tCons (tVar 0) (tCons (tC (.int 8)) tNil))) (tVar 3))) (te := tVar 4) rfl scChart.nd (pi_range1 rfl T.range (pa_cons (pv 2) pa_nil))
            (blkOk_by (own := [("_law_to", 4)]) (N := ["_law_state_here", "_law_most", "_law_many", "_law_share", "_law_to", "_law_point"]) (sc := relS scP (defScope sChart)) (by decide +kernel))
            (fun _ _ _ _ _ => pg_name (i := 4) scChart.nd rfl (Or.inl rfl))
            (fun _ _ _ _ _ => pts_one (pt_cmpR op_lt (pe_cal cC hr rfl (pa_cons (pv 0) (pa_cons pe_int pa_nil))) (pv 3) (nomark _)))
            (fun _ _ _ _ _ => pv 4)) pa_nil))) pa_nil)))), ?_⟩
  refine ⟨_, rfl, _, rfl, _, _, rfl, rfl, st, _, rfl, sa, by omega, by omega, fun many H1 n0 n1 mv1 => ?_⟩
  refine ⟨small (by show 4 ≤ 1000; decide), fun p2 h2 => ⟨_, rfl, st, 4, rfl, mv1.sa.same (same_new h2 _), by decide, by decide, fun r H3 r0 r1 mv3 => ?_⟩⟩
  have np2 : p2 ≠ st := mv1.sa.ne h2
  obtain ⟨share, hat⟩ : ∃ e : Int, atI [V.int 1, .int 2, .int 4, .int 7] r = some (.int e) := by
    have hr4 : r.toNat < 4 := by omega
    obtain ⟨v, hv⟩ : ∃ v, ([V.int 1, .int 2, .int 4, .int 7])[r.toNat]? = some v := ⟨_, List.getElem?_eq_getElem hr4⟩
    have all : ∀ v ∈ [V.int 1, .int 2, .int 4, .int 7], ∃ k : Int, v = .int k := fun v hv => by
      simp only [List.mem_cons, List.not_mem_nil, or_false] at hv
      rcases hv with rfl | rfl | rfl | rfl <;> exact ⟨_, rfl⟩
    obtain ⟨e, rfl⟩ := all v (List.mem_of_getElem? hv)
    exact ⟨e, atI_at r0 hv⟩
  refine ⟨p2, _, r, _, rfl, rfl, SqL.of (mv3.kp _ _ np2 upd_same), hat, small (by show 2 ≤ 1000; decide), fun p4 h4 => ⟨p4, _, rfl, SqT.of upd_same, rfl, _, _, rfl, _, _, rfl, rfl, ?_⟩⟩
  have mv4 : Mv st H (upd H3 p4 (.tup [.int many, .int share])) := ⟨(mv1.kp.trans ((Kp.of_same (same_new h2 _)).trans mv3.kp)).trans (Kp.of_same (same_new h4 _)), mv3.sa.same (same_new h4 _)⟩
  generalize upd H3 p4 (.tup [.int many, .int share]) = H4 at mv4
  refine ⟨_, rfl, many, rfl, by omega, by omega, fun D hD => ?_⟩
  have nD : D ≠ st := mv4.sa.ne hD
  have hD0 : H D = none := mv4.kp.free nD hD
  refine lc_range (lo := 0) (n := many.toNat) (fun i H5 => Mv st H H5 ∧ ∃ (vs : List V) (rows : List (List Int)), H5 D = some (.lst vs) ∧ rows.length = i ∧ DpAll K H5 vs (rowsD rows) ∧ ∀ ns ∈ rows, ns.length ≤ many.toNat ∧ (∀ i ∈ ns, 0 ≤ i ∧ i < many) ∧ ptsFrom many 0 (ns.map .int) = true)
    ⟨⟨mv4.kp.upd hD0, mv4.sa.upd nD⟩, [], [], upd_same, rfl, .nil, fun ns h => by cases h⟩ (fun i H5 hi h => ?_) (fun H5 h => ?_)
  · obtain ⟨mv5, vs, rows, h5, lr, dr, ok⟩ := h
    refine ⟨rfl, yesG ⟨_, rfl, many, rfl, by omega, by omega, fun E hE => ?_⟩⟩
    have nE : E ≠ st := mv5.sa.ne hE
    have nED : E ≠ D := fun z => by rw [z, h5] at hE; cases hE
    have lrv := dpAll_len dr
    refine lc_range (lo := 0) (n := many.toNat) (fun j H6 => Kp st H5 H6 ∧ StAt H6 st ∧ ∃ ns : List Int, H6 E = some (.lst (ns.map V.int)) ∧ ns.length ≤ j ∧ (∀ i ∈ ns, 0 ≤ i ∧ i < (j : Int)) ∧ ptsFrom many 0 (ns.map .int) = true)
      ⟨(Kp.of_same (same_new hE _)), mv5.sa.upd nE, [], upd_same, Nat.le_refl _, (fun i h => by cases h), rfl⟩ (fun j H6 hj h => ?_) (fun H6 h => ?_)
    · obtain ⟨kp6, sa6, ns, h6, ln, bn, pn⟩ := h
      refine ⟨rfl, _, rfl, st, 8, rfl, sa6, by decide, by decide, fun r7 H7 _ _ mv7 => ⟨_, rfl, _, _, rfl, rfl, _, rfl, ?_⟩⟩
      have h7 : H7 E = some (.lst (ns.map V.int)) := mv7.kp _ _ nE h6
      have kp7 := kp6.trans mv7.kp
      refine ite2 (fun c => ⟨_, rfl, _, h7, Nat.lt_of_lt_of_le (show _ < 1000 by rw [List.length_map]; omega) (small (Nat.le_refl _)), ?_⟩) (fun c => ⟨kp7, mv7.sa, ns, h7, by omega, fun i hi => by have := bn i hi; omega, pn⟩)
      refine ⟨kp7.upd hE, mv7.sa.upd nE, ns ++ [0 + (j : Int)], ?_, by rw [List.length_append]; show _ + 1 ≤ _; omega, fun i hi => ?_, pts_snoc ns 0 (fun n hn => by have := bn n hn; omega) (by omega) (by omega) pn⟩
      · rw [upd_same, List.map_append]
        rfl
      · rcases List.mem_append.mp hi with hi | hi
        · have := bn i hi
          omega
        · rw [List.mem_singleton.mp hi]
          omega
    · obtain ⟨kp6, sa6, ns, h6, ln, bn, pn⟩ := h
      refine ⟨E, _, rfl, .inl ⟨SqL.of h6, fun l hl => ?_⟩⟩
      have h6D : H6 D = some (.lst vs) := kp6 _ _ nD h5
      have nl := same_new hl (.tup (ns.map V.int))
      have kt : KT H5 (upd H6 l (.tup (ns.map V.int))) := (kp6.kt mv5.sa).trans (KT.of_same nl)
      have nlD : l ≠ D := fun z => by rw [z, h6D] at hl; cases hl
      refine ⟨vs, nl _ _ h6D, Nat.lt_of_lt_of_le (show _ < 1000 by rw [lrv]; unfold rowsD; rw [List.length_map]; omega) (small (Nat.le_refl _)), ⟨(mv5.kp.trans (kp6.trans (Kp.of_same nl))).upd hD0, (sa6.same nl).upd nD⟩, vs ++ [.ref l], rows ++ [ns], upd_same, by rw [List.length_append, lr]; rfl, ?_, fun z hz => ?_⟩
      · have d1 := dpAll_kt (kt.trans (KT.upd (l' := vs ++ [.ref l]) (nl _ _ h6D))) _ _ (tupO_rows rows) dr
        rw [rows_snoc]
        refine dpAll_snoc (.tup (SqT.of ?_) (dp_ints ns)) d1
        rw [upd_ne nlD, upd_same]
      · rcases List.mem_append.mp hz with hz | hz
        · exact ok z hz
        · rw [List.mem_singleton.mp hz]
          exact ⟨ln, fun i hi => by have := bn i hi; omega, pn⟩
  · obtain ⟨mv5, vs, rows, h5, lr, dr, ok⟩ := h
    refine ⟨D, _, rfl, .inl ⟨SqL.of h5, fun l hl => ?_⟩⟩
    have nl := same_new hl (.tup vs)
    have sa6 := mv5.sa.same nl
    have lm : (rows.length : Int) = many := by omega
    refine q _ (.tuple (rowsD rows)) _ ⟨mv5.kp.trans (Kp.of_same nl), sa6⟩ (.tup (sqT_mn sa6 (SqT.of upd_same)) (dpAll_kt ((KT.of_same nl).trans (kt_mn sa6)) _ _ (tupO_rows rows) dr)) ⟨rows, rfl, by omega, fun ns hn => ?_⟩
    obtain ⟨a, b, c⟩ := ok ns hn
    rw [lm]
    exact ⟨by omega, b, c⟩
end
/-! _law_some: points of a chart -/
def PsOk (many : Int) (ns : List Int) : Prop := (ns.length : Int) ≤ many ∧ (∀ i ∈ ns, 0 ≤ i ∧ i < many) ∧ ptsFrom many 0 (ns.map .int) = true
section
variable {P : Program} {w : World} {K : PySem.W.Frag} {mg : Str → Option Value} {base : Heap} {f : Addr} {fd : FuncData}
def spSomeP (K : PySem.W.Frag) : Sp := fun vs H Q _ => ∃ (st : Addr) (many : Int), vs = [.ref st, .int many] ∧ StAt H st ∧ 0 ≤ many ∧ many ≤ 100 ∧ ∀ v ns H', Mv st H H' → Dp K (mn st H') v (.tuple (ns.map .int)) → PsOk many ns → Q v H'
theorem scSomeP : FnScope ["_law_state_here", "_law_many", "_law_share", "_law_point"] ["_law_state_here", "_law_many"] (defScope sSomeP) := ⟨rfl, rfl, rfl, by decide +kernel, rfl, by decide +kernel, by decide +kernel⟩
theorem ok_someP {k : Nat} (F : Fun K "_law_some" "_law_some" sSomeP f fd) (T : Free mg) (cC : Cal P w K mg base "_law_choice" k ["_law_state_here", "_law_many"] spChoice) : FnOk P w K mg base CX0 (k + 1) f fd ["_law_state_here", "_law_many"] (spSomeP K) := by
  refine F.ok scSomeP (fun vs H Q E h => ?_) (fun cdv A outer s H vs Q E hr h => ?_)
  · obtain ⟨st, many, rfl, _⟩ := h
    rfl
  obtain ⟨st, many, rfl, sa, m0, m1, q⟩ := h
  refine ⟨_, pss_cons (ps_set (i := 2) scSomeP.nd rfl (.inr rfl) (pe_ix ix_list (pe_lst (pa_cons pe_int (pa_cons pe_int (pa_cons pe_int pa_nil)))) (pe_cal cC hr rfl (pa_cons (pv 0) (pa_cons pe_int pa_nil))) (fun _ _ => rfl)))
    (pss_one (ps_ret (pe_callTy call_tuple_of rfl T.tuple (by decide +kernel) (pa_cons
      (pe_lc (own := [("_law_point", 3)]) (g := gName 3) (tt := tTest (tOp (rI0 fun i j => .bl (decide (i < j))) (tCall spChoice [] E0 (tCons (tVar 0) (tCons (tC (.int 4)) tNil))) (tVar 2))) (te := tVar 3) rfl scSomeP.nd (pi_range1 rfl T.range (pa_cons (pv 1) pa_nil))
        (blkOk_by (own := [("_law_point", 3)]) (N := ["_law_state_here", "_law_many", "_law_share", "_law_point"]) (sc := defScope sSomeP) (by decide +kernel))
        (fun _ _ _ _ _ => pg_name (i := 3) scSomeP.nd rfl (Or.inl rfl))
        (fun _ _ _ _ _ => pts_one (pt_cmpR op_lt (pe_cal cC hr rfl (pa_cons (pv 0) (pa_cons pe_int pa_nil))) (pv 2) (nomark _)))
        (fun _ _ _ _ _ => pv 3)) pa_nil)))), ?_⟩
  refine ⟨small (by show 3 ≤ 1000; decide), fun p2 h2 => ⟨_, rfl, st, 3, rfl, sa.same (same_new h2 _), by decide, by decide, fun r H3 r0 r1 mv3 => ?_⟩⟩
  have np2 : p2 ≠ st := sa.ne h2
  obtain ⟨share, hat⟩ : ∃ e : Int, atI [V.int 1, .int 2, .int 3] r = some (.int e) := by
    obtain ⟨v, hv⟩ : ∃ v, ([V.int 1, .int 2, .int 3])[r.toNat]? = some v := ⟨_, List.getElem?_eq_getElem (show r.toNat < 3 by omega)⟩
    have all : ∀ v ∈ [V.int 1, .int 2, .int 3], ∃ k : Int, v = .int k := fun v hv => by
      simp only [List.mem_cons, List.not_mem_nil, or_false] at hv
      rcases hv with rfl | rfl | rfl <;> exact ⟨_, rfl⟩
    obtain ⟨e, rfl⟩ := all v (List.mem_of_getElem? hv)
    exact ⟨e, atI_at r0 hv⟩
  refine ⟨p2, _, r, _, rfl, rfl, SqL.of (mv3.kp _ _ np2 upd_same), hat, ?_⟩
  have mvA : Mv st H H3 := ⟨(Kp.of_same (same_new h2 _)).trans mv3.kp, mv3.sa⟩
  refine ⟨_, rfl, many, rfl, by omega, by omega, fun D hD => ?_⟩
  have nD : D ≠ st := mvA.sa.ne hD
  have hD0 : H D = none := mvA.kp.free nD hD
  refine lc_range (lo := 0) (n := many.toNat) (fun j H6 => Mv st H H6 ∧ ∃ ns : List Int, H6 D = some (.lst (ns.map V.int)) ∧ ns.length ≤ j ∧ (∀ i ∈ ns, 0 ≤ i ∧ i < (j : Int)) ∧ ptsFrom many 0 (ns.map .int) = true)
    ⟨⟨mvA.kp.upd hD0, mvA.sa.upd nD⟩, [], upd_same, Nat.le_refl _, (fun i h => by cases h), rfl⟩ (fun j H6 hj h => ?_) (fun H6 h => ?_)
  · obtain ⟨mv6, ns, h6, ln, bn, pn⟩ := h
    refine ⟨rfl, _, rfl, st, 4, rfl, mv6.sa, by decide, by decide, fun r7 H7 _ _ mv7 => ⟨_, rfl, _, _, rfl, rfl, _, rfl, ?_⟩⟩
    have h7 : H7 D = some (.lst (ns.map V.int)) := mv7.kp _ _ nD h6
    have mvB := mv6.trans mv7
    refine ite2 (fun c => ⟨_, rfl, _, h7, Nat.lt_of_lt_of_le (show _ < 1000 by rw [List.length_map]; omega) (small (Nat.le_refl _)), ?_⟩) (fun c => ⟨mvB, ns, h7, by omega, fun i hi => by have := bn i hi; omega, pn⟩)
    refine ⟨⟨mvB.kp.upd hD0, mvB.sa.upd nD⟩, ns ++ [0 + (j : Int)], ?_, by rw [List.length_append]; show _ + 1 ≤ _; omega, fun i hi => ?_, pts_snoc ns 0 (fun n hn => by have := bn n hn; omega) (by omega) (by omega) pn⟩
    · rw [upd_same, List.map_append]
      rfl
    · rcases List.mem_append.mp hi with hi | hi
      · have := bn i hi
        omega
      · rw [List.mem_singleton.mp hi]
        omega
  · obtain ⟨mv6, ns, h6, ln, bn, pn⟩ := h
    refine ⟨D, _, rfl, .inl ⟨SqL.of h6, fun l hl => ?_⟩⟩
    have nl := same_new hl (.tup (ns.map V.int))
    have sa7 := mv6.sa.same nl
    exact q _ ns _ ⟨mv6.kp.trans (Kp.of_same nl), sa7⟩ (.tup (sqT_mn sa7 (SqT.of upd_same)) (dp_ints ns)) ⟨by omega, fun i hi => by have := bn i hi; omega, pn⟩
/-! check_chart, check_case, where nothing is raised -/
def spCheckCh (K : PySem.W.Frag) (PT : TbP) : Sp := fun vs H Q _ => ∃ (x : V) (d : PyData), vs = [x] ∧ Dp K H x d ∧ chartD d = true ∧ TabsG PT H ∧ ∀ H', LamX.ExtN H H' → TabsG PT H' → Q .non H'
theorem scCheckCh : FnScope ["chart"] ["chart"] (defScope sCheckCh) := ⟨rfl, rfl, rfl, by decide +kernel, rfl, by decide +kernel, by decide +kernel⟩
theorem ok_checkCh {k : Nat} {PT : TbP} (F : Fun K "check_chart" "check_chart" sCheckCh f fd) (cI : Cal P w K mg base "is_chart" k ["thing"] (spIsChart K PT)) : FnOk P w K mg base CX0 (k + 1) f fd ["chart"] (spCheckCh K PT) := by
  refine F.ok scCheckCh (fun vs H Q E h => ?_) (fun cdv A outer s H vs Q E hr h => ?_)
  · obtain ⟨x, d, rfl, _⟩ := h
    rfl
  obtain ⟨x, d, rfl, hx, hc, tb, q⟩ := h
  refine ⟨_, pss_one (ps_if (pt_not (pt_val (pe_cal cI hr rfl (pa_cons (pv 0) pa_nil)))) pss_never pss_nil), ?_⟩
  refine ⟨_, rfl, x, d, rfl, hx, tb, fun H' e t => ⟨_, rfl, ?_⟩⟩
  rw [hc]
  exact ifF rfl (q H' e t)
def spCheckCase (K : PySem.W.Frag) (PT : TbP) : Sp := fun vs H Q _ => ∃ (x y z : V) (ds : List PyData) (e g : PyData), vs = [x, y, z] ∧ Dp K H x (.tuple ds) ∧ Dp K H y e ∧ Dp K H z g ∧ chartD (.tuple ds) = true ∧ pointsD ds.length e = true ∧ pointsD ds.length g = true ∧ TabsG PT H ∧ ∀ H', LamX.ExtN H H' → TabsG PT H' → Q .non H'
theorem scCheckCase : FnScope ["chart", "starts", "goals"] ["chart", "starts", "goals"] (defScope sCheckCase) := ⟨rfl, rfl, rfl, by decide +kernel, rfl, by decide +kernel, by decide +kernel⟩
theorem ok_checkCase {k : Nat} {PT : TbP} (F : Fun K "check_case" "check_case" sCheckCase f fd) (T : Free mg) (cH : Cal P w K mg base "check_chart" k ["chart"] (spCheckCh K PT)) (cP : Cal P w K mg base "are_points" k ["thing", "many"] (spPoints K)) : FnOk P w K mg base CX0 (k + 1) f fd ["chart", "starts", "goals"] (spCheckCase K PT) := by
  refine F.ok scCheckCase (fun vs H Q E h => ?_) (fun cdv A outer s H vs Q E hr h => ?_)
  · obtain ⟨x, y, z, ds, e, g, rfl, _⟩ := h
    rfl
  obtain ⟨x, y, z, ds, e, g, rfl, hx, hy, hz, hc, he, hg, tb, q⟩ := h
  refine ⟨_, pss_cons (ps_expr (pe_cal cH hr rfl (pa_cons (pv 0) pa_nil)))
    (pss_cons (ps_if (pt_not (pt_val (pe_cal cP hr rfl (pa_cons (pv 1) (pa_cons (pe_callB call_len_seq rfl T.len PySem.boot_len (pa_cons (pv 0) pa_nil)) pa_nil))))) pss_never pss_nil)
    (pss_one (ps_if (pt_not (pt_val (pe_cal cP hr rfl (pa_cons (pv 2) (pa_cons (pe_callB call_len_seq rfl T.len PySem.boot_len (pa_cons (pv 0) pa_nil)) pa_nil))))) pss_never pss_nil))), ?_⟩
  refine ⟨_, rfl, x, _, rfl, hx, hc, tb, fun H1 e1 t1 => ?_⟩
  have hx1 := dp_ext e1 _ _ hx
  have hy1 := dp_ext e1 _ _ hy
  have hz1 := dp_ext e1 _ _ hz
  cases hx1 with
  | @tup a xs _ at_ each =>
    have lx := dpAll_len each
    refine ⟨_, rfl, _, rfl, a, xs, rfl, .inr at_, y, e, _, rfl, hy1, _, rfl, ?_⟩
    rw [lx, he]
    refine ifF rfl ⟨_, rfl, _, rfl, a, xs, rfl, .inr at_, z, g, _, rfl, hz1, _, rfl, ?_⟩
    rw [lx, hg]
    exact ifF rfl (q H1 e1 t1)
end
/-! {k: v for .. in .. for .. in ..}, its keys tuples; no clause has an `if` -/
section
open PySem.Spec PyProof.Rows
theorem t_dictSet {X : Cx} {pins : List (Addr × Obj)} {ρ : L2.St} {G : Hp} {u : Shared} {E : Value → Shared → Prop} {D b : Addr} {kvs : List (List Key × V)} {k : List Key} {z : V} {zv : Value} {Q : Unit → Shared → Prop} (hu : X.A.units + 1 < cLine) (I : Inv X pins ρ G u) (hD : G D = some (.dT kvs)) (hb : G b = some (.tup (k.map kV))) (hl : kvs.length < sizeLine) (rz : RelV z zv)
    (h : ∀ u', Inv X pins ρ (upd G D (.dT (putK kvs k z))) u' → Q () u') : wpAny (model X.prog X.w) X.A (dictSet D (.ref b) zv) Q E u := by
  obtain ⟨small0, notSys, xs, pairs, holds⟩ := dt_of I.hok hD
  have l1 : xs.length ≤ sizeLine := by rw [← Paired.length pairs]; exact small0
  have l2 : (putK kvs k z).length ≤ sizeLine := by have := length_putK kvs k z; omega
  refine wpAny_dictSet_heap (knd := tupleKind (mixKind X.prog X.w)) (hsz := l1) (show X.A.units < cLine by omega) (key_of I.hok hb) holds fun h' holds' same => h _ ?_
  obtain ⟨o, es, ep, at_, x1, x2, x3, _, x5⟩ := holds'
  refine d_write I (by rw [hD]; exact True.intro) same ⟨o, at_⟩ ⟨l2, notSys, _, (pairs.put k hb rz).keeps fun c ys ec => ?_, o, es, ep, at_, x1, x2, x3, x5⟩
  rw [upd_ne (ne_of ec hD (fun q => nomatch q))]
  exact ec
section
variable {prog : Program} {w : World} {A : Around} {R : Result → Shared → Prop} {u : Shared} {kx vx ta ia tb ib : Expr} {sc : Scope} {pos : Pos} {it acc : Value} {env : Env}
abbrev dcE (kx vx ta ia tb ib : Expr) (sc : Scope) (pos : Pos) : Expr := .DictComp kx vx [⟨ta, ia, [], 0⟩, ⟨tb, ib, [], 0⟩] sc pos
theorem turnA : compTurn (dcE kx vx ta ia tb ib sc pos) 0 it acc env = (do
    standAt ia.pos
    match ← pyNext it with
    | none => pure (.done .next)
    | some v =>
      letOwnedTupleGo ta it v
      assign ta env v
      let x ← eval ib env
      standAt ib.pos
      let x ← foldedSetIterable ib env x
      let j ← holding [x] (pyIter x)
      let _ ← runOwn (.compStart (dcE kx vx ta ia tb ib sc pos) 1 j acc env) env
      again (.compLoop (dcE kx vx ta ia tb ib sc pos) 0 it acc env)) := by rfl
theorem turnB {D : Addr} : compTurn (dcE kx vx ta ia tb ib sc pos) 1 it (.ref D) env = (do
    standAt ib.pos
    match ← pyNext it with
    | none => pure (.done .next)
    | some v =>
      letOwnedTupleGo tb it v
      assign tb env v
      (do
        let kv ← eval kx env
        let vv ← holding [kv] (eval vx env)
        standAt { kx.pos with endLine := vx.pos.endLine, endCol := vx.pos.endCol }
        holding [kv, vv] (dictSet D kv vv))
      again (.compLoop (dcE kx vx ta ia tb ib sc pos) 1 it (.ref D) env)) := by rfl
abbrev noEx : Value → Shared → Prop := fun _ _ => False
theorem runsA (hf : ∀ x, foldedSetIterable ib env x = pure x) (I : Nat → Shared → Prop)
    (turn : ∀ n u, I n u → wpAny (model prog w) A (pyNext it) (fun r u1 => match r with
      | none => R (.ok .next) u1
      | some v => wpAny (model prog w) A (letOwnedTupleGo ta it v) (fun _ u2 => wpAny (model prog w) A (assign ta env v) (fun _ u3 =>
          wpAny (model prog w) A (eval ib env) (fun x u4 => wpAny (model prog w) A (pyIter x) (fun j u5 =>
            codeAny (model prog w) A (.compStart (dcE kx vx ta ia tb ib sc pos) 1 j acc env) (fun r u6 => (∃ f, r = .ok f) ∧ ∃ m, m < n ∧ I m u6) u5) noEx u4) noEx u3) noEx u2) noEx u1) noEx u)
    (n : Nat) (h : I n u) : codeAny (model prog w) A (.compLoop (dcE kx vx ta ia tb ib sc pos) 0 it acc env) R u := by
  refine codeAny_loop rfl I (fun n u hI => ?_) n h
  show wpAny _ A ((compTurn (dcE kx vx ta ia tb ib sc pos) 0 it acc env).onRaise (fun x => do noteFrame x env; theTreesLotGoes x)) _ _ u
  refine wpAny_noted ?_
  rw [turnA]
  refine wpAny_bind (wpAny_standAt (wpAny_bind (thnF (turn n u hI) fun r u1 h1 => ?_)))
  cases r with
  | none => exact wpAny_pure h1
  | some v =>
    refine wpAny_bind (thnF h1 fun _ u2 h2 => wpAny_bind (thnF h2 fun _ u3 h3 => wpAny_bind (thnF h3 fun x u4 h4 => ?_)))
    refine wpAny_bind (wpAny_standAt (wpAny_bind (wpAny_of_eq (hf x) (wpAny_bind (wpAny_holding (thnF h4 fun j u5 h5 => ?_))))))
    refine wpAny_bind (wpAny_runOwn ?_)
    rw [Around.mark_none]
    refine codeAny_mono h5 fun r u6 hr => ?_
    obtain ⟨⟨f, rfl⟩, hr⟩ := hr
    first
      | exact wpAny_pure ⟨rfl, hr⟩
      | exact wpAny_bind (wpAny_pure (wpAny_pure ⟨rfl, hr⟩))
theorem runsB {D : Addr} (I : Nat → Shared → Prop)
    (turn : ∀ n u, I n u → wpAny (model prog w) A (pyNext it) (fun r u1 => match r with
      | none => R (.ok .next) u1
      | some v => wpAny (model prog w) A (letOwnedTupleGo tb it v) (fun _ u2 => wpAny (model prog w) A (assign tb env v) (fun _ u3 =>
          wpAny (model prog w) A (eval kx env) (fun y u4 => wpAny (model prog w) A (eval vx env) (fun z u5 =>
            wpAny (model prog w) A (dictSet D y z) (fun _ u6 => ∃ m, m < n ∧ I m u6) noEx u5) noEx u4) noEx u3) noEx u2) noEx u1) noEx u)
    (n : Nat) (h : I n u) : codeAny (model prog w) A (.compLoop (dcE kx vx ta ia tb ib sc pos) 1 it (.ref D) env) R u := by
  refine codeAny_loop rfl I (fun n u hI => ?_) n h
  show wpAny _ A ((compTurn (dcE kx vx ta ia tb ib sc pos) 1 it (.ref D) env).onRaise (fun x => do noteFrame x env; theTreesLotGoes x)) _ _ u
  refine wpAny_noted ?_
  rw [turnB]
  refine wpAny_bind (wpAny_standAt (wpAny_bind (thnF (turn n u hI) fun r u1 h1 => ?_)))
  cases r with
  | none => exact wpAny_pure h1
  | some v =>
    refine wpAny_bind (thnF h1 fun _ u2 h2 => wpAny_bind (thnF h2 fun _ u3 h3 => ?_))
    exact wpAny_bind (wpAny_bind (thnF h3 fun y u4 h4 => wpAny_bind (wpAny_holding (thnF h4 fun z u5 h5 => wpAny_bind (wpAny_standAt (wpAny_holding (thnF h5 fun _ u6 h6 => wpAny_pure ⟨rfl, h6⟩)))))))
theorem startB (h0 : codeAny (model prog w) A (.compLoop (dcE kx vx ta ia tb ib sc pos) 1 it acc env) R u)
    (h : wpAny (model prog w) A (pyIter it) (fun j u' => codeAny (model prog w) A (.compLoop (dcE kx vx ta ia tb ib sc pos) 1 j acc env) R u') noEx u) :
    codeAny (model prog w) A (.compStart (dcE kx vx ta ia tb ib sc pos) 1 it acc env) R u := by
  refine codeAny_of_tree ?_
  show wpAny _ _ ((compStart (dcE kx vx ta ia tb ib sc pos) 1 it acc env).onRaise (fun x => do noteFrame x env; standAt theWindowsPlace)) _ _ u
  refine wpAny_notedAt ?_
  unfold compStart
  show wpAny _ _ (ask >>= _) _ _ u
  refine wpAny_bind (wpAny_askSetting (wpAny_ite ?_))
  split
  · first
      | exact wpAny_bind (wpAny_pure (wpAny_pure ⟨rfl, h0⟩))
      | exact wpAny_pure ⟨rfl, h0⟩
  · refine wpAny_bind (wpAny_rule ?_)
    show wpAny _ _ (standAt ib.pos >>= _) _ _ u
    exact wpAny_bind (wpAny_standAt (wpAny_bind (thnF h fun j u' h' => wpAny_pure ⟨rfl, h'⟩)))
end
/-- what is to be shown of it: W for the outer turns, W1 for the inner ones -/
def tDc2 (wa : TI) (ga : TG) (wb : TI) (gb : TG) (tk tv : TE) (vs vs1 : List Nat) : TE := fun ρ G Q => wa ρ G fun J G1 => ∀ D, G1 D = none → ∃ W : Nat → Nat → Hp → Prop, (∃ m, W 0 m (upd G1 D (.dT []))) ∧ ∀ i m G, W i m G →
  (J.stop i G ∧ Q (.ref D) G) ∨ (J.go i G ∧ ∃ Nx : Hp → Prop, (∀ G', Nx G' → ∃ m', m' < m ∧ W (i + 1) m' G') ∧ ∀ x G', J.yld i G x G' → ga x (wipe ρ vs) G' fun ρ2 G2 => wipe ρ2 vs = wipe ρ vs ∧ wb ρ2 G2 fun J1 G4 => ∃ W1 : Nat → Nat → Hp → Prop, (∃ m, W1 0 m G4) ∧ ∀ j k G, W1 j k G →
    (J1.stop j G ∧ Nx G) ∨ (J1.go j G ∧ ∃ Nx1 : Hp → Prop, (∀ G', Nx1 G' → ∃ k', k' < k ∧ W1 (j + 1) k' G') ∧ ∀ x G', J1.yld j G x G' → gb x (wipe ρ2 vs1) G' fun ρ3 G5 => wipe ρ3 vs1 = wipe ρ2 vs1 ∧ tk ρ3 G5 fun y G6 => tv ρ3 G6 fun z G7 =>
      ∃ (kvs : List (List Key × V)) (kk : List Key) (b : Addr), y = .ref b ∧ G7 b = some (.tup (kk.map kV)) ∧ G7 D = some (.dT kvs) ∧ kvs.length < sizeLine ∧ Nx1 (upd G7 D (.dT (putK kvs kk z)))))
theorem pe_dc2 {X : Cx} {kx vx ta ia tb ib : Expr} {sc : Scope} {own : List (Str × Nat)} {vs1 : List Nat} {pos : Pos} {wa wb : TI} {ga gb : TG} {tk tv : TE} (hc : X.calm = true) (hu : X.A.units + 1 < cLine) (hN : X.N.Nodup) (hi : PI X ta ia wa) (ok : BlkOk X.N X.env.scope sc own) (hv : ∀ i ∈ vs1, i ∈ own.map (·.2))
    (hga : ∀ (u : Shared) (G : Hp) (C : Addr) (cl : List (Str × Addr)) (fp : List Addr), PG (X.blk u G sc (compEnvC sc cl C X.env) fp) ta ga)
    (hib : ∀ (u : Shared) (G : Hp) (C : Addr) (cl : List (Str × Addr)) (fp : List Addr), PI (X.blk u G sc (compEnvC sc cl C X.env) fp) tb ib wb)
    (hgb : ∀ (u : Shared) (G : Hp) (C : Addr) (cl : List (Str × Addr)) (fp : List Addr), PG (X.blk u G sc (compEnvC sc cl C X.env) fp) tb gb)
    (hk : ∀ (u : Shared) (G : Hp) (C : Addr) (cl : List (Str × Addr)) (fp : List Addr), PE (X.blk u G sc (compEnvC sc cl C X.env) fp) kx tk)
    (hz : ∀ (u : Shared) (G : Hp) (C : Addr) (cl : List (Str × Addr)) (fp : List Addr), PE (X.blk u G sc (compEnvC sc cl C X.env) fp) vx tv)
    (hfa : ∀ x, foldedSetIterable ia X.env x = pure x := by intro _; rfl) (hfb : ∀ env x, foldedSetIterable ib env x = pure x := by intro _ _; rfl) :
    PE X (dcE kx vx ta ia tb ib sc pos) (tDc2 wa ga wb gb tk tv (own.map (·.2)) vs1) := by
  refine ⟨fun pins u ρ G Q I h => ?_⟩
  show wpAny _ _ (eval (.DictComp kx vx [⟨ta, ia, [], 0⟩, ⟨tb, ib, [], 0⟩] sc pos) X.env) _ _ u
  rw [arm_eval_DictComp]
  have hfree : ∀ y ∈ sc.names, y.2 = .free → ∃ c, X.env.cells.lookup y.1 = some c := fun y hy e => (ok.free y hy e).elim (fun q => I.ok.has _ (.inl q)) (fun q => I.ok.has _ (.inr q))
  refine wpAny_comprehension_free (use := none) rfl hfa (closure_ok hfree) ok.kind (fun y hy e => by rw [ok.uniq y hy, e])
    (thn (hi.run pins u ρ G _ I h) fun xv u1 hx => thn hx fun itv u2 h2 => ?_)
  obtain ⟨it, fp, tn, J, G2, rfl, I2, T, st2, f2, q⟩ := h2
  refine wpAny_newObj_type (newEnv_comp ?_)
  generalize hD : u2.heap.objs.size = D
  obtain ⟨W, ⟨m0, w0⟩, turn⟩ := q D (I2.hok.fresh (Nat.le_of_eq hD))
  generalize hu3 : ({ u2 with heap := u2.heap.push { cls := .type "dict", data := .dict #[] } } : Shared) = u3
  have hp3 : u3.heap = u2.heap.push { cls := .type "dict", data := .dict #[] } := by rw [← hu3]
  have I3 : Inv X pins ρ (upd G2 D (.dT [])) u3 := by
    rw [← hu3]
    refine I2.laid (t' := u2.toks) (fun b o e => Heap.get?_push_of_some _ e) (Nat.le_of_eq hD) ?_
    rw [← hD]
    exact dt_empty u2.heap I2.big
  have f3 : ∀ b ∈ fp, FpOk X pins (upd G2 D (.dT [])) b ∧ b < u3.heap.objs.size := fun b hb => by
    obtain ⟨o, e, _⟩ := T.obj _ _ st2 b hb
    have lt := Heap.lt_size e
    refine ⟨⟨?_, (f2 b hb).2⟩, by rw [hp3, Heap.size_push]; exact Nat.lt_succ_of_lt lt⟩
    rw [upd_ne (by rw [← hD]; exact Nat.ne_of_lt lt)]
    exact (f2 b hb).1
  have st3 : tn 0 u3.heap := T.keep _ _ _ st2 fun b _ o e => by rw [hp3]; exact Heap.get?_push_of_some _ e
  have I4 := block_start I3 ok hN f3
  generalize hcl : cellsFrom (u3.heap.objs.size + 1) sc.names (cloFrom X.env.cells sc.names []) = cl at I4 ⊢
  have pga := hga u3 (upd G2 D (.dT [])) u3.heap.objs.size cl fp
  have pib := hib u3 (upd G2 D (.dT [])) u3.heap.objs.size cl fp
  have pgb := hgb u3 (upd G2 D (.dT [])) u3.heap.objs.size cl fp
  have pk := hk u3 (upd G2 D (.dT [])) u3.heap.objs.size cl fp
  have pz := hz u3 (upd G2 D (.dT [])) u3.heap.objs.size cl fp
  have post : ∀ {u' : Shared} {G' : Hp} {m : Str → Option Value}, Inv X pins ρ G' u' → Q (.ref D) G' → u'.heap.Ns u3.heap.objs.size m → FpOk X pins G' u3.heap.objs.size → compPost (model X.prog X.w) X.A X.xe none (EP X pins ρ Q) (.ref D) u3.heap.objs.size (.ok .next) u' := fun {u' G' m} I' q hn f =>
    ⟨m, hn, fun h'' sb => ⟨.ref D, G', I'.turned (t' := u'.toks) (fun b o hb e => (sb.2 b hb).trans e) f.1 f.2.1 f.2.2.2.1 f.2.2.2.2.1 f.2.2.2.2.2, rfl, q⟩⟩
  show codeAny _ _ (.compStart (dcE kx vx ta ia tb ib sc pos) 0 (.ref it) (.ref D) (compEnvC sc cl u3.heap.objs.size X.env)) (compPost (model X.prog X.w) X.A X.xe none (EP X pins ρ Q) (.ref D) u3.heap.objs.size) { u3 with heap := pushCells (u3.heap.push { cls := .type "dict", data := .dict #[] }) sc.names }
  have nfp : ∀ b ∈ fp, (upd G2 D (.dT [])) b = none := fun b hb => (f3 b hb).1.1
  generalize hce : compEnvC sc cl u3.heap.objs.size X.env = ce at I4 pga pib pgb pk pz ⊢
  have cL : ce.locals = u3.heap.objs.size := by subst hce; rfl
  generalize hG3 : upd G2 D (.dT []) = G3 at I3 I4 pga pib pgb pk pz w0 nfp f3
  generalize hu4 : ({ u3 with heap := pushCells (u3.heap.push { cls := .type "dict", data := .dict #[] }) sc.names } : Shared) = u4 at I4 ⊢
  have st4 : tn 0 u4.heap := T.keep _ _ _ st3 fun b _ o e => by rw [← hu4]; exact pushCells_keeps _ _ _ _ (Heap.get?_push_of_some _ e)
  generalize hZ : X.blk u3 G3 sc ce fp = Z at I4 pga pib pgb pk pz
  have zp : Z.prog = X.prog := by rw [← hZ]
  have zw : Z.w = X.w := by rw [← hZ]
  have zA : Z.A = X.A := by rw [← hZ]
  have ze : Z.env = ce := by rw [← hZ]
  have zx : Z.xe = noEx := by rw [← hZ]
  have zc : Z.calm = true := by rw [← hZ]; exact hc
  have zK : Z.K = X.K := by rw [← hZ]
  have stat : ∀ {ρ' : L2.St} {G' : Hp} {u' : Shared}, Inv Z [] ρ' G' u' → (∀ b ∈ fp, G' b = none) → ∀ b ∈ fp, FpOk Z [] G' b := by
    subst hZ
    exact fun {ρ' G' u'} I' hn b hb => ⟨hn b hb, (I'.ok.exf b hb).1, I'.ok.exfs b hb, .inl hb, fun x c e => (I'.ok.exf b hb).2 x c e, fun p hp => absurd (show p ∈ ([] : List (Addr × Obj)) ++ [] from hp) (by simp)⟩
  have home : ∀ {G' : Hp} {u' : Shared}, Inv Z [] (wipe ρ (own.map (·.2))) G' u' → Q (.ref D) G' → compPost (model X.prog X.w) X.A X.xe none (EP X pins ρ Q) (.ref D) u3.heap.objs.size (.ok .next) u' := by
    subst hZ
    intro G' u' I' qq
    have I7 : Inv X pins ρ G' u' := I3.call' (ch := fp) I'.os I'.base I'.hok I'.bare fun b hb => ⟨(f3 b hb).1.2.2.2.1, (f3 b hb).1.2.1, (f3 b hb).1.2.2.2.2.1, (f3 b hb).1.2.2.2.2.2⟩
    have nC : G' ce.locals = none := I'.free
    obtain ⟨m, hn, _⟩ := I'.loc
    have hn : u'.heap.Ns ce.locals m := hn
    rw [cL] at nC hn
    exact post I7 qq hn (I3.fpOk (Nat.le_refl _) nC)
  have loop : codeAny (model X.prog X.w) X.A (.compLoop (dcE kx vx ta ia tb ib sc pos) 0 (.ref it) (.ref D) ce) (compPost (model X.prog X.w) X.A X.xe none (EP X pins ρ Q) (.ref D) u3.heap.objs.size) u4 := by
    refine runsA (hfb ce) (fun n u' => ∃ i G', Inv Z [] (wipe ρ (own.map (·.2))) G' u' ∧ tn i u'.heap ∧ (∀ b ∈ fp, G' b = none) ∧ W i n G') ?_ m0 ⟨0, G3, I4, st4, nfp, w0⟩
    rintro n u5 ⟨i, G5, I5, st5, n5, w5⟩
    rcases turn i n G5 w5 with ⟨stop, qq⟩ | ⟨go, Nx, hNx, step⟩
    · have td := T.done Z zp zw zK zc i [] u5 _ G5 noEx I5 (stat I5 n5) st5 stop
      rw [zA] at td
      refine thnF td fun r u6 ⟨hr, I6⟩ => ?_
      subst hr
      exact home I6 qq
    · have ti := T.item Z zp zw zK zc i [] u5 _ G5 noEx I5 (stat I5 n5) st5 go
      rw [zA] at ti
      refine thnF ti fun r u6 ⟨v6, hr, h6⟩ => ?_
      subst hr
      refine thnF h6 fun _ u7 ⟨x, G7, I7, r7, y7, st7, n7⟩ => ?_
      have ra := pga.run _ u7 _ G7 x v6 _ (I7.pinned (stat I7 n7) (T.obj _ _ st7)) r7 (step x G7 y7)
      rw [zp, zw, zA, ze, zx] at ra
      refine thnF ra fun _ u8 ⟨ρ8, G8, I8, hw8, q8⟩ => ?_
      have known : ∀ (j : Nat) v, (wipe ρ (own.map (·.2)))[j]? = some (some v) → (wipe ρ8 vs1)[j]? = some (some v) := fun j v e => by
        rw [← hw8] at e
        obtain ⟨e1, e2⟩ := wipe_some e
        rw [wipe_out fun z => e2 (hv j z)]
        exact e1
      have rb := pib.run _ u8 ρ8 G8 _ I8 q8
      rw [zp, zw, zA, ze, zx] at rb
      refine thnF rb fun xv u10 hx => thnF hx fun itv u11 h11 => ?_
      obtain ⟨it1, fp1, tn1, J1, G11, rfl, I11, T1, st11, f11, W1, ⟨m1, w1⟩, turn1⟩ := h11
      rw [zp, zw, zK] at T1
      have stat1 : ∀ {G' : Hp}, (∀ b ∈ fp1, G' b = none) → ∀ b ∈ fp1, FpOk Z ([] ++ pinsAt fp u7.heap) G' b := fun hn b hb => ⟨hn b hb, (f11 b hb).2⟩
      have inner : codeAny (model X.prog X.w) X.A (.compLoop (dcE kx vx ta ia tb ib sc pos) 1 (.ref it1) (.ref D) ce)
          (fun r u' => (∃ f, r = .ok f) ∧ ∃ m, m < n ∧ ∃ i G', Inv Z [] (wipe ρ (own.map (·.2))) G' u' ∧ tn i u'.heap ∧ (∀ b ∈ fp, G' b = none) ∧ W i m G') u11 := by
        refine runsB (fun k u' => ∃ j G', Inv Z ([] ++ pinsAt fp u7.heap) (wipe ρ8 vs1) G' u' ∧ tn1 j u'.heap ∧ (∀ b ∈ fp1, G' b = none) ∧ W1 j k G') ?_ m1 ⟨0, G11, I11.weak (wipe_length _ _) (fun j v e => (wipe_some e).1), st11, fun b hb => (f11 b hb).1, w1⟩
        rintro k u12 ⟨j, G12, I12, st12, n12, w12⟩
        rcases turn1 j k G12 w12 with ⟨stop1, nx1⟩ | ⟨go1, Nx1, hNx1, step1⟩
        · have td := T1.done Z zp zw zK zc j _ u12 (wipe ρ8 vs1) G12 noEx I12 (stat1 n12) st12 stop1
          rw [zA] at td
          refine thnF td fun r u13 ⟨hr, I13⟩ => ?_
          subst hr
          obtain ⟨m', hm, w'⟩ := hNx _ nx1
          have pin' : ∀ b ∈ fp, ∀ o, u7.heap.get? b = some o → u13.heap.get? b = some o ∧ G12 b = none := fun b hb o e =>
            let z := I13.pin (b, o) (List.mem_append_right _ (List.mem_append_right _ (mem_pinsAt hb e)))
            ⟨z.1, z.2.1⟩
          refine ⟨⟨_, rfl⟩, m', hm, i + 1, G12, (I13.unpinned (pins := [])).weak (by rw [← hw8, wipe_length, wipe_length]) known, T.keep _ _ _ st7 fun b hb o e => (pin' b hb o e).1, fun b hb => ?_, w'⟩
          obtain ⟨o, e, _⟩ := T.obj _ _ st7 b hb
          exact (pin' b hb o e).2
        · have ti := T1.item Z zp zw zK zc j _ u12 (wipe ρ8 vs1) G12 noEx I12 (stat1 n12) st12 go1
          rw [zA] at ti
          refine thnF ti fun r u13 ⟨v13, hr, h13⟩ => ?_
          subst hr
          refine thnF h13 fun _ u14 ⟨x1, G14, I14, r14, y14, st14, n14⟩ => ?_
          have rg := pgb.run _ u14 (wipe ρ8 vs1) G14 x1 v13 _ (I14.pinned (stat1 n14) (T1.obj _ _ st14)) r14 (step1 x1 G14 y14)
          rw [zp, zw, zA, ze, zx] at rg
          refine thnF rg fun _ u15 ⟨ρ15, G15, I15, hw15, q15⟩ => ?_
          have rk := pk.run _ u15 ρ15 G15 _ I15 q15
          rw [zp, zw, zA, ze, zx] at rk
          refine thnF rk fun yv u16 ⟨y, G16, I16, r16, q16⟩ => ?_
          have rz := pz.run _ u16 ρ15 G16 _ I16 q16
          rw [zp, zw, zA, ze, zx] at rz
          refine thnF rz fun zv u17 ⟨z, G17, I17, r17, kvs, kk, b, ey, hb, hD17, hl, nx⟩ => ?_
          subst ey
          cases r16
          have rs := t_dictSet (E := noEx) (Q := fun _ u6 => ∃ m, m < k ∧ ∃ j G', Inv Z ([] ++ pinsAt fp u7.heap) (wipe ρ8 vs1) G' u6 ∧ tn1 j u6.heap ∧ (∀ b ∈ fp1, G' b = none) ∧ W1 j m G') (by rw [zA]; exact hu) I17 hD17 hb hl r17 fun u18 I18 => by
            obtain ⟨k', hk', w'⟩ := hNx1 _ nx
            have pin' : ∀ b ∈ fp1, ∀ o, u14.heap.get? b = some o → u18.heap.get? b = some o ∧ (upd G17 D (.dT (putK kvs kk z))) b = none := fun b hb o e =>
              let z := I18.pin (b, o) (List.mem_append_right _ (List.mem_append_right _ (mem_pinsAt hb e)))
              ⟨z.1, z.2.1⟩
            refine ⟨k', hk', j + 1, _, I18.unpinned.weak (by rw [← hw15, wipe_length]) (fun j v e => by rw [← hw15] at e; exact (wipe_some e).1), T1.keep _ _ _ st14 fun b hb o e => (pin' b hb o e).1, fun b hb => ?_, w'⟩
            obtain ⟨o, e, _⟩ := T1.obj _ _ st14 b hb
            exact (pin' b hb o e).2
          rw [zp, zw, zA] at rs
          exact rs
      exact startB inner (T1.self X.A 0 _ _ _ st11 inner)
  exact codeAny_compStart_dict loop (T.self X.A 0 _ _ _ st4 loop)
end
/-! all(.. for .. in .. for .. in ..), no clause has an `if` -/
section
open PySem.Spec PyProof.Rows
/-- what is to be shown: W of the outer turns, W1 of the inner ones; each number below the one ahead -/
def g2Turn (J : It) (g : TG) (wb : TI) (gb : TG) (te : TE) (vs vs1 : List Nat) (σ0 : L2.St) (e : Bool) (Qe Qn : Hp → Prop) (W : Nat → Nat → Hp → Prop) : Prop :=
  ∀ i m H, W i m H → (J.stop i H ∧ Qe H) ∨ (J.go i H ∧ ∀ x H', J.yld i H x H' → g x σ0 H' fun σ2 H2 => wipe σ2 vs = σ0 ∧ wb σ2 H2 fun J1 H4 => ∃ W1 : Nat → Nat → Hp → Prop, (∃ k, k < m ∧ W1 0 k H4) ∧ ∀ j k H, W1 j k H →
    (J1.stop j H ∧ ∃ m', m' ≤ k ∧ m' < m ∧ W (i + 1) m' H) ∨ (J1.go j H ∧ ∀ x H', J1.yld j H x H' → gb x (wipe σ2 vs1) H' fun σ3 H5 => wipe σ3 vs1 = wipe σ2 vs1 ∧ te σ3 H5 fun y H6 => ∃ c, y = .bl c ∧ (c = e → ∃ k', k' < k ∧ W1 (j + 1) k' H6) ∧ (c ≠ e → Qn H6)))
section
variable {X : Cx} {A0 : Around} {s1 : Shared} {H1 : Hp} {ce : Env} {fp : List Addr} {pn : List (Addr × Obj)} {elt tg iter tb ib : Expr} {scope : Scope} {gpos : Pos} {it : Addr} {tn : Nat → Heap → Prop} {J : It} {g gb : TG} {wb : TI} {te : TE} {vs vs1 : List Nat} {σ0 : L2.St} {e : Bool} {Qe Qn : Hp → Prop} {W : Nat → Nat → Hp → Prop}
abbrev g2Code (elt tg iter tb ib : Expr) (scope : Scope) (gpos : Pos) (it : Addr) (ce : Env) : Code := .compLoop (.GeneratorExp elt [⟨tg, iter, [], 0⟩, ⟨tb, ib, [], 0⟩] scope gpos) 0 (.ref it) .none ce
abbrev g2Z (X : Cx) (A0 : Around) (s1 : Shared) (H1 : Hp) (ce : Env) (fp : List Addr) (pn : List (Addr × Obj)) (elt tg iter tb ib : Expr) (scope : Scope) (gpos : Pos) (it : Addr) : Cx := gxCx X (A0.over (g2Code elt tg iter tb ib scope gpos it ce) []) s1 H1 ce fp pn
theorem g2_fp {Z : Cx} (hZ : Z = g2Z X A0 s1 H1 ce fp pn elt tg iter tb ib scope gpos it) (hpn : ∀ p ∈ pn, p.1 ∉ fp) {σ' : L2.St} {H' : Hp} {s' : Shared} (I : Inv Z [] σ' H' s') (hn : ∀ b ∈ fp, H' b = none) : ∀ b ∈ fp, FpOk Z [] H' b := by
  subst hZ
  intro b hb
  refine ⟨hn b hb, (I.ok.exf b hb).1, I.ok.exfs b hb, .inl hb, fun x c e => (I.ok.exf b hb).2 x c e, fun p hp z => ?_⟩
  have hp : p ∈ pn := by
    rcases List.mem_append.mp hp with hp | hp
    · exact hp
    · cases hp
  exact hpn p hp (by rw [z]; exact hb)
abbrev g2E (elt tg iter tb ib : Expr) (scope : Scope) (gpos : Pos) : Expr := .GeneratorExp elt [⟨tg, iter, [], 0⟩, ⟨tb, ib, [], 0⟩] scope gpos
theorem g2_turn0 {itv acc : Value} : compTurn (g2E elt tg iter tb ib scope gpos) 0 itv acc ce = (do
    standAt iter.pos
    match ← pyNext itv with
    | none => pure (.done .next)
    | some v =>
      letOwnedTupleGo tg itv v
      assign tg ce v
      let x ← eval ib ce
      standAt ib.pos
      let x ← foldedSetIterable ib ce x
      let j ← holding [x] (pyIter x)
      let _ ← runOwn (.compStart (g2E elt tg iter tb ib scope gpos) 1 j acc ce) ce
      again (.compLoop (g2E elt tg iter tb ib scope gpos) 0 itv acc ce)) := by rfl
theorem g2_turn1 {itv acc : Value} : compTurn (g2E elt tg iter tb ib scope gpos) 1 itv acc ce = (do
    standAt ib.pos
    match ← pyNext itv with
    | none => pure (.done .next)
    | some v =>
      letOwnedTupleGo tb itv v
      assign tb ce v
      (do
        let y ← eval elt ce
        standAt elt.pos
        let _ ← yieldOut ce y)
      again (.compLoop (g2E elt tg iter tb ib scope gpos) 1 itv acc ce)) := by rfl
/-- within the inner loop all stands around as in the outer one -/
theorem g2_over {it1 : Value} {kk : Result → Sem PySem.Fin} {gg : Bool} {ll : List Value} {p : Pos} : A0.over (.compLoop (g2E elt tg iter tb ib scope gpos) 1 it1 .none ce) [.ret kk none gg ll (g2Code elt tg iter tb ib scope gpos it ce) p []] = A0.over (g2Code elt tg iter tb ib scope gpos it ce) [] := by
  obtain ⟨a1, a2, a3, a4, a5⟩ := A0
  rfl
theorem g2_overS {it1 : Value} {kk : Result → Sem PySem.Fin} {gg : Bool} {ll : List Value} {p : Pos} : A0.over (.compStart (g2E elt tg iter tb ib scope gpos) 1 it1 .none ce) [.ret kk none gg ll (g2Code elt tg iter tb ib scope gpos it ce) p []] = A0.over (g2Code elt tg iter tb ib scope gpos it ce) [] := by
  obtain ⟨a1, a2, a3, a4, a5⟩ := A0
  rfl
theorem seg_g2start {R : GenEnd} {Y : Protocol} {kk : Result → Sem PySem.Fin} {gg : Bool} {ll : List Value} {p : Pos} {J1 : It} {fp1 : List Addr} {it1 : Addr} {tn1 : Nat → Heap → Prop} {n : Nat} {s₀ s : Shared} (T1 : Turn X.prog X.w X.K tb J1 fp1 it1 tn1) (st : tn1 0 s.heap)
    (loop : Seg (model X.prog X.w) A0 R Y n s₀ (.compLoop (g2E elt tg iter tb ib scope gpos) 1 (.ref it1) .none ce) ((model X.prog X.w).den (.compLoop (g2E elt tg iter tb ib scope gpos) 1 (.ref it1) .none ce)) [.ret kk none gg ll (g2Code elt tg iter tb ib scope gpos it ce) p []] s) :
    Seg (model X.prog X.w) A0 R Y n s₀ (.compStart (g2E elt tg iter tb ib scope gpos) 1 (.ref it1) .none ce) ((model X.prog X.w).den (.compStart (g2E elt tg iter tb ib scope gpos) 1 (.ref it1) .none ce)) [.ret kk none gg ll (g2Code elt tg iter tb ib scope gpos it ce) p []] s := by
  show Seg _ A0 _ _ _ s₀ _ ((compStart (g2E elt tg iter tb ib scope gpos) 1 (.ref it1) .none ce).onRaise (fun x => do noteFrame x ce; standAt theWindowsPlace)) _ s
  unfold compStart
  rw [Sem.onRaise_eq_wrap]
  show Seg _ A0 _ _ _ s₀ _ ((ask >>= _).wrap _ _ _ _) _ s
  refine seg_bind_wrap (wpAny_askSetting ?_)
  split
  · exact seg_again rfl loop
  · refine seg_bind_wrap (wpAny_rule ?_)
    show Seg _ A0 _ _ _ s₀ _ ((standAt ib.pos >>= _).wrap _ _ _ _) _ s
    exact seg_bind_wrap (wpAny_standAt (seg_bind_wrap (T1.self _ 0 s _ _ st (seg_again rfl loop))))
theorem unpinAll {Y : Cx} {pins : List (Addr × Obj)} {σ : L2.St} {H : Hp} {s : Shared} (I : Inv Y pins σ H s) : Inv Y [] σ H s := I.pins_of fun p hp => nomatch hp
theorem seg_g2in {Z : Cx} (hZ : Z = g2Z X A0 s1 H1 ce fp pn elt tg iter tb ib scope gpos it) (hco : ce.scope.isCoroutine = false) {R : GenEnd} {kk : Result → Sem PySem.Fin} {gg : Bool} {ll : List Value} {p : Pos} (hgg : gg = false)
    {J1 : It} {fp1 : List Addr} {it1 : Addr} {tn1 : Nat → Heap → Prop} (T1 : Turn X.prog X.w X.K tb J1 fp1 it1 tn1) (pg : PG Z tb gb) (pe : PE Z elt te) {pins : List (Addr × Obj)} {σ8 : L2.St} {W1 : Nat → Nat → Hp → Prop} {En : Nat → Hp → Prop}
    (turn1 : ∀ j k H, W1 j k H → (J1.stop j H ∧ En k H) ∨ (J1.go j H ∧ ∀ x H', J1.yld j H x H' → gb x (wipe σ8 vs1) H' fun σ3 H5 => wipe σ3 vs1 = wipe σ8 vs1 ∧ te σ3 H5 fun y H6 => ∃ c, y = .bl c ∧ (c = e → ∃ k', k' < k ∧ W1 (j + 1) k' H6) ∧ (c ≠ e → Qn H6)))
    (f1 : ∀ b ∈ fp1, ∀ H, H b = none → FpOk Z pins H b)
    (fin : ∀ k n s₀ s H, k < n → En k H → Inv Z pins (wipe σ8 vs1) H s → Seg (model X.prog X.w) A0 R (GxY Z e Qn) n s₀ (g2Code elt tg iter tb ib scope gpos it ce) (kk (.ok .next)) [] s) :
    ∀ (k j n : Nat) (s₀ s : Shared) (H : Hp), k < n → W1 j k H → Inv Z pins (wipe σ8 vs1) H s → tn1 j s.heap → (∀ b ∈ fp1, H b = none) →
      Seg (model X.prog X.w) A0 R (GxY Z e Qn) n s₀ (.compLoop (g2E elt tg iter tb ib scope gpos) 1 (.ref it1) .none ce) ((model X.prog X.w).den (.compLoop (g2E elt tg iter tb ib scope gpos) 1 (.ref it1) .none ce)) [.ret kk none gg ll (g2Code elt tg iter tb ib scope gpos it ce) p []] s := by
  intro k
  induction k using Nat.strongRecOn with
  | ind k ih =>
    intro j n s₀ s H hkn w0 I st nf
    have hA : Z.A = A0.over (.compLoop (g2E elt tg iter tb ib scope gpos) 1 (.ref it1) .none ce) [.ret kk none gg ll (g2Code elt tg iter tb ib scope gpos it ce) p []] := by rw [g2_over, hZ]; rfl
    have hE : Z.env = ce := by rw [hZ]; rfl
    have hPr : Z.prog = X.prog := by rw [hZ]; rfl
    have hWd : Z.w = X.w := by rw [hZ]; rfl
    have hKd : Z.K = X.K := by rw [hZ]; rfl
    have hXe : Z.xe = fun _ _ => False := by rw [hZ]; rfl
    have hCa : Z.calm = true := by rw [hZ]; rfl
    show Seg _ A0 _ _ _ s₀ _ ((compTurn (g2E elt tg iter tb ib scope gpos) 1 (.ref it1) .none ce).onRaise (fun x => do noteFrame x ce; theTreesLotGoes x)) _ s
    rw [g2_turn1, Sem.onRaise_eq_wrap]
    refine seg_bind_wrap (wpAny_standAt ?_)
    rcases turn1 j k H w0 with ⟨stop, en⟩ | ⟨go, step⟩
    · have td := T1.done Z hPr hWd hKd hCa j pins s (wipe σ8 vs1) H (fun _ _ => False) I (fun b hb => f1 b hb H (nf b hb)) st stop
      rw [hA] at td
      refine seg_bind_wrap (wpAny_mono td (fun r s2 hr => ?_) fun _ _ z => z.elim)
      obtain ⟨rfl, I2⟩ := hr
      exact seg_leaf (.ok .next) (fin k n s₀ s2 H hkn en I2)
    · have ti := T1.item Z hPr hWd hKd hCa j pins s (wipe σ8 vs1) H (fun _ _ => False) I (fun b hb => f1 b hb H (nf b hb)) st go
      rw [hA] at ti
      refine seg_bind_wrap (wpAny_mono ti (fun r s2 hr => ?_) fun _ _ z => z.elim)
      obtain ⟨u, rfl, ti⟩ := hr
      refine seg_bind_wrap (wpAny_mono ti (fun _ s7 h7 => ?_) fun _ _ z => z.elim)
      obtain ⟨x, H7, I7, r7, y7, st7, n7⟩ := h7
      have I7' := I7.pinned (fun b hb => f1 b hb H7 (n7 b hb)) (T1.obj _ _ st7)
      have ta := pg.run _ s7 _ H7 x u _ I7' r7 (step x H7 y7)
      rw [hPr, hWd, hA, hE, hXe] at ta
      refine seg_bind_wrap (wpAny_mono ta (fun _ s8 h8 => ?_) fun _ _ z => z.elim)
      obtain ⟨σ9, H8, I8, hw8, q8⟩ := h8
      have out : ∀ v, yieldOut ce v = yieldValue v := fun v => by simp only [yieldOut, hco, Bool.false_eq_true, if_false]
      simp only [out]
      rw [Sem.bind_eq_wrap', Sem.bind_eq_wrap']; rw [Sem.wrap_wrap, Sem.wrap_wrap]
      have tel := pe.run _ s8 σ9 H8 _ I8 q8
      rw [hPr, hWd, hA, hE, hXe] at tel
      refine seg_wrap (wpAny_mono tel (fun y s10 h10 => ?_) fun _ _ z => z.elim)
      obtain ⟨yv, H10, I10, r10, cb, rfl, qn, qx⟩ := h10
      obtain rfl : y = Value.bool cb := r10
      obtain ⟨n', rfl⟩ : ∃ n', n = n' + 1 := ⟨n - 1, by omega⟩
      refine seg_at (seg_yield rfl rfl (by subst hgg; rfl) ⟨cb, H10, σ9, rfl, unpinAll I10, fun hc s' e1 e2 e3 => ?_, qx⟩)
      obtain ⟨k', hk, w'⟩ := qn hc
      have pin' : ∀ b ∈ fp1, ∀ o, s7.heap.get? b = some o → s10.heap.get? b = some o ∧ H10 b = none := fun b hb o eo =>
        let z := I10.pin (b, o) (List.mem_append_right _ (List.mem_append_right _ (mem_pinsAt hb eo)))
        ⟨z.1, z.2.1⟩
      have I11 : Inv Z pins (wipe σ8 vs1) H10 s10 := I10.unpinned.weak (by rw [← hw8, wipe_length]) fun i v ev => by
        rw [← hw8] at ev
        exact (wipe_some ev).1
      refine seg_again rfl (ih k' hk (j + 1) n' s' s' H10 (by omega) w' (inv_sh I11 e1 e2 e3) ?_ fun b hb => ?_)
      · rw [e1]
        exact T1.keep _ _ _ st7 fun b hb o eo => (pin' b hb o eo).1
      · obtain ⟨o, eo, _⟩ := T1.obj _ _ st7 b hb
        exact (pin' b hb o eo).2
theorem seg_g2 {Z : Cx} (hZ : Z = g2Z X A0 s1 H1 ce fp pn elt tg iter tb ib scope gpos it) (hpn : ∀ p ∈ pn, p.1 ∉ fp) (hco : ce.scope.isCoroutine = false) (hv : ∀ i ∈ vs1, i ∈ vs) (hfb : ∀ x, foldedSetIterable ib ce x = pure x) (T : Turn X.prog X.w X.K tg J fp it tn) (pg : PG Z tg g) (pib : PI Z tb ib wb) (pgb : PG Z tb gb) (pe : PE Z elt te) (turn : g2Turn J g wb gb te vs vs1 σ0 e Qe Qn W) :
    ∀ (m i n : Nat) (s₀ s : Shared) (H : Hp), m < n → W i m H → Inv Z [] σ0 H s → tn i s.heap → (∀ b ∈ fp, H b = none) →
      Seg (model X.prog X.w) A0 (fun n s₀ r s1 => r = .ok .next ∧ GxE Z σ0 Qe n s₀ s1) (GxY Z e Qn) n s₀ (g2Code elt tg iter tb ib scope gpos it ce) ((model X.prog X.w).den (g2Code elt tg iter tb ib scope gpos it ce)) [] s := by
  intro m
  induction m using Nat.strongRecOn with
  | ind m ih =>
    intro i n s₀ s H hmn w0 I st nf
    have fpo := g2_fp hZ hpn I nf
    have hA : Z.A = A0.over (g2Code elt tg iter tb ib scope gpos it ce) [] := by rw [hZ]; rfl
    have hE : Z.env = ce := by rw [hZ]; rfl
    have hPr : Z.prog = X.prog := by rw [hZ]; rfl
    have hWd : Z.w = X.w := by rw [hZ]; rfl
    have hKd : Z.K = X.K := by rw [hZ]; rfl
    have hXe : Z.xe = fun _ _ => False := by rw [hZ]; rfl
    have hCa : Z.calm = true := by rw [hZ]; rfl
    show Seg _ A0 _ _ _ s₀ _ ((compTurn (g2E elt tg iter tb ib scope gpos) 0 (.ref it) .none ce).onRaise (leaving ce)) [] s
    rw [g2_turn0, Sem.onRaise_eq_wrap]
    refine seg_bind_wrap (wpAny_standAt ?_)
    rcases turn i m H w0 with ⟨stop, qe⟩ | ⟨go, step⟩
    · have td := T.done Z hPr hWd hKd hCa i [] s σ0 H (fun _ _ => False) I fpo st stop
      rw [hA] at td
      refine seg_bind_wrap (wpAny_mono td (fun r s2 hr => ?_) fun _ _ z => z.elim)
      obtain ⟨rfl, I2⟩ := hr
      exact seg_end (.ok .next) ⟨rfl, H, I2, qe⟩
    · have ti := T.item Z hPr hWd hKd hCa i [] s σ0 H (fun _ _ => False) I fpo st go
      rw [hA] at ti
      refine seg_bind_wrap (wpAny_mono ti (fun r s2 hr => ?_) fun _ _ z => z.elim)
      obtain ⟨u, rfl, ti⟩ := hr
      refine seg_bind_wrap (wpAny_mono ti (fun _ s7 h7 => ?_) fun _ _ z => z.elim)
      obtain ⟨x, H7, I7, r7, y7, st7, n7⟩ := h7
      have I7' := I7.pinned (g2_fp hZ hpn I7 n7) (T.obj _ _ st7)
      have ta := pg.run _ s7 _ H7 x u _ I7' r7 (step x H7 y7)
      rw [hPr, hWd, hA, hE, hXe] at ta
      refine seg_bind_wrap (wpAny_mono ta (fun _ s8 h8 => ?_) fun _ _ z => z.elim)
      obtain ⟨σ8, H8, I8, hw8, q8⟩ := h8
      have tx := pib.run _ s8 σ8 H8 _ I8 q8
      rw [hPr, hWd, hA, hE, hXe] at tx
      refine seg_bind_wrap (wpAny_mono tx (fun xv s9 h9 => ?_) fun _ _ z => z.elim)
      refine seg_bind_wrap (wpAny_standAt (seg_bind_wrap (wpAny_of_eq (hfb xv) (seg_bind_wrap (wpAny_holding (wpAny_mono h9 (fun itv s11 h11 => ?_) fun _ _ z => z.elim))))))
      obtain ⟨it1, fp1, tn1, J1, H11, rfl, I11, T1, st11, f11, W1, ⟨k1, hk1, w1⟩, turn1⟩ := h11
      rw [hPr, hWd, hKd] at T1
      have hl8 : σ0.length = (wipe σ8 vs1).length := by rw [← hw8, wipe_length, wipe_length]
      have known : ∀ (j : Nat) v, σ0[j]? = some (some v) → (wipe σ8 vs1)[j]? = some (some v) := fun j v ev => by
        rw [← hw8] at ev
        obtain ⟨e1, e2⟩ := wipe_some ev
        rw [wipe_out fun z => e2 (hv j z)]
        exact e1
      refine seg_call fun p => seg_g2start T1 st11 (seg_g2in (pins := [] ++ pinsAt fp s7.heap) (σ8 := σ8) (En := fun k H => ∃ m', m' ≤ k ∧ m' < m ∧ W (i + 1) m' H) hZ hco rfl T1 pgb pe turn1 (fun b hb H hn => ⟨hn, (f11 b hb).2⟩) (fun k n s₀ s H hkn en I' => ?_) k1 0 n s₀ s11 H11 (by omega) w1 (I11.weak (wipe_length _ _) fun j v ev => (wipe_some ev).1) st11 fun b hb => (f11 b hb).1)
      obtain ⟨m', hm', hmm, w'⟩ := en
      have pin' : ∀ b ∈ fp, ∀ o, s7.heap.get? b = some o → s.heap.get? b = some o ∧ H b = none := fun b hb o eo =>
        let z := I'.pin (b, o) (List.mem_append_right _ (List.mem_append_right _ (mem_pinsAt hb eo)))
        ⟨z.1, z.2.1⟩
      refine seg_again rfl (ih m' hmm (i + 1) n s₀ s H (by omega) w' ((I'.unpinned (pins := [])).weak hl8 known) (T.keep _ _ _ st7 fun b hb o eo => (pin' b hb o eo).1) fun b hb => ?_)
      obtain ⟨o, eo, _⟩ := T.obj _ _ st7 b hb
      exact (pin' b hb o eo).2
/-- its begin -/
theorem seg_g20 {Z : Cx} (hZ : Z = g2Z X A0 s1 H1 ce fp pn elt tg iter tb ib scope gpos it) (hpn : ∀ p ∈ pn, p.1 ∉ fp) (hco : ce.scope.isCoroutine = false) (hv : ∀ i ∈ vs1, i ∈ vs) (hfb : ∀ x, foldedSetIterable ib ce x = pure x) (T : Turn X.prog X.w X.K tg J fp it tn) (pg : PG Z tg g) (pib : PI Z tb ib wb) (pgb : PG Z tb gb) (pe : PE Z elt te) (turn : g2Turn J g wb gb te vs vs1 σ0 e Qe Qn W)
    {m n : Nat} {s₀ s : Shared} {H : Hp} (hmn : m < n) (w0 : W 0 m H) (I : Inv Z [] σ0 H s) (st : tn 0 s.heap) (nf : ∀ b ∈ fp, H b = none) :
    Seg (model X.prog X.w) A0 (fun n s₀ r s1 => r = .ok .next ∧ GxE Z σ0 Qe n s₀ s1) (GxY Z e Qn) n s₀ (.compStart (.GeneratorExp elt [⟨tg, iter, [], 0⟩, ⟨tb, ib, [], 0⟩] scope gpos) 0 (.ref it) .none ce) ((model X.prog X.w).den (.compStart (.GeneratorExp elt [⟨tg, iter, [], 0⟩, ⟨tb, ib, [], 0⟩] scope gpos) 0 (.ref it) .none ce)) [] s := by
  have loop := seg_g2 hZ hpn hco hv hfb T pg pib pgb pe turn m 0 n s₀ s H hmn w0 I st nf
  show Seg _ A0 _ _ _ s₀ _ ((compStart (.GeneratorExp elt [⟨tg, iter, [], 0⟩, ⟨tb, ib, [], 0⟩] scope gpos) 0 (.ref it) .none ce).onRaise (leaving ce)) [] s
  unfold compStart
  rw [Sem.onRaise_eq_wrap]
  show Seg _ A0 _ _ _ s₀ _ ((ask >>= _).wrap _ _ _ _) [] s
  refine seg_bind_wrap (wpAny_askSetting ?_)
  split
  · exact seg_again rfl loop
  · refine seg_bind_wrap (wpAny_rule ?_)
    show Seg _ A0 _ _ _ s₀ _ ((standAt iter.pos >>= _).wrap _ _ _ _) [] s
    exact seg_bind_wrap (wpAny_standAt (seg_bind_wrap (T.self _ 0 s _ _ st (seg_again rfl loop))))
end
theorem g2_make {M : Model} {A : Around} {E : Value → Shared → Prop} {s : Shared} {env : Env} {elt tg iter tb ib : Expr} {scope : Scope} {cl : List (Str × Addr)} {pos : Pos} {Q : Value → Shared → Prop}
    (hco : scope.isCoroutine = false) (hclos : closureFor scope env = pure cl) (hcell : ∀ y ∈ scope.names, y.2 ≠ .cell) (dot : scope.names.lookup (".0" : Str) = some NameKind.local) (hkind : scope.kind = .function)
    (room : A.depth < recursionLimit)
    (h : wpAny M A (eval iter env) (fun xv u1 => wpAny M A (pyIter xv) (fun it u2 => u2.heap.NoLimit ∧ wpAny M A (genexprCode env pos (env.qual ++ "<genexpr>") scope) (fun code u3 => wpAny M A (builtinsFor env.globals env.builtins) (fun bi s4 =>
        ∀ h', h'.Ns s4.heap.objs.size (fun y => if y = ".0" then some it else none) → Heap.SameBut s4.heap.objs.size (s4.heap.push { cls := .type "frame", data := .dict #[] }) h' →
        Q (.ref h'.objs.size) { s4 with
          gens := s4.gens.push (.fresh (.compStart (g2E elt tg iter tb ib scope pos) 0 it .none (genEnv scope cl s4.heap.objs.size code bi env)))
          toks := s4.toks + 1 + 1 + 1
          heap := h'.push { cls := .type "generator", data := .fields #[.int s4.gens.size 0, .str "<genexpr>" (s4.toks + 1), .str (env.qual ++ "<genexpr>") (s4.toks + 1 + 1)] } }) E u3) E u2) E u1) E s)
    (hs : ∀ x, genFold iter env x = pure x) : wpAny M A (eval (g2E elt tg iter tb ib scope pos) env) Q E s := by
  have e0 : eval (g2E elt tg iter tb ib scope pos) env = (eval iter env >>= fun x => standAt iter.pos >>= fun _ => genFold iter env x >>= fun x => holding [x] (pyIter x) >>= fun it => enterFrame >>= fun _ => closureFor scope env >>= fun cl => genexprCode env pos (env.qual ++ "<genexpr>") scope >>= fun code => builtinsFor env.globals env.builtins >>= fun bi => newFunctionEnv scope env.globals cl [(".0", it)] (env.qual ++ "<genexpr>.") none code none bi >>= fun cenv =>
      newGenerator (.compStart (g2E elt tg iter tb ib scope pos) 0 it .none cenv) "<genexpr>" (env.qual ++ "<genexpr>")) := by
    show eval (.GeneratorExp elt [⟨tg, iter, [], 0⟩, ⟨tb, ib, [], 0⟩] scope pos) env = _
    rw [arm_eval_GeneratorExp]
    simp only [hco, Bool.false_eq_true, if_false]
    cases iter <;> rfl
  rw [e0, hclos]
  refine wpAny_bind (thn h fun xv u1 h1 => wpAny_bind (wpAny_standAt (wpAny_bind (wpAny_of_eq (hs xv) (wpAny_bind (wpAny_holding (thn h1 fun it u2 h2 => ?_)))))))
  refine wpAny_bind (wpAny_enterFrame h2.1 room (wpAny_bind (wpAny_pure (wpAny_bind (thn h2.2 fun code u3 h3 => wpAny_bind (thn h3 fun bi s4 h4 => ?_))))))
  refine wpAny_bind (wpAny_newFunctionEnv hcell (fun y hy => by rw [List.mem_singleton.mp hy]; exact dot) (fun h' hn same => ?_) hkind)
  have e1 : (fun y : Str => ([((".0" : Str), it)] : List (Str × Value)).reverse.lookup y) = fun y : Str => if y = (".0" : Str) then some it else none := by
    funext y
    by_cases hy : y = ".0"
    · rw [hy]; rfl
    · have q : (y == (".0" : Str)) = false := by simpa using hy
      simp [List.lookup, q, hy]
  rw [e1] at hn
  simp only [newGenerator, newFields]
  exact wpAny_bind (wpAny_newGen (wpAny_bind (wpAny_mkText (wpAny_bind (wpAny_mkText (wpAny_newObj_type (h4 h' hn same) (by size_fits)))))))
abbrev tQuant2 (P : Addr) (wi : TI) (g : TG) (wb : TI) (gb : TG) (te : TE) (vs vs1 : List Nat) (e : Bool) : TE := fun σ H Q => wi σ H fun J H1 => GxR.TabG H1 P ∧ ∀ H2, GxR.Tabbed P H1 H2 → ∃ W : Nat → Nat → Hp → Prop, (∃ m, W 0 m H2) ∧ g2Turn J g wb gb te vs vs1 (wipe σ vs) e (fun H => Q (.bl e) H) (fun H => Q (.bl (!e)) H) W
theorem g2_room {A : Around} {k : Nat} {elt tg iter tb ib : Expr} {scope : Scope} {gpos : Pos} {it : Addr} {ce : Env} (r : Room (k + 1) A) : Room k (A.in1.in1.over (g2Code elt tg iter tb ib scope gpos it ce) []) :=
  ⟨r.hd, by have := r.dp; show A.depth + 1 + 3 * k + 5 < _; omega, by have := r.un; show A.units + 1 + 1 + 3 + 16 * k + 200 < _; omega⟩
theorem g2_frames {A : Around} {st : List Env} {elt tg iter tb ib : Expr} {scope : Scope} {gpos : Pos} {it : Addr} {ce : Env} (h : A.frames = some st) : (A.in1.in1.over (g2Code elt tg iter tb ib scope gpos it ce) []).frames = some (ce :: st) := by
  obtain ⟨hd, d, fr, gs, u⟩ := A
  obtain rfl : fr = some st := h
  rfl
theorem g2_eval {X : Cx} {pins : List (Addr × Obj)} {σ : L2.St} {H : Hp} {s : Shared} {c P : Addr} {elt tg iter tb ib : Expr} {scope : Scope} {own : List (Str × Nat)} {gpos : Pos} {wi : TI} {g : TG} {wb : TI} {gb : TG} {vs1 : List Nat} {te : TE} {e : Bool} {k : Nat} {Q : VK} {Q' : Value → Shared → Prop}
    (hN : X.N.Nodup) (hr : Room (k + 1) X.A) (TB : LamX.TabB X.base X.mg c P) (hcode : X.env.code = .ref c) (ok : BlkOk X.N X.env.scope scope own) (nocell : ∀ y ∈ scope.names, y.2 ≠ .cell) (hco : scope.isCoroutine = false) (dot : scope.names.lookup (".0" : Str) = some NameKind.local)
    (hv : ∀ i ∈ vs1, i ∈ own.map (·.2)) (hfb : ∀ env x, foldedSetIterable ib env x = pure x) (hi : PI X tg iter wi)
    (hg : ∀ (A : Around) (s : Shared) (H : Hp) (cl : List (Str × Addr)) (C : Addr) (code : Value) (bi : Addr) (fp : List Addr) (pn : List (Addr × Obj)), Room k A → PG (gxCx X A s H (genEnv scope cl C code bi X.env) fp pn) tg g)
    (ht1 : ∀ (A : Around) (s : Shared) (H : Hp) (cl : List (Str × Addr)) (C : Addr) (code : Value) (bi : Addr) (fp : List Addr) (pn : List (Addr × Obj)), Room k A → PI (gxCx X A s H (genEnv scope cl C code bi X.env) fp pn) tb ib wb)
    (ht2 : ∀ (A : Around) (s : Shared) (H : Hp) (cl : List (Str × Addr)) (C : Addr) (code : Value) (bi : Addr) (fp : List Addr) (pn : List (Addr × Obj)), Room k A → PG (gxCx X A s H (genEnv scope cl C code bi X.env) fp pn) tb gb)
    (he : ∀ (A : Around) (s : Shared) (H : Hp) (cl : List (Str × Addr)) (C : Addr) (code : Value) (bi : Addr) (fp : List Addr) (pn : List (Addr × Obj)), Room k A → PE (gxCx X A s H (genEnv scope cl C code bi X.env) fp pn) elt te)
    (hs : ∀ v, genFold iter X.env v = pure v) (I : Inv X pins σ H s) (h : tQuant2 P wi g wb gb te (own.map (·.2)) vs1 e σ H Q)
    (hQ : ∀ a s5, GxReady X pins σ e (fun H => Q (.bl e) H) (fun H => Q (.bl (!e)) H) a s5 → Q' (.ref a) s5) :
    wpAny (model X.prog X.w) X.A (eval (.GeneratorExp elt [⟨tg, iter, [], 0⟩, ⟨tb, ib, [], 0⟩] scope gpos) X.env) Q' X.xe s := by
  have hfree : ∀ y ∈ scope.names, y.2 = .free → ∃ c, X.env.cells.lookup y.1 = some c := fun y hy ey => by
    rcases ok.free y hy ey with z | z
    · exact I.ok.has _ (.inl z)
    · exact I.ok.has _ (.inr z)
  refine g2_make hco (closure_ok hfree) nocell dot ok.kind hr.depth ?_ hs
  refine thn (hi.run pins s σ H _ I h) fun xv s1 hx => thn hx fun itv s2 h2 => ?_
  obtain ⟨it, fp, tn, J, H2, rfl, I2, T, st2, f2, ⟨ps, hP, tro⟩, q⟩ := h2
  refine ⟨I2.nolimit, ?_⟩
  have hPs : s2.heap.get? P = some { cls := .none, data := .fields ps } := I2.hok P _ hP
  have cd : PySem.W.CodeHd s2.heap c P := TB.code.keeps fun b u z => I2.bk b u z
  have szf : ∀ b ∈ fp, b < s2.heap.objs.size := fun b hb => by
    obtain ⟨o, eo, _⟩ := T.obj _ _ st2 b hb
    exact Heap.lt_size eo
  -- behind the code object
  have cont : ∀ (code : Value) (h3 : Heap) (tk : Nat) (ps' : Array Value), Heap.ExtBut P s2.heap h3 → s2.heap.objs.size ≤ h3.objs.size → h3.get? P = some { cls := .none, data := .fields ps' } → (∃ more, ps' = ps ++ more) → TriplesOk ps'.toList →
      wpAny (model X.prog X.w) X.A (builtinsFor X.env.globals X.env.builtins) (fun bi s4 => ∀ h', h'.Ns s4.heap.objs.size (fun y => if y = ".0" then some (.ref it) else none) → Heap.SameBut s4.heap.objs.size (s4.heap.push { cls := .type "frame", data := .dict #[] }) h' →
        Q' (.ref h'.objs.size) { s4 with
          gens := s4.gens.push (.fresh (.compStart (.GeneratorExp elt [⟨tg, iter, [], 0⟩, ⟨tb, ib, [], 0⟩] scope gpos) 0 (.ref it) .none (genEnv scope (cloFrom X.env.cells scope.names []) s4.heap.objs.size code bi X.env)))
          toks := s4.toks + 1 + 1 + 1
          heap := h'.push { cls := .type "generator", data := .fields #[.int s4.gens.size 0, .str "<genexpr>" (s4.toks + 1), .str (X.env.qual ++ "<genexpr>") (s4.toks + 1 + 1)] } }) X.xe { s2 with heap := h3, toks := tk } := by
    intro code h3 tk ps' hx hsz hP3 ⟨more, em⟩ tro'
    obtain ⟨bm, ob, e1, e2, e3, e4, e5, e6, e7, e8⟩ := TB.bm
    have keep3 : ∀ b u, b ≠ P → s2.heap.get? b = some u → h3.get? b = some u := fun b u hb z => hx b u hb z
    refine wpAny_builtinsFor (m := X.mg) (by rw [I2.ok.glob]; exact (I2.mod.glob.keeps I2.bk).extBut hx TB.gP) e1 e2 (keep3 _ _ e4 (I2.bk _ _ e5)) e6 e7 e8 ?_
    intro h' hns hsame
    have J4 := GxR.inv_tab (more := more) (h' := h3) (g' := s2.gens) (d' := s2.drawn) (t' := tk) I2 hP keep3 (by rw [← em]; exact hP3) I2.bare
    have tabbed : GxR.Tabbed P H2 (upd H2 P (.tbl (ps ++ more))) := ⟨⟨ps ++ more, upd_same, by rw [← em]; exact tro'⟩, fun b hb => upd_ne hb⟩
    obtain ⟨W, ⟨m0, w0⟩, turn⟩ := q _ tabbed
    have hsz' : h'.objs.size = h3.objs.size + 1 := by rw [hsame.1, Heap.size_push]
    have kp5 : ∀ (go : Obj) b o, h3.get? b = some o → (h'.push go).get? b = some o := fun go b o eo => Heap.get?_push_of_some _ (hsame.extBut b o (Nat.ne_of_lt (Heap.lt_size eo)) (Heap.get?_push_of_some _ eo))
    have fpP : ∀ b ∈ fp, b ≠ P := fun b hb z => by
      have := (f2 b hb).1
      rw [z, hP] at this
      cases this
    have nf : ∀ b ∈ fp, upd H2 P (.tbl (ps ++ more)) b = none := fun b hb => by rw [upd_ne (fpP b hb)]; exact (f2 b hb).1
    have f3 : ∀ b ∈ fp, FpOk X pins (upd H2 P (.tbl (ps ++ more))) b ∧ b < h3.objs.size := fun b hb => ⟨⟨nf b hb, (f2 b hb).2⟩, Nat.lt_of_lt_of_le (szf b hb) hsz⟩
    refine hQ _ _ ?_
    show GxReady X pins σ e _ _ h'.objs.size { s2 with
      gens := s2.gens.push (.fresh (.compStart (.GeneratorExp elt [⟨tg, iter, [], 0⟩, ⟨tb, ib, [], 0⟩] scope gpos) 0 (.ref it) .none (genEnv scope (cloFrom X.env.cells scope.names []) h3.objs.size code builtinsNs X.env)))
      toks := tk + 1 + 1 + 1
      heap := h'.push { cls := .type "generator", data := .fields #[.int s2.gens.size 0, .str "<genexpr>" (tk + 1), .str (X.env.qual ++ "<genexpr>") (tk + 1 + 1)] } }
    generalize hgo : ({ cls := .type "generator", data := .fields #[.int s2.gens.size 0, .str "<genexpr>" (tk + 1), .str (X.env.qual ++ "<genexpr>") (tk + 1 + 1)] } : Obj) = go
    have goC : go.cls = .type "generator" := by rw [← hgo]
    have goD : go.data = .fields #[.int s2.gens.size 0, .str "<genexpr>" (tk + 1), .str (X.env.qual ++ "<genexpr>") (tk + 1 + 1)] := by rw [← hgo]
    have goS : go.slots = #[] := by rw [← hgo]
    have at5 : (h'.push go).get? h'.objs.size = some go := by rw [← hgo]; exact Heap.get?_push_size _ rfl
    have isG : ∀ h : Heap, h.get? h'.objs.size = some go → h.IsGen h'.objs.size s2.gens.size := fun h eo => ⟨go, _, _, eo, goC, goD, goS⟩
    generalize hst : GenState.fresh (.compStart (.GeneratorExp elt [⟨tg, iter, [], 0⟩, ⟨tb, ib, [], 0⟩] scope gpos) 0 (.ref it) .none (genEnv scope (cloFrom X.env.cells scope.names []) h3.objs.size code builtinsNs X.env)) = fr
    have bare5 : AllBare (s2.gens.push fr) := I2.bare.push (by rw [← hst]; rfl)
    have rm := g2_room (elt := elt) (tg := tg) (iter := iter) (tb := tb) (ib := ib) (scope := scope) (gpos := gpos) (it := it) (ce := genEnv scope (cloFrom X.env.cells scope.names []) h3.objs.size code builtinsNs X.env) hr
    obtain ⟨ce, hce⟩ : ∃ ce, ce = genEnv scope (cloFrom X.env.cells scope.names []) h3.objs.size code builtinsNs X.env := ⟨_, rfl⟩
    obtain ⟨s4, hs4⟩ : ∃ s4 : Shared, s4 = { s2 with heap := h3, gens := s2.gens, drawn := s2.drawn, toks := tk } := ⟨_, rfl⟩
    obtain ⟨H4, hH4⟩ : ∃ H4, H4 = upd H2 P (.tbl (ps ++ more)) := ⟨_, rfl⟩
    obtain ⟨Z, hZ⟩ : ∃ Z, Z = g2Z X X.A.in1.in1 s4 H4 ce fp [(h'.objs.size, go)] elt tg iter tb ib scope gpos it := ⟨_, rfl⟩
    have J4' : Inv X pins σ H4 s4 := by rw [hs4, hH4]; exact J4
    have Z0 : Inv Z [] (wipe σ (own.map (·.2))) H4 { s2 with heap := h'.push go, gens := s2.gens.push fr, toks := tk + 1 + 1 + 1 } := by
      rw [hZ, hs4, hH4, hce]
      exact gx_start (A := X.A.in1.in1.over (g2Code elt tg iter tb ib scope gpos it (genEnv scope (cloFrom X.env.cells scope.names []) h3.objs.size code builtinsNs X.env)) []) (a := h'.objs.size) (go := go) (h5 := h'.push go) (g5 := s2.gens.push fr) (t5 := tk + 1 + 1 + 1) (code := code) J4 hN ok nocell rm.hd (g2_frames J4.ok.frames) f3 (hns.push _) (kp5 go) at5 (by show h3.objs.size < _; omega) (fun v z => by rw [goD] at z; cases z) bare5
    rw [← hH4] at w0
    refine ⟨s2.gens.size, m0 + 1, Z, wipe σ (own.map (·.2)), by rw [hZ]; rfl, by rw [hZ]; rfl, isG _ at5, Z0.nolimit, fun {σ' H' s'} IZ => ?_, ⟨fr, Array.getElem?_push_size .., ?_⟩, fun s' H' os bare un hok => ?_⟩
    · refine isG _ (IZ.pin (h'.objs.size, go) (List.mem_append_left _ ?_)).1
      rw [hZ]
      exact List.mem_cons_self
    · rw [← hst, show Z.prog = X.prog by rw [hZ]; rfl, show Z.w = X.w by rw [hZ]; rfl, ← hce]
      refine ⟨rfl, seg_g20 (H := H4) hZ (fun p hp z => ?_) (by rw [hce]; exact hco) hv (hfb _) T (by rw [hZ, hce]; exact hg _ _ _ _ _ _ _ _ _ rm) (by rw [hZ, hce]; exact ht1 _ _ _ _ _ _ _ _ _ rm) (by rw [hZ, hce]; exact ht2 _ _ _ _ _ _ _ _ _ rm) (by rw [hZ, hce]; exact he _ _ _ _ _ _ _ _ _ rm) turn (Nat.lt_succ_self _) w0 (inv_sh Z0 rfl rfl (allBare_setGen (by show AllBare (s2.gens.push _); rw [hce, hst]; exact bare5) rfl)) ?_ fun b hb => by rw [hH4]; exact nf b hb⟩
      · rw [List.mem_singleton.mp hp] at z
        have z1 := (f3 _ z).2
        have z2 : h'.objs.size < h3.objs.size := z1
        omega
      · exact T.keep _ _ _ st2 fun b hb o eo => kp5 go b o (keep3 b o (fpP b hb) eo)
    · refine J4'.call' (ch := fp) ?_ ?_ ?_ bare fun b hb => ?_
      · rw [os, hZ]
        rfl
      · rw [hZ] at un
        exact un
      · rw [hZ] at hok
        exact hok
      · have z := (f3 b hb).1
        exact ⟨z.2.2.2.1, z.2.1, z.2.2.2.2.1, z.2.2.2.2.2⟩
  cases hf : codeAmong gpos ps.toList with
  | none =>
    refine wpAny_genexprCodeX hcode (cd.code hPs tro) (cd.tab hPs) hf fun c' h' tk hx hge hlt hco' _ htab' _ => ?_
    obtain ⟨o1, us, y1, y2, y3, y4, y5, y6, y7, y8, _, _, _, _, _, _, _, _, _, htr, _⟩ := hco'
    exact cont _ h' tk _ hx (Nat.le_trans hge (Nat.le_of_lt hlt)) htab'.2 ⟨_, rfl⟩ htr
  | some cv =>
    refine wpAny_genexprCode_hit hcode (cd.code hPs tro) hf ?_
    exact cont cv s2.heap s2.toks ps (Heap.ExtBut.refl _ _) (Nat.le_refl _) hPs ⟨#[], by simp⟩ tro
end
section
variable {X : Cx} {c P : Addr} {elt tg iter tb ib : Expr} {scope : Scope} {own : List (Str × Nat)} {p pos gpos : Pos} {wi wb : TI} {g gb : TG} {te : TE} {vs1 : List Nat} {k : Nat}
theorem pe_allG2 (hN : X.N.Nodup) (hr : Room (k + 1) X.A) (hg : Gl X "all") (hm : X.mg "all" = none) (hb : bootBuiltins "all" = some (.builtin "all")) (TB : LamX.TabB X.base X.mg c P) (hcode : X.env.code = .ref c) (ok : BlkOk X.N X.env.scope scope own) (nocell : ∀ y ∈ scope.names, y.2 ≠ .cell) (hco : scope.isCoroutine = false) (dot : scope.names.lookup (".0" : Str) = some NameKind.local)
    (hv : ∀ i ∈ vs1, i ∈ own.map (·.2)) (hfb : ∀ env x, foldedSetIterable ib env x = pure x) (hi : PI X tg iter wi)
    (pg : ∀ (A : Around) (s : Shared) (H : Hp) (cl : List (Str × Addr)) (C : Addr) (code : Value) (bi : Addr) (fp : List Addr) (pn : List (Addr × Obj)), Room k A → PG (gxCx X A s H (genEnv scope cl C code bi X.env) fp pn) tg g)
    (pt1 : ∀ (A : Around) (s : Shared) (H : Hp) (cl : List (Str × Addr)) (C : Addr) (code : Value) (bi : Addr) (fp : List Addr) (pn : List (Addr × Obj)), Room k A → PI (gxCx X A s H (genEnv scope cl C code bi X.env) fp pn) tb ib wb)
    (pt2 : ∀ (A : Around) (s : Shared) (H : Hp) (cl : List (Str × Addr)) (C : Addr) (code : Value) (bi : Addr) (fp : List Addr) (pn : List (Addr × Obj)), Room k A → PG (gxCx X A s H (genEnv scope cl C code bi X.env) fp pn) tb gb)
    (pe : ∀ (A : Around) (s : Shared) (H : Hp) (cl : List (Str × Addr)) (C : Addr) (code : Value) (bi : Addr) (fp : List Addr) (pn : List (Addr × Obj)), Room k A → PE (gxCx X A s H (genEnv scope cl C code bi X.env) fp pn) elt te)
    (hs : ∀ v, genFold iter X.env v = pure v)
    (he : starEach [.GeneratorExp elt [⟨tg, iter, [], 0⟩, ⟨tb, ib, [], 0⟩] scope gpos] X.env = (false, eval (.GeneratorExp elt [⟨tg, iter, [], 0⟩, ⟨tb, ib, [], 0⟩] scope gpos) X.env) :: starEach [] X.env := by rfl) :
    PE X (.Call (.Name "all" p) [.GeneratorExp elt [⟨tg, iter, [], 0⟩, ⟨tb, ib, [], 0⟩] scope gpos] [] pos) (tQuant2 P wi g wb gb te (own.map (·.2)) vs1 true) := by
  refine ⟨fun pins s σ H Q I h => ?_⟩
  refine wpAny_Call_Name_kw (ld_blt I hg hm hb ?_)
  refine PyProof.Rows.callWith_builtin1 ?_ he (by rfl)
  rw [he]
  show wpAny _ _ (spliced ((false, eval (.GeneratorExp elt [⟨tg, iter, [], 0⟩, ⟨tb, ib, [], 0⟩] scope gpos) X.env) :: backTo pos (starEach [] X.env))) _ _ s
  refine Calls.spliced_cons (g2_eval hN hr TB hcode ok nocell hco dot hv hfb hi pg pt1 pt2 pe hs I h fun a s5 hR => ?_)
  obtain ⟨gi, m, Z, σ0, e1, e2, isG, nl, isG', goes, back⟩ := hR
  refine Calls.spliced_nil ?_
  refine call_function_tree F.kind_all F.plain_all F.entry_all (F.args_all1 _) ?_
  unfold Builtin.«all»
  refine wpAny_bind ?_
  show wpAny _ _ (pure (Value.ref a)) _ _ s5
  refine wpAny_pure (wpAny_bind (wpAny_pyIter_gen isG (wpAny_pure ⟨plainId_quiet F.plain_all_loop _, ?_⟩)))
  rw [← e1, ← e2]
  exact gx_all hr.hd (by have := hr.dp; omega) isG' (fun s' H' o1 o2 o3 o4 q => ⟨.bl true, H', back s' H' o1 o2 o3 o4, rfl, q⟩) (fun s' H' o1 o2 o3 o4 q => ⟨.bl false, H', back s' H' o1 o2 o3 o4, rfl, q⟩) m s5 isG nl goes
end
/-! set(t), t a tuple of ints -/
section
open PySem.Spec PyProof.Rows
variable {X : Cx}
def rSetTI (K : PySem.W.Frag) (w : World) : List V → Hp → VK → Prop := fun xs H Q => ∃ (a : Addr) (ns : List Int), xs = [.ref a] ∧ SqT K H a (ns.map V.int) ∧ ns.length < 60 ∧ ∀ (p : Addr) (c : Nat), c ≤ ns.length → H p = none → Q (.ref p) (upd H p (SetO w p (fun j => decide (j ∈ ns)) c))
theorem cr_setTI (hc : X.calm = true) : CallR X (.type "set") (rSetTI X.K X.w) := by
  intro pins s σ H vs us Q I r h
  obtain ⟨a, ns, rfl, ha, hl, q⟩ := h
  rw [Vals.ref1 r]
  obtain ⟨its, rv, ⟨o1, g1, c1, n1, d1⟩, hz⟩ := I.tuple ha
  refine call_set_tupI ns (I.ok.hd hc) ⟨o1, g1, c1, n1, d1⟩ (by simpa using intsAre_of rv) (by unfold scanBound; omega) fun h' tk c R hc' hk => ?_
  exact ⟨.ref _, _, I.laid (t' := tk) (o := SetO X.w s.heap.objs.size (fun j => decide (j ∈ ns)) c) hk (Nat.le_refl _) (setO_new R), rfl, q _ c hc' (I.hok.fresh (Nat.le_refl _))⟩
end
/-! _law_is_chart -/
theorem eqv_ints : ∀ (ns ms : List Int), PyData.eqv (.list (ns.map .int)) (.list (ms.map .int)) = decide (ns = ms)
  | [], [] => by simp [PyData.eqv, PyData.eqvAll]
  | [], m :: ms => by simp [PyData.eqv, PyData.eqvAll]
  | n :: ns, [] => by simp [PyData.eqv, PyData.eqvAll]
  | n :: ns, m :: ms => by
    have ih := eqv_ints ns ms
    simp only [PyData.eqv] at ih
    simp only [List.map_cons, PyData.eqv, PyData.eqvAll, ih, List.cons.injEq]
    by_cases h : n = m <;> simp [h]
theorem shaped_ints (ns : List Int) : SeqAt.shaped (.list (ns.map .int)) = true := by
  show ((PyData.list (ns.map .int)).canLay0 && decide ((PyData.list (ns.map .int)).depth ≤ 64)) = true
  have h1 : ∀ ns : List Int, PyData.canLayAll0 (ns.map .int) = true := fun ns => by
    induction ns with
    | nil => simp [PyData.canLayAll0]
    | cons n r ih => simp [PyData.canLayAll0, PyData.canLay0, ih]
  have h2 : PyData.depthAll (ns.map .int) ≤ 0 := depth_all fun z hz => by
    obtain ⟨n, _, rfl⟩ := List.mem_map.mp hz
    simp [PyData.depth]
  rw [Bool.and_eq_true]
  exact ⟨by simp only [PyData.canLay0]; exact h1 ns, decide_eq_true (by rw [depth_lst]; omega)⟩
/-- strictly increasing -/
theorem sorted_same {ns ms : List Int} (hs : ms.Pairwise (· < ·)) (hm : ∀ k, k ∈ ms ↔ decide (k ∈ ns) = true) : decide (ns = ms) = decide (ns.Pairwise (· < ·)) := by
  by_cases h : ns = ms
  · rw [decide_eq_true h, h, decide_eq_true hs]
  · rw [decide_eq_false h]
    refine (decide_eq_false fun hp => h ?_).symm
    have ex : ∀ k, k ∈ ns ↔ k ∈ ms := fun k => by rw [hm k, decide_eq_true_eq]
    clear h hm
    induction ns generalizing ms with
    | nil =>
      cases ms with
      | nil => rfl
      | cons m r => exact absurd ((ex m).mpr List.mem_cons_self) (by simp)
    | cons n r ih =>
      cases ms with
      | nil => exact absurd ((ex n).mp List.mem_cons_self) (by simp)
      | cons m t =>
        obtain ⟨a1, a2⟩ := List.pairwise_cons.mp hp
        obtain ⟨b1, b2⟩ := List.pairwise_cons.mp hs
        have e : n = m := by
          have h1 := (ex n).mp List.mem_cons_self
          have h2 := (ex m).mpr List.mem_cons_self
          rcases List.mem_cons.mp h1 with h1 | h1
          · exact h1
          · rcases List.mem_cons.mp h2 with h2 | h2
            · exact h2.symm
            · have := a1 m h2
              have := b1 n h1
              omega
        subst e
        rw [ih b2 a2 fun k => ⟨fun hk => ?_, fun hk => ?_⟩]
        · rcases List.mem_cons.mp ((ex k).mp (List.mem_cons_of_mem _ hk)) with z | z
          · have := a1 k hk
            omega
          · exact z
        · rcases List.mem_cons.mp ((ex k).mpr (List.mem_cons_of_mem _ hk)) with z | z
          · have := b1 k hk
            omega
          · exact z
/-- points, told as the law tells them -/
theorem pts_law {many : Int} : ∀ (ns : List Int) (least : Int), ptsFrom many least (ns.map .int) = true ↔ (ns.Pairwise (· < ·) ∧ ∀ n ∈ ns, least ≤ n ∧ n < many)
  | [], least => by simp [ptsFrom]
  | n :: r, least => by
    show (withinD least (many - 1) (.int n) && ptsFrom many (n + 1) (r.map .int)) = true ↔ _
    rw [Bool.and_eq_true, pts_law r (n + 1), List.pairwise_cons]
    simp only [withinD, Bool.and_eq_true, decide_eq_true_eq]
    constructor
    · rintro ⟨⟨h1, h2⟩, h3, h4⟩
      refine ⟨⟨fun a ha => by have := h4 a ha; omega, h3⟩, fun a ha => ?_⟩
      rcases List.mem_cons.mp ha with rfl | ha
      · omega
      · have := h4 a ha
        omega
    · rintro ⟨⟨h1, h2⟩, h3⟩
      have := h3 n List.mem_cons_self
      exact ⟨⟨by omega, by omega⟩, h2, fun a ha => by have := h1 a ha; have := h3 a (List.mem_cons_of_mem _ ha); omega⟩
theorem pts_not {many : Int} : ∀ (ds : List PyData) (least : Int), (∃ d ∈ ds, wholeD d = false) → ptsFrom many least ds = false
  | [], _, h => by obtain ⟨d, hd, _⟩ := h; cases hd
  | d :: r, least, h => by
    cases d with
    | int i =>
      show (withinD least (many - 1) (.int i) && ptsFrom many (i + 1) r) = false
      rw [pts_not r (i + 1) ?_, Bool.and_false]
      obtain ⟨d, hd, hw⟩ := h
      rcases List.mem_cons.mp hd with rfl | hd
      · cases hw
      · exact ⟨d, hd, hw⟩
    | none => rfl
    | bool _ => rfl
    | str _ => rfl
    | list _ => rfl
    | tuple _ => rfl
    | dict _ => rfl
theorem whole_ints : ∀ (ds : List PyData), (∀ d ∈ ds, wholeD d = true) → ∃ ns : List Int, ds = ns.map .int
  | [], _ => ⟨[], rfl⟩
  | d :: r, h => by
    obtain ⟨ns, e⟩ := whole_ints r fun z hz => h z (List.mem_cons_of_mem _ hz)
    have hw := h d List.mem_cons_self
    cases d with
    | int i => exact ⟨i :: ns, by rw [e]; rfl⟩
    | none => cases hw
    | bool _ => cases hw
    | str _ => cases hw
    | list _ => cases hw
    | tuple _ => cases hw
    | dict _ => cases hw
theorem ints_dp {K : PySem.W.Frag} {H : Hp} : ∀ (ns : List Int) (ys : List V), DpAll K H ys (ns.map .int) → ys = ns.map V.int
  | [], ys, h => by cases h; rfl
  | n :: r, ys, h => by
    cases h with
    | cons h1 h2 =>
      cases h1
      rw [ints_dp r _ h2]
      rfl
/-! charts by their rows; is_walk -/
def chD (rows : List (List Int)) : PyData := .tuple (rows.map fun ns => .tuple (ns.map .int))
structure RwOk (rows : List (List Int)) : Prop where
  len : rows.length ≤ 30
  row : ∀ ns ∈ rows, ns.length ≤ rows.length ∧ ∀ i ∈ ns, 0 ≤ i ∧ i < (rows.length : Int)
def rowAt (rows : List (List Int)) (a : Int) : List Int := rows.getD a.toNat []
def linkB (rows : List (List Int)) (a b : Int) : Bool := decide (0 ≤ a ∧ b ∈ rowAt rows a)
def intAt (es : List PyData) (k : Nat) : Int := match es[k]? with
  | some (.int i) => i
  | _ => 0
def walkL (rows : List (List Int)) (es : List PyData) : Bool := !es.isEmpty && (es.all (withinD 0 ((rows.length : Int) - 1)) && (List.range (es.length - 1)).all fun k => linkB rows (intAt es k) (intAt es (k + 1)))
def walkD (rows : List (List Int)) : PyData → Bool
  | .tuple es => walkL rows es
  | _ => false
theorem within_int {lo hi : Int} {d : PyData} (h : withinD lo hi d = true) : ∃ i, d = .int i ∧ lo ≤ i ∧ i ≤ hi := by
  cases d with
  | int i =>
    have h : (decide (lo ≤ i) && decide (i ≤ hi)) = true := h
    rw [Bool.and_eq_true, decide_eq_true_eq, decide_eq_true_eq] at h
    exact ⟨i, rfl, h⟩
  | none => cases h
  | bool _ => cases h
  | str _ => cases h
  | list _ => cases h
  | tuple _ => cases h
  | dict _ => cases h
theorem intAt_of {es : List PyData} {k : Nat} {i : Int} (h : es[k]? = some (.int i)) : intAt es k = i := by unfold intAt; rw [h]
theorem ext_none {H0 H : Hp} {D : Addr} (e : LamX.ExtN H0 H) (h : H D = none) : ∀ u, H0 D = some u → ∃ ps, u = .tbl ps := fun u hu => by
  cases u with
  | tbl ps => exact ⟨ps, rfl⟩
  | _ => exact absurd ((e D _ hu fun ps z => by cases z).symm.trans h) (by simp)
theorem tabs_updD {PT : TbP} {H : Hp} {D : Addr} {o : HO} (t : TabsG PT H) (h : ∀ ps, H D ≠ some (.tbl ps)) (h' : ∀ φ, H D ≠ some (.ext φ)) : TabsG PT (upd H D o) := ⟨fun P hP => by
  obtain ⟨ps, h1, ok⟩ := t.1 P hP
  exact ⟨ps, by rw [upd_ne (fun z => h ps (by rw [← z]; exact h1))]; exact h1, ok⟩, fun p hp => by
  obtain ⟨ps, h1, h2, h3⟩ := t.2 p hp
  refine ⟨ps, by rw [upd_ne (fun z => h ps (by rw [← z]; exact h1))]; exact h1, h2, fun pos cv hc => ?_⟩
  obtain ⟨c, e1, e2⟩ := h3 pos cv hc
  refine ⟨c, e1, ?_⟩
  rw [upd_ne (fun z => h' _ (by rw [← z]; exact e2))]
  exact e2⟩
/-- a generator over a range -/
theorem gx_rng {lo : Int} {n : Nat} {g : TG} {tt : TT} {te : TE} {vs : List Nat} {σ0 : L2.St} {e : Bool} {Qe Qn : Hp → Prop} {H : Hp} (Pv : Nat → Hp → Prop) (h0 : Pv 0 H)
    (hs : ∀ i H, i < n → Pv i H → g (.int (lo + i)) σ0 H fun σ2 H2 => wipe σ2 vs = σ0 ∧ tt σ2 H2 fun b H3 => if b = true then te σ2 H3 fun y H4 => ∃ c, y = .bl c ∧ (c = e → Pv (i + 1) H4) ∧ (c ≠ e → Qn H4) else Pv (i + 1) H3) (hd : ∀ H, Pv n H → Qe H) :
    ∃ W : Nat → Nat → Hp → Prop, (∃ m, W 0 m H) ∧ gxTurn (Itr lo n) g tt te vs σ0 e Qe Qn W := by
  refine ⟨fun i m H => m = n - i ∧ i ≤ n ∧ Pv i H, ⟨n, by simp, Nat.zero_le _, h0⟩, ?_⟩
  rintro i m H ⟨rfl, hi, p⟩
  by_cases hlt : i < n
  · refine .inr ⟨hlt, Pv (i + 1), fun H' p' => ⟨n - (i + 1), by omega, rfl, hlt, p'⟩, fun x H' y => ?_⟩
    obtain ⟨rfl, rfl⟩ := y
    exact hs i _ hlt p
  · have e : i = n := by omega
    subst e
    exact .inl ⟨Nat.le_refl _, hd H p⟩
/-- the inner turns of a dict comprehension -/
abbrev dcIn (J1 : It) (gb : TG) (tk tv : TE) (vs1 : List Nat) (D : Addr) (ρ2 : L2.St) (Nx : Hp → Prop) (G4 : Hp) : Prop := ∃ W1 : Nat → Nat → Hp → Prop, (∃ m, W1 0 m G4) ∧ ∀ j k G, W1 j k G →
  (J1.stop j G ∧ Nx G) ∨ (J1.go j G ∧ ∃ Nx1 : Hp → Prop, (∀ G', Nx1 G' → ∃ k', k' < k ∧ W1 (j + 1) k' G') ∧ ∀ x G', J1.yld j G x G' → gb x (wipe ρ2 vs1) G' fun ρ3 G5 => wipe ρ3 vs1 = wipe ρ2 vs1 ∧ tk ρ3 G5 fun y G6 => tv ρ3 G6 fun z G7 =>
    ∃ (kvs : List (List Key × V)) (kk : List Key) (b : Addr), y = .ref b ∧ G7 b = some (.tup (kk.map kV)) ∧ G7 D = some (.dT kvs) ∧ kvs.length < sizeLine ∧ Nx1 (upd G7 D (.dT (putK kvs kk z))))
theorem dcIn_tup {K : PySem.W.Frag} {a : Addr} {xs : List V} {gb : TG} {tk tv : TE} {vs1 : List Nat} {D : Addr} {ρ2 : L2.St} {Nx : Hp → Prop} {G4 : Hp} (Pv : Nat → Hp → Prop) (h0 : Pv 0 G4) (hl : ∀ i G, i ≤ xs.length → Pv i G → SqT K G a xs)
    (hs : ∀ i x G, xs[i]? = some x → Pv i G → gb x (wipe ρ2 vs1) G fun ρ3 G5 => wipe ρ3 vs1 = wipe ρ2 vs1 ∧ tk ρ3 G5 fun y G6 => tv ρ3 G6 fun z G7 =>
      ∃ (kvs : List (List Key × V)) (kk : List Key) (b : Addr), y = .ref b ∧ G7 b = some (.tup (kk.map kV)) ∧ G7 D = some (.dT kvs) ∧ kvs.length < sizeLine ∧ Pv (i + 1) (upd G7 D (.dT (putK kvs kk z)))) (hd : ∀ G, Pv xs.length G → Nx G) :
    dcIn (Itt K a) gb tk tv vs1 D ρ2 Nx G4 := by
  refine ⟨fun i m G => m = xs.length - i ∧ i ≤ xs.length ∧ Pv i G, ⟨xs.length, by simp, Nat.zero_le _, h0⟩, ?_⟩
  rintro i m G ⟨rfl, hi, p⟩
  have q := hl i G hi p
  by_cases hlt : i < xs.length
  · refine .inr ⟨⟨xs, xs[i], q, by simp [hlt]⟩, Pv (i + 1), fun G' p' => ⟨xs.length - (i + 1), by omega, rfl, hlt, p'⟩, fun x G' y => ?_⟩
    obtain ⟨e, y⟩ := y
    subst e
    exact hs i x _ (y xs q) p
  · have e : i = xs.length := by omega
    subst e
    exact .inl ⟨⟨xs, q, Nat.le_refl _⟩, hd G p⟩
/-- the outer ones, over a range -/
theorem dc2_rng {lo : Int} {n : Nat} {ga : TG} {wb : TI} {gb : TG} {tk tv : TE} {vs vs1 : List Nat} {ρ : L2.St} {D : Addr} {Qd : Hp → Prop} {G1 : Hp} (Pv : Nat → Hp → Prop) (h0 : Pv 0 G1)
    (hs : ∀ i G, i < n → Pv i G → ga (.int (lo + i)) (wipe ρ vs) G fun ρ2 G2 => wipe ρ2 vs = wipe ρ vs ∧ wb ρ2 G2 fun J1 G4 => dcIn J1 gb tk tv vs1 D ρ2 (Pv (i + 1)) G4) (hd : ∀ G, Pv n G → Qd G) :
    ∃ W : Nat → Nat → Hp → Prop, (∃ m, W 0 m G1) ∧ ∀ i m G, W i m G →
      ((Itr lo n).stop i G ∧ Qd G) ∨ ((Itr lo n).go i G ∧ ∃ Nx : Hp → Prop, (∀ G', Nx G' → ∃ m', m' < m ∧ W (i + 1) m' G') ∧ ∀ x G', (Itr lo n).yld i G x G' → ga x (wipe ρ vs) G' fun ρ2 G2 => wipe ρ2 vs = wipe ρ vs ∧ wb ρ2 G2 fun J1 G4 => dcIn J1 gb tk tv vs1 D ρ2 Nx G4) := by
  refine ⟨fun i m G => m = n - i ∧ i ≤ n ∧ Pv i G, ⟨n, by simp, Nat.zero_le _, h0⟩, ?_⟩
  rintro i m G ⟨rfl, hi, p⟩
  by_cases hlt : i < n
  · refine .inr ⟨hlt, Pv (i + 1), fun G' p' => ⟨n - (i + 1), by omega, rfl, hlt, p'⟩, fun x G' y => ?_⟩
    obtain ⟨rfl, rfl⟩ := y
    exact hs i _ hlt p
  · have e : i = n := by omega
    subst e
    exact .inl ⟨Nat.le_refl _, hd G p⟩
theorem rowAt_nat {rows : List (List Int)} {i : Nat} {ns : List Int} (h : rows[i]? = some ns) : rowAt rows (i : Int) = ns := by
  unfold rowAt
  rw [show ((i : Int)).toNat = i by omega, List.getD_eq_getElem?_getD, h]
  rfl
section
variable {P : Program} {w : World} {K : PySem.W.Frag} {mg : Str → Option Value} {base : Heap} {f : Addr} {fd : FuncData}
theorem ch_row {H : Hp} {xs : List V} {rows : List (List Int)} {i : Nat} {ns : List Int} (each : DpAll K H xs (rows.map fun ns => .tuple (ns.map .int))) (h : rows[i]? = some ns) : ∃ b, xs[i]? = some (.ref b) ∧ SqT K H b (ns.map V.int) := by
  obtain ⟨x, hx, hd⟩ := dpAll_get each (show (rows.map fun ns => PyData.tuple (ns.map .int))[i]? = some (.tuple (ns.map .int)) by rw [List.getElem?_map, h]; rfl)
  cases hd with
  | @tup b ys _ at_ e =>
    rw [ints_dp ns ys e] at at_
    exact ⟨b, hx, at_⟩
def spIsWalk (K : PySem.W.Frag) (PT : TbP) : Sp := fun vs H Q _ => ∃ (x y : V) (rows : List (List Int)) (d : PyData), vs = [x, y] ∧ Dp K H x (chD rows) ∧ RwOk rows ∧ Dp K H y d ∧ (∀ es, d = .tuple es → es.length < 1000) ∧ TabsG PT H ∧ ∀ H', LamX.ExtN H H' → TabsG PT H' → Q (.bl (walkD rows d)) H'
theorem scIsWalk : FnScope ["chart", "thing", "links", "point", "after", "k"] ["chart", "thing"] (defScope sIsWalk) := ⟨rfl, rfl, rfl, by decide +kernel, rfl, by decide +kernel, by decide +kernel⟩
theorem ok_isWalk {k : Nat} {c Pc : Addr} {PT : TbP} (F : Fun K "is_walk" "is_walk" sIsWalk f fd) (hc : fd.code = .ref c) (TB : LamX.TabB base mg c Pc) (hPT : Pc ∈ PT.g) (T : Free mg) (hA : mg "all" = none) (cW : Cal P w K mg base "is_within" k ["thing", "least", "most"] (spWithin K)) : FnOk P w K mg base CX0 (k + 2) f fd ["chart", "thing"] (spIsWalk K PT) := by
  refine okC F hc scIsWalk (fun vs H Q E h => ?_) (fun A outer s H vs Q E hr h => ?_)
  · obtain ⟨x, y, rows, d, rfl, _⟩ := h
    rfl
  obtain ⟨x, y, rows, d, rfl, hx, hrw, hy, hd, tb, q⟩ := h
  refine ⟨_, pss_cons (ps_if (PW.pt (pw_or (pt_not (pt_val (pe_callB call_isi rfl T.isi (by decide +kernel) (pa_cons (pv 1) (pa_cons (pe_bltn (v := .ty "tuple") rfl T.tuple (by decide +kernel) rfl) pa_nil))))) (pw_or1 (pt_not (pt_truth (pv 1) (fun _ => rfl)))))) (pss_one (ps_ret pe_bl)) pss_nil)
    (pss_cons (ps_if (pt_not (pt_val (pe_allG (own := [("point", 3)]) (wi := iTup K (tVar 1)) (g := gName 3) (tt := tYes) (te := tCall (spWithin K) [] E0 (tCons (tVar 3) (tCons (tC (.int 0)) (tCons (tOp (rI0 fun i j => .int (i - j)) (tCB (rLen K) (tCons (tVar 0) tNil)) (tC (.int 1))) tNil)))) scIsWalk.nd hr rfl hA (by decide +kernel) TB rfl
        (blkOk_by (own := [("point", 3)]) (N := ["chart", "thing", "links", "point", "after", "k"]) (sc := defScope sIsWalk) (by decide +kernel)) (by decide +kernel) rfl rfl (pi_tup (pv 1))
        (fun _ _ _ _ _ _ _ _ _ _ => pg_name (i := 3) scIsWalk.nd rfl (Or.inl rfl)) (fun _ _ _ _ _ _ _ _ _ _ => pts_nil)
        (fun _ _ _ _ _ _ _ _ _ hr' => pe_cal cW hr' rfl (pa_cons (pv 3) (pa_cons pe_int (pa_cons (pe_op op_sub (pe_callB call_len_seq rfl T.len PySem.boot_len (pa_cons (pv 0) pa_nil)) pe_int) pa_nil)))) (fun _ => rfl)))) (pss_one (ps_ret pe_bl)) pss_nil)
    (pss_cons (ps_set (i := 2) scIsWalk.nd rfl (.inr rfl) (pe_dc2 (own := [("point", 3), ("after", 4)]) (vs1 := [4]) (wa := iRng1 (tCons (tCB (rLen K) (tCons (tVar 0) tNil)) tNil)) (ga := gName 3) (wb := iTup K (tOp (rIxT K) (tVar 0) (tVar 3))) (gb := gName 4) (tk := tTup (tCons (tVar 3) (tCons (tVar 4) tNil))) (tv := tC (.bl true)) rfl (Nat.lt_of_le_of_lt (Nat.add_le_add_left (by decide : 1 ≤ 64) _) hr.units) scIsWalk.nd
        (pi_range1 rfl T.range (pa_cons (pe_callB call_len_seq rfl T.len PySem.boot_len (pa_cons (pv 0) pa_nil)) pa_nil))
        (blkOk_by (own := [("point", 3), ("after", 4)]) (N := ["chart", "thing", "links", "point", "after", "k"]) (sc := defScope sIsWalk) (by decide +kernel)) (by decide)
        (fun _ _ _ _ _ => pg_name (i := 3) scIsWalk.nd rfl (Or.inl rfl)) (fun _ _ _ _ _ => pi_tup (pe_ix ix_tup (pv 0) (pv 3) (fun _ _ => rfl))) (fun _ _ _ _ _ => pg_name (i := 4) scIsWalk.nd rfl (Or.inl rfl))
        (fun _ _ _ _ _ => pe_tup (pa_cons (pv 3) (pa_cons (pv 4) pa_nil))) (fun _ _ _ _ _ => pe_bl)))
    (pss_one (ps_ret (pe_allG (own := [("k", 5)]) (wi := iRng1 (tCons (tOp (rI0 fun i j => .int (i - j)) (tCB (rLen K) (tCons (tVar 1) tNil)) (tC (.int 1))) tNil)) (g := gName 5) (tt := tYes)
        (te := tDIn (tTup (tCons (tOp (rIxT K) (tVar 1) (tVar 5)) (tCons (tOp (rIxT K) (tVar 1) (tOp (rI0 fun i j => .int (i + j)) (tVar 5) (tC (.int 1)))) tNil))) (tVar 2)) scIsWalk.nd hr rfl hA (by decide +kernel) TB rfl
        (blkOk_by (own := [("k", 5)]) (N := ["chart", "thing", "links", "point", "after", "k"]) (sc := defScope sIsWalk) (by decide +kernel)) (by decide +kernel) rfl rfl
        (pi_range1 rfl T.range (pa_cons (pe_op op_sub (pe_callB call_len_seq rfl T.len PySem.boot_len (pa_cons (pv 1) pa_nil)) pe_int) pa_nil))
        (fun _ _ _ _ _ _ _ _ _ _ => pg_name (i := 5) scIsWalk.nd rfl (Or.inl rfl)) (fun _ _ _ _ _ _ _ _ _ _ => pts_nil)
        (fun _ _ _ _ _ _ _ _ _ hr' => pe_cmp (pc_din (Nat.lt_of_le_of_lt (Nat.add_le_add_left (by decide : 1 ≤ 64) _) hr'.units) (pe_tup (pa_cons (pe_ix ix_tup (pv 1) (pv 5) (fun _ _ => rfl)) (pa_cons (pe_ix ix_tup (pv 1) (pe_op op_add (pv 5) pe_int) (fun _ _ => rfl)) pa_nil))) (pv 2))) (fun _ => rfl)))))), ?_⟩
  have q0 : walkD rows d = false → ∀ H', LamX.ExtN H H' → TabsG PT H' → Q (.bl false) H' := fun z H' e t => by have := q H' e t; rw [z] at this; exact this
  refine ⟨_, rfl, y, _, _, _, _, rfl, .ty "tuple", ty_of hy, kit_tuple d, _, rfl, ?_⟩
  cases ht : tupleD d with
  | false =>
    have e : walkD rows d = false := by cases d <;> first | rfl | cases ht
    exact ifT rfl (ifT rfl (q0 e H (LamX.ExtN.refl _) tb))
  | true =>
    obtain ⟨es, rfl⟩ : ∃ es, d = .tuple es := by
      cases d <;> first | exact ⟨_, rfl⟩ | cases ht
    have les := hd es rfl
    cases hy with
    | @tup a xs _ at_ each =>
      have lx := dpAll_len each
      refine ifF rfl ⟨_, rfl, _, .inr (.inl ⟨xs, at_, rfl⟩), ?_⟩
      have eqE : es.isEmpty = xs.isEmpty := by cases es <;> cases xs <;> first | rfl | cases lx
      cases hem : xs.isEmpty with
      | true =>
        have e : walkD rows (.tuple es) = false := by show walkL rows es = false; unfold walkL; rw [eqE, hem]; rfl
        exact ifT rfl (q0 e H (LamX.ExtN.refl _) tb)
      | false =>
        refine ifF rfl ⟨_, rfl, a, rfl, ⟨xs, at_⟩, tb.1 Pc hPT, fun H2 b2 => ?_⟩
        have e2 := tabbed_ext (tb.1 Pc hPT) b2
        cases hx with
        | @tup ca cs _ cat ceach =>
          have lc : cs.length = rows.length := by have := dpAll_len ceach; rw [List.length_map] at this; exact this
          refine gx_tup (xs := xs) (fun i H' => LamX.ExtN H H' ∧ TabsG PT H' ∧ (es.take i).all (withinD 0 ((rows.length : Int) - 1)) = true) ⟨e2, tb.tabbed hPT b2, rfl⟩ (fun i H' _ h => sqT_ext h.1 at_) (fun i y H' hy h => ?_) (fun H' h => ?_)
          · obtain ⟨e3, t3, all3⟩ := h
            obtain ⟨d, hd, hdy⟩ := dpAll_get' each hy
            refine ⟨rfl, yesG ⟨_, rfl, _, rfl, ca, cs, rfl, .inr (sqT_ext e3 cat), _, _, rfl, rfl, y, d, 0, _, rfl, dp_ext e3 _ _ hdy, _, rfl, fun c => ⟨e3, t3, ?_⟩, fun c => ?_⟩⟩
            · rw [lc] at c
              rw [all_take hd, all3, c]
              rfl
            · rw [lc] at c
              have e : walkD rows (.tuple es) = false := by
                show walkL rows es = false
                have z : es.all (withinD 0 ((rows.length : Int) - 1)) = false := by
                  cases z : es.all (withinD 0 ((rows.length : Int) - 1)) with
                  | false => rfl
                  | true => exact absurd (List.all_eq_true.mp z d (List.mem_of_getElem? hd)) c
                unfold walkL
                rw [z, Bool.false_and, Bool.and_false]
              exact ⟨_, rfl, ifT rfl (q0 e H' e3 t3)⟩
          · obtain ⟨e3, t3, all3⟩ := h
            rw [lx, List.take_length] at all3
            have eI : ∀ i, i < es.length → ∃ n : Int, es[i]? = some (.int n) ∧ xs[i]? = some (.int n) ∧ 0 ≤ n ∧ n < rows.length := fun i hi => by
              have g := List.getElem?_eq_getElem hi
              obtain ⟨n, en, n0, n1⟩ := within_int (List.all_eq_true.mp all3 _ (List.mem_of_getElem? g))
              rw [en] at g
              obtain ⟨x, hx, hdx⟩ := dpAll_get each g
              cases hdx
              exact ⟨n, g, hx, n0, by omega⟩
            refine ⟨_, rfl, ifF rfl ⟨_, rfl, ca, cs, rfl, .inr (sqT_ext e3 cat), _, rfl, by omega, by rw [lc]; have := hrw.len; omega, fun D hD => ?_⟩⟩
            rw [show ((cs.length : Nat) : Int).toNat = rows.length by omega]
            have hD0 := ext_none e3 hD
            refine dc2_rng (n := rows.length) (fun i G => LamX.ExtN H G ∧ TabsG PT G ∧ ∃ kvs : List (List Key × V), G D = some (.dT kvs) ∧ kvs.length ≤ i * 30 ∧ ∀ a b : Int, (valV kvs [Sum.inl a, Sum.inl b]).isSome = true ↔ ∃ p : Nat, p < i ∧ a = p ∧ b ∈ rowAt rows p)
              ⟨ext_upd e3 hD0, t3.same (same_new hD _), [], upd_same, Nat.zero_le _, fun a b => ⟨fun z => (by cases z), fun ⟨p, hp, _⟩ => (by omega)⟩⟩ (fun i G hi h => ?_) (fun G h => ?_)
            · obtain ⟨e4, t4, kvs, hk, lk, iff⟩ := h
              have hns := List.getElem?_eq_getElem hi
              generalize rows[i] = ns at hns
              obtain ⟨b, hb, hat⟩ := ch_row ceach hns
              have hrow := hrw.row ns (List.mem_of_getElem? hns)
              have hlen := hrw.len
              refine ⟨rfl, _, rfl, _, rfl, ca, cs, 0 + (i : Int), _, rfl, rfl, sqT_ext e4 cat, atI_at (by omega) (by rw [show ((0 : Int) + (i : Int)).toNat = i by omega]; exact hb), b, rfl, ⟨_, sqT_ext e4 hat⟩, ?_⟩
              refine dcIn_tup (xs := ns.map V.int) (fun j G => LamX.ExtN H G ∧ TabsG PT G ∧ ∃ kvs : List (List Key × V), G D = some (.dT kvs) ∧ kvs.length ≤ i * 30 + j ∧ ∀ a b : Int, (valV kvs [Sum.inl a, Sum.inl b]).isSome = true ↔ ((∃ p : Nat, p < i ∧ a = p ∧ b ∈ rowAt rows p) ∨ (a = i ∧ b ∈ ns.take j)))
                ⟨e4, t4, kvs, hk, by omega, fun a b => by rw [iff a b]; simp⟩ (fun j G _ h => sqT_ext h.1 hat) (fun j x G hx h => ?_) (fun G h => ?_)
              · obtain ⟨e5, t5, kvs, hk, lk, iff⟩ := h
                have hj : j < ns.length := by have := (List.getElem?_eq_some_iff.mp hx).1; rw [List.length_map] at this; exact this
                obtain ⟨n, hn, rfl⟩ : ∃ n, ns[j]? = some n ∧ V.int n = x := by
                  rw [List.getElem?_map, List.getElem?_eq_getElem hj] at hx
                  exact ⟨ns[j], List.getElem?_eq_getElem hj, Option.some.inj hx⟩
                refine ⟨rfl, _, rfl, _, rfl, small (by show 2 ≤ 1000; decide), fun p hp => ⟨kvs, [Sum.inl (0 + (i : Int)), Sum.inl n], p, rfl, upd_same, ?_, ?_, ?_⟩⟩
                · rw [upd_ne (ne_of_none hk hp)]
                  exact hk
                · exact Nat.lt_of_lt_of_le (show kvs.length < 1000 by omega) (small (Nat.le_refl _))
                · refine ⟨ext_upd (ext_upd e5 (ext_none e5 hp)) hD0, tabs_updD (t5.same (same_new hp _)) (fun ps z => by rw [upd_ne (ne_of_none hk hp), hk] at z; cases z) (fun ps z => by rw [upd_ne (ne_of_none hk hp), hk] at z; cases z), _, upd_same, by have := length_putK kvs [Sum.inl (0 + (i : Int)), Sum.inl n] (V.bl true); omega, fun a b => ?_⟩
                  rw [valV_put]
                  have et : ns.take (j + 1) = ns.take j ++ [n] := by rw [List.take_add_one, hn]; rfl
                  rw [et]
                  by_cases z : ([Sum.inl a, Sum.inl b] : List Key) = [Sum.inl (0 + (i : Int)), Sum.inl n]
                  · rw [if_pos z]
                    simp only [List.cons.injEq, Sum.inl.injEq, and_true] at z
                    exact ⟨fun _ => .inr ⟨by omega, by rw [z.2]; simp⟩, fun _ => rfl⟩
                  · rw [if_neg z, iff a b]
                    constructor
                    · rintro (y | ⟨y1, y2⟩)
                      · exact .inl y
                      · exact .inr ⟨y1, List.mem_append_left _ y2⟩
                    · rintro (y | ⟨y1, y2⟩)
                      · exact .inl y
                      · rcases List.mem_append.mp y2 with y2 | y2
                        · exact .inr ⟨y1, y2⟩
                        · exact absurd (by rw [y1, List.mem_singleton.mp y2]; simp) z
              · obtain ⟨e5, t5, kvs, hk, lk, iff⟩ := h
                rw [List.length_map] at lk iff
                refine ⟨e5, t5, kvs, hk, by omega, fun a b => ?_⟩
                rw [iff a b, List.take_length]
                constructor
                · rintro (⟨p, y1, y2⟩ | ⟨y1, y2⟩)
                  · exact ⟨p, by omega, y2⟩
                  · exact ⟨i, by omega, y1, by rw [rowAt_nat hns]; exact y2⟩
                · rintro ⟨p, y1, y2, y3⟩
                  by_cases y4 : p = i
                  · subst y4
                    rw [rowAt_nat hns] at y3
                    exact .inr ⟨y2, y3⟩
                  · exact .inl ⟨p, by omega, y2, y3⟩
            · obtain ⟨e5, t5, kvs, hk, lk, iff⟩ := h
              refine ⟨_, rfl, a, xs, rfl, .inr (sqT_ext e5 at_), _, _, rfl, rfl, _, rfl, by omega, by rw [lx]; omega, t5.1 Pc hPT, fun H6 b6 => ?_⟩
              have e6 := tabbed_ext (t5.1 Pc hPT) b6
              have hk6 : H6 D = some (.dT kvs) := e6 D _ hk fun ps z => by cases z
              rw [show (((xs.length : Nat) : Int) - 1).toNat = es.length - 1 by omega]
              refine gx_rng (n := es.length - 1) (fun i H' => LamX.ExtN H H' ∧ TabsG PT H' ∧ H' D = some (.dT kvs) ∧ ((List.range i).all fun k => linkB rows (intAt es k) (intAt es (k + 1))) = true) ⟨e5.trans e6, t5.tabbed hPT b6, hk6, rfl⟩ (fun i H' hi h => ?_) (fun H' h => ?_)
              · obtain ⟨e7, t7, hk7, all7⟩ := h
                obtain ⟨n1, s1, x1, n10, n11⟩ := eI i (by omega)
                obtain ⟨n2, s2, x2, _, _⟩ := eI (i + 1) (by omega)
                have hsq := sqT_ext e7 at_
                refine ⟨rfl, yesG ⟨_, rfl, _, rfl, a, xs, _, _, rfl, rfl, hsq, atI_at (i := 0 + (i : Int)) (by omega) (by rw [show ((0 : Int) + (i : Int)).toNat = i by omega]; exact x1), _, rfl, _, rfl, _, _, rfl, rfl, a, xs, _, _, rfl, rfl, hsq, atI_at (i := 0 + (i : Int) + 1) (by omega) (by rw [show ((0 : Int) + (i : Int) + 1).toNat = i + 1 by omega]; exact x2), small (by show 2 ≤ 1000; decide), fun p hp => ⟨_, rfl, D, _, rfl, DGet.t (k := [Sum.inl n1, Sum.inl n2]) (by rw [upd_ne (ne_of_none hk7 hp)]; exact hk7) upd_same, _, rfl, fun c => ?_, fun c => ?_⟩⟩⟩
                · refine ⟨ext_upd e7 (ext_none e7 hp), t7.same (same_new hp _), by rw [upd_ne (ne_of_none hk7 hp)]; exact hk7, ?_⟩
                  rw [List.range_succ, List.all_append, all7, Bool.true_and, List.all_cons, List.all_nil, Bool.and_true, intAt_of s1, intAt_of s2]
                  obtain ⟨p', _, y2, y3⟩ := (iff n1 n2).mp c
                  exact decide_eq_true ⟨n10, by rw [y2]; exact y3⟩
                · have e : walkD rows (.tuple es) = false := by
                    show walkL rows es = false
                    have z : ((List.range (es.length - 1)).all fun k => linkB rows (intAt es k) (intAt es (k + 1))) = false := by
                      cases z : ((List.range (es.length - 1)).all fun k => linkB rows (intAt es k) (intAt es (k + 1))) with
                      | false => rfl
                      | true =>
                        have y := List.all_eq_true.mp z i (List.mem_range.mpr hi)
                        rw [intAt_of s1, intAt_of s2] at y
                        have y := of_decide_eq_true y
                        refine absurd ((iff n1 n2).mpr ⟨n1.toNat, by omega, by omega, ?_⟩) c
                        rw [show ((n1.toNat : Nat) : Int) = n1 by omega]
                        exact y.2
                    unfold walkL
                    rw [z, Bool.and_false, Bool.and_false]
                  exact q0 e _ (ext_upd e7 (ext_none e7 hp)) (t7.same (same_new hp _))
              · obtain ⟨e7, t7, hk7, all7⟩ := h
                have r := q H' e7 t7
                have e : walkD rows (.tuple es) = true := by
                  show walkL rows es = true
                  unfold walkL
                  rw [all3, all7, eqE, hem]
                  rfl
                rw [e] at r
                exact r
end
/-! is_way, is_bar -/
theorem inV_ints (n : Int) (ns : List Int) : inV (.int n) (ns.map V.int) = decide (n ∈ ns) := by
  unfold inV
  induction ns with
  | nil => rfl
  | cons m r ih =>
    rw [List.map_cons, List.any_cons, ih]
    have e : eqV (.int m) (.int n) = decide (m = n) := by
      show (m == n) = decide (m = n)
      by_cases h : m = n <;> simp [h]
    rw [e, ← Bool.decide_or]
    congr 1
    apply propext
    rw [List.mem_cons]
    exact ⟨fun h => h.elim (fun z => .inl z.symm) .inr, fun h => h.elim (fun z => .inl z.symm) .inr⟩
theorem flat_ints (ns : List Int) : (ns.map V.int).all flatV = true := List.all_eq_true.mpr fun v hv => by
  obtain ⟨n, _, rfl⟩ := List.mem_map.mp hv
  rfl
theorem atI_last {α : Type} {xs : List α} {v : α} (h0 : 0 < xs.length) (h : xs[xs.length - 1]? = some v) : atI xs (-1) = some v := by
  unfold atI ixN
  rw [if_neg (by decide), if_pos (by omega)]
  show xs[_]? = _
  rw [show ((-1 : Int) + (xs.length : Int)).toNat = xs.length - 1 by omega]
  exact h
def wayD (rows : List (List Int)) (ss gs : List Int) : PyData → Bool
  | .tuple es => walkL rows es && (decide (intAt es 0 ∈ ss) && decide (intAt es (es.length - 1) ∈ gs))
  | _ => false
def toI : PyData → Int
  | .int i => i
  | _ => 0
def barL (rows : List (List Int)) (ss gs ns : List Int) : Bool := (ss.all fun i => decide (i ∈ ns)) && ((ns.all fun p => (rowAt rows p).all fun i => decide (i ∈ ns)) && !(gs.any fun i => decide (i ∈ ns)))
def barD (rows : List (List Int)) (ss gs : List Int) : PyData → Bool
  | .tuple es => pointsD rows.length (.tuple es) && barL rows ss gs (es.map toI)
  | _ => false
theorem set_self {σ : L2.St} {j : Nat} {v : Option V} (h : σ[j]? = some v) : σ.set j v = σ := by
  obtain ⟨hj, e⟩ := List.getElem?_eq_some_iff.mp h
  rw [← e]
  exact List.set_getElem_self hj
section
variable {P : Program} {w : World} {K : PySem.W.Frag} {mg : Str → Option Value} {base : Heap} {f : Addr} {fd : FuncData}
theorem ints_at {H : Hp} {v : V} {ns : List Int} (h : Dp K H v (.tuple (ns.map .int))) : ∃ a, v = .ref a ∧ SqT K H a (ns.map V.int) := by
  cases h with
  | @tup a ys _ at_ e =>
    rw [ints_dp ns ys e] at at_
    exact ⟨a, rfl, at_⟩
/-- a case that is one, and a thing -/
structure CaseAt (K : PySem.W.Frag) (H : Hp) (x y z t : V) (rows : List (List Int)) (ss gs : List Int) (d : PyData) : Prop where
  ch : Dp K H x (chD rows)
  rw : RwOk rows
  cd : chartD (chD rows) = true
  st : Dp K H y (.tuple (ss.map .int))
  sd : pointsD rows.length (.tuple (ss.map .int)) = true
  go : Dp K H z (.tuple (gs.map .int))
  gd : pointsD rows.length (.tuple (gs.map .int)) = true
  th : Dp K H t d
  ln : ∀ es, d = .tuple es → es.length < 60
  sl : ss.length < 60
  gl : gs.length < 60
theorem CaseAt.ext {H H' : Hp} {x y z t : V} {rows : List (List Int)} {ss gs : List Int} {d : PyData} (c : CaseAt K H x y z t rows ss gs d) (e : LamX.ExtN H H') : CaseAt K H' x y z t rows ss gs d :=
  ⟨dp_ext e _ _ c.ch, c.rw, c.cd, dp_ext e _ _ c.st, c.sd, dp_ext e _ _ c.go, c.gd, dp_ext e _ _ c.th, c.ln, c.sl, c.gl⟩
def spWay (K : PySem.W.Frag) (PT : TbP) (fn : List (List Int) → List Int → List Int → PyData → Bool) : Sp := fun vs H Q _ => ∃ (x y z t : V) (rows : List (List Int)) (ss gs : List Int) (d : PyData), vs = [x, y, z, t] ∧ CaseAt K H x y z t rows ss gs d ∧ TabsG PT H ∧ ∀ H', LamX.ExtN H H' → TabsG PT H' → Q (.bl (fn rows ss gs d)) H'
theorem scIsWay : FnScope ["chart", "starts", "goals", "thing"] ["chart", "starts", "goals", "thing"] (defScope sIsWay) := ⟨rfl, rfl, rfl, by decide +kernel, rfl, by decide +kernel, by decide +kernel⟩
theorem ok_isWay {k : Nat} {PT : TbP} (F : Fun K "is_way" "is_way" sIsWay f fd) (cC : Cal P w K mg base "check_case" k ["chart", "starts", "goals"] (spCheckCase K PT)) (cW : Cal P w K mg base "is_walk" k ["chart", "thing"] (spIsWalk K PT)) : FnOk P w K mg base CX0 (k + 1) f fd ["chart", "starts", "goals", "thing"] (spWay K PT wayD) := by
  refine F.ok scIsWay (fun vs H Q E h => ?_) (fun cdv A outer s H vs Q E hr h => ?_)
  · obtain ⟨x, y, z, t, rows, ss, gs, d, rfl, _⟩ := h
    rfl
  obtain ⟨x, y, z, t, rows, ss, gs, d, rfl, ca, tb, q⟩ := h
  refine ⟨_, pss_cons (ps_expr (pe_cal cC hr rfl (pa_cons (pv 0) (pa_cons (pv 1) (pa_cons (pv 2) pa_nil)))))
    (pss_one (ps_ret (pe_and (pe_cal cW hr rfl (pa_cons (pv 0) (pa_cons (pv 3) pa_nil)))
      (pe_and (pe_cmpR op_in_seq (pe_ix ix_tup (pv 3) pe_int (fun _ _ => rfl)) (pv 1) rfl) (pe_one (pe_cmpR op_in_seq (pe_ix ix_tup (pv 3) (pe_un un_neg pe_int) (fun _ _ => rfl)) (pv 2) rfl)))))), ?_⟩
  have lr : ((rows.map fun ns => PyData.tuple (ns.map .int)).length : Int) = rows.length := by rw [List.length_map]
  refine ⟨_, rfl, _, rfl, _, rfl, x, y, z, _, _, _, rfl, ca.ch, ca.st, ca.go, ca.cd, by rw [lr]; exact ca.sd, by rw [lr]; exact ca.gd, tb, fun H1 e1 t1 => ?_⟩
  have c1 := ca.ext e1
  refine ⟨_, rfl, _, rfl, x, t, rows, d, rfl, c1.ch, c1.rw, c1.th, (fun es e => Nat.lt_trans (c1.ln es e) (by decide)), t1, fun H2 e2 t2 => ⟨_, rfl, ?_⟩⟩
  have c2 := c1.ext e2
  have q := q H2 (e1.trans e2) t2
  cases hw : walkD rows d with
  | false =>
    have e : wayD rows ss gs d = false := by
      cases d with
      | tuple es =>
        have hw : walkL rows es = false := hw
        show (walkL rows es && _) = false
        rw [hw]
        rfl
      | _ => rfl
    rw [e] at q
    exact ifF rfl q
  | true =>
    obtain ⟨es, rfl⟩ : ∃ es, d = .tuple es := by cases d <;> first | exact ⟨_, rfl⟩ | cases hw
    have hw : walkL rows es = true := hw
    have e : wayD rows ss gs (.tuple es) = (decide (intAt es 0 ∈ ss) && decide (intAt es (es.length - 1) ∈ gs)) := by
      show (walkL rows es && _) = _
      rw [hw, Bool.true_and]
    rw [e] at q
    unfold walkL at hw
    rw [Bool.and_eq_true, Bool.and_eq_true] at hw
    obtain ⟨h1, h2, _⟩ := hw
    have le : 0 < es.length := by cases es with | nil => cases h1 | cons _ _ => simp
    have hth := c2.th
    cases hth with
    | @tup a xs _ at_ each =>
      have lx := dpAll_len each
      have pick : ∀ i, i < es.length → ∃ n : Int, es[i]? = some (.int n) ∧ xs[i]? = some (.int n) := fun i hi => by
        have g := List.getElem?_eq_getElem hi
        obtain ⟨n, en, _⟩ := within_int (List.all_eq_true.mp h2 _ (List.mem_of_getElem? g))
        rw [en] at g
        obtain ⟨x, hx, hdx⟩ := dpAll_get each g
        cases hdx
        exact ⟨n, g, hx⟩
      obtain ⟨n0, g0, x0⟩ := pick 0 le
      obtain ⟨n1, g1, x1⟩ := pick (es.length - 1) (by omega)
      obtain ⟨sa, rfl, sat⟩ := ints_at c2.st
      obtain ⟨ga, rfl, gat⟩ := ints_at c2.go
      rw [intAt_of g0, intAt_of g1] at q
      refine ifT rfl ⟨_, rfl, a, xs, 0, _, rfl, rfl, at_, atI_at (by decide) x0, _, rfl, sa, _, rfl, .inr sat, rfl, flat_ints ss, _, rfl, ?_⟩
      rw [if_neg (show ¬ (false = true) by decide), inV_ints]
      by_cases m0 : n0 ∈ ss
      · rw [decide_eq_true m0, Bool.true_and] at q
        refine ifT (decide_eq_true m0) ⟨_, rfl, _, rfl, a, xs, -1, _, rfl, rfl, at_, atI_last (by omega) (by rw [lx]; exact x1), _, rfl, ga, _, rfl, .inr gat, rfl, flat_ints gs, ?_⟩
        rw [if_neg (show ¬ (false = true) by decide), inV_ints]
        exact q
      · rw [decide_eq_false m0, Bool.false_and] at q
        rw [decide_eq_false m0]
        exact ifF rfl q
theorem pts_ints {n : Int} {es : List PyData} (h : pointsD n (.tuple es) = true) : es = (es.map toI).map .int ∧ ∀ i ∈ es.map toI, 0 ≤ i ∧ i < n := by
  have h : ptsFrom n 0 es = true := h
  have hw : ∀ d ∈ es, wholeD d = true := fun d hd => by
    cases z : wholeD d with
    | true => rfl
    | false => rw [pts_not es 0 ⟨d, hd, z⟩] at h; cases h
  obtain ⟨ns, rfl⟩ := whole_ints es hw
  have e : (ns.map PyData.int).map toI = ns := by
    rw [List.map_map]
    exact List.map_id' _
  rw [e]
  exact ⟨rfl, fun i hi => ((pts_law ns 0).mp h).2 i hi⟩
theorem scIsBar : FnScope ["chart", "starts", "goals", "thing", "inside", "point", "start", "after", "goal"] ["chart", "starts", "goals", "thing"] (defScope sIsBar) := ⟨rfl, rfl, rfl, by decide +kernel, rfl, by decide +kernel, by decide +kernel⟩
/-- all or any of `i in inside`, i of a tuple of ints -/
theorem gx_in {PT : TbP} {H : Hp} {a D : Addr} {ms ns : List Int} {kvs : List (Key × V)} {j : Nat} {σ0 : L2.St} {e : Bool} {Qe Qn : Hp → Prop} (hj : σ0[j]? = some none) (hin : σ0[4]? = some (some (.ref D))) (j4 : j ≠ 4) (at_ : SqT K H a (ms.map V.int)) (hk : H D = some (.dK kvs)) (iff : ∀ i : Int, (valV kvs (Sum.inl i)).isSome = decide (i ∈ ns)) (tb : TabsG PT H)
    (he : ∀ H', LamX.ExtN H H' → TabsG PT H' → (∀ i ∈ ms, decide (i ∈ ns) = e) → Qe H') (hn : ∀ H', LamX.ExtN H H' → TabsG PT H' → ∀ i ∈ ms, decide (i ∈ ns) ≠ e → Qn H') :
    ∃ W : Nat → Nat → Hp → Prop, (∃ m, W 0 m H) ∧ gxTurn (Itt K a) (gName j) tYes (tDIn (tVar j) (tVar 4)) [j] σ0 e Qe Qn W := by
  refine gx_tup (xs := ms.map V.int) (fun i H' => H' = H ∧ ∀ x ∈ ms.take i, decide (x ∈ ns) = e) ⟨rfl, fun x hx => by simp at hx⟩ (fun i H' _ h => by rw [h.1]; exact at_) (fun i y H' hy h => ?_) (fun H' h => ?_)
  · obtain ⟨rfl, h⟩ := h
    have hi : i < ms.length := by have := (List.getElem?_eq_some_iff.mp hy).1; rw [List.length_map] at this; exact this
    obtain ⟨n, hn', rfl⟩ : ∃ n, ms[i]? = some n ∧ V.int n = y := by
      rw [List.getElem?_map, List.getElem?_eq_getElem hi] at hy
      exact ⟨ms[i], List.getElem?_eq_getElem hi, Option.some.inj hy⟩
    have jl : j < σ0.length := (List.getElem?_eq_some_iff.mp hj).1
    refine ⟨?_, yesG ⟨.int n, ?_, .ref D, ?_, D, _, rfl, DGet.k (k := Sum.inl n) hk, _, rfl, fun c => ⟨rfl, fun x hx => ?_⟩, fun c => ?_⟩⟩
    · show (σ0.set j (some (V.int n))).set j none = σ0
      rw [List.set_set]
      exact set_self hj
    · rw [List.getElem?_set_self jl]
    · rw [List.getElem?_set_ne (by omega)]
      exact hin
    · rw [List.take_add_one, hn'] at hx
      rcases List.mem_append.mp hx with hx | hx
      · exact h x hx
      · rw [show x = n by simpa using hx, ← iff n]
        exact c
    · exact hn H' (LamX.ExtN.refl _) tb n (List.mem_of_getElem? hn') (by rw [← iff n]; exact c)
  · obtain ⟨rfl, h⟩ := h
    rw [List.length_map, List.take_length] at h
    exact he H' (LamX.ExtN.refl _) tb h
end
/-! is_bar -/
section
variable {P : Program} {w : World} {K : PySem.W.Frag} {mg : Str → Option Value} {base : Heap} {f : Addr} {fd : FuncData}
theorem g2_bar {H : Hp} {a ca D : Addr} {cs : List V} {rows : List (List Int)} {ns : List Int} {kvs : List (Key × V)} {σ0 : L2.St} {Qe Qn : Hp → Prop} (hl : σ0.length = 9) (h5 : σ0[5]? = some none) (h7 : σ0[7]? = some none) (h0 : σ0[0]? = some (some (.ref ca))) (hin : σ0[4]? = some (some (.ref D)))
    (at_ : SqT K H a (ns.map V.int)) (cat : SqT K H ca cs) (ceach : DpAll K H cs (rows.map fun ns => .tuple (ns.map .int))) (hrw : RwOk rows) (hns : ∀ i ∈ ns, 0 ≤ i ∧ i < (rows.length : Int)) (hk : H D = some (.dK kvs)) (iff : ∀ i : Int, (valV kvs (Sum.inl i)).isSome = decide (i ∈ ns))
    (he : (∀ p ∈ ns, ∀ i ∈ rowAt rows p, i ∈ ns) → Qe H) (hn : ∀ p ∈ ns, ∀ i ∈ rowAt rows p, i ∉ ns → Qn H) :
    ∃ W : Nat → Nat → Hp → Prop, (∃ m, W 0 m H) ∧ g2Turn (Itt K a) (gName 5) (iTup K (tOp (rIxT K) (tVar 0) (tVar 5))) (gName 7) (tDIn (tVar 7) (tVar 4)) [5, 7] [7] σ0 true Qe Qn W := by
  refine ⟨fun i m H' => m = (ns.length - i) * 100 ∧ i ≤ ns.length ∧ H' = H ∧ ∀ p ∈ ns.take i, ∀ x ∈ rowAt rows p, x ∈ ns, ⟨ns.length * 100, rfl, Nat.zero_le _, rfl, fun p hp => by simp at hp⟩, ?_⟩
  rintro i m H' ⟨rfl, hi, rfl, done⟩
  by_cases hlt : i < ns.length
  · have hp := List.getElem?_eq_getElem hlt
    generalize ns[i] = p at hp
    have hpm := hns p (List.mem_of_getElem? hp)
    have hxi : (ns.map V.int)[i]? = some (.int p) := by rw [List.getElem?_map, hp]; rfl
    refine .inr ⟨⟨_, _, at_, hxi⟩, fun x H'' y => ?_⟩
    obtain ⟨rfl, y⟩ := y
    have y := y _ at_
    rw [hxi] at y
    cases y
    obtain ⟨v0, v1, v2, v3, v4, v5, v6, v7, v8, rfl⟩ : ∃ v0 v1 v2 v3 v4 v5 v6 v7 v8, σ0 = [v0, v1, v2, v3, v4, v5, v6, v7, v8] := by
      match σ0, hl with
      | [v0, v1, v2, v3, v4, v5, v6, v7, v8], _ => exact ⟨_, _, _, _, _, _, _, _, _, rfl⟩
    obtain rfl : v0 = some (.ref ca) := Option.some.inj h0
    obtain rfl : v4 = some (.ref D) := Option.some.inj hin
    obtain rfl : v5 = none := Option.some.inj h5
    obtain rfl : v7 = none := Option.some.inj h7
    have hrl : p.toNat < rows.length := by omega
    have hr := List.getElem?_eq_getElem hrl
    generalize rows[p.toNat] = row at hr
    have hra : rowAt rows p = row := by
      unfold rowAt
      rw [List.getD_eq_getElem?_getD, hr]
      rfl
    obtain ⟨b, hb, bat⟩ := ch_row ceach hr
    have hlen := hrw.len
    have hrow := (hrw.row row (List.mem_of_getElem? hr)).1
    refine ⟨rfl, _, rfl, _, rfl, ca, cs, p, _, rfl, rfl, cat, atI_at hpm.1 hb, b, rfl, ⟨_, bat⟩, fun j k H' => k + j + 1 = (ns.length - i) * 100 ∧ j ≤ row.length ∧ H' = H'' ∧ ∀ x ∈ row.take j, x ∈ ns, ⟨(ns.length - i) * 100 - 1, by omega, by omega, Nat.zero_le _, rfl, fun x hx => by simp at hx⟩, ?_⟩
    rintro j k H3 ⟨hkj, hj, rfl, din⟩
    by_cases jlt : j < row.length
    · have hq := List.getElem?_eq_getElem jlt
      generalize row[j] = n at hq
      have hxj : (row.map V.int)[j]? = some (.int n) := by rw [List.getElem?_map, hq]; rfl
      refine .inr ⟨⟨_, _, bat, hxj⟩, fun x H4 y => ?_⟩
      obtain ⟨rfl, y⟩ := y
      have y := y _ bat
      rw [hxj] at y
      cases y
      refine ⟨rfl, _, rfl, _, rfl, D, _, rfl, DGet.k (k := Sum.inl n) hk, _, rfl, fun c => ⟨k - 1, by omega, by omega, jlt, rfl, fun x hx => ?_⟩, fun c => ?_⟩
      · rw [List.take_add_one, hq] at hx
        rcases List.mem_append.mp hx with hx | hx
        · exact din x hx
        · rw [iff n] at c
          rw [show x = n by simpa using hx]
          exact of_decide_eq_true c
      · rw [iff n] at c
        exact hn p (List.mem_of_getElem? hp) n (by rw [hra]; exact List.mem_of_getElem? hq) (fun z => c (decide_eq_true z))
    · have e : j = row.length := by omega
      subst e
      rw [List.take_length] at din
      refine .inl ⟨⟨_, bat, by rw [List.length_map]; exact Nat.le_refl _⟩, (ns.length - (i + 1)) * 100, by omega, by omega, rfl, hlt, rfl, fun p' hp' => ?_⟩
      rw [List.take_add_one, hp] at hp'
      rcases List.mem_append.mp hp' with hp' | hp'
      · exact done p' hp'
      · rw [show p' = p by simpa using hp', hra]
        exact din
  · have e : i = ns.length := by omega
    subst e
    rw [List.take_length] at done
    exact .inl ⟨⟨_, at_, by rw [List.length_map]; exact Nat.le_refl _⟩, he done⟩
abbrev barN : List Str := ["chart", "starts", "goals", "thing", "inside", "point", "start", "after", "goal"]
theorem ok_isBar {k : Nat} {c Pc : Addr} {PT : TbP} (F : Fun K "is_bar" "is_bar" sIsBar f fd) (hc : fd.code = .ref c) (TB : LamX.TabB base mg c Pc) (hPT : Pc ∈ PT.g) (T : Free mg) (hA : mg "all" = none) (hY : mg "any" = none) (cC : Cal P w K mg base "check_case" (k + 1) ["chart", "starts", "goals"] (spCheckCase K PT)) (cP : Cal P w K mg base "are_points" (k + 1) ["thing", "many"] (spPoints K)) : FnOk P w K mg base CX0 (k + 2) f fd ["chart", "starts", "goals", "thing"] (spWay K PT barD) := by
  refine okC F hc scIsBar (fun vs H Q E h => ?_) (fun A outer s H vs Q E hr h => ?_)
  · obtain ⟨x, y, z, t, rows, ss, gs, d, rfl, _⟩ := h
    rfl
  obtain ⟨x, y, z, t, rows, ss, gs, d, rfl, ca, tb, q⟩ := h
  refine ⟨_, pss_cons (ps_expr (pe_cal cC hr rfl (pa_cons (pv 0) (pa_cons (pv 1) (pa_cons (pv 2) pa_nil)))))
    (pss_cons (ps_if (pt_not (pt_val (pe_cal cP hr rfl (pa_cons (pv 3) (pa_cons (pe_callB call_len_seq rfl T.len PySem.boot_len (pa_cons (pv 0) pa_nil)) pa_nil))))) (pss_one (ps_ret pe_bl)) pss_nil)
    (pss_cons (ps_set (i := 4) scIsBar.nd rfl (.inr rfl) (pe_dc (own := [("point", 5)]) (wi := iTup K (tVar 3)) (g := gName 5) (tt := tYes) (tk := tVar 5) (tv := tC (.bl true)) rfl scIsBar.nd (pi_tup (pv 3))
        (blkOk_by (own := [("point", 5)]) (N := barN) (sc := defScope sIsBar) (by decide +kernel))
        (fun _ _ _ _ _ => pg_name (i := 5) scIsBar.nd rfl (Or.inl rfl)) (fun _ _ _ _ _ => pts_nil) (fun _ _ _ _ _ => pv 5) (fun _ _ _ _ _ => pe_bl)))
    (pss_one (ps_ret (pe_and (pe_allG (own := [("start", 6)]) (wi := iTup K (tVar 1)) (g := gName 6) (tt := tYes) (te := tDIn (tVar 6) (tVar 4)) scIsBar.nd hr rfl hA (by decide +kernel) TB rfl
          (blkOk_by (own := [("start", 6)]) (N := barN) (sc := defScope sIsBar) (by decide +kernel)) (by decide +kernel) rfl rfl (pi_tup (pv 1))
          (fun _ _ _ _ _ _ _ _ _ _ => pg_name (i := 6) scIsBar.nd rfl (Or.inl rfl)) (fun _ _ _ _ _ _ _ _ _ _ => pts_nil)
          (fun _ _ _ _ _ _ _ _ _ hr' => pe_cmp (pc_din (Nat.lt_of_le_of_lt (Nat.add_le_add_left (by decide : 1 ≤ 64) _) hr'.units) (pv 6) (pv 4))) (fun _ => rfl))
      (pe_and (pe_allG2 (own := [("point", 5), ("after", 7)]) (vs1 := [7]) (wi := iTup K (tVar 3)) (g := gName 5) (wb := iTup K (tOp (rIxT K) (tVar 0) (tVar 5))) (gb := gName 7) (te := tDIn (tVar 7) (tVar 4)) scIsBar.nd hr rfl hA (by decide +kernel) TB rfl
          (blkOk_by (own := [("point", 5), ("after", 7)]) (N := barN) (sc := defScope sIsBar) (by decide +kernel)) (by decide +kernel) rfl rfl (by decide) (fun _ _ => rfl) (pi_tup (pv 3))
          (fun _ _ _ _ _ _ _ _ _ _ => pg_name (i := 5) scIsBar.nd rfl (Or.inl rfl)) (fun _ _ _ _ _ _ _ _ _ _ => pi_tup (pe_ix ix_tup (pv 0) (pv 5) (fun _ _ => rfl))) (fun _ _ _ _ _ _ _ _ _ _ => pg_name (i := 7) scIsBar.nd rfl (Or.inl rfl))
          (fun _ _ _ _ _ _ _ _ _ hr' => pe_cmp (pc_din (Nat.lt_of_le_of_lt (Nat.add_le_add_left (by decide : 1 ≤ 64) _) hr'.units) (pv 7) (pv 4))) (fun _ => rfl))
      (pe_one (pe_not (pe_anyG (own := [("goal", 8)]) (wi := iTup K (tVar 2)) (g := gName 8) (tt := tYes) (te := tDIn (tVar 8) (tVar 4)) scIsBar.nd hr rfl hY (by decide +kernel) TB rfl
          (blkOk_by (own := [("goal", 8)]) (N := barN) (sc := defScope sIsBar) (by decide +kernel)) (by decide +kernel) rfl rfl (pi_tup (pv 2))
          (fun _ _ _ _ _ _ _ _ _ _ => pg_name (i := 8) scIsBar.nd rfl (Or.inl rfl)) (fun _ _ _ _ _ _ _ _ _ _ => pts_nil)
          (fun _ _ _ _ _ _ _ _ _ hr' => pe_cmp (pc_din (Nat.lt_of_le_of_lt (Nat.add_le_add_left (by decide : 1 ≤ 64) _) hr'.units) (pv 8) (pv 4))) (fun _ => rfl)))))))))), ?_⟩
  have lr : ((rows.map fun ns => PyData.tuple (ns.map .int)).length : Int) = rows.length := by rw [List.length_map]
  refine ⟨_, rfl, _, rfl, _, rfl, x, y, z, _, _, _, rfl, ca.ch, ca.st, ca.go, ca.cd, by rw [lr]; exact ca.sd, by rw [lr]; exact ca.gd, tb, fun H1 e1 t1 => ?_⟩
  have c1 := ca.ext e1
  have hch := c1.ch
  cases hch with
  | @tup ca' cs _ cat ceach =>
    have lc : cs.length = rows.length := by have := dpAll_len ceach; rw [List.length_map] at this; exact this
    refine ⟨_, rfl, _, rfl, ca', cs, rfl, .inr cat, t, d, _, rfl, c1.th, _, rfl, ?_⟩
    rw [lc]
    cases hp : pointsD rows.length d with
    | false =>
      have e : barD rows ss gs d = false := by
        cases d with
        | tuple es => show (pointsD rows.length (.tuple es) && _) = false; rw [hp]; rfl
        | _ => rfl
      have r := q H1 e1 t1
      rw [e] at r
      exact ifT rfl r
    | true =>
      obtain ⟨es, rfl⟩ : ∃ es, d = .tuple es := by cases d <;> first | exact ⟨_, rfl⟩ | cases hp
      obtain ⟨ees, hns⟩ := pts_ints hp
      have les := c1.ln es rfl
      generalize hnn : es.map toI = ns at ees hns
      have lns : ns.length < 1000 := by rw [← hnn, List.length_map]; omega
      have q : ∀ H', LamX.ExtN H1 H' → TabsG PT H' → Q (.bl (barL rows ss gs ns)) H' := fun H' e t => by
        have r := q H' (e1.trans e) t
        have z : barD rows ss gs (.tuple es) = barL rows ss gs ns := by
          show (pointsD rows.length (.tuple es) && barL rows ss gs (es.map toI)) = _
          rw [hp, hnn, Bool.true_and]
        rw [z] at r
        exact r
      have hth := c1.th
      rw [ees] at hth
      obtain ⟨ta, rfl, tat⟩ := ints_at hth
      obtain ⟨sa, rfl, sat⟩ := ints_at c1.st
      obtain ⟨ga, rfl, gat⟩ := ints_at c1.go
      refine ifF rfl ⟨_, rfl, ta, rfl, ⟨_, tat⟩, fun D hD => ?_⟩
      have hD0 := ext_none (LamX.ExtN.refl H1) hD
      refine dc_tup (xs := ns.map V.int) (fun i G => LamX.ExtN H1 G ∧ TabsG PT G ∧ ∃ kvs : List (Key × V), G D = some (.dK kvs) ∧ kvs.length ≤ i ∧ ∀ n : Int, (valV kvs (Sum.inl n)).isSome = decide (n ∈ ns.take i)) ⟨ext_upd (LamX.ExtN.refl H1) hD0, t1.same (same_new hD _), [], upd_same, Nat.le_refl _, fun n => rfl⟩ (fun i G _ h => sqT_ext h.1 tat) (fun i v G hv h => ?_) (fun G h => ?_)
      · obtain ⟨e2, t2, kvs, hk, lk, iff⟩ := h
        have hi : i < ns.length := by have := (List.getElem?_eq_some_iff.mp hv).1; rw [List.length_map] at this; exact this
        obtain ⟨n, hn', rfl⟩ : ∃ n, ns[i]? = some n ∧ V.int n = v := by
          rw [List.getElem?_map, List.getElem?_eq_getElem hi] at hv
          exact ⟨ns[i], List.getElem?_eq_getElem hi, Option.some.inj hv⟩
        refine ⟨rfl, yesG ⟨_, rfl, kvs, Sum.inl n, rfl, hk, Nat.lt_of_lt_of_le (show kvs.length < 1000 by omega) (small (Nat.le_refl _)), ext_upd e2 hD0, tabs_updD t2 (fun ps z => by rw [hk] at z; cases z) (fun ps z => by rw [hk] at z; cases z), _, upd_same, by have := length_putK kvs (Sum.inl n) (V.bl true); omega, fun m => ?_⟩⟩
        rw [valV_put, List.take_add_one, hn']
        by_cases z : (Sum.inl m : Key) = Sum.inl n
        · rw [if_pos z]
          exact (decide_eq_true (by rw [Sum.inl.inj z]; simp)).symm
        · rw [if_neg z, iff m]
          congr 1
          apply propext
          have z' : m ≠ n := fun e => z (by rw [e])
          simp [z']
      · obtain ⟨e2, t2, kvs, hk, lk, iff⟩ := h
        rw [List.length_map, List.take_length] at iff
        have iffB : barL rows ss gs ns = ((ss.all fun i => decide (i ∈ ns)) && ((ns.all fun p => (rowAt rows p).all fun i => decide (i ∈ ns)) && !(gs.any fun i => decide (i ∈ ns)))) := rfl
        refine ⟨_, rfl, sa, rfl, ⟨_, sqT_ext e2 sat⟩, t2.1 Pc hPT, fun H3 b3 => ?_⟩
        have x3 := tabbed_ext (t2.1 Pc hPT) b3
        have e3 := e2.trans x3
        have t3 := t2.tabbed hPT b3
        have hk3 : H3 D = some (.dK kvs) := x3 D _ hk fun ps z => by cases z
        refine gx_in (ns := ns) (PT := PT) rfl rfl (by decide) (sqT_ext e3 sat) hk3 iff t3 (fun H4 x4 t4 all4 => ⟨_, rfl, ifT rfl ?_⟩) (fun H4 x4 t4 i hi ne => ⟨_, rfl, ifF rfl ?_⟩)
        · have e4 := e3.trans x4
          refine ⟨_, rfl, ta, rfl, ⟨_, sqT_ext e4 tat⟩, t4.1 Pc hPT, fun H5 b5 => ?_⟩
          have x5 := tabbed_ext (t4.1 Pc hPT) b5
          have e5 := e4.trans x5
          have t5 := t4.tabbed hPT b5
          have hk5 : H5 D = some (.dK kvs) := (x4.trans x5) D _ hk3 fun ps z => by cases z
          refine g2_bar (rows := rows) (ns := ns) rfl rfl rfl rfl rfl (sqT_ext e5 tat) (sqT_ext e5 cat) (dp_exts e5 _ _ ceach) c1.rw hns hk5 iff (fun all5 => ⟨_, rfl, ifT rfl ?_⟩) (fun p hp' i hi ni => ⟨_, rfl, ifF rfl ?_⟩)
          · refine ⟨_, rfl, ga, rfl, ⟨_, sqT_ext e5 gat⟩, t5.1 Pc hPT, fun H6 b6 => ?_⟩
            have x6 := tabbed_ext (t5.1 Pc hPT) b6
            have e6 := e5.trans x6
            have t6 := t5.tabbed hPT b6
            have hk6 : H6 D = some (.dK kvs) := x6 D _ hk5 fun ps z => by cases z
            refine gx_in (ns := ns) (PT := PT) rfl rfl (by decide) (sqT_ext e6 gat) hk6 iff t6 (fun H7 x7 t7 all7 => ⟨_, rfl, ?_⟩) (fun H7 x7 t7 i hi ne => ⟨_, rfl, ?_⟩)
            · have r := q H7 (e6.trans x7) t7
              have z : barL rows ss gs ns = true := by
                rw [iffB, List.all_eq_true.mpr all4, List.all_eq_true.mpr fun p hp => List.all_eq_true.mpr fun i hi => decide_eq_true (all5 p hp i hi), List.any_eq_false.mpr fun i hi => by rw [all7 i hi]; decide]
                rfl
              rw [z] at r
              exact r
            · have r := q H7 (e6.trans x7) t7
              have z : barL rows ss gs ns = false := by
                rw [iffB, List.any_eq_true.mpr ⟨i, hi, by cases y : decide (i ∈ ns) with | true => rfl | false => exact absurd y ne⟩]
                simp
              rw [z] at r
              exact r
          · have r := q H5 e5 t5
            have z : barL rows ss gs ns = false := by
              have y : (ns.all fun p => (rowAt rows p).all fun i => decide (i ∈ ns)) = false := List.all_eq_false.mpr ⟨p, hp', by
                rw [Bool.not_eq_true]
                exact List.all_eq_false.mpr ⟨i, hi, by rw [decide_eq_true_eq]; exact ni⟩⟩
              rw [iffB, y, Bool.false_and, Bool.and_false]
            rw [z] at r
            exact r
        · have r := q H4 (e3.trans x4) t4
          have z : barL rows ss gs ns = false := by
            have y : (ss.all fun i => decide (i ∈ ns)) = false := List.all_eq_false.mpr ⟨i, hi, ne⟩
            rw [iffB, y, Bool.false_and]
          rw [z] at r
          exact r
end
section
variable {X : Cx}
def rEqE (K : PySem.W.Frag) : R2 := fun x y H Q => ∃ a b xs, x = .ref a ∧ y = .ref b ∧ SqT K H a xs ∧ SqT K H b [] ∧ Q (.bl xs.isEmpty) H
theorem op_eqE (hu : X.A.units + 64 < cLine) : OpR X (compareOp .Eq) (rEqE X.K) := by
  intro pins s σ H x y v u Q I rx ry h
  obtain ⟨a, b, xs, rfl, rfl, ha, hb, q⟩ := h
  cases rx
  cases ry
  obtain ⟨its, r1, ⟨o1, g1, c1, n1, d1⟩, _⟩ := I.tuple ha
  obtain ⟨its2, r2, ⟨o2, g2, c2, n2, d2⟩, _⟩ := I.tuple hb
  cases r2
  refine SeqAt.RcAt.tuples (e := fun _ => true) ⟨o1, g1, c1, n1, d1⟩ ⟨o2, g2, c2, n2, d2⟩ (by omega) (fun j _ h2 => absurd h2 (by simp)) X.prog X.w _ _ ⟨.bl xs.isEmpty, H, I, ?_, q⟩
  cases xs with
  | nil =>
    cases r1
    rfl
  | cons z zs =>
    cases r1 with
    | cons _ _ => rfl
end
theorem ne_nil {K : PySem.W.Frag} {te0 : TE} {a : Addr} {xs : List V} {j : Nat} {tt : TT} {σ : L2.St} {H : Hp} {R : Bool → Hp → Prop} (p : Nat → Bool) (h0 : ∀ Q : VK, Q (.ref a) H → te0 σ H Q) (at_ : SqT K H a xs) (hl : xs.length < 1000) (hj : j < σ.length)
    (hs : ∀ (i : Nat) (x : V) (H' : Hp) (R' : Bool → Hp → Prop), xs[i]? = some x → Same H H' → R' (p i) H' → tt (σ.set j (some x)) H' R')
    (hd : ∀ H', Same H H' → R (!(List.range xs.length).all fun i => !p i) H') : tTest (tOp (rNeLE K) (tLc (iTup K te0) (gName j) tt (tVar j) [j]) (tLst tNil)) σ H R := by
  refine h0 _ ⟨a, rfl, ⟨xs, at_⟩, fun D hD => ?_⟩
  have w1 : wipe σ [j] = σ.set j none := rfl
  have w2 : ∀ x, (wipe σ [j]).set j (some x) = σ.set j (some x) := fun x => by rw [w1, List.set_set]
  refine lc_tup (xs := xs) (fun i H' => Same H H' ∧ ∃ zs : List V, H' D = some (.lst zs) ∧ zs.length ≤ i ∧ zs.isEmpty = (List.range i).all fun i => !p i) ⟨same_new hD _, [], upd_same, Nat.le_refl _, rfl⟩ (fun i H' _ h => sqT_same h.1 at_) (fun i x H' hx h => ?_) (fun H' h => ?_)
  · obtain ⟨sm, zs, hz, lz, ez⟩ := h
    have hi := (List.getElem?_eq_some_iff.mp hx).1
    show wipe ((wipe σ [j]).set j (some x)) [j] = wipe σ [j] ∧ _
    rw [w2]
    refine ⟨by show (σ.set j (some x)).set j none = σ.set j none; rw [List.set_set], hs i x H' _ hx sm ?_⟩
    have er : (List.range (i + 1)).all (fun i => !p i) = ((List.range i).all (fun i => !p i) && !p i) := by
      rw [List.range_succ, List.all_append, List.all_cons, List.all_nil, Bool.and_true]
    cases hp : p i with
    | true =>
      refine ifT rfl ⟨x, by rw [List.getElem?_set_self hj], zs, hz, Nat.lt_of_lt_of_le (show zs.length < 1000 by omega) (small (Nat.le_refl _)), fun b' o hb' => by rw [upd_ne (ne_of_none hb' hD)]; exact sm b' o hb', zs ++ [x], upd_same, by rw [List.length_append]; show _ + 1 ≤ _; omega, ?_⟩
      rw [er, hp, Bool.not_true, Bool.and_false]
      cases zs <;> rfl
    | false => exact ifF rfl ⟨sm, zs, hz, by omega, by rw [er, hp, Bool.not_false, Bool.and_true]; exact ez⟩
  · obtain ⟨sm, zs, hz, lz, ez⟩ := h
    refine ⟨small (by show 0 ≤ 1000; decide), fun p3 h3 => ?_⟩
    have n3 := same_new h3 (.lst [])
    refine ⟨D, p3, zs, rfl, rfl, SqL.of (n3 _ _ hz), SqL.of upd_same, _, rfl, ?_⟩
    rw [ez]
    exact hd _ (sm.trans n3)
theorem range_all {α : Type} (l : List α) (f : Nat → Bool) (g : α → Bool) (h : ∀ i x, l[i]? = some x → f i = g x) : (List.range l.length).all f = l.all g := by
  cases z : l.all g with
  | true =>
    refine List.all_eq_true.mpr fun i hi => ?_
    have hi := List.mem_range.mp hi
    rw [h i _ (List.getElem?_eq_getElem hi)]
    exact List.all_eq_true.mp z _ (List.getElem_mem hi)
  | false =>
    obtain ⟨x, hx, hn⟩ := List.all_eq_false.mp z
    obtain ⟨i, hi⟩ := List.getElem?_of_mem hx
    refine List.all_eq_false.mpr ⟨i, List.mem_range.mpr (List.getElem?_eq_some_iff.mp hi).1, ?_⟩
    rw [h i x hi]
    exact hn
theorem ints_get {ns : List Int} {i : Nat} {v : V} (h : (ns.map V.int)[i]? = some v) : ∃ n, ns[i]? = some n ∧ v = .int n := by
  rw [List.getElem?_map] at h
  cases e : ns[i]? with
  | none => rw [e] at h; cases h
  | some n => rw [e] at h; exact ⟨n, rfl, (Option.some.inj h).symm⟩
theorem range_ints (ms : List Int) (p : Int → Bool) : ((List.range (ms.map V.int).length).all fun i => !p (ms.getD i 0)) = ms.all fun n => !p n := by
  rw [List.length_map]
  exact range_all ms _ _ fun i x hx => by rw [List.getD_eq_getElem?_getD, hx]; rfl
theorem nodup_len : ∀ (n : Nat) (l : List Int), l.Nodup → (∀ x ∈ l, 0 ≤ x ∧ x < (n : Int)) → l.length ≤ n
  | 0, l, _, h => by
    cases l with
    | nil => exact Nat.le_refl _
    | cons a r => have := h a List.mem_cons_self; omega
  | n + 1, l, nd, h => by
    by_cases hm : (n : Int) ∈ l
    · have ih := nodup_len n (l.erase (n : Int)) (nd.erase _) fun x hx => by
        obtain ⟨h1, h2⟩ := nd.mem_erase_iff.mp hx
        have := h x h2
        omega
      rw [List.length_erase_of_mem hm] at ih
      omega
    · have ih := nodup_len n l nd fun x hx => by
        have := h x hx
        have : x ≠ (n : Int) := fun e => hm (by rw [← e]; exact hx)
        omega
      omega
theorem lc_fil {K : PySem.W.Frag} {te0 : TE} {a : Addr} {row : List Int} {j : Nat} {tt : TT} {σ : L2.St} {H : Hp} {Q : VK} (p : Int → Bool) (h0 : ∀ Q : VK, Q (.ref a) H → te0 σ H Q) (at_ : SqT K H a (row.map V.int)) (hl : row.length < 1000) (hj : j < σ.length)
    (hs : ∀ (n : Int) (H' : Hp) (R' : Bool → Hp → Prop), n ∈ row → Same H H' → R' (p n) H' → tt (σ.set j (some (.int n))) H' R')
    (hd : ∀ D H', Same H H' → H' D = some (.lst ((row.filter p).map V.int)) → H D = none → Q (.ref D) H') : tLc (iTup K te0) (gName j) tt (tVar j) [j] σ H Q := by
  refine h0 _ ⟨a, rfl, ⟨_, at_⟩, fun D hD => ?_⟩
  have w1 : wipe σ [j] = σ.set j none := rfl
  have w2 : ∀ x, (wipe σ [j]).set j (some x) = σ.set j (some x) := fun x => by rw [w1, List.set_set]
  refine lc_tup (xs := row.map V.int) (fun i H' => Same H H' ∧ H' D = some (.lst (((row.take i).filter p).map V.int))) ⟨same_new hD _, upd_same⟩ (fun i H' _ h => sqT_same h.1 at_) (fun i x H' hx h => ?_) (fun H' h => ?_)
  · obtain ⟨sm, hz⟩ := h
    obtain ⟨n, hn, rfl⟩ := ints_get hx
    have et : row.take (i + 1) = row.take i ++ [n] := by rw [List.take_add_one, hn]; rfl
    show wipe ((wipe σ [j]).set j (some (V.int n))) [j] = wipe σ [j] ∧ _
    rw [w2]
    refine ⟨by show (σ.set j (some (V.int n))).set j none = σ.set j none; rw [List.set_set], hs n H' _ (List.mem_of_getElem? hn) sm ?_⟩
    cases hp : p n with
    | true =>
      refine ifT rfl ⟨_, by rw [List.getElem?_set_self hj], _, hz, Nat.lt_of_lt_of_le (show _ < 1000 from ?_) (small (Nat.le_refl _)), fun b' o hb' => by rw [upd_ne (ne_of_none hb' hD)]; exact sm b' o hb', ?_⟩
      · rw [List.length_map]
        exact Nat.lt_of_le_of_lt (Nat.le_trans (List.length_filter_le _ _) (by rw [List.length_take]; omega)) hl
      · rw [upd_same, et, List.filter_append, List.map_append, List.filter_cons_of_pos hp, List.filter_nil]
        rfl
    | false =>
      refine ifF rfl ⟨sm, ?_⟩
      rw [et, List.filter_append, List.filter_cons_of_neg (by rw [hp]; decide), List.filter_nil, List.append_nil]
      exact hz
  · obtain ⟨sm, hz⟩ := h
    rw [List.length_map, List.take_length] at hz
    exact hd D H' sm hz hD
/-! for i, x in enumerate(t), t a tuple -/
section
open PySem.Spec PyProof.Rows
abbrev tupIt (t : Addr) : Obj := { cls := .type "tuple_iterator", data := .fields #[.ref t, .int 0 0] }
abbrev enumO (it : Addr) : Obj := { cls := .type "enumerate", data := .fields #[.none, .bool false, .ref it, rawInt 0, .none, .none] }
set_option maxHeartbeats 1000000 in
theorem meets_enumT (t : Addr) (its : Array Value) :
    Meets (Builtin.«enumerate.__new__» ⟨[.type "enumerate", .ref t], []⟩) (fun _ R s => s.heap.IsTuple t its ∧ R (.ok (.ret (.ref (s.heap.push (tupIt t)).objs.size))) { s with heap := (s.heap.push (tupIt t)).push (enumO s.heap.objs.size) }) :=
  .of_wp fun prog w A R s h => by
    obtain ⟨hp, g, d, tk, os⟩ := s
    obtain ⟨h1, h⟩ := h
    have f1 := sub_enumerate
    have q1 : ∀ {A' : Around} {E : Value → Shared → Prop} {Q : Value → Shared → Prop}, Q (.ref hp.objs.size) ⟨hp.push (tupIt t), g, d, tk, os⟩ → wpAny (model prog w) A' (pyIter (.ref t)) Q E ⟨hp, g, d, tk, os⟩ := fun q => wpAny_pyIter_tuple h1 q
    wp_walk using q1
    refine wpAny_stack_any fun st => wpAny_pure ?_
    split
    · rename_i c _ _ _ _ _
      cases (c == Value.type "enumerate") <;> (wp_walk using q1; exact ⟨_, rfl, h⟩)
    · wp_walk using q1
      exact ⟨_, rfl, h⟩
theorem call_enumT {prog : Program} {w : World} {A : Around} {E : Value → Shared → Prop} {s : Shared} {t : Addr} {its : Array Value} {Q : Value → Shared → Prop} (hT : s.heap.IsTuple t its)
    (h : ∀ h', IsEnum h' (s.heap.objs.size + 1) s.heap.objs.size 0 .none → h'.IsTupleIter s.heap.objs.size t 0 → h'.objs.size = s.heap.objs.size + 2 → (∀ b o, s.heap.get? b = some o → h'.get? b = some o) → Q (.ref (s.heap.objs.size + 1)) { s with heap := h' }) :
    wpAny (model prog w) A (call (.type "enumerate") [.ref t]) Q E s := by
  refine callType_new F.called_enumerate (by decide) (F.typeCall_enumerate_1 _) (F.newCall_enumerate_1 _) (fun obj => F.args_object_init_2 obj _) F.entry_enumerate_new (meets_enumT t its) ⟨hT, ?_⟩
  have sz : (s.heap.push (tupIt t)).objs.size = s.heap.objs.size + 1 := Heap.size_push ..
  have atE : ((s.heap.push (tupIt t)).push (enumO s.heap.objs.size)).get? (s.heap.objs.size + 1) = some (enumO s.heap.objs.size) := by
    rw [← sz]
    exact Heap.get?_push_size _ rfl
  show _ ∧ _
  rw [sz]
  exact ⟨⟨_, atE, rfl⟩, h _ atE ⟨_, Heap.get?_push_of_some _ (Heap.get?_push_size _ rfl), rfl, rfl⟩ (by rw [Heap.size_push, sz]) fun b o x => Heap.get?_push_of_some _ (Heap.get?_push_of_some _ x)⟩
/-- each item in a new pair -/
def Ienum (K : PySem.W.Frag) (a : Addr) : It :=
  ⟨fun i H => ∃ (xs : List V) (x : V), SqT K H a xs ∧ xs[i]? = some x, fun i H v H' => ∃ T x, v = .ref T ∧ H T = none ∧ H' = upd H T (.tup [.int (i : Nat), x]) ∧ ∀ xs, SqT K H a xs → xs[i]? = some x, fun i H => ∃ xs : List V, SqT K H a xs ∧ xs.length = i⟩
theorem turn_enumT {P : Program} {w : World} {K : PySem.W.Frag} {elts : List Expr} {kk : Nat} {tpos : Pos} (a e it : Addr) (hae : a ≠ e) (hai : a ≠ it) :
    Turn P w K (.Tuple elts kk tpos) (Ienum K a) [e, it] e (fun i h => (∃ old, IsEnum h e it ((i : Nat) : Int) old) ∧ h.IsTupleIter it a i ∧ e ≠ it) where
  mem := by simp
  obj := fun i h st b hb => by
    obtain ⟨⟨old, he⟩, ⟨o, ho, hc, hd⟩, _⟩ := st
    rcases List.mem_cons.mp hb with z | z
    · rw [z]; exact ⟨_, he, fun v q => nomatch q⟩
    · rw [List.mem_singleton.mp z]; exact ⟨o, ho, fun v q => by rw [hd] at q; cases q⟩
  keep := fun i h h' ⟨⟨old, he⟩, hi, hne⟩ k => ⟨⟨old, k e (by simp) _ he⟩, hi.at fun o q => k it (by simp) o q, hne⟩
  item := by
    intro X hP hw hK hc i pins s σ H E I hf st hg
    subst hP hw hK
    obtain ⟨⟨old, he⟩, hit, hne⟩ := st
    obtain ⟨xs, x, hq, hx⟩ := hg
    obtain ⟨its, rv, p, hz⟩ := I.tuple hq
    obtain ⟨u, hu, ru⟩ := rv.get hx
    have isT : s.heap.IsTuple a its.toArray := let ⟨o1, g1, c1, n1, d1⟩ := p; ⟨o1, g1, c1, n1, d1⟩
    have le : e < s.heap.objs.size := Heap.lt_size he
    have li : it < s.heap.objs.size := by obtain ⟨_, q, _⟩ := hit; exact Heap.lt_size q
    have hlt : i < its.toArray.size := by
      rw [List.size_toArray]
      exact (List.getElem?_eq_some_iff.mp hu).1
    have D : Draws X.prog X.w X.A.in1 it [it, a] its.toArray.size (fun i v => its.toArray[i]? = some v) (fun i h => h.IsTupleIter it a i ∧ h.IsTuple a its.toArray) := Draws.tuple (by show X.A.handled = none; exact I.ok.hd hc) it a hai its.toArray
    refine wpAny_pyNext_enum_itemD D he ⟨hit, isT⟩ hlt hne (by simp only [List.mem_cons, List.mem_singleton, List.not_mem_nil, or_false, not_or]; exact ⟨hne, fun z => hae z.symm⟩) fun x' h' tk hx' out st' hT sz hk => ?_
    have ex : x' = u := by
      have z : its.toArray[i]? = some u := by simpa using hu
      rw [z] at hx'
      exact (Option.some.inj hx').symm
    subst ex
    refine ⟨_, rfl, wpAny_letOwnedTupleGo_enum (s := { s with heap := h', toks := tk + 1 }) out fun h'' he' sb => ?_⟩
    have at2 : h''.get? s.heap.objs.size = some { cls := .type "tuple", data := .seq #[.int i tk, x'] } := (sb.2 _ (Nat.ne_of_gt le)).trans hT
    have new : ObjOk X.prog X.w (upd H s.heap.objs.size (.tup [.int (i : Nat), x])) h'' s.heap.objs.size (.tup [.int (i : Nat), x]) := ⟨by show 2 ≤ sizeLine; decide, [.int i tk, x'], .cons ⟨_, rfl⟩ (.cons ru .nil), ⟨_, at2, rfl, _, rfl⟩⟩
    have I1 : Inv X pins σ (upd H s.heap.objs.size (.tup [.int (i : Nat), x])) { s with heap := h'', toks := tk + 1 } :=
      I.turnedNew (ch := [e, it]) (fun b ob hb q => (sb.2 b (fun z => hb (by simp [z]))).trans (hk b ob (fun z => hb (by simp [z])) (fun z => hb (by simp [z])) q)) hf (Nat.le_refl _) new
    refine ⟨.ref s.heap.objs.size, _, I1, rfl, ⟨_, x, rfl, I.hok.fresh (Nat.le_refl _), rfl, fun ys hy => ?_⟩, ⟨⟨x', ?_⟩, st'.1.at fun o q => (sb.2 it (Ne.symm hne)).trans q, hne⟩, fun b hb => ?_⟩
    · rw [I.tuple_inj hy hq]
      exact hx
    · rw [show ((i + 1 : Nat) : Int) = (i : Int) + 1 by omega]
      exact he'
    · have hb' : b < s.heap.objs.size := by
        rcases List.mem_cons.mp hb with z | z
        · rw [z]; exact le
        · rw [List.mem_singleton.mp z]; exact li
      rw [upd_ne (Nat.ne_of_lt hb')]
      exact (hf b hb).1
  done := by
    intro X hP hw hK hc i pins s σ H E I hf st hg
    subst hP hw hK
    obtain ⟨⟨old, he⟩, hit, hne⟩ := st
    obtain ⟨xs, hq, hx⟩ := hg
    obtain ⟨its, rv, p, hz⟩ := I.tuple hq
    have isT : s.heap.IsTuple a its.toArray := let ⟨o1, g1, c1, n1, d1⟩ := p; ⟨o1, g1, c1, n1, d1⟩
    obtain ⟨f0, f1, f2, f3, f4, f5⟩ := hf it (by simp)
    have D : Draws X.prog X.w X.A.in1 it [it, a] its.toArray.size (fun i v => its.toArray[i]? = some v) (fun i h => h.IsTupleIter it a i ∧ h.IsTuple a its.toArray) := Draws.tuple (by show X.A.handled = none; exact I.ok.hd hc) it a hai its.toArray
    have en : its.toArray.size = i := by rw [List.size_toArray, ← rv.length]; exact hx
    refine wpAny_pyNext_enum_endD D he ⟨by rw [en]; exact hit, isT⟩ fun h' eb => ⟨rfl, I.turned (t' := s.toks) (fun b o hb q => eb b o hb q) f0 f1 f3 f4 f5⟩
  self := fun A i s Q E ⟨⟨_, he⟩, _⟩ h => wpAny_pyIter_enum he h
def iEnumT (K : PySem.W.Frag) (ta : TA) : TI := fun σ H R => ta σ H fun vs H1 => ∃ a xs, vs = [.ref a] ∧ SqT K H1 a xs ∧ R (Ienum K a) H1
theorem pi_enumT {X : Cx} {e : Expr} {ta : TA} {p pos tpos : Pos} {elts : List Expr} {kk : Nat} (hg : Gl X "enumerate") (hm : X.mg "enumerate" = none) (ha : PA X [e] ta) (hs : starEach [e] X.env = [(false, eval e X.env)] := by rfl) :
    PI X (.Tuple elts kk tpos) (.Call (.Name "enumerate" p) [e] [] pos) (iEnumT X.K ta) := by
  refine ⟨fun pins s σ H R I h => ?_⟩
  refine Call_ (ld_blt I hg hm boot_enumerate (callWith_type1 (thn (ha.run pos pins s σ H _ I h) fun us s1 ⟨vs, H1, I1, r1, q1⟩ => ?_) hs rfl))
  obtain ⟨a, xs, rfl, hq, q⟩ := q1
  obtain ⟨u, rfl, ru⟩ := vals1 r1
  cases ru
  obtain ⟨its, rv, tp, hz⟩ := I1.tuple hq
  have lt : a < s1.heap.objs.size := tp.lt
  refine call_enumT (its := its.toArray) (let ⟨o1, g1, c1, n1, d1⟩ := tp; ⟨o1, g1, c1, n1, d1⟩) fun h' he hit sz hk => wpAny_pyIter_enum he ?_
  have I2 : Inv X pins σ H1 { s1 with heap := h' } := I1.kept (t' := s1.toks) hk
  refine ⟨s1.heap.objs.size + 1, [s1.heap.objs.size + 1, s1.heap.objs.size], _, _, H1, rfl, I2, turn_enumT a (s1.heap.objs.size + 1) s1.heap.objs.size (Nat.ne_of_lt (Nat.lt_succ_of_lt lt)) (Nat.ne_of_lt lt), ⟨⟨.none, he⟩, hit, Nat.succ_ne_self _⟩, fun b hb => ?_, q⟩
  have hle : s1.heap.objs.size ≤ b := by
    rcases List.mem_cons.mp hb with z | z
    · rw [z]; exact Nat.le_add_right _ _
    · rw [List.mem_singleton.mp z]; exact Nat.le_refl _
  exact I1.fpOk hle (I1.hok.fresh hle)
/-- a loop over it -/
theorem for_enumT {K : PySem.W.Frag} {a : Addr} {xs : List V} {g : TG} {tb : TS} {D : Ends} {σ : L2.St} {H : Hp} (Pv : Nat → L2.St → Hp → Prop) (h0 : Pv 0 σ H) (hl : ∀ i σ H, i ≤ xs.length → Pv i σ H → SqT K H a xs)
    (hs : ∀ i x T σ H, xs[i]? = some x → Pv i σ H → H T = none → g (.ref T) σ (upd H T (.tup [.int (i : Nat), x])) fun σ2 H2 => tb { D with nx := Pv (i + 1), ct := Pv (i + 1), bk := D.nx } σ2 H2) (hd : ∀ σ H, Pv xs.length σ H → D.nx σ H) :
    ∃ W : Nat → Nat → L2.St → Hp → Prop, (∃ m, W 0 m σ H) ∧ ∀ i m σ H, W i m σ H →
      ((Ienum K a).stop i H ∧ D.nx σ H) ∨ ((Ienum K a).go i H ∧ ∃ N : L2.St → Hp → Prop, (∀ σ' H', N σ' H' → ∃ m', m' < m ∧ W (i + 1) m' σ' H') ∧ ∀ x H', (Ienum K a).yld i H x H' → g x σ H' fun σ2 H2 => tb { D with nx := N, ct := N, bk := D.nx } σ2 H2) := by
  refine ⟨fun i m σ H => m = xs.length - i ∧ i ≤ xs.length ∧ Pv i σ H, ⟨xs.length, by simp, Nat.zero_le _, h0⟩, ?_⟩
  rintro i m σ H ⟨rfl, hi, p⟩
  have q := hl i σ H hi p
  by_cases hlt : i < xs.length
  · have hx := List.getElem?_eq_getElem hlt
    refine .inr ⟨⟨xs, _, q, hx⟩, Pv (i + 1), fun σ' H' p' => ⟨xs.length - (i + 1), by omega, rfl, hlt, p'⟩, fun v H' y => ?_⟩
    obtain ⟨T, x, rfl, hT, rfl, y⟩ := y
    exact hs i x T σ H (y xs q) p hT
  · have e : i = xs.length := by omega
    exact .inl ⟨⟨xs, q, e.symm⟩, hd σ H (by rw [← e]; exact p)⟩
end
/-! how far points are -/
def Rk (S : Int → Prop) (E : Int → Int → Prop) : Nat → Int → Prop
  | 0, p => S p
  | k + 1, p => ∃ q, Rk S E k q ∧ E q p
def Dk (S : Int → Prop) (E : Int → Int → Prop) (k : Nat) (p : Int) : Prop := Rk S E k p ∧ ∀ j, j < k → ¬ Rk S E j p
section
variable {S : Int → Prop} {E : Int → Int → Prop}
theorem Dk.pred {k : Nat} {p : Int} (h : Dk S E (k + 1) p) : ∃ q, Dk S E k q ∧ E q p := by
  obtain ⟨⟨q, hq, e⟩, no⟩ := h
  exact ⟨q, ⟨hq, fun j hj r => no (j + 1) (by omega) ⟨q, r, e⟩⟩, e⟩
theorem Rk.ex {k : Nat} {p : Int} (h : Rk S E k p) : ∃ j, j ≤ k ∧ Dk S E j p := by
  induction k using Nat.strongRecOn with
  | ind k ih =>
    by_cases c : ∃ j, j < k ∧ Rk S E j p
    · obtain ⟨j, hj, r⟩ := c
      obtain ⟨i, hi, d⟩ := ih j hj r
      exact ⟨i, by omega, d⟩
    · exact ⟨k, Nat.le_refl _, h, fun j hj r => c ⟨j, hj, r⟩⟩
theorem Dk.uniq {k j : Nat} {p : Int} (h : Dk S E k p) (h' : Dk S E j p) : k = j := by
  rcases Nat.lt_trichotomy k j with c | c | c
  · exact absurd h.1 (h'.2 k c)
  · exact c
  · exact absurd h'.1 (h.2 j c)
theorem Dk.chain {k : Nat} {p : Int} (h : Dk S E k p) : ∃ l : List Int, l.length = k + 1 ∧ l.Nodup ∧ ∀ x ∈ l, ∃ j, j ≤ k ∧ Dk S E j x := by
  induction k generalizing p with
  | zero => exact ⟨[p], rfl, by simp, fun x hx => ⟨0, Nat.le_refl _, by rw [List.mem_singleton.mp hx]; exact h⟩⟩
  | succ k ih =>
    obtain ⟨q, hq, _⟩ := h.pred
    obtain ⟨l, h1, h2, h3⟩ := ih hq
    refine ⟨p :: l, by rw [List.length_cons, h1], List.nodup_cons.mpr ⟨fun hp => ?_, h2⟩, fun x hx => ?_⟩
    · obtain ⟨j, hj, d⟩ := h3 p hp
      have := d.uniq h
      omega
    · rcases List.mem_cons.mp hx with rfl | hx
      · exact ⟨k + 1, Nat.le_refl _, h⟩
      · obtain ⟨j, hj, d⟩ := h3 x hx
        exact ⟨j, by omega, d⟩
theorem Dk.bound {n k : Nat} {p : Int} (hb : ∀ j q, Rk S E j q → 0 ≤ q ∧ q < (n : Int)) (h : Dk S E k p) : k < n := by
  obtain ⟨l, h1, h2, h3⟩ := h.chain
  have := nodup_len n l h2 fun x hx => by
    obtain ⟨j, _, d⟩ := h3 x hx
    exact hb j x d.1
  omega
theorem Dk.down {k s : Nat} {p : Int} (h : Dk S E k p) (hs : s ≤ k) : ∃ q, Dk S E s q := by
  induction k generalizing p with
  | zero => exact ⟨p, by rw [show s = 0 by omega]; exact h⟩
  | succ k ih =>
    by_cases c : s = k + 1
    · exact ⟨p, by rw [c]; exact h⟩
    · obtain ⟨q, hq, _⟩ := h.pred
      exact ih hq (by omega)
end
/-! ways -/
def chainP (rows : List (List Int)) : List Int → Prop
  | a :: b :: r => b ∈ rowAt rows a ∧ chainP rows (b :: r)
  | _ => True
def WayP (rows : List (List Int)) (ss gs ns : List Int) : Prop := (∃ s r, ns = s :: r ∧ s ∈ ss) ∧ (∃ r g, ns = r ++ [g] ∧ g ∈ gs) ∧ chainP rows ns
/-- of one length, by the first part in which they are unlike -/
def lexP : List Int → List Int → Prop
  | [], [] => True
  | a :: r, b :: s => a < b ∨ (a = b ∧ lexP r s)
  | _, _ => False
theorem lexP_anti : ∀ {a b : List Int}, lexP a b → lexP b a → a = b
  | [], [], _, _ => rfl
  | [], _ :: _, h, _ => h.elim
  | _ :: _, [], h, _ => h.elim
  | x :: r, y :: s, h1, h2 => by
    have h1 : x < y ∨ (x = y ∧ lexP r s) := h1
    have h2 : y < x ∨ (y = x ∧ lexP s r) := h2
    rcases h1 with h1 | ⟨e, h1⟩
    · rcases h2 with h2 | ⟨e, _⟩ <;> omega
    · rcases h2 with h2 | ⟨_, h2⟩
      · omega
      · rw [e, lexP_anti h1 h2]
/-- the way of the fewest points, of several the least -/
def LeastW (rows : List (List Int)) (ss gs ns : List Int) : Prop := WayP rows ss gs ns ∧ ∀ ms, WayP rows ss gs ms → ns.length < ms.length ∨ (ns.length = ms.length ∧ lexP ns ms)
theorem LeastW.uniq {rows : List (List Int)} {ss gs ns ms : List Int} (h : LeastW rows ss gs ns) (h' : LeastW rows ss gs ms) : ns = ms := by
  rcases h.2 ms h'.1 with a | ⟨a, l⟩
  · rcases h'.2 ns h.1 with b | ⟨b, _⟩ <;> omega
  · rcases h'.2 ns h.1 with b | ⟨_, l'⟩
    · omega
    · exact lexP_anti l l'
/-- back from the goals -/
abbrev backE (rows : List (List Int)) : Int → Int → Prop := fun q p => 0 ≤ p ∧ p < (rows.length : Int) ∧ q ∈ rowAt rows p
abbrev inP (l : List Int) : Int → Prop := fun p => p ∈ l
theorem way_far {rows : List (List Int)} {gs : List Int} (hr : ∀ a b, b ∈ rowAt rows a → 0 ≤ a → 0 ≤ b ∧ b < (rows.length : Int)) : ∀ (ms : List Int) (s : Int), 0 ≤ s ∧ s < (rows.length : Int) → chainP rows (s :: ms) → (∃ r g, s :: ms = r ++ [g] ∧ g ∈ gs) → Rk (inP gs) (backE rows) ms.length s
  | [], s, hs, _, ⟨r, g, e, hg⟩ => by
    have : s = g := by
      cases r with
      | nil => cases e; rfl
      | cons _ r => cases r <;> cases e
    rw [this]
    exact hg
  | m :: ms, s, hs, hc, ⟨r, g, e, hg⟩ => by
    have hc : m ∈ rowAt rows s ∧ chainP rows (m :: ms) := hc
    have ih := way_far hr ms m (hr s m hc.1 hs.1) hc.2 (by
      cases r with
      | nil => cases e
      | cons _ r =>
        rw [List.cons_append, List.cons.injEq] at e
        exact ⟨r, g, e.2, hg⟩)
    exact ⟨m, ih, hs.1, hs.2, hc.1⟩
/-- the path that goes to the least of the nearest -/
def Greedy (rows : List (List Int)) (gs : List Int) : Nat → List Int → Prop
  | 0, [p] => p ∈ gs
  | k + 1, p :: q :: r => Dk (inP gs) (backE rows) (k + 1) p ∧ q ∈ rowAt rows p ∧ (∀ x ∈ rowAt rows p, Dk (inP gs) (backE rows) k x → q ≤ x) ∧ Greedy rows gs k (q :: r)
  | _, _ => False
theorem Greedy.len {rows : List (List Int)} {gs : List Int} : ∀ {k : Nat} {ns : List Int}, Greedy rows gs k ns → ns.length = k + 1
  | 0, [p], _ => rfl
  | k + 1, p :: q :: r, h => by
    have ih : (q :: r).length = k + 1 := Greedy.len h.2.2.2
    rw [List.length_cons, ih]
  | 0, [], h => h.elim
  | 0, _ :: _ :: _, h => h.elim
  | _ + 1, [], h => h.elim
  | _ + 1, [_], h => h.elim
theorem Greedy.way {rows : List (List Int)} {gs : List Int} : ∀ {k : Nat} {ns : List Int}, Greedy rows gs k ns → chainP rows ns ∧ ∃ r g, ns = r ++ [g] ∧ g ∈ gs
  | 0, [p], h => ⟨trivial, [], p, rfl, h⟩
  | k + 1, p :: q :: r, h => by
    obtain ⟨c, r', g, e, hg⟩ := Greedy.way h.2.2.2
    exact ⟨⟨h.2.1, c⟩, p :: r', g, by rw [e]; rfl, hg⟩
  | 0, [], h => h.elim
  | 0, _ :: _ :: _, h => h.elim
  | _ + 1, [], h => h.elim
  | _ + 1, [_], h => h.elim
theorem Greedy.least {rows : List (List Int)} {gs : List Int} (hr : ∀ a b, b ∈ rowAt rows a → 0 ≤ a → 0 ≤ b ∧ b < (rows.length : Int)) : ∀ {k : Nat} {p : Int} {ns ms : List Int}, 0 ≤ p ∧ p < (rows.length : Int) → Greedy rows gs k (p :: ns) → chainP rows (p :: ms) → (∃ r g, p :: ms = r ++ [g] ∧ g ∈ gs) → ms.length = k → lexP (p :: ns) (p :: ms)
  | 0, p, [], ms, _, _, _, _, l => by
    cases ms with
    | nil => exact .inr ⟨rfl, trivial⟩
    | cons _ _ => cases l
  | 0, p, _ :: _, _, _, h, _, _, _ => h.elim
  | k + 1, p, [], _, _, h, _, _, _ => h.elim
  | k + 1, p, q :: r, ms, hp, h, hc, he, l => by
    cases ms with
    | nil => cases l
    | cons m ms =>
      have hc : m ∈ rowAt rows p ∧ chainP rows (m :: ms) := hc
      have hm := hr p m hc.1 hp.1
      have he' : ∃ r g, m :: ms = r ++ [g] ∧ g ∈ gs := by
        obtain ⟨r, g, e, hg⟩ := he
        cases r with
        | nil => cases e
        | cons _ r =>
          rw [List.cons_append, List.cons.injEq] at e
          exact ⟨r, g, e.2, hg⟩
      have lm : ms.length = k := by
        rw [List.length_cons] at l
        omega
      have far := way_far hr ms m hm hc.2 he'
      rw [lm] at far
      have dm : Dk (inP gs) (backE rows) k m := by
        obtain ⟨j, hj, d⟩ := far.ex
        by_cases c : j = k
        · rw [← c]; exact d
        · exact absurd (show Rk (inP gs) (backE rows) (j + 1) p from ⟨m, d.1, hp.1, hp.2, hc.1⟩) (h.1.2 (j + 1) (by omega))
      have qm := h.2.2.1 m hc.1 dm
      refine .inr ⟨rfl, ?_⟩
      by_cases e : q = m
      · subst e
        exact Greedy.least hr hm h.2.2.2 hc.2 he' lm
      · exact .inl (by omega)
theorem least_of {rows : List (List Int)} {ss gs : List Int} (hr : ∀ a b, b ∈ rowAt rows a → 0 ≤ a → 0 ≤ b ∧ b < (rows.length : Int)) (hss : ∀ s ∈ ss, 0 ≤ s ∧ s < (rows.length : Int)) {k : Nat} {s : Int} {ns : List Int} (hs : s ∈ ss) (hd : Dk (inP gs) (backE rows) k s) (hmin : ∀ q ∈ ss, ∀ j, Dk (inP gs) (backE rows) j q → k < j ∨ (k = j ∧ s ≤ q)) (hg : Greedy rows gs k (s :: ns)) : LeastW rows ss gs (s :: ns) := by
  obtain ⟨c, e⟩ := hg.way
  refine ⟨⟨⟨s, ns, rfl, hs⟩, e, c⟩, fun ms hm => ?_⟩
  obtain ⟨⟨q, r, rfl, hq⟩, he, hc⟩ := hm
  have far := way_far hr r q (hss q hq) hc he
  obtain ⟨j, hj, d⟩ := far.ex
  have lg := hg.len
  rcases hmin q hq j d with h | ⟨h, sq⟩
  · refine .inl ?_
    rw [lg, List.length_cons]
    omega
  · by_cases c2 : j = r.length
    · refine .inr ⟨by rw [lg, List.length_cons]; omega, ?_⟩
      by_cases e2 : s = q
      · subst e2
        exact Greedy.least hr (hss s hs) hg hc he (by omega)
      · exact .inl (by omega)
    · refine .inl ?_
      rw [lg, List.length_cons]
      omega
/-! rows by their order -/
theorem lexP_refl : ∀ a : List Int, lexP a a
  | [] => trivial
  | _ :: r => .inr ⟨rfl, lexP_refl r⟩
theorem lexP_trans : ∀ {a b c : List Int}, lexP a b → lexP b c → lexP a c
  | [], [], [], _, _ => trivial
  | [], [], _ :: _, _, h => h.elim
  | [], _ :: _, _, h, _ => h.elim
  | _ :: _, [], _, h, _ => h.elim
  | _ :: _, _ :: _, [], _, h => h.elim
  | x :: r, y :: s, z :: t, h1, h2 => by
    have h1 : x < y ∨ (x = y ∧ lexP r s) := h1
    have h2 : y < z ∨ (y = z ∧ lexP s t) := h2
    show x < z ∨ (x = z ∧ lexP r t)
    rcases h1 with h1 | ⟨e, h1⟩
    · rcases h2 with h2 | ⟨e2, _⟩ <;> exact .inl (by omega)
    · rcases h2 with h2 | ⟨e2, h2⟩
      · exact .inl (by omega)
      · exact .inr ⟨by omega, lexP_trans h1 h2⟩
theorem lexP_app : ∀ {a b : List Int} (x : Int), lexP a b → lexP (a ++ [x]) (b ++ [x])
  | [], [], x, _ => .inr ⟨rfl, trivial⟩
  | [], _ :: _, _, h => h.elim
  | _ :: _, [], _, h => h.elim
  | y :: r, z :: s, x, h => by
    have h : y < z ∨ (y = z ∧ lexP r s) := h
    show y < z ∨ (y = z ∧ lexP (r ++ [x]) (s ++ [x]))
    rcases h with h | ⟨e, h⟩
    · exact .inl h
    · exact .inr ⟨e, lexP_app x h⟩
/-! rings and ranks -/
theorem last_app (a : List Int) (y : Int) (b : List Int) : (a ++ y :: b).getLast? = (y :: b).getLast? := by
  rw [List.getLast?_append]
  cases h : (y :: b).getLast? with
  | none => simp at h
  | some z => rfl
section
variable {rows : List (List Int)}
theorem chainP_app : ∀ {a b : List Int}, chainP rows (a ++ b) ↔ chainP rows a ∧ chainP rows b ∧ ∀ z x, a.getLast? = some z → b.head? = some x → x ∈ rowAt rows z
  | [], b => ⟨fun h => ⟨trivial, h, fun z x e => (by cases e)⟩, fun h => h.2.1⟩
  | [y], b => by
    cases b with
    | nil => exact ⟨fun _ => ⟨trivial, trivial, fun z x _ e => (by cases e)⟩, fun _ => trivial⟩
    | cons x t =>
      constructor
      · intro h
        have h : x ∈ rowAt rows y ∧ chainP rows (x :: t) := h
        refine ⟨trivial, h.2, fun z x' e1 e2 => ?_⟩
        cases e1
        cases e2
        exact h.1
      · intro h
        exact ⟨h.2.2 y x rfl rfl, h.2.1⟩
  | y :: y' :: r, b => by
    have ih := @chainP_app (y' :: r) b
    constructor
    · intro h
      have h : y' ∈ rowAt rows y ∧ chainP rows ((y' :: r) ++ b) := h
      obtain ⟨i1, i2, i3⟩ := ih.mp h.2
      exact ⟨⟨h.1, i1⟩, i2, fun z x e1 e2 => i3 z x (by rw [List.getLast?_cons_cons] at e1; exact e1) e2⟩
    · intro ⟨h1, h2, h3⟩
      have h1 : y' ∈ rowAt rows y ∧ chainP rows (y' :: r) := h1
      exact ⟨h1.1, ih.mpr ⟨h1.2, h2, fun z x e1 e2 => h3 z x (by rw [List.getLast?_cons_cons]; exact e1) e2⟩⟩
end
def RingP (rows : List (List Int)) (ns : List Int) : Prop := (∀ p ∈ ns, 0 ≤ p ∧ p < (rows.length : Int)) ∧ ns.Nodup ∧ chainP rows ns ∧ ∃ a z, ns.head? = some a ∧ ns.getLast? = some z ∧ a ∈ rowAt rows z
def LeastR (rows : List (List Int)) (ns : List Int) : Prop := RingP rows ns ∧ ∀ ms, RingP rows ms → ns.length < ms.length ∨ (ns.length = ms.length ∧ lexP ns ms)
theorem LeastR.uniq {rows : List (List Int)} {ns ms : List Int} (h : LeastR rows ns) (h' : LeastR rows ms) : ns = ms := by
  rcases h.2 ms h'.1 with a | ⟨a, l⟩
  · rcases h'.2 ns h.1 with b | ⟨b, _⟩ <;> omega
  · rcases h'.2 ns h.1 with b | ⟨_, l'⟩
    · omega
    · exact lexP_anti l l'
section
variable {rows : List (List Int)}
theorem RingP.pos {ns : List Int} (h : RingP rows ns) : 0 < ns.length := by
  obtain ⟨_, _, _, a, z, e, _⟩ := h
  cases ns with
  | nil => cases e
  | cons _ _ => simp
theorem RingP.le {ns : List Int} (h : RingP rows ns) : ns.length ≤ rows.length := nodup_len _ _ h.2.1 h.1
theorem ring_of {U : Int → Prop} (hU : ∀ p, U p → 0 ≤ p ∧ p < (rows.length : Int)) (hne : ∃ p, U p) (hs : ∀ p, U p → ∃ q, q ∈ rowAt rows p ∧ U q) : ∃ ns, RingP rows ns := by
  have step : ∀ k : Nat, (∃ (l : List Int) (z : Int), l.length = k ∧ (l ++ [z]).Nodup ∧ (∀ x ∈ l ++ [z], U x) ∧ chainP rows (l ++ [z])) ∨ ∃ ns, RingP rows ns := by
    intro k
    induction k with
    | zero =>
      obtain ⟨p, hp⟩ := hne
      exact .inl ⟨[], p, rfl, by simp, by simpa using hp, trivial⟩
    | succ k ih =>
      rcases ih with ⟨l, z, h1, h2, h3, h4⟩ | h
      · obtain ⟨q, q1, q2⟩ := hs z (h3 z (by simp))
        by_cases c : q ∈ l ++ [z]
        · obtain ⟨a, b, e⟩ := List.append_of_mem c
          have lastz : (q :: b).getLast? = some z := by
            have h : (l ++ [z]).getLast? = some z := by simp
            rw [e, last_app] at h
            exact h
          rw [e] at h2 h3 h4
          exact .inr ⟨q :: b, fun p hp => hU p (h3 p (List.mem_append_right _ hp)), (List.nodup_append.mp h2).2.1, (chainP_app.mp h4).2.1, q, z, rfl, lastz, q1⟩
        · refine .inl ⟨l ++ [z], q, by rw [List.length_append, h1]; rfl, List.nodup_append.mpr ⟨h2, by simp, fun x hx y hy e => c ?_⟩, fun x hx => ?_, chainP_app.mpr ⟨h4, trivial, fun u x e1 e2 => ?_⟩⟩
          · rw [← List.mem_singleton.mp hy, ← e]
            exact hx
          · rcases List.mem_append.mp hx with hx | hx
            · exact h3 x hx
            · rw [List.mem_singleton.mp hx]
              exact q2
          · have e1 : some z = some u := by rw [← e1]; simp
            cases e1
            cases e2
            exact q1
      · exact .inr h
  rcases step rows.length with ⟨l, z, h1, h2, h3, _⟩ | h
  · have := nodup_len rows.length _ h2 fun x hx => hU x (h3 x hx)
    rw [List.length_append, h1] at this
    have : rows.length + 1 ≤ rows.length := this
    omega
  · exact h
end
/-! ranks -/
def rkAt (rs : List Int) (p : Int) : Int := rs.getD p.toNat 0
structure FixR (rows : List (List Int)) (rs : List Int) : Prop where
  len : rs.length = rows.length
  pos : ∀ p, 0 ≤ p → p < (rows.length : Int) → 0 ≤ rkAt rs p
  gt : ∀ p, 0 ≤ p → p < (rows.length : Int) → ∀ q ∈ rowAt rows p, rkAt rs q < rkAt rs p
  eq : ∀ p, 0 ≤ p → p < (rows.length : Int) → rkAt rs p = 0 ∨ ∃ q ∈ rowAt rows p, rkAt rs p = rkAt rs q + 1
theorem row_rng {rows : List (List Int)} (h : RwOk rows) {a b : Int} (m : b ∈ rowAt rows a) : 0 ≤ b ∧ b < (rows.length : Int) := by
  unfold rowAt at m
  rw [List.getD_eq_getElem?_getD] at m
  cases e : rows[a.toNat]? with
  | none => rw [e] at m; cases m
  | some row =>
    rw [e] at m
    exact (h.row row (List.mem_of_getElem? e)).2 b m
theorem FixR.same {rows : List (List Int)} (hr : RwOk rows) {rs ts : List Int} (h : FixR rows rs) (g : FixR rows ts) : ∀ (k : Nat) (p : Int), 0 ≤ p → p < (rows.length : Int) → rkAt rs p = k → rkAt ts p = k := by
  intro k
  induction k using Nat.strongRecOn with
  | ind k ih =>
    intro p p0 p1 e
    have sub : ∀ q ∈ rowAt rows p, rkAt ts q = rkAt rs q := fun q hq => by
      obtain ⟨q0, q1⟩ := row_rng hr hq
      have l := h.gt p p0 p1 q hq
      have l0 := h.pos q q0 q1
      have := ih (rkAt rs q).toNat (by omega) q q0 q1 (by omega)
      omega
    have t0 := g.pos p p0 p1
    rcases g.eq p p0 p1 with a | ⟨q, hq, a⟩
    · rcases h.eq p p0 p1 with b | ⟨q, hq, b⟩
      · omega
      · have := sub q hq
        have := g.gt p p0 p1 q hq
        omega
    · have := sub q hq
      have := h.gt p p0 p1 q hq
      rcases h.eq p p0 p1 with b | ⟨q', hq', b⟩
      · have := row_rng hr hq
        have := h.pos q (by omega) (by omega)
        omega
      · have := sub q' hq'
        have := g.gt p p0 p1 q' hq'
        omega
theorem FixR.uniq {rows : List (List Int)} (hr : RwOk rows) {rs ts : List Int} (h : FixR rows rs) (g : FixR rows ts) : rs = ts := by
  refine List.ext_getElem (h.len.trans g.len.symm) fun i i1 i2 => ?_
  have li := h.len
  have p0 := h.pos (i : Int) (by omega) (by omega)
  have e := h.same hr g (rkAt rs (i : Int)).toNat (i : Int) (by omega) (by omega) (by omega)
  have a1 : rkAt rs (i : Int) = rs[i] := by
    unfold rkAt
    rw [show ((i : Int)).toNat = i by omega, List.getD_eq_getElem?_getD, List.getElem?_eq_getElem i1]
    rfl
  have a2 : rkAt ts (i : Int) = ts[i] := by
    unfold rkAt
    rw [show ((i : Int)).toNat = i by omega, List.getD_eq_getElem?_getD, List.getElem?_eq_getElem i2]
    rfl
  omega
theorem FixR.chain {rows : List (List Int)} {rs : List Int} (h : FixR rows rs) : ∀ (r : List Int) (a z : Int), (∀ p ∈ a :: r, 0 ≤ p ∧ p < (rows.length : Int)) → chainP rows (a :: r) → (a :: r).getLast? = some z → rkAt rs z ≤ rkAt rs a
  | [], a, z, _, _, e => by
    cases e
    exact Int.le_refl _
  | b :: r, a, z, hp, hc, e => by
    have hc : b ∈ rowAt rows a ∧ chainP rows (b :: r) := hc
    rw [List.getLast?_cons_cons] at e
    have i := FixR.chain h r b z (fun p hp' => hp p (List.mem_cons_of_mem _ hp')) hc.2 e
    have ra := hp a List.mem_cons_self
    have := h.gt a ra.1 ra.2 b hc.1
    omega
theorem FixR.none {rows : List (List Int)} {rs ns : List Int} (h : FixR rows rs) (g : RingP rows ns) : False := by
  obtain ⟨g1, _, g3, a, z, e1, e2, m⟩ := g
  cases ns with
  | nil => cases e1
  | cons b r =>
    have eb : b = a := Option.some.inj e1
    subst eb
    have := h.chain r b z g1 g3 e2
    have rz := g1 z (List.mem_of_getLast? e2)
    have := h.gt z rz.1 rz.2 b m
    omega
/-! rings that begin with their least point -/
def RingM (rows : List (List Int)) (p : Int) (ms : List Int) : Prop := RingP rows ms ∧ ms.head? = some p ∧ ∀ x ∈ ms, p ≤ x
section
variable {rows : List (List Int)}
theorem RingP.turn {a b : List Int} (ha : a ≠ []) (hb : b ≠ []) (h : RingP rows (a ++ b)) : RingP rows (b ++ a) := by
  obtain ⟨h1, h2, h3, x, z, e1, e2, m⟩ := h
  obtain ⟨c1, c2, c3⟩ := chainP_app.mp h3
  cases a with
  | nil => exact absurd rfl ha
  | cons x' a =>
    cases e1
    have ez : b.getLast? = some z := by
      cases b with
      | nil => exact absurd rfl hb
      | cons y b =>
        rw [last_app] at e2
        exact e2
    obtain ⟨u, eu⟩ : ∃ u, (x :: a).getLast? = some u := ⟨_, List.getLast?_eq_some_getLast (by simp)⟩
    cases b with
    | nil => exact absurd rfl hb
    | cons y b =>
      refine ⟨fun p hp => h1 p (by
        rcases List.mem_append.mp hp with hp | hp
        · exact List.mem_append_right _ hp
        · exact List.mem_append_left _ hp), (List.perm_append_comm.nodup_iff).mp h2, chainP_app.mpr ⟨c2, c1, fun z' x' q1 q2 => ?_⟩, y, u, rfl, ?_, c3 u y eu rfl⟩
      · rw [ez] at q1
        cases q1
        cases q2
        exact m
      · rw [last_app]
        exact eu
theorem min_ex : ∀ l : List Int, l ≠ [] → ∃ m ∈ l, ∀ x ∈ l, m ≤ x
  | [], h => absurd rfl h
  | [a], _ => ⟨a, by simp, fun x hx => by rw [List.mem_singleton.mp hx]; exact Int.le_refl _⟩
  | a :: b :: r, _ => by
    obtain ⟨m, hm, h⟩ := min_ex (b :: r) (by simp)
    by_cases c : a ≤ m
    · refine ⟨a, by simp, fun x hx => ?_⟩
      rcases List.mem_cons.mp hx with rfl | hx
      · exact Int.le_refl _
      · have := h x hx
        omega
    · refine ⟨m, List.mem_cons_of_mem _ hm, fun x hx => ?_⟩
      rcases List.mem_cons.mp hx with rfl | hx
      · omega
      · exact h x hx
theorem RingP.best {ms : List Int} (h : RingP rows ms) : ∃ p ns, RingM rows p ns ∧ ns.length = ms.length ∧ lexP ns ms := by
  have hp := h.pos
  have ne : ms ≠ [] := fun e => by rw [e] at hp; cases hp
  obtain ⟨m, hm, hmin⟩ := min_ex ms ne
  obtain ⟨a, b, e⟩ := List.append_of_mem hm
  cases a with
  | nil =>
    subst e
    exact ⟨m, m :: b, ⟨h, rfl, hmin⟩, rfl, lexP_refl _⟩
  | cons x a =>
    subst e
    have t := h.turn (by simp) (by simp)
    refine ⟨m, m :: b ++ x :: a, ⟨t, rfl, fun y hy => hmin y ?_⟩, by rw [List.length_append, List.length_append, Nat.add_comm], .inl ?_⟩
    · rcases List.mem_append.mp hy with hy | hy
      · exact List.mem_append_right _ hy
      · exact List.mem_append_left _ hy
    · have l := hmin x (by simp)
      have nd := h.2.1
      have : x ≠ m := fun z => (List.nodup_append.mp nd).2.2 x (by simp) m (by simp) z
      show m < x
      omega
end
/-! charts cut to the points from p on -/
def resR (rows : List (List Int)) (p : Int) : List (List Int) := (List.range rows.length).map fun (i : Nat) => if p ≤ (i : Int) then (rowAt rows (i : Int)).filter (fun b => decide (p ≤ b)) else []
theorem resR_len (rows : List (List Int)) (p : Int) : (resR rows p).length = rows.length := by
  unfold resR
  rw [List.length_map, List.length_range]
theorem mem_resR {rows : List (List Int)} {p a b : Int} (h0 : 0 ≤ a) : b ∈ rowAt (resR rows p) a ↔ p ≤ a ∧ p ≤ b ∧ b ∈ rowAt rows a := by
  by_cases c : a.toNat < rows.length
  · have e : rowAt (resR rows p) a = if p ≤ a then (rowAt rows a).filter (fun b => decide (p ≤ b)) else [] := by
      show (resR rows p).getD a.toNat [] = _
      rw [List.getD_eq_getElem?_getD, resR, List.getElem?_map, List.getElem?_range c]
      show (if p ≤ ((a.toNat : Nat) : Int) then (rowAt rows ((a.toNat : Nat) : Int)).filter (fun b => decide (p ≤ b)) else []) = _
      rw [show ((a.toNat : Nat) : Int) = a by omega]
    rw [e]
    by_cases d : p ≤ a
    · rw [if_pos d, List.mem_filter, decide_eq_true_eq]
      exact ⟨fun ⟨x, y⟩ => ⟨d, y, x⟩, fun ⟨_, y, x⟩ => ⟨x, y⟩⟩
    · rw [if_neg d]
      exact ⟨fun z => (by cases z), fun z => absurd z.1 d⟩
  · have e1 : rowAt (resR rows p) a = [] := by
      unfold rowAt
      rw [List.getD_eq_getElem?_getD, List.getElem?_eq_none (by rw [resR_len]; omega)]
      rfl
    have e2 : rowAt rows a = [] := by
      unfold rowAt
      rw [List.getD_eq_getElem?_getD, List.getElem?_eq_none (by omega)]
      rfl
    rw [e1, e2]
    exact ⟨fun z => (by cases z), fun z => (by cases z.2.2)⟩
theorem chain_res {rows : List (List Int)} {p : Int} (p0 : 0 ≤ p) : ∀ {l : List Int}, (∀ x ∈ l, p ≤ x) → (chainP (resR rows p) l ↔ chainP rows l)
  | [], _ => Iff.rfl
  | [_], _ => Iff.rfl
  | a :: b :: r, h => by
    have ha := h a (by simp)
    have hb := h b (by simp)
    have ih := chain_res (rows := rows) p0 (l := b :: r) (fun x hx => h x (List.mem_cons_of_mem _ hx))
    show b ∈ rowAt (resR rows p) a ∧ chainP (resR rows p) (b :: r) ↔ b ∈ rowAt rows a ∧ chainP rows (b :: r)
    rw [mem_resR (by omega), ih]
    exact ⟨fun ⟨x, y⟩ => ⟨x.2.2, y⟩, fun ⟨x, y⟩ => ⟨⟨ha, hb, x⟩, y⟩⟩
theorem Greedy.far {rows : List (List Int)} {gs : List Int} : ∀ {k : Nat} {ns : List Int}, Greedy rows gs k ns → (∀ x ∈ ns, ∃ j, j ≤ k ∧ Dk (inP gs) (backE rows) j x) ∧ ns.Nodup
  | 0, [p], h => ⟨fun x hx => ⟨0, Nat.le_refl _, by rw [List.mem_singleton.mp hx]; exact ⟨h, fun j hj => (by omega)⟩⟩, by simp⟩
  | k + 1, p :: q :: r, h => by
    obtain ⟨i1, i2⟩ := Greedy.far h.2.2.2
    refine ⟨fun x hx => ?_, List.nodup_cons.mpr ⟨fun hp => ?_, i2⟩⟩
    · rcases List.mem_cons.mp hx with rfl | hx
      · exact ⟨k + 1, Nat.le_refl _, h.1⟩
      · obtain ⟨j, hj, d⟩ := i1 x hx
        exact ⟨j, by omega, d⟩
    · obtain ⟨j, hj, d⟩ := i1 p hp
      have := d.uniq h.1
      omega
  | 0, [], h => h.elim
  | 0, _ :: _ :: _, h => h.elim
  | _ + 1, [], h => h.elim
  | _ + 1, [_], h => h.elim
theorem lexP_unapp : ∀ {a b : List Int} {x : Int}, a.length = b.length → lexP (a ++ [x]) (b ++ [x]) → lexP a b
  | [], [], _, _, _ => trivial
  | [], _ :: _, _, l, _ => by cases l
  | _ :: _, [], _, l, _ => by cases l
  | y :: r, z :: s, x, l, h => by
    have h : y < z ∨ (y = z ∧ lexP (r ++ [x]) (s ++ [x])) := h
    rcases h with h | ⟨e, h⟩
    · exact .inl h
    · exact .inr ⟨e, lexP_unapp (Nat.succ.inj l) h⟩
/-- the ring so far -/
structure BestTo (rows : List (List Int)) (i : Nat) (ring : Option (List Int)) (fewest : Nat) : Prop where
  non : ring = none → fewest = rows.length + 1 ∧ ∀ (q : Nat) ms, q < i → ¬ RingM rows (q : Int) ms
  som : ∀ ns, ring = some ns → RingP rows ns ∧ ns.length = fewest ∧ (∃ (a : Int) (r : List Int), ns = a :: r ∧ a < (i : Int)) ∧ ∀ (q : Nat) ms, q < i → RingM rows (q : Int) ms → ns.length < ms.length ∨ (ns.length = ms.length ∧ lexP ns ms)
section
variable {rows : List (List Int)}
/-- a ring from its least point on as a way -/
theorem RingM.way {p : Int} {ms : List Int} (p0 : 0 ≤ p) (h : RingM rows p ms) : ∃ r, ms = p :: r ∧ WayP (resR rows p) (rowAt (resR rows p) p) [p] (r ++ [p]) ∧ ∀ x ∈ r ++ [p], 0 ≤ x ∧ x < (rows.length : Int) := by
  obtain ⟨⟨h1, h2, h3, a, z, e1, e2, m⟩, hd, hm⟩ := h
  cases ms with
  | nil => cases e1
  | cons b r =>
    have eb : b = a := Option.some.inj e1
    have ep : b = p := Option.some.inj hd
    subst eb
    subst ep
    have cc : chainP rows ((b :: r) ++ [b]) := chainP_app.mpr ⟨h3, trivial, fun z' x q1 q2 => by
      rw [e2] at q1
      cases q1
      cases q2
      exact m⟩
    have ge : ∀ x ∈ (b :: r) ++ [b], b ≤ x := fun x hx => by
      rcases List.mem_append.mp hx with hx | hx
      · exact hm x hx
      · rw [List.mem_singleton.mp hx]
        exact Int.le_refl _
    have cr : chainP (resR rows b) ([b] ++ (r ++ [b])) := (chain_res p0 ge).mpr cc
    obtain ⟨_, c2, c3⟩ := chainP_app.mp cr
    refine ⟨r, rfl, ⟨?_, ⟨r, b, rfl, by simp⟩, c2⟩, fun x hx => h1 x ?_⟩
    · cases hh : r ++ [b] with
      | nil => cases r <;> cases hh
      | cons s t => exact ⟨s, t, rfl, c3 b s rfl (by rw [hh]; rfl)⟩
    · rcases List.mem_append.mp hx with hx | hx
      · exact List.mem_cons_of_mem _ hx
      · rw [List.mem_singleton.mp hx]
        exact List.mem_cons_self
theorem res_rng (hr : RwOk rows) {p : Int} : ∀ a b, b ∈ rowAt (resR rows p) a → 0 ≤ a → 0 ≤ b ∧ b < ((resR rows p).length : Int) := fun a b h h0 => by
  rw [resR_len]
  exact row_rng hr ((mem_resR h0).mp h).2.2
/-- how near the nexts of the least point of a ring are -/
theorem RingM.near (hr : RwOk rows) {p : Int} {ms : List Int} (p0 : 0 ≤ p) (h : RingM rows p ms) : ∃ s ∈ rowAt rows p, ∃ j, j + 1 ≤ ms.length ∧ Dk (inP [p]) (backE (resR rows p)) j s := by
  obtain ⟨r, rfl, ⟨⟨s, t, e, ms⟩, he, hc⟩, hx⟩ := h.way p0
  have hs : 0 ≤ s ∧ s < ((resR rows p).length : Int) := by
    rw [resR_len]
    exact hx s (by rw [e]; simp)
  rw [e] at hc he
  obtain ⟨j, hj, d⟩ := (way_far (res_rng hr) t s hs hc he).ex
  have lt := congrArg List.length e
  rw [List.length_append, List.length_cons] at lt
  have lt : r.length + 1 = t.length + 1 := lt
  exact ⟨s, ((mem_resR p0).mp ms).2.2, j, by rw [List.length_cons]; omega, d⟩
theorem BestTo.keep {i fewest : Nat} {ring : Option (List Int)} (h : BestTo rows i ring fewest) (no : ∀ ms, RingM rows (i : Int) ms → fewest ≤ ms.length) : BestTo rows (i + 1) ring fewest := by
  refine ⟨fun e => ?_, fun ns e => ?_⟩
  · obtain ⟨h1, h2⟩ := h.non e
    refine ⟨h1, fun q ms hq m => ?_⟩
    by_cases c : q = i
    · subst c
      have := no ms m
      have := m.1.le
      omega
    · exact h2 q ms (by omega) m
  · obtain ⟨h1, h2, ⟨a, r, ea, la⟩, h4⟩ := h.som ns e
    refine ⟨h1, h2, ⟨a, r, ea, by omega⟩, fun q ms hq m => ?_⟩
    by_cases c : q = i
    · subst c
      have l := no ms m
      by_cases c2 : ns.length < ms.length
      · exact .inl c2
      · refine .inr ⟨by omega, ?_⟩
        obtain ⟨_, hd, _⟩ := m
        cases ms with
        | nil => cases hd
        | cons b t =>
          cases hd
          rw [ea]
          exact .inl la
    · exact h4 q ms (by omega) m
theorem BestTo.take (hr : RwOk rows) {i fewest : Nat} {ring : Option (List Int)} (h : BestTo rows i ring fewest) (hi : i < rows.length) {k : Nat} {s : Int} {ns : List Int} (hk : k + 1 < fewest) (hs : s ∈ rowAt rows (i : Int)) (hd : Dk (inP [(i : Int)]) (backE (resR rows i)) k s) (hmin : ∀ q ∈ rowAt rows (i : Int), ∀ j, Dk (inP [(i : Int)]) (backE (resR rows i)) j q → k < j ∨ (k = j ∧ s ≤ q)) (hg : Greedy (resR rows i) [(i : Int)] k (s :: ns)) : BestTo rows (i + 1) (some ((i : Int) :: (s :: ns).dropLast)) (k + 1) := by
  have p0 : (0 : Int) ≤ (i : Int) := by omega
  have hb : ∀ (j : Nat) (x : Int), Rk (inP [(i : Int)]) (backE (resR rows i)) j x → (i : Int) ≤ x ∧ x < (rows.length : Int) := fun j x r => by
    cases j with
    | zero =>
      have r : x ∈ [(i : Int)] := r
      rw [List.mem_singleton.mp r]
      omega
    | succ j =>
      obtain ⟨q, _, b1, b2, b3⟩ := r
      have := (mem_resR b1).mp b3
      rw [resR_len] at b2
      exact ⟨this.1, b2⟩
  have si := hb _ _ hd.1
  have lw := least_of (rows := resR rows i) (ss := rowAt (resR rows i) i) (gs := [(i : Int)]) (res_rng hr) (fun x hx => res_rng hr _ x hx p0) ((mem_resR p0).mpr ⟨Int.le_refl _, si.1, hs⟩) hd (fun q hq j d => hmin q ((mem_resR p0).mp hq).2.2 j d) hg
  obtain ⟨fx, nd⟩ := hg.far
  have lg := hg.len
  obtain ⟨wc, r, g, e, hgm⟩ := hg.way
  have hgm : g = i := List.mem_singleton.mp hgm
  subst hgm
  have er : (s :: ns).dropLast = r := by rw [e, List.dropLast_concat]
  have lr : r.length = k := by
    have := congrArg List.length e
    rw [lg, List.length_append] at this
    have : k + 1 = r.length + 1 := this
    omega
  rw [er]
  rw [e] at fx nd wc
  have ge : ∀ x ∈ r ++ [(i : Int)], (i : Int) ≤ x ∧ x < (rows.length : Int) := fun x hx => by
    obtain ⟨j, _, d⟩ := fx x hx
    exact hb j x d.1
  have c1 : chainP rows (r ++ [(i : Int)]) := (chain_res p0 fun x hx => (ge x hx).1).mp wc
  have c2 : chainP rows ([(i : Int)] ++ (r ++ [(i : Int)])) := chainP_app.mpr ⟨trivial, c1, fun z x q1 q2 => by
    cases q1
    rw [← e] at q2
    cases q2
    exact hs⟩
  have c3 : chainP rows (((i : Int) :: r) ++ [(i : Int)]) := c2
  obtain ⟨c4, _, c5⟩ := chainP_app.mp c3
  obtain ⟨u, eu⟩ : ∃ u, ((i : Int) :: r).getLast? = some u := ⟨_, List.getLast?_eq_some_getLast (by simp)⟩
  have ring1 : RingP rows ((i : Int) :: r) := by
    refine ⟨fun x hx => ?_, ?_, c4, i, u, rfl, eu, c5 u i eu rfl⟩
    · rcases List.mem_cons.mp hx with rfl | hx
      · omega
      · have := ge x (List.mem_append_left _ hx)
        omega
    · have p : (r ++ [(i : Int)]).Perm ((i : Int) :: r) := List.perm_append_comm
      exact p.nodup_iff.mp nd
  refine ⟨fun z => (by cases z), fun ns' z => ?_⟩
  cases z
  refine ⟨ring1, by rw [List.length_cons, lr], ⟨i, r, rfl, by omega⟩, fun q ms hq m => ?_⟩
  by_cases c : q = i
  · subst c
    obtain ⟨t, rfl, w, _⟩ := m.way p0
    rcases lw.2 _ w with l | ⟨l, x⟩
    · refine .inl ?_
      rw [lg, List.length_append] at l
      have l : k + 1 < t.length + 1 := l
      rw [List.length_cons, List.length_cons, lr]
      omega
    · rw [lg, List.length_append] at l
      have l : k + 1 = t.length + 1 := l
      refine .inr ⟨by rw [List.length_cons, List.length_cons, lr]; omega, .inr ⟨rfl, ?_⟩⟩
      rw [e] at x
      exact lexP_unapp (by omega) x
  · refine .inl ?_
    rw [List.length_cons, lr]
    cases ring with
    | none => exact absurd m ((h.non rfl).2 q ms (by omega))
    | some old =>
      obtain ⟨_, h2, _, h4⟩ := h.som old rfl
      rcases h4 q ms (by omega) m with l | ⟨l, _⟩ <;> omega
theorem BestTo.done {ring : Option (List Int)} {fewest : Nat} (h : BestTo rows rows.length ring fewest) : (∀ ns, ring = some ns → LeastR rows ns) ∧ (ring = none → ∀ ns, ¬ RingP rows ns) := by
  refine ⟨fun ns e => ?_, fun e ns g => ?_⟩
  · obtain ⟨h1, h2, _, h4⟩ := h.som ns e
    refine ⟨h1, fun ms g => ?_⟩
    obtain ⟨p, ns', m, l, x⟩ := g.best
    have hp : 0 ≤ p ∧ p < (rows.length : Int) := m.1.1 p (by
      obtain ⟨_, hd, _⟩ := m
      exact List.mem_of_mem_head? hd)
    have := h4 p.toNat ns' (by omega) (by rw [show ((p.toNat : Nat) : Int) = p by omega]; exact m)
    rcases this with l2 | ⟨l2, x2⟩
    · exact .inl (by omega)
    · exact .inr ⟨by omega, lexP_trans x2 x⟩
  · obtain ⟨p, ns', m, _, _⟩ := g.best
    have hp : 0 ≤ p ∧ p < (rows.length : Int) := m.1.1 p (by
      obtain ⟨_, hd, _⟩ := m
      exact List.mem_of_mem_head? hd)
    exact (h.non e).2 p.toNat ns' (by omega) (by rw [show ((p.toNat : Nat) : Int) = p by omega]; exact m)
end
/-! rows of unlike points -/
def PathN (rows : List (List Int)) (k : Nat) (l : List Int) : Prop := l.length = k ∧ l.Nodup ∧ (∀ p ∈ l, 0 ≤ p ∧ p < (rows.length : Int)) ∧ chainP rows l
def closes (rows : List (List Int)) (l : List Int) : Prop := ∃ a z, l.head? = some a ∧ l.getLast? = some z ∧ a ∈ rowAt rows z
theorem ring_iff {rows : List (List Int)} {l : List Int} : RingP rows l ↔ PathN rows l.length l ∧ closes rows l := ⟨fun ⟨a, b, c, d⟩ => ⟨⟨rfl, b, a, c⟩, d⟩, fun ⟨⟨_, b, a, c⟩, d⟩ => ⟨a, b, c, d⟩⟩
theorem PathN.more {rows : List (List Int)} (hr : RwOk rows) {k : Nat} (k0 : 0 < k) {l : List Int} : PathN rows (k + 1) l ↔ ∃ r z x, PathN rows k r ∧ r.getLast? = some z ∧ x ∈ rowAt rows z ∧ x ∉ r ∧ l = r ++ [x] := by
  constructor
  · rintro ⟨h1, h2, h3, h4⟩
    have ne : l ≠ [] := fun e => by rw [e] at h1; cases h1
    have e := (List.dropLast_concat_getLast ne).symm
    generalize l.dropLast = r at e
    generalize l.getLast ne = x at e
    subst e
    rw [List.length_append] at h1
    have h1 : r.length + 1 = k + 1 := h1
    obtain ⟨c1, _, c3⟩ := chainP_app.mp h4
    have ner : r ≠ [] := fun e => by rw [e] at h1; simp at h1; omega
    exact ⟨r, r.getLast ner, x, ⟨by omega, (List.nodup_append.mp h2).1, fun p hp => h3 p (List.mem_append_left _ hp), c1⟩, List.getLast?_eq_some_getLast ner, c3 _ x (List.getLast?_eq_some_getLast ner) rfl, fun hx => (List.nodup_append.mp h2).2.2 x hx x (by simp) rfl, rfl⟩
  · rintro ⟨r, z, x, ⟨h1, h2, h3, h4⟩, ez, hx, nx, rfl⟩
    refine ⟨by rw [List.length_append, h1]; rfl, List.nodup_append.mpr ⟨h2, by simp, fun a ha b hb e => nx (by rw [← List.mem_singleton.mp hb, ← e]; exact ha)⟩, fun p hp => ?_, chainP_app.mpr ⟨h4, trivial, fun u v q1 q2 => ?_⟩⟩
    · rcases List.mem_append.mp hp with hp | hp
      · exact h3 p hp
      · rw [List.mem_singleton.mp hp]
        exact row_rng hr hx
    · rw [ez] at q1
      cases q1
      cases q2
      exact hx
theorem PathN.pre {rows : List (List Int)} {k j : Nat} {l : List Int} (h : PathN rows k l) (hj : j ≤ k) : PathN rows j (l.take j) := by
  obtain ⟨h1, h2, h3, h4⟩ := h
  rw [← List.take_append_drop j l] at h4
  exact ⟨by rw [List.length_take]; omega, h2.sublist (List.take_sublist _ _), fun p hp => h3 p (List.mem_of_mem_take hp), (chainP_app.mp h4).1⟩
/-! befores_of -/
section
variable {P : Program} {w : World} {K : PySem.W.Frag} {mg : Str → Option Value} {base : Heap} {f : Addr} {fd : FuncData}
def BefAt (K : PySem.W.Frag) (H : Hp) (B : Addr) (rows : List (List Int)) : Prop := ∃ as : List Addr, SqL K H B (as.map V.ref) ∧ as.length = rows.length ∧ ∀ (i : Nat) a, as[i]? = some a → ∃ bs : List Int, SqL K H a (bs.map V.int) ∧ bs.Nodup ∧ ∀ p, p ∈ bs ↔ backE rows (i : Int) p
def spBef (K : PySem.W.Frag) : Sp := fun vs H Q _ => ∃ (x : V) (rows : List (List Int)), vs = [x] ∧ Dp K H x (chD rows) ∧ RwOk rows ∧ (∀ ns ∈ rows, ns.Pairwise (· < ·)) ∧ ∀ B H', Same H H' → BefAt K H' B rows → Q (.ref B) H'
abbrev bfN : List Str := ["chart", "befores", "point", "nexts", "after"]
theorem scBef : FnScope bfN ["chart"] (defScope sBefores) := ⟨rfl, rfl, rfl, by decide +kernel, rfl, by decide +kernel, by decide +kernel⟩
theorem same_upd {H G : Hp} {a : Addr} {o : HO} (s : Same H G) (h : H a = none) : Same H (upd G a o) := fun b u hb => by rw [upd_ne (ne_of_none hb h)]; exact s b u hb
theorem ok_bef {k : Nat} (F : Fun K "befores_of" "befores_of" sBefores f fd) (hE : mg "enumerate" = none) : FnOk P w K mg base CX0 (k + 1) f fd ["chart"] (spBef K) := by
  refine F.ok scBef (fun vs H Q E h => ?_) (fun cdv A outer s H vs Q E hr h => ?_)
  · obtain ⟨x, rows, rfl, _⟩ := h
    rfl
  obtain ⟨x, rows, rfl, hx, hrw, hsrt, q⟩ := h
  refine ⟨_, pss_cons (ps_setLc (i := 1) (own := [("nexts", 3)]) (g := gName 3) (tt := tYes) (te := tLst tNil) rfl scBef.nd rfl rfl rfl (pi_tup (pv 0))
      (blkOk_by (own := [("nexts", 3)]) (N := bfN) (sc := defScope sBefores) (by decide +kernel))
      (fun _ _ _ _ _ => pg_name (i := 3) scBef.nd rfl (Or.inl rfl)) (fun _ _ _ _ _ => pts_nil) (fun _ _ _ _ _ => pe_lst pa_nil))
    (pss_cons (ps_for PassesOwn.never rfl (pi_enumT rfl hE (pa_cons (pv 0) pa_nil)) (pg_tup rfl (pgs_cons (pg_name (i := 2) scBef.nd rfl (.inl rfl)) (pgs_cons (pg_name (i := 3) scBef.nd rfl (.inl rfl)) pgs_nil)))
      (pss_one (ps_for PassesOwn.never rfl (pi_tup (pv 3)) (pg_name (i := 4) scBef.nd rfl (.inl rfl))
        (pss_one (ps_expr (pe_bm PySem.F.plainAttrs_list PySem.F.slot_list_append PySem.F.type_list_append mt_append (pe_ix ix_list (pv 1) (pv 4) (fun _ _ => rfl)) (pa_cons (pv 2) pa_nil)))))))
    (pss_one (ps_ret (pv 1)))), ?_⟩
  cases hx with
  | @tup ca cs _ cat ceach =>
    have lc : cs.length = rows.length := by have := dpAll_len ceach; rw [List.length_map] at this; exact this
    have hlen := hrw.len
    refine ⟨_, rfl, ca, rfl, ⟨cs, cat⟩, fun D hD => ?_⟩
    refine lc_tup (xs := cs) (fun i G => Same H G ∧ ∃ as : List Addr, G D = some (.lst (as.map V.ref)) ∧ as.length = i ∧ as.Nodup ∧ ∀ a ∈ as, H a = none ∧ G a = some (.lst []) ∧ a ≠ D)
      ⟨same_new hD _, [], upd_same, rfl, List.nodup_nil, fun a ha => by cases ha⟩ (fun i G _ h => sqT_same h.1 cat) (fun i v G hv h => ?_) (fun G h => ?_)
    · obtain ⟨sm, as, hG, la, nd, has⟩ := h
      have hi : i < cs.length := (List.getElem?_eq_some_iff.mp hv).1
      refine ⟨rfl, yesG ⟨small (by show 0 ≤ 1000; decide), fun p hp => ⟨as.map V.ref, ?_, Nat.lt_of_lt_of_le (show _ < 1000 by rw [List.length_map]; omega) (small (Nat.le_refl _)), ?_⟩⟩⟩
      · rw [upd_ne (ne_of_none hG hp)]
        exact hG
      · have np : p ≠ D := fun e => by rw [e, hG] at hp; cases hp
        have hp0 : H p = none := by
          cases e : H p with
          | none => rfl
          | some u => rw [sm p u e] at hp; cases hp
        refine ⟨same_upd (same_upd sm hp0) hD, as ++ [p], by rw [upd_same, List.map_append]; rfl, by rw [List.length_append]; show _ + 1 = _; omega, List.nodup_append.mpr ⟨nd, by simp, fun a ha b hb e => ?_⟩, fun a ha => ?_⟩
        · rw [List.mem_singleton.mp hb] at e
          have := (has a ha).2.1
          rw [e, hp] at this
          cases this
        · rcases List.mem_append.mp ha with ha | ha
          · obtain ⟨h1, h2, h3⟩ := has a ha
            exact ⟨h1, by rw [upd_ne h3, upd_ne (ne_of_none h2 hp)]; exact h2, h3⟩
          · rw [List.mem_singleton.mp ha]
            exact ⟨hp0, by rw [upd_ne np, upd_same], np⟩
    · obtain ⟨sm, as, hG, la, nd, has⟩ := h
      refine ⟨_, rfl, ca, cs, rfl, sqT_same sm cat, ?_⟩
      refine for_enumT (xs := cs) (fun i σ G => ∃ o2 o3 o4, σ = [some (.ref ca), some (.ref D), o2, o3, o4] ∧ Same H G ∧ G D = some (.lst (as.map V.ref)) ∧ ∀ (m : Nat) a, as[m]? = some a → ∃ bs : List Int, G a = some (.lst (bs.map V.int)) ∧ bs.length ≤ i * 30 ∧ bs.Nodup ∧ ∀ p, p ∈ bs ↔ (0 ≤ p ∧ p < (i : Int) ∧ (m : Int) ∈ rowAt rows p))
        ⟨_, _, _, rfl, sm, hG, fun m a ha => ⟨[], (has a (List.mem_of_getElem? ha)).2.1, Nat.zero_le _, List.nodup_nil, fun p => ⟨fun z => (by cases z), fun z => (by omega)⟩⟩⟩ (fun i σ G _ h => by obtain ⟨_, _, _, _, s1, _⟩ := h; exact sqT_same s1 cat) (fun i v T0 σ G hv h hT => ?_) (fun σ G h => ?_)
      · obtain ⟨o2, o3, o4, rfl, s1, hG1, each1⟩ := h
        have hi : i < cs.length := (List.getElem?_eq_some_iff.mp hv).1
        have hr' := List.getElem?_eq_getElem (show i < rows.length by omega)
        generalize rows[i] = row at hr'
        obtain ⟨b, hb, bat⟩ := ch_row ceach hr'
        rw [hv] at hb
        cases hb
        have hrow := hrw.row row (List.mem_of_getElem? hr')
        have nT := same_new hT (.tup [.int (i : Nat), .ref b])
        have s2 := s1.trans nT
        refine ⟨T0, _, rfl, SqT.of upd_same, rfl, _, _, rfl, _, _, rfl, rfl, _, rfl, b, rfl, ⟨_, sqT_same s2 bat⟩, ?_⟩
        have hG2 := nT _ _ hG1
        have each2 : ∀ (m : Nat) a, as[m]? = some a → ∃ bs : List Int, (upd G T0 (.tup [.int (i : Nat), .ref b])) a = some (.lst (bs.map V.int)) ∧ bs.length ≤ i * 30 ∧ bs.Nodup ∧ ∀ p, p ∈ bs ↔ (0 ≤ p ∧ p < (i : Int) ∧ (m : Int) ∈ rowAt rows p) := fun m a ha => by
          obtain ⟨bs, h1, h2⟩ := each1 m a ha
          exact ⟨bs, nT _ _ h1, h2⟩
        generalize upd G T0 (.tup [.int (i : Nat), .ref b]) = G2 at s2 hG2 each2
        have hra : rowAt rows (i : Int) = row := rowAt_nat hr'
        refine for_tup (xs := row.map V.int) (fun j σ G => ∃ o4, σ = [some (.ref ca), some (.ref D), some (.int (i : Nat)), some (.ref b), o4] ∧ Same H G ∧ G D = some (.lst (as.map V.ref)) ∧ ∀ (m : Nat) a, as[m]? = some a → ∃ bs : List Int, G a = some (.lst (bs.map V.int)) ∧ bs.length ≤ i * 30 + j ∧ bs.Nodup ∧ ∀ p, p ∈ bs ↔ ((0 ≤ p ∧ p < (i : Int) ∧ (m : Int) ∈ rowAt rows p) ∨ (p = i ∧ (m : Int) ∈ row.take j)))
          ⟨_, rfl, s2, hG2, fun m a ha => ?_⟩ (fun j σ G _ h => by obtain ⟨_, _, s3, _⟩ := h; exact sqT_same s3 bat) (fun j v σ G hv h => ?_) (fun σ G h => ?_)
        · obtain ⟨bs, h1, h2, hnd, h3⟩ := each2 m a ha
          exact ⟨bs, h1, by omega, hnd, fun p => by rw [h3 p]; simp⟩
        · obtain ⟨o4', rfl, s3, hG3, each3⟩ := h
          obtain ⟨n, hn, rfl⟩ := ints_get hv
          have hj : j < row.length := (List.getElem?_eq_some_iff.mp hn).1
          have hnr := hrow.2 n (List.mem_of_getElem? hn)
          obtain ⟨a, ha⟩ : ∃ a, as[n.toNat]? = some a := ⟨_, List.getElem?_eq_getElem (by omega)⟩
          obtain ⟨bs, hbs, lbs, ndb, iff⟩ := each3 n.toNat a ha
          obtain ⟨ha0, _, haD⟩ := has a (List.mem_of_getElem? ha)
          refine ⟨_, rfl, _, rfl, D, _, n, .ref a, rfl, rfl, SqL.of hG3, atI_at hnr.1 (by rw [List.getElem?_map, ha]; rfl), .inl ⟨rfl, _, SqL.of hbs⟩, _, rfl, a, _, _, rfl, rfl, hbs, Nat.lt_of_lt_of_le (show _ < 2000 by rw [List.length_map]; omega) (Nat.le_trans (by decide) (big (Nat.le_refl _))), ?_⟩
          refine ⟨_, rfl, same_upd s3 ha0, by rw [upd_ne (Ne.symm haD)]; exact hG3, fun m c hc => ?_⟩
          have et : row.take (j + 1) = row.take j ++ [n] := by rw [List.take_add_one, hn]; rfl
          by_cases e : c = a
          · subst e
            have em : m = n.toNat := (List.getElem_inj (h₀ := (List.getElem?_eq_some_iff.mp hc).1) (h₁ := (List.getElem?_eq_some_iff.mp ha).1) nd).mp (by rw [(List.getElem?_eq_some_iff.mp hc).2, (List.getElem?_eq_some_iff.mp ha).2])
            subst em
            have inew : (i : Int) ∉ bs := fun hm => by
              rcases (iff i).mp hm with y | ⟨_, y⟩
              · omega
              · have ndr : row.Nodup := (hsrt row (List.mem_of_getElem? hr')).imp fun h e => by omega
                have nd' := List.Nodup.sublist (List.take_sublist (j + 1) row) ndr
                rw [et] at nd'
                rw [show ((n.toNat : Nat) : Int) = n by omega] at y
                exact (List.nodup_append.mp nd').2.2 n y n (by simp) rfl
            refine ⟨bs ++ [(i : Int)], by rw [upd_same, List.map_append]; rfl, by rw [List.length_append]; show _ + 1 ≤ _; omega, List.nodup_append.mpr ⟨ndb, by simp, fun a ha b hb e => inew (by rw [← List.mem_singleton.mp hb, ← e]; exact ha)⟩, fun p => ?_⟩
            rw [List.mem_append, iff p, et, List.mem_append, List.mem_singleton, List.mem_singleton]
            constructor
            · rintro ((y | ⟨y1, y2⟩) | y)
              · exact .inl y
              · exact .inr ⟨y1, .inl y2⟩
              · exact .inr ⟨y, .inr (by omega)⟩
            · rintro (y | ⟨y1, y2 | y2⟩)
              · exact .inl (.inl y)
              · exact .inl (.inr ⟨y1, y2⟩)
              · exact .inr y1
          · obtain ⟨bs', h1, h2, hnd, h3⟩ := each3 m c hc
            refine ⟨bs', by rw [upd_ne e]; exact h1, by omega, hnd, fun p => ?_⟩
            rw [h3 p, et, List.mem_append, List.mem_singleton]
            constructor
            · rintro (y | ⟨y1, y2⟩)
              · exact .inl y
              · exact .inr ⟨y1, .inl y2⟩
            · rintro (y | ⟨y1, y2 | y2⟩)
              · exact .inl y
              · exact .inr ⟨y1, y2⟩
              · exfalso
                have em : m = n.toNat := by omega
                subst em
                rw [hc] at ha
                exact e (Option.some.inj ha)
        · obtain ⟨o4', rfl, s3, hG3, each3⟩ := h
          refine ⟨_, _, _, rfl, s3, hG3, fun m a ha => ?_⟩
          obtain ⟨bs, h1, h2, hnd, h3⟩ := each3 m a ha
          rw [List.length_map] at h2 h3
          refine ⟨bs, h1, by omega, hnd, fun p => ?_⟩
          rw [h3 p, List.take_length]
          constructor
          · rintro (⟨y1, y2, y3⟩ | ⟨y1, y2⟩)
            · exact ⟨y1, by omega, y3⟩
            · exact ⟨by omega, by omega, by rw [y1, hra]; exact y2⟩
          · rintro ⟨y1, y2, y3⟩
            by_cases e : p = i
            · exact .inr ⟨e, by rw [← hra, ← e]; exact y3⟩
            · exact .inl ⟨y1, by omega, y3⟩
      · obtain ⟨o2, o3, o4, rfl, s1, hG1, each1⟩ := h
        refine ⟨_, rfl, q D G s1 ⟨as, SqL.of hG1, by rw [la]; exact lc, fun i a ha => ?_⟩⟩
        obtain ⟨bs, h1, h2, hnd, h3⟩ := each1 i a ha
        rw [lc] at h3
        exact ⟨bs, SqL.of h1, hnd, h3⟩
end
/-! d = {k: v for ..}, the name stored where the comprehension ends -/
section
open PySem.Spec PyProof.Rows
variable {X : Cx}
theorem ps_setDc {i : Nat} {y : Str} {py : Pos} {kx vx tg iter : Expr} {ifs : List Expr} {sc : Scope} {own : List (Str × Nat)} {pos spos : Pos} {wi : TI} {g : TG} {tt : TT} {tk tv : TE} (hc : X.calm = true) (hN : X.N.Nodup) (hy : X.N[i]? = some y) (hyl : X.env.scope.names.lookup y = some .local)
    (hsw : swapsWith (.DictComp kx vx [⟨tg, iter, ifs, 0⟩] sc pos) (some (.Name y py)) spos.line X.env = pure true) (hi : PI X tg iter wi) (ok : BlkOk X.N X.env.scope sc own)
    (hg : ∀ (u : Shared) (G : Hp) (C : Addr) (cl : List (Str × Addr)) (fp : List Addr), PG (X.blk u G sc (compEnvC sc cl C X.env) fp) tg g) (ht : ∀ (u : Shared) (G : Hp) (C : Addr) (cl : List (Str × Addr)) (fp : List Addr), PTs (X.blk u G sc (compEnvC sc cl C X.env) fp) ifs tt)
    (hk : ∀ (u : Shared) (G : Hp) (C : Addr) (cl : List (Str × Addr)) (fp : List Addr), PE (X.blk u G sc (compEnvC sc cl C X.env) fp) kx tk) (he : ∀ (u : Shared) (G : Hp) (C : Addr) (cl : List (Str × Addr)) (fp : List Addr), PE (X.blk u G sc (compEnvC sc cl C X.env) fp) vx tv) (hs : ∀ x, foldedSetIterable iter X.env x = pure x := by intro _; rfl) :
    PS X (.Assign [.Name y py] (.DictComp kx vx [⟨tg, iter, ifs, 0⟩] sc pos) spos) (tAsg (tDc wi g tt tk tv (own.map (·.2))) (gName i)) := by
  refine ⟨fun pins u ρ G D I h => ?_⟩
  rw [exec_Assign_Name_used _ _ _ _ hsw]
  refine wpAny_bind (wpAny_standAt (wpAny_bind ?_))
  show wpAny _ X.A (do let _ ← comprehension (.DictComp kx vx [⟨tg, iter, ifs, 0⟩] sc pos) sc X.env (firstIterPos [⟨tg, iter, ifs, 0⟩] pos) newDict false (eval iter X.env) (some (assign (.Name y py) X.env))) _ _ u
  have h : tDc wi g tt tk tv (own.map (·.2)) ρ G (fun x G1 => gName i x ρ G1 D.nx) := h
  refine wpAny_bind (thn (dc_core (Qf := fun _ u' => SP X pins D .next u') hc hN I hi ok hg ht hk he hs h fun L C u' m G' I' q hn f => ?_) fun _ u' hq => wpAny_pure (wpAny_pure hq))
  show wpAny _ _ (assign (.Name y py) X.env (.ref L)) _ _ _
  refine wpAny_assign_Name (store_ok2 (v := V.ref L) I' hN hy (.inl hyl) rfl (fun u2 I2 ⟨a, sb, ha⟩ => ?_) (.inr hyl))
  have far : C ≠ a := ha.elim (fun z => by rw [z]; exact f.2.1) (fun z e => f.2.2.2.2.1 y a z e.symm)
  exact ⟨m, hn.sameBut sb far, fun h3 sb3 => ⟨_, G', I2.turned (t' := u2.toks) (fun b o hb e => (sb3.2 b hb).trans e) f.1 f.2.1 f.2.2.2.1 f.2.2.2.2.1 f.2.2.2.2.2, q⟩⟩
end
/-! distances -/
abbrev foreE (rows : List (List Int)) : Int → Int → Prop := fun q p => 0 ≤ q ∧ q < (rows.length : Int) ∧ p ∈ rowAt rows q
/-- a dict of points, with how far each is, as far as m -/
structure FarTo (S : Int → Prop) (E : Int → Int → Prop) (n m : Nat) (kvs : List (Key × V)) : Prop where
  snd : ∀ p v, valV kvs (Sum.inl p) = some v → ∃ k : Nat, k ≤ m ∧ v = .int k ∧ Dk S E k p
  all : ∀ p (k : Nat), k ≤ m → Dk S E k p → valV kvs (Sum.inl p) = some (.int k)
  keys : ∃ ks : List Int, kvs.map (·.1) = ks.map Sum.inl ∧ ks.Nodup ∧ ∀ p ∈ ks, 0 ≤ p ∧ p < (n : Int)
structure FarOk (S : Int → Prop) (E : Int → Int → Prop) (n : Nat) (kvs : List (Key × V)) : Prop where
  snd : ∀ p v, valV kvs (Sum.inl p) = some v → ∃ k : Nat, v = .int k ∧ Dk S E k p
  all : ∀ p (k : Nat), Dk S E k p → valV kvs (Sum.inl p) = some (.int k)
  keys : ∃ ks : List Int, kvs.map (·.1) = ks.map Sum.inl ∧ ks.Nodup ∧ ∀ p ∈ ks, 0 ≤ p ∧ p < (n : Int)
theorem key_len {n : Nat} {kvs : List (Key × V)} (h : ∃ ks : List Int, kvs.map (·.1) = ks.map Sum.inl ∧ ks.Nodup ∧ ∀ p ∈ ks, 0 ≤ p ∧ p < (n : Int)) : kvs.length ≤ n := by
  obtain ⟨ks, h1, h2, h3⟩ := h
  have l := congrArg List.length h1
  rw [List.length_map, List.length_map] at l
  rw [l]
  exact nodup_len n ks h2 h3
theorem FarTo.ok {S : Int → Prop} {E : Int → Int → Prop} {n m : Nat} {kvs : List (Key × V)} (h : FarTo S E n m kvs) (no : ∀ k p, Dk S E k p → k ≤ m) : FarOk S E n kvs :=
  ⟨fun p v e => by obtain ⟨k, _, h2, h3⟩ := h.snd p v e; exact ⟨k, h2, h3⟩, fun p k d => h.all p k (no k p d) d, h.keys⟩
theorem not_key {kvs : List (Key × V)} {ks : List Int} {p : Int} (h : kvs.map (·.1) = ks.map Sum.inl) (hv : valV kvs (Sum.inl p) = none) : p ∉ ks := fun hp => by
  have hm : (Sum.inl p : Key) ∈ kvs.map (·.1) := by rw [h]; exact List.mem_map.mpr ⟨p, hp, rfl⟩
  obtain ⟨kv, h1, h2⟩ := List.mem_map.mp hm
  have z : (kvs.any fun kv => decide (kv.1 = (Sum.inl p : Key))) = true := List.any_eq_true.mpr ⟨kv, h1, decide_eq_true h2⟩
  rw [valV_any, hv] at z
  cases z
/-- within a round: what was known, and the fresh ones -/
structure MidTo (S : Int → Prop) (E : Int → Int → Prop) (n st : Nat) (kvs : List (Key × V)) (fs : List Int) : Prop where
  snd : ∀ p v, valV kvs (Sum.inl p) = some v → (∃ k : Nat, k ≤ st ∧ v = .int k ∧ Dk S E k p) ∨ (v = .int (st + 1 : Nat) ∧ p ∈ fs)
  all : ∀ p (k : Nat), k ≤ st → Dk S E k p → valV kvs (Sum.inl p) = some (.int k)
  fsh : ∀ p ∈ fs, Dk S E (st + 1) p ∧ valV kvs (Sum.inl p) = some (.int (st + 1 : Nat))
  nd : fs.Nodup
  keys : ∃ ks : List Int, kvs.map (·.1) = ks.map Sum.inl ∧ ks.Nodup ∧ ∀ p ∈ ks, 0 ≤ p ∧ p < (n : Int)
section
variable {S : Int → Prop} {E : Int → Int → Prop} {n st : Nat} {kvs : List (Key × V)} {fs : List Int}
theorem FarTo.mid (h : FarTo S E n st kvs) : MidTo S E n st kvs [] :=
  ⟨fun p v e => .inl (h.snd p v e), h.all, (fun p hp => by cases hp), List.nodup_nil, h.keys⟩
theorem MidTo.add (h : MidTo S E n st kvs fs) {p q : Int} (hv : valV kvs (Sum.inl p) = none) (hq : Dk S E st q) (he : E q p) (hr : 0 ≤ p ∧ p < (n : Int)) : MidTo S E n st (putK kvs (Sum.inl p) (.int (st + 1 : Nat))) (fs ++ [p]) := by
  have new : Dk S E (st + 1) p := by
    refine ⟨⟨q, hq.1, he⟩, fun j hj r => ?_⟩
    obtain ⟨i, hi, d⟩ := r.ex
    have := h.all p i (by omega) d
    rw [hv] at this
    cases this
  refine ⟨fun r v e => ?_, fun r k hk d => ?_, fun r hr' => ?_, List.nodup_append.mpr ⟨h.nd, by simp, fun a ha b hb e => ?_⟩, ?_⟩
  · rw [valV_put] at e
    by_cases z : (Sum.inl r : Key) = Sum.inl p
    · rw [if_pos z] at e
      cases e
      exact .inr ⟨rfl, by rw [Sum.inl.inj z]; simp⟩
    · rw [if_neg z] at e
      rcases h.snd r v e with y | ⟨y1, y2⟩
      · exact .inl y
      · exact .inr ⟨y1, List.mem_append_left _ y2⟩
  · rw [valV_put, if_neg (fun z => by
      have := h.all r k hk d
      rw [Sum.inl.inj z, hv] at this
      cases this)]
    exact h.all r k hk d
  · rcases List.mem_append.mp hr' with hr' | hr'
    · obtain ⟨y1, y2⟩ := h.fsh r hr'
      refine ⟨y1, ?_⟩
      rw [valV_put, if_neg (fun z => by rw [Sum.inl.inj z, hv] at y2; cases y2)]
      exact y2
    · rw [List.mem_singleton.mp hr']
      exact ⟨new, by rw [valV_put, if_pos rfl]⟩
  · rw [List.mem_singleton.mp hb] at e
    have := (h.fsh a ha).2
    rw [e, hv] at this
    cases this
  · obtain ⟨ks, k1, k2, k3⟩ := h.keys
    refine ⟨ks ++ [p], by rw [putK_new _ hv, List.map_append, k1, List.map_append]; rfl, List.nodup_append.mpr ⟨k2, by simp, fun a ha b hb e => not_key k1 hv (by rw [← List.mem_singleton.mp hb, ← e]; exact ha)⟩, fun a ha => ?_⟩
    rcases List.mem_append.mp ha with ha | ha
    · exact k3 a ha
    · rw [List.mem_singleton.mp ha]
      exact hr
theorem MidTo.fin (h : MidTo S E n st kvs fs) (cov : ∀ q, Dk S E st q → ∀ p, E q p → (valV kvs (Sum.inl p)).isSome = true) : FarTo S E n (st + 1) kvs ∧ ∀ p, p ∈ fs ↔ Dk S E (st + 1) p := by
  have iff : ∀ p, p ∈ fs ↔ Dk S E (st + 1) p := fun p => ⟨fun hp => (h.fsh p hp).1, fun d => by
    obtain ⟨q, hq, e⟩ := d.pred
    obtain ⟨v, hv⟩ := Option.isSome_iff_exists.mp (cov q hq p e)
    rcases h.snd p v hv with ⟨k, hk, _, d'⟩ | ⟨_, y⟩
    · have := d'.uniq d
      omega
    · exact y⟩
  refine ⟨⟨fun p v e => ?_, fun p k hk d => ?_, h.keys⟩, iff⟩
  · rcases h.snd p v e with ⟨k, hk, y⟩ | ⟨y1, y2⟩
    · exact ⟨k, by omega, y⟩
    · exact ⟨st + 1, Nat.le_refl _, y1, (h.fsh p y2).1⟩
  · by_cases c : k ≤ st
    · exact h.all p k c d
    · have e : k = st + 1 := by omega
      subst e
      exact (h.fsh p ((iff p).mpr d)).2
end
theorem val0 (l : List Int) (p : Int) : valV (l.map fun p => ((Sum.inl p : Key), V.int 0)) (Sum.inl p) = if p ∈ l then some (.int 0) else none := by
  induction l with
  | nil => rfl
  | cons a r ih =>
    rw [List.map_cons]
    by_cases e : a = p
    · rw [valV_pos (by rw [e]), if_pos (by rw [e]; exact List.mem_cons_self)]
    · rw [valV_neg (fun z => e (Sum.inl.inj z)), ih]
      have : p ∈ a :: r ↔ p ∈ r := by rw [List.mem_cons]; exact ⟨fun h => h.resolve_left (fun z => e z.symm), .inr⟩
      simp only [this]
theorem none_same {H G : Hp} {a : Addr} (s : Same H G) (h : G a = none) : H a = none := by
  cases e : H a with
  | none => rfl
  | some u => rw [s a u e] at h; cases h
theorem sqL_same {K : PySem.W.Frag} {H H' : Hp} (s : Same H H') {a : Addr} {xs : List V} (h : SqL K H a xs) : SqL K H' a xs := by
  rcases h with (z | ⟨o, z⟩) | z
  · exact .inl (.inl (s _ _ z))
  · exact .inl (.inr ⟨o, s _ _ z⟩)
  · exact .inr z
section
variable {P : Program} {w : World} {K : PySem.W.Frag} {mg : Str → Option Value} {base : Heap} {f : Addr} {fd : FuncData}
abbrev diN : List Str := ["links", "origins", "least", "most", "far", "edge", "steps", "fresh", "point", "other"]
theorem scDist : FnScope diN ["links", "origins", "least", "most"] (defScope sDist) := ⟨rfl, rfl, rfl, by decide +kernel, rfl, by decide +kernel, by decide +kernel⟩
def spDistT (K : PySem.W.Frag) : Sp := fun vs H Q _ => ∃ (x y : V) (rows : List (List Int)) (os : List Int), vs = [x, y, .int 0, .int (rows.length : Nat)] ∧ Dp K H x (chD rows) ∧ RwOk rows ∧ Dp K H y (.tuple (os.map .int)) ∧ os.Nodup ∧ (∀ o ∈ os, 0 ≤ o ∧ o < (rows.length : Int)) ∧
  ∀ F kvs H', Same H H' → H' F = some (.dK kvs) → FarOk (inP os) (foreE rows) rows.length kvs → Q (.ref F) H'
set_option maxHeartbeats 1000000 in
theorem ok_distT {k : Nat} (F : Fun K "distances" "distances" sDist f fd) (T : Free mg) : FnOk P w K mg base CX0 (k + 1) f fd ["links", "origins", "least", "most"] (spDistT K) := by
  refine F.ok scDist (fun vs H Q E h => ?_) (fun cdv A outer s H vs Q E hr h => ?_)
  · obtain ⟨x, y, rows, os, rfl, _⟩ := h
    rfl
  refine ⟨_, pss_cons (ps_setDc (i := 4) (own := [("point", 8)]) (g := gName 8) (tt := tYes) (tk := tVar 8) (tv := tC (.int 0)) rfl scDist.nd rfl rfl rfl (pi_tup (pv 1))
      (blkOk_by (own := [("point", 8)]) (N := diN) (sc := defScope sDist) (by decide +kernel))
      (fun _ _ _ _ _ => pg_name (i := 8) scDist.nd rfl (Or.inl rfl)) (fun _ _ _ _ _ => pts_nil) (fun _ _ _ _ _ => pv 8) (fun _ _ _ _ _ => pe_int))
    (pss_cons (ps_set (i := 5) scDist.nd rfl (.inl rfl) (pe_callTy call_list_of rfl T.list (by decide +kernel) (pa_cons (pv 1) pa_nil)))
    (pss_cons (ps_set (i := 6) scDist.nd rfl (.inl rfl) pe_int)
    (pss_cons (ps_while PassesOwn.never (PW.pt (pw_and (pt_truth (pv 5) (fun _ => rfl)) (pw_and1 (pt_cmpR op_lt (pv 6) (pv 3) (nomark _)))))
      (pss_cons (ps_aug (i := 6) scDist.nd rfl (.inl rfl) pe_int ip_add (.inr rfl))
      (pss_cons (ps_set (i := 7) scDist.nd rfl (.inl rfl) (pe_lst pa_nil))
      (pss_cons (ps_for PassesOwn.never rfl (pi_list (pv 5)) (pg_name (i := 8) scDist.nd rfl (.inl rfl))
        (pss_one (ps_for PassesOwn.never rfl (pi_tup (pe_ix ix_tup (pv 0) (pv 8) (fun _ _ => rfl))) (pg_name (i := 9) scDist.nd rfl (.inl rfl))
          (pss_one (ps_if (PW.pt (pw_and (pt_cmpR op_ge (pv 9) (pv 2) (nomark _)) (pw_and1 (pt_cmp (pc_dnotin (Nat.lt_of_le_of_lt (Nat.add_le_add_left (by decide : 1 ≤ 64) _) hr.units) (pv 9) (pv 4))))))
            (pss_cons (ps_dput (Nat.lt_of_le_of_lt (Nat.add_le_add_left (by decide : 1 ≤ 64) _) hr.units) (pv 4) (pv 9) (pv 6) rfl)
            (pss_one (ps_expr (pe_bm PySem.F.plainAttrs_list PySem.F.slot_list_append PySem.F.type_list_append mt_append (pv 7) (pa_cons (pv 9) pa_nil))))) pss_nil)))))
      (pss_one (ps_set (i := 5) scDist.nd rfl (.inl rfl) (pv 7)))))))
    (pss_one (ps_ret (pv 4)))))), ?_⟩
  obtain ⟨x, y, rows, os, rfl, hx, hrw, hy, nd, hos, q⟩ := h
  cases hx with
  | @tup ca cs _ cat ceach =>
  have lc : cs.length = rows.length := by have := dpAll_len ceach; rw [List.length_map] at this; exact this
  have lk : ∀ {G : Hp} {pt : Int}, Same H G → 0 ≤ pt ∧ pt < (rows.length : Int) → ∃ (va : Addr) (l : List Int), atI cs pt = some (.ref va) ∧ SqT K G va (l.map V.int) ∧ ∀ p, p ∈ l ↔ foreE rows pt p := fun {G pt} sm hp => by
    have hr' := List.getElem?_eq_getElem (show pt.toNat < rows.length by omega)
    generalize rows[pt.toNat] = row at hr'
    obtain ⟨b, hb, bat⟩ := ch_row ceach hr'
    have hra : rowAt rows pt = row := by
      unfold rowAt
      rw [List.getD_eq_getElem?_getD, hr']
      rfl
    exact ⟨b, row, atI_at hp.1 hb, sqT_same sm bat, fun p => ⟨fun z => ⟨hp.1, hp.2, by rw [hra]; exact z⟩, fun z => by rw [← hra]; exact z.2.2⟩⟩
  have rng : ∀ q p, foreE rows q p → 0 ≤ p ∧ p < (rows.length : Int) := fun q p h => by
    have hr' := List.getElem?_eq_getElem (show q.toNat < rows.length by omega)
    have h2 := h.2.2
    unfold rowAt at h2
    rw [List.getD_eq_getElem?_getD, hr'] at h2
    exact (hrw.row _ (List.getElem_mem _)).2 p h2
  have lnk : ∀ {G : Hp}, Same H G → SqT K G ca cs := fun sm => sqT_same sm cat
  have hb : ∀ (j : Nat) (q : Int), Rk (inP os) (foreE rows) j q → 0 ≤ q ∧ q < (rows.length : Int) := fun j q h => by
    cases j with
    | zero => exact hos q h
    | succ j =>
      obtain ⟨r, _, e⟩ := h
      exact rng r q e
  obtain ⟨ya, rfl, yat⟩ := ints_at hy
  have los := nodup_len rows.length os nd hos
  have hlen := hrw.len
  refine ⟨_, rfl, ya, rfl, ⟨_, yat⟩, fun F hF => ?_⟩
  refine dc_tup (xs := os.map V.int) (fun i G => Same H G ∧ G F = some (.dK ((os.take i).map fun p => (Sum.inl p, V.int 0)))) ⟨same_new hF _, upd_same⟩ (fun i G _ h => sqT_same h.1 yat) (fun i v G hv h => ?_) (fun G h => ?_)
  · obtain ⟨sm, hG⟩ := h
    obtain ⟨n, hn, rfl⟩ := ints_get hv
    have hi : i < os.length := (List.getElem?_eq_some_iff.mp hn).1
    have et : os.take (i + 1) = os.take i ++ [n] := by rw [List.take_add_one, hn]; rfl
    have nin : n ∉ os.take i := fun hm => by
      have nd' := List.Nodup.sublist (List.take_sublist (i + 1) os) nd
      rw [et] at nd'
      exact (List.nodup_append.mp nd').2.2 n hm n (by simp) rfl
    have hnew : valV ((os.take i).map fun p => ((Sum.inl p : Key), V.int 0)) (Sum.inl n) = none := by rw [val0, if_neg nin]
    refine ⟨rfl, yesG ⟨_, rfl, _, Sum.inl n, rfl, hG, Nat.lt_of_lt_of_le (show _ < 1000 by rw [List.length_map, List.length_take]; omega) (small (Nat.le_refl _)), same_upd sm hF, ?_⟩⟩
    rw [upd_same, putK_new _ hnew, et, List.map_append]
    rfl
  obtain ⟨sm, hG⟩ := h
  rw [List.length_map, List.take_length] at hG
  refine ⟨_, rfl, ya, _, rfl, .inr (sqT_same sm yat), fun ed hed => ?_⟩
  have n1 := same_new hed (.lst (os.map V.int))
  have far0 : FarTo (inP os) (foreE rows) rows.length 0 (os.map fun p => (Sum.inl p, V.int 0)) := by
    refine ⟨fun p v e => ?_, fun p k hk d => ?_, os, by rw [List.map_map]; rfl, nd, hos⟩
    · rw [val0] at e
      by_cases z : p ∈ os
      · rw [if_pos z] at e
        cases e
        exact ⟨0, Nat.le_refl _, rfl, z, fun j hj => by omega⟩
      · rw [if_neg z] at e
        cases e
    · have e : k = 0 := by omega
      subst e
      rw [val0, if_pos (show p ∈ os from d.1)]
      rfl
  have fin : ∀ {G : Hp} {kvs : List (Key × V)} {st : Nat}, Same H G → G F = some (.dK kvs) → FarTo (inP os) (foreE rows) rows.length st kvs → (∀ k p, Dk (inP os) (foreE rows) k p → k ≤ st) → Q (.ref F) G := fun s1 h1 h2 h3 => q F _ _ s1 h1 (h2.ok h3)
  refine ⟨fun m σ G => ∃ (st : Nat) (ed : Addr) (es : List Int) (kvs : List (Key × V)) (o7 o8 o9 : Option V), m = rows.length - st ∧ σ = [some (.ref ca), some (.ref ya), some (.int 0), some (.int (rows.length : Nat)), some (.ref F), some (.ref ed), some (.int (st : Nat)), o7, o8, o9] ∧ Same H G ∧ G F = some (.dK kvs) ∧ G ed = some (.lst (es.map V.int)) ∧ FarTo (inP os) (foreE rows) rows.length st kvs ∧ es.Nodup ∧ ∀ p, p ∈ es ↔ Dk (inP os) (foreE rows) st p,
    ⟨_, 0, ed, os, _, _, _, _, rfl, rfl, sm.trans n1, n1 _ _ hG, upd_same, far0, nd, fun p => ⟨fun z => ⟨z, fun j hj => (by omega)⟩, fun d => d.1⟩⟩, ?_⟩
  clear far0 n1 hed hG sm
  rintro m σ G ⟨st, ed, es, kvs, o7, o8, o9, rfl, rfl, sm, hGF, hGe, far, nde, hes⟩
  refine ⟨_, rfl, _, .inl ⟨_, SqL.of hGe, rfl⟩, ?_⟩
  cases hcs : es with
  | nil =>
    refine ifF rfl (ifF rfl ⟨_, rfl, fin sm hGF far fun k p d => ?_⟩)
    by_cases c : k ≤ st
    · exact c
    · obtain ⟨r, hr'⟩ := d.down (s := st) (by omega)
      have := (hes r).mpr hr'
      rw [hcs] at this
      cases this
  | cons e0 er =>
    rw [← hcs]
    refine ifT (by rw [hcs]; rfl) ⟨_, rfl, _, rfl, _, _, rfl, rfl, _, rfl, ?_⟩
    by_cases c : st < rows.length
    · refine ifT (decide_eq_true (by omega)) ⟨fun σ' G' => ∃ m', m' < rows.length - st ∧ ∃ (st : Nat) (ed : Addr) (es : List Int) (kvs : List (Key × V)) (o7 o8 o9 : Option V), m' = rows.length - st ∧ σ' = [some (.ref ca), some (.ref ya), some (.int 0), some (.int (rows.length : Nat)), some (.ref F), some (.ref ed), some (.int (st : Nat)), o7, o8, o9] ∧ Same H G' ∧ G' F = some (.dK kvs) ∧ G' ed = some (.lst (es.map V.int)) ∧ FarTo (inP os) (foreE rows) rows.length st kvs ∧ es.Nodup ∧ ∀ p, p ∈ es ↔ Dk (inP os) (foreE rows) st p, fun σ' G' h => h, ?_⟩
      refine ⟨_, rfl, _, _, rfl, rfl, small (by show 0 ≤ 1000; decide), fun fr hfr => ?_⟩
      have n2 := same_new hfr (.lst [])
      have fr0 : H fr = none := none_same sm hfr
      have nF : F ≠ fr := ne_of_none hGF hfr
      have ne : ed ≠ fr := ne_of_none hGe hfr
      refine ⟨_, rfl, ed, rfl, ⟨_, SqL.of (n2 _ _ hGe)⟩, ?_⟩
      refine for_list (xs := es.map V.int) (fun i σ G => ∃ (o8 o9 : Option V) (kvs' : List (Key × V)) (fs : List Int), σ = [some (.ref ca), some (.ref ya), some (.int 0), some (.int (rows.length : Nat)), some (.ref F), some (.ref ed), some (.int (st + 1 : Nat)), some (.ref fr), o8, o9] ∧ Same H G ∧ G F = some (.dK kvs') ∧ G ed = some (.lst (es.map V.int)) ∧ G fr = some (.lst (fs.map V.int)) ∧ MidTo (inP os) (foreE rows) rows.length st kvs' fs ∧ ∀ q ∈ es.take i, ∀ p, (foreE rows) q p → (valV kvs' (Sum.inl p)).isSome = true)
        ⟨_, _, kvs, [], rfl, sm.trans n2, n2 _ _ hGF, n2 _ _ hGe, upd_same, far.mid, fun q hq => by simp at hq⟩ (fun i σ G _ h => by obtain ⟨_, _, _, _, _, _, _, h3, _⟩ := h; exact SqL.of h3) (fun i v σ G hv h => ?_) (fun σ G h => ?_)
      · obtain ⟨o8, o9, kvs', fs, rfl, s1, g1, g2, g3, mid, cov⟩ := h
        obtain ⟨pt, hpt, rfl⟩ := ints_get hv
        have dpt := (hes pt).mp (List.mem_of_getElem? hpt)
        have rpt := hb st pt dpt.1
        obtain ⟨va, l, h1, h2, h3⟩ := lk s1 rpt
        obtain ⟨_, l0, h10, h20, h30⟩ := lk (Same.refl H) rpt
        rw [h1] at h10
        cases h10
        have hl0 : ∀ {G2 : Hp}, Same H G2 → SqT K G2 va (l0.map V.int) := fun s2 => sqT_same s2 h20
        refine ⟨_, rfl, _, rfl, ca, cs, pt, _, rfl, rfl, lnk s1, h1, va, rfl, ⟨_, hl0 s1⟩, ?_⟩
        refine for_tup (xs := l0.map V.int) (fun j σ G => ∃ (o9 : Option V) (kvs' : List (Key × V)) (fs : List Int), σ = [some (.ref ca), some (.ref ya), some (.int 0), some (.int (rows.length : Nat)), some (.ref F), some (.ref ed), some (.int (st + 1 : Nat)), some (.ref fr), some (.int pt), o9] ∧ Same H G ∧ G F = some (.dK kvs') ∧ G ed = some (.lst (es.map V.int)) ∧ G fr = some (.lst (fs.map V.int)) ∧ MidTo (inP os) (foreE rows) rows.length st kvs' fs ∧ (∀ q ∈ es.take i, ∀ p, (foreE rows) q p → (valV kvs' (Sum.inl p)).isSome = true) ∧ ∀ p ∈ l0.take j, (valV kvs' (Sum.inl p)).isSome = true)
          ⟨_, kvs', fs, rfl, s1, g1, g2, g3, mid, cov, fun p hp => by simp at hp⟩ (fun j σ G _ h => by obtain ⟨_, _, _, _, s2, _⟩ := h; exact hl0 s2) (fun j v σ G hv h => ?_) (fun σ G h => ?_)
        · obtain ⟨o9, kvs2, fs2, rfl, s2, g4, g5, g6, mid2, cov2, cov3⟩ := h
          obtain ⟨n, hn, rfl⟩ := ints_get hv
          have en := (h30 n).mp (List.mem_of_getElem? hn)
          have rn := rng pt n en
          have et : l0.take (j + 1) = l0.take j ++ [n] := by rw [List.take_add_one, hn]; rfl
          have lk2 := key_len mid2.keys
          have lf2 : fs2.length ≤ rows.length := nodup_len _ fs2 mid2.nd fun p hp => hb _ p (mid2.fsh p hp).1.1
          refine ⟨_, rfl, _, rfl, _, _, rfl, rfl, _, rfl, ifT (decide_eq_true (by omega)) ⟨_, rfl, _, rfl, F, _, rfl, DGet.k (k := Sum.inl n) g4, _, rfl, ?_⟩⟩
          cases hval : valV kvs2 (Sum.inl n) with
          | some u =>
            refine ifF rfl ⟨_, kvs2, fs2, rfl, s2, g4, g5, g6, mid2, cov2, fun p hp => ?_⟩
            rw [et] at hp
            rcases List.mem_append.mp hp with hp | hp
            · exact cov3 p hp
            · rw [List.mem_singleton.mp hp, hval]
              rfl
          | none =>
            have nFf : F ≠ fr := nF
            refine ifT rfl ⟨_, rfl, _, rfl, _, rfl, F, _, rfl, DPut.k (k := Sum.inl n) g4 (Nat.lt_of_lt_of_le (show kvs2.length < 1000 by omega) (small (Nat.le_refl _))), ?_⟩
            have g6' : (upd G F (.dK (putK kvs2 (Sum.inl n) (.int (st + 1 : Nat))))) fr = some (.lst (fs2.map V.int)) := by rw [upd_ne (Ne.symm nF)]; exact g6
            refine ⟨_, rfl, .inl ⟨rfl, _, SqL.of g6'⟩, _, rfl, fr, _, _, rfl, rfl, g6', Nat.lt_of_lt_of_le (show _ < 1000 by rw [List.length_map]; omega) (small (Nat.le_refl _)), ?_⟩
            have more : ∀ p, (valV kvs2 (Sum.inl p)).isSome = true → (valV (putK kvs2 (Sum.inl n) (.int (st + 1 : Nat))) (Sum.inl p)).isSome = true := fun p hp => by
              rw [valV_put]
              split
              · rfl
              · exact hp
            refine ⟨_, _, fs2 ++ [n], rfl, same_upd (same_upd s2 hF) fr0, by rw [upd_ne nF, upd_same], by rw [upd_ne ne, upd_ne (ne_of g5 g4 (fun z => nomatch z))]; exact g5, by rw [upd_same, List.map_append]; rfl, mid2.add hval dpt en rn, fun q hq p e => more p (cov2 q hq p e), fun p hp => ?_⟩
            rw [et] at hp
            rcases List.mem_append.mp hp with hp | hp
            · exact more p (cov3 p hp)
            · rw [List.mem_singleton.mp hp, valV_put, if_pos rfl]
              rfl
        · obtain ⟨o9, kvs2, fs2, rfl, s2, g4, g5, g6, mid2, cov2, cov3⟩ := h
          rw [List.length_map, List.take_length] at cov3
          refine ⟨_, _, kvs2, fs2, rfl, s2, g4, g5, g6, mid2, fun q hq p e => ?_⟩
          rw [List.take_add_one, hpt] at hq
          rcases List.mem_append.mp hq with hq | hq
          · exact cov2 q hq p e
          · rw [show q = pt by simpa using hq] at e
            exact cov3 p ((h30 p).mpr e)
      · obtain ⟨o8, o9, kvs', fs, rfl, s1, g1, g2, g3, mid, cov⟩ := h
        rw [List.length_map, List.take_length] at cov
        obtain ⟨far', iff⟩ := mid.fin fun q hq p e => cov q ((hes q).mpr hq) p e
        exact ⟨_, rfl, rows.length - (st + 1), by omega, st + 1, fr, fs, kvs', _, _, _, rfl, rfl, s1, g1, g3, far', mid.nd, iff⟩
    · refine ifF (decide_eq_false (by omega)) ⟨_, rfl, fin sm hGF far fun k p d => ?_⟩
      have := d.bound hb
      omega
def spDistL (K : PySem.W.Frag) : Sp := fun vs H Q _ => ∃ (x y : V) (B : Addr) (rows : List (List Int)) (os : List Int), vs = [x, y, .int 0, .int (rows.length : Nat)] ∧ x = .ref B ∧ BefAt K H B rows ∧ RwOk rows ∧ Dp K H y (.tuple (os.map .int)) ∧ os.Nodup ∧ (∀ o ∈ os, 0 ≤ o ∧ o < (rows.length : Int)) ∧
  ∀ F kvs H', Same H H' → H' F = some (.dK kvs) → FarOk (inP os) (backE rows) rows.length kvs → Q (.ref F) H'
set_option maxHeartbeats 1000000 in
theorem ok_distL {k : Nat} (F : Fun K "distances" "distances" sDist f fd) (T : Free mg) : FnOk P w K mg base CX0 (k + 1) f fd ["links", "origins", "least", "most"] (spDistL K) := by
  refine F.ok scDist (fun vs H Q E h => ?_) (fun cdv A outer s H vs Q E hr h => ?_)
  · obtain ⟨x, y, B, rows, os, rfl, _⟩ := h
    rfl
  refine ⟨_, pss_cons (ps_setDc (i := 4) (own := [("point", 8)]) (g := gName 8) (tt := tYes) (tk := tVar 8) (tv := tC (.int 0)) rfl scDist.nd rfl rfl rfl (pi_tup (pv 1))
      (blkOk_by (own := [("point", 8)]) (N := diN) (sc := defScope sDist) (by decide +kernel))
      (fun _ _ _ _ _ => pg_name (i := 8) scDist.nd rfl (Or.inl rfl)) (fun _ _ _ _ _ => pts_nil) (fun _ _ _ _ _ => pv 8) (fun _ _ _ _ _ => pe_int))
    (pss_cons (ps_set (i := 5) scDist.nd rfl (.inl rfl) (pe_callTy call_list_of rfl T.list (by decide +kernel) (pa_cons (pv 1) pa_nil)))
    (pss_cons (ps_set (i := 6) scDist.nd rfl (.inl rfl) pe_int)
    (pss_cons (ps_while PassesOwn.never (PW.pt (pw_and (pt_truth (pv 5) (fun _ => rfl)) (pw_and1 (pt_cmpR op_lt (pv 6) (pv 3) (nomark _)))))
      (pss_cons (ps_aug (i := 6) scDist.nd rfl (.inl rfl) pe_int ip_add (.inr rfl))
      (pss_cons (ps_set (i := 7) scDist.nd rfl (.inl rfl) (pe_lst pa_nil))
      (pss_cons (ps_for PassesOwn.never rfl (pi_list (pv 5)) (pg_name (i := 8) scDist.nd rfl (.inl rfl))
        (pss_one (ps_for PassesOwn.never rfl (pi_list (pe_ix ix_list (pv 0) (pv 8) (fun _ _ => rfl))) (pg_name (i := 9) scDist.nd rfl (.inl rfl))
          (pss_one (ps_if (PW.pt (pw_and (pt_cmpR op_ge (pv 9) (pv 2) (nomark _)) (pw_and1 (pt_cmp (pc_dnotin (Nat.lt_of_le_of_lt (Nat.add_le_add_left (by decide : 1 ≤ 64) _) hr.units) (pv 9) (pv 4))))))
            (pss_cons (ps_dput (Nat.lt_of_le_of_lt (Nat.add_le_add_left (by decide : 1 ≤ 64) _) hr.units) (pv 4) (pv 9) (pv 6) rfl)
            (pss_one (ps_expr (pe_bm PySem.F.plainAttrs_list PySem.F.slot_list_append PySem.F.type_list_append mt_append (pv 7) (pa_cons (pv 9) pa_nil))))) pss_nil)))))
      (pss_one (ps_set (i := 5) scDist.nd rfl (.inl rfl) (pv 7)))))))
    (pss_one (ps_ret (pv 4)))))), ?_⟩
  obtain ⟨x, y, B, rows, os, rfl, rfl, hx, hrw, hy, nd, hos, q⟩ := h
  obtain ⟨as, hB, las, each⟩ := hx
  have lk : ∀ {G : Hp} {pt : Int}, Same H G → 0 ≤ pt ∧ pt < (rows.length : Int) → ∃ (va : Addr) (l : List Int), atI (as.map V.ref) pt = some (.ref va) ∧ SqL K G va (l.map V.int) ∧ ∀ p, p ∈ l ↔ backE rows pt p := fun {G pt} sm hp => by
    obtain ⟨a, ha⟩ : ∃ a, as[pt.toNat]? = some a := ⟨_, List.getElem?_eq_getElem (by omega)⟩
    obtain ⟨bs, h1, _, h2⟩ := each _ a ha
    rw [show ((pt.toNat : Nat) : Int) = pt by omega] at h2
    exact ⟨a, bs, atI_at hp.1 (by rw [List.getElem?_map, ha]; rfl), sqL_same sm h1, h2⟩
  have rng : ∀ q p, backE rows q p → 0 ≤ p ∧ p < (rows.length : Int) := fun q p h => ⟨h.1, h.2.1⟩
  have lnk : ∀ {G : Hp}, Same H G → SqL K G B (as.map V.ref) := fun sm => sqL_same sm hB
  have hb : ∀ (j : Nat) (q : Int), Rk (inP os) (backE rows) j q → 0 ≤ q ∧ q < (rows.length : Int) := fun j q h => by
    cases j with
    | zero => exact hos q h
    | succ j =>
      obtain ⟨r, _, e⟩ := h
      exact rng r q e
  obtain ⟨ya, rfl, yat⟩ := ints_at hy
  have los := nodup_len rows.length os nd hos
  have hlen := hrw.len
  refine ⟨_, rfl, ya, rfl, ⟨_, yat⟩, fun F hF => ?_⟩
  refine dc_tup (xs := os.map V.int) (fun i G => Same H G ∧ G F = some (.dK ((os.take i).map fun p => (Sum.inl p, V.int 0)))) ⟨same_new hF _, upd_same⟩ (fun i G _ h => sqT_same h.1 yat) (fun i v G hv h => ?_) (fun G h => ?_)
  · obtain ⟨sm, hG⟩ := h
    obtain ⟨n, hn, rfl⟩ := ints_get hv
    have hi : i < os.length := (List.getElem?_eq_some_iff.mp hn).1
    have et : os.take (i + 1) = os.take i ++ [n] := by rw [List.take_add_one, hn]; rfl
    have nin : n ∉ os.take i := fun hm => by
      have nd' := List.Nodup.sublist (List.take_sublist (i + 1) os) nd
      rw [et] at nd'
      exact (List.nodup_append.mp nd').2.2 n hm n (by simp) rfl
    have hnew : valV ((os.take i).map fun p => ((Sum.inl p : Key), V.int 0)) (Sum.inl n) = none := by rw [val0, if_neg nin]
    refine ⟨rfl, yesG ⟨_, rfl, _, Sum.inl n, rfl, hG, Nat.lt_of_lt_of_le (show _ < 1000 by rw [List.length_map, List.length_take]; omega) (small (Nat.le_refl _)), same_upd sm hF, ?_⟩⟩
    rw [upd_same, putK_new _ hnew, et, List.map_append]
    rfl
  obtain ⟨sm, hG⟩ := h
  rw [List.length_map, List.take_length] at hG
  refine ⟨_, rfl, ya, _, rfl, .inr (sqT_same sm yat), fun ed hed => ?_⟩
  have n1 := same_new hed (.lst (os.map V.int))
  have far0 : FarTo (inP os) (backE rows) rows.length 0 (os.map fun p => (Sum.inl p, V.int 0)) := by
    refine ⟨fun p v e => ?_, fun p k hk d => ?_, os, by rw [List.map_map]; rfl, nd, hos⟩
    · rw [val0] at e
      by_cases z : p ∈ os
      · rw [if_pos z] at e
        cases e
        exact ⟨0, Nat.le_refl _, rfl, z, fun j hj => by omega⟩
      · rw [if_neg z] at e
        cases e
    · have e : k = 0 := by omega
      subst e
      rw [val0, if_pos (show p ∈ os from d.1)]
      rfl
  have fin : ∀ {G : Hp} {kvs : List (Key × V)} {st : Nat}, Same H G → G F = some (.dK kvs) → FarTo (inP os) (backE rows) rows.length st kvs → (∀ k p, Dk (inP os) (backE rows) k p → k ≤ st) → Q (.ref F) G := fun s1 h1 h2 h3 => q F _ _ s1 h1 (h2.ok h3)
  refine ⟨fun m σ G => ∃ (st : Nat) (ed : Addr) (es : List Int) (kvs : List (Key × V)) (o7 o8 o9 : Option V), m = rows.length - st ∧ σ = [some (.ref B), some (.ref ya), some (.int 0), some (.int (rows.length : Nat)), some (.ref F), some (.ref ed), some (.int (st : Nat)), o7, o8, o9] ∧ Same H G ∧ G F = some (.dK kvs) ∧ G ed = some (.lst (es.map V.int)) ∧ FarTo (inP os) (backE rows) rows.length st kvs ∧ es.Nodup ∧ ∀ p, p ∈ es ↔ Dk (inP os) (backE rows) st p,
    ⟨_, 0, ed, os, _, _, _, _, rfl, rfl, sm.trans n1, n1 _ _ hG, upd_same, far0, nd, fun p => ⟨fun z => ⟨z, fun j hj => (by omega)⟩, fun d => d.1⟩⟩, ?_⟩
  clear far0 n1 hed hG sm
  rintro m σ G ⟨st, ed, es, kvs, o7, o8, o9, rfl, rfl, sm, hGF, hGe, far, nde, hes⟩
  refine ⟨_, rfl, _, .inl ⟨_, SqL.of hGe, rfl⟩, ?_⟩
  cases hcs : es with
  | nil =>
    refine ifF rfl (ifF rfl ⟨_, rfl, fin sm hGF far fun k p d => ?_⟩)
    by_cases c : k ≤ st
    · exact c
    · obtain ⟨r, hr'⟩ := d.down (s := st) (by omega)
      have := (hes r).mpr hr'
      rw [hcs] at this
      cases this
  | cons e0 er =>
    rw [← hcs]
    refine ifT (by rw [hcs]; rfl) ⟨_, rfl, _, rfl, _, _, rfl, rfl, _, rfl, ?_⟩
    by_cases c : st < rows.length
    · refine ifT (decide_eq_true (by omega)) ⟨fun σ' G' => ∃ m', m' < rows.length - st ∧ ∃ (st : Nat) (ed : Addr) (es : List Int) (kvs : List (Key × V)) (o7 o8 o9 : Option V), m' = rows.length - st ∧ σ' = [some (.ref B), some (.ref ya), some (.int 0), some (.int (rows.length : Nat)), some (.ref F), some (.ref ed), some (.int (st : Nat)), o7, o8, o9] ∧ Same H G' ∧ G' F = some (.dK kvs) ∧ G' ed = some (.lst (es.map V.int)) ∧ FarTo (inP os) (backE rows) rows.length st kvs ∧ es.Nodup ∧ ∀ p, p ∈ es ↔ Dk (inP os) (backE rows) st p, fun σ' G' h => h, ?_⟩
      refine ⟨_, rfl, _, _, rfl, rfl, small (by show 0 ≤ 1000; decide), fun fr hfr => ?_⟩
      have n2 := same_new hfr (.lst [])
      have fr0 : H fr = none := none_same sm hfr
      have nF : F ≠ fr := ne_of_none hGF hfr
      have ne : ed ≠ fr := ne_of_none hGe hfr
      refine ⟨_, rfl, ed, rfl, ⟨_, SqL.of (n2 _ _ hGe)⟩, ?_⟩
      refine for_list (xs := es.map V.int) (fun i σ G => ∃ (o8 o9 : Option V) (kvs' : List (Key × V)) (fs : List Int), σ = [some (.ref B), some (.ref ya), some (.int 0), some (.int (rows.length : Nat)), some (.ref F), some (.ref ed), some (.int (st + 1 : Nat)), some (.ref fr), o8, o9] ∧ Same H G ∧ G F = some (.dK kvs') ∧ G ed = some (.lst (es.map V.int)) ∧ G fr = some (.lst (fs.map V.int)) ∧ MidTo (inP os) (backE rows) rows.length st kvs' fs ∧ ∀ q ∈ es.take i, ∀ p, (backE rows) q p → (valV kvs' (Sum.inl p)).isSome = true)
        ⟨_, _, kvs, [], rfl, sm.trans n2, n2 _ _ hGF, n2 _ _ hGe, upd_same, far.mid, fun q hq => by simp at hq⟩ (fun i σ G _ h => by obtain ⟨_, _, _, _, _, _, _, h3, _⟩ := h; exact SqL.of h3) (fun i v σ G hv h => ?_) (fun σ G h => ?_)
      · obtain ⟨o8, o9, kvs', fs, rfl, s1, g1, g2, g3, mid, cov⟩ := h
        obtain ⟨pt, hpt, rfl⟩ := ints_get hv
        have dpt := (hes pt).mp (List.mem_of_getElem? hpt)
        have rpt := hb st pt dpt.1
        obtain ⟨va, l, h1, h2, h3⟩ := lk s1 rpt
        obtain ⟨_, l0, h10, h20, h30⟩ := lk (Same.refl H) rpt
        rw [h1] at h10
        cases h10
        have hl0 : ∀ {G2 : Hp}, Same H G2 → SqL K G2 va (l0.map V.int) := fun s2 => sqL_same s2 h20
        refine ⟨_, rfl, _, rfl, B, _, pt, _, rfl, rfl, lnk s1, h1, va, rfl, ⟨_, hl0 s1⟩, ?_⟩
        refine for_list (xs := l0.map V.int) (fun j σ G => ∃ (o9 : Option V) (kvs' : List (Key × V)) (fs : List Int), σ = [some (.ref B), some (.ref ya), some (.int 0), some (.int (rows.length : Nat)), some (.ref F), some (.ref ed), some (.int (st + 1 : Nat)), some (.ref fr), some (.int pt), o9] ∧ Same H G ∧ G F = some (.dK kvs') ∧ G ed = some (.lst (es.map V.int)) ∧ G fr = some (.lst (fs.map V.int)) ∧ MidTo (inP os) (backE rows) rows.length st kvs' fs ∧ (∀ q ∈ es.take i, ∀ p, (backE rows) q p → (valV kvs' (Sum.inl p)).isSome = true) ∧ ∀ p ∈ l0.take j, (valV kvs' (Sum.inl p)).isSome = true)
          ⟨_, kvs', fs, rfl, s1, g1, g2, g3, mid, cov, fun p hp => by simp at hp⟩ (fun j σ G _ h => by obtain ⟨_, _, _, _, s2, _⟩ := h; exact hl0 s2) (fun j v σ G hv h => ?_) (fun σ G h => ?_)
        · obtain ⟨o9, kvs2, fs2, rfl, s2, g4, g5, g6, mid2, cov2, cov3⟩ := h
          obtain ⟨n, hn, rfl⟩ := ints_get hv
          have en := (h30 n).mp (List.mem_of_getElem? hn)
          have rn := rng pt n en
          have et : l0.take (j + 1) = l0.take j ++ [n] := by rw [List.take_add_one, hn]; rfl
          have lk2 := key_len mid2.keys
          have lf2 : fs2.length ≤ rows.length := nodup_len _ fs2 mid2.nd fun p hp => hb _ p (mid2.fsh p hp).1.1
          refine ⟨_, rfl, _, rfl, _, _, rfl, rfl, _, rfl, ifT (decide_eq_true (by omega)) ⟨_, rfl, _, rfl, F, _, rfl, DGet.k (k := Sum.inl n) g4, _, rfl, ?_⟩⟩
          cases hval : valV kvs2 (Sum.inl n) with
          | some u =>
            refine ifF rfl ⟨_, kvs2, fs2, rfl, s2, g4, g5, g6, mid2, cov2, fun p hp => ?_⟩
            rw [et] at hp
            rcases List.mem_append.mp hp with hp | hp
            · exact cov3 p hp
            · rw [List.mem_singleton.mp hp, hval]
              rfl
          | none =>
            have nFf : F ≠ fr := nF
            refine ifT rfl ⟨_, rfl, _, rfl, _, rfl, F, _, rfl, DPut.k (k := Sum.inl n) g4 (Nat.lt_of_lt_of_le (show kvs2.length < 1000 by omega) (small (Nat.le_refl _))), ?_⟩
            have g6' : (upd G F (.dK (putK kvs2 (Sum.inl n) (.int (st + 1 : Nat))))) fr = some (.lst (fs2.map V.int)) := by rw [upd_ne (Ne.symm nF)]; exact g6
            refine ⟨_, rfl, .inl ⟨rfl, _, SqL.of g6'⟩, _, rfl, fr, _, _, rfl, rfl, g6', Nat.lt_of_lt_of_le (show _ < 1000 by rw [List.length_map]; omega) (small (Nat.le_refl _)), ?_⟩
            have more : ∀ p, (valV kvs2 (Sum.inl p)).isSome = true → (valV (putK kvs2 (Sum.inl n) (.int (st + 1 : Nat))) (Sum.inl p)).isSome = true := fun p hp => by
              rw [valV_put]
              split
              · rfl
              · exact hp
            refine ⟨_, _, fs2 ++ [n], rfl, same_upd (same_upd s2 hF) fr0, by rw [upd_ne nF, upd_same], by rw [upd_ne ne, upd_ne (ne_of g5 g4 (fun z => nomatch z))]; exact g5, by rw [upd_same, List.map_append]; rfl, mid2.add hval dpt en rn, fun q hq p e => more p (cov2 q hq p e), fun p hp => ?_⟩
            rw [et] at hp
            rcases List.mem_append.mp hp with hp | hp
            · exact more p (cov3 p hp)
            · rw [List.mem_singleton.mp hp, valV_put, if_pos rfl]
              rfl
        · obtain ⟨o9, kvs2, fs2, rfl, s2, g4, g5, g6, mid2, cov2, cov3⟩ := h
          rw [List.length_map, List.take_length] at cov3
          refine ⟨_, _, kvs2, fs2, rfl, s2, g4, g5, g6, mid2, fun q hq p e => ?_⟩
          rw [List.take_add_one, hpt] at hq
          rcases List.mem_append.mp hq with hq | hq
          · exact cov2 q hq p e
          · rw [show q = pt by simpa using hq] at e
            exact cov3 p ((h30 p).mpr e)
      · obtain ⟨o8, o9, kvs', fs, rfl, s1, g1, g2, g3, mid, cov⟩ := h
        rw [List.length_map, List.take_length] at cov
        obtain ⟨far', iff⟩ := mid.fin fun q hq p e => cov q ((hes q).mpr hq) p e
        exact ⟨_, rfl, rows.length - (st + 1), by omega, st + 1, fr, fs, kvs', _, _, _, rfl, rfl, s1, g1, g3, far', mid.nd, iff⟩
    · refine ifF (decide_eq_false (by omega)) ⟨_, rfl, fin sm hGF far fun k p d => ?_⟩
      have := d.bound hb
      omega
end
/-! distances from one point, among the points from it on, as far as most -/
section
variable {P : Program} {w : World} {K : PySem.W.Frag} {mg : Str → Option Value} {base : Heap} {f : Addr} {fd : FuncData}
def spDistR (K : PySem.W.Frag) : Sp := fun vs H Q _ => ∃ (y : V) (B : Addr) (rows : List (List Int)) (p most : Int), vs = [.ref B, y, .int p, .int most] ∧ BefAt K H B rows ∧ RwOk rows ∧ Dp K H y (.tuple ([p].map .int)) ∧ 0 ≤ p ∧ p < (rows.length : Int) ∧
  ∀ F kvs H', Same H H' → H' F = some (.dK kvs) → FarTo (inP [p]) (backE (resR rows p)) rows.length most.toNat kvs → Q (.ref F) H'
set_option maxHeartbeats 1000000 in
theorem ok_distR {k : Nat} (F : Fun K "distances" "distances" sDist f fd) (T : Free mg) : FnOk P w K mg base CX0 (k + 1) f fd ["links", "origins", "least", "most"] (spDistR K) := by
  refine F.ok scDist (fun vs H Q E h => ?_) (fun cdv A outer s H vs Q E hr h => ?_)
  · obtain ⟨y, B, rows, p, most, rfl, _⟩ := h
    rfl
  refine ⟨_, pss_cons (ps_setDc (i := 4) (own := [("point", 8)]) (g := gName 8) (tt := tYes) (tk := tVar 8) (tv := tC (.int 0)) rfl scDist.nd rfl rfl rfl (pi_tup (pv 1))
      (blkOk_by (own := [("point", 8)]) (N := diN) (sc := defScope sDist) (by decide +kernel))
      (fun _ _ _ _ _ => pg_name (i := 8) scDist.nd rfl (Or.inl rfl)) (fun _ _ _ _ _ => pts_nil) (fun _ _ _ _ _ => pv 8) (fun _ _ _ _ _ => pe_int))
    (pss_cons (ps_set (i := 5) scDist.nd rfl (.inl rfl) (pe_callTy call_list_of rfl T.list (by decide +kernel) (pa_cons (pv 1) pa_nil)))
    (pss_cons (ps_set (i := 6) scDist.nd rfl (.inl rfl) pe_int)
    (pss_cons (ps_while PassesOwn.never (PW.pt (pw_and (pt_truth (pv 5) (fun _ => rfl)) (pw_and1 (pt_cmpR op_lt (pv 6) (pv 3) (nomark _)))))
      (pss_cons (ps_aug (i := 6) scDist.nd rfl (.inl rfl) pe_int ip_add (.inr rfl))
      (pss_cons (ps_set (i := 7) scDist.nd rfl (.inl rfl) (pe_lst pa_nil))
      (pss_cons (ps_for PassesOwn.never rfl (pi_list (pv 5)) (pg_name (i := 8) scDist.nd rfl (.inl rfl))
        (pss_one (ps_for PassesOwn.never rfl (pi_list (pe_ix ix_list (pv 0) (pv 8) (fun _ _ => rfl))) (pg_name (i := 9) scDist.nd rfl (.inl rfl))
          (pss_one (ps_if (PW.pt (pw_and (pt_cmpR op_ge (pv 9) (pv 2) (nomark _)) (pw_and1 (pt_cmp (pc_dnotin (Nat.lt_of_le_of_lt (Nat.add_le_add_left (by decide : 1 ≤ 64) _) hr.units) (pv 9) (pv 4))))))
            (pss_cons (ps_dput (Nat.lt_of_le_of_lt (Nat.add_le_add_left (by decide : 1 ≤ 64) _) hr.units) (pv 4) (pv 9) (pv 6) rfl)
            (pss_one (ps_expr (pe_bm PySem.F.plainAttrs_list PySem.F.slot_list_append PySem.F.type_list_append mt_append (pv 7) (pa_cons (pv 9) pa_nil))))) pss_nil)))))
      (pss_one (ps_set (i := 5) scDist.nd rfl (.inl rfl) (pv 7)))))))
    (pss_one (ps_ret (pv 4)))))), ?_⟩
  obtain ⟨y, B, rows, p, most, rfl, hx, hrw, hy, p0, p1, q⟩ := h
  have nd : [p].Nodup := by simp
  have hos : ∀ o ∈ [p], 0 ≤ o ∧ o < (rows.length : Int) := fun o ho => by rw [List.mem_singleton.mp ho]; exact ⟨p0, p1⟩
  have hop : ∀ o ∈ [p], p ≤ o := fun o ho => by rw [List.mem_singleton.mp ho]; exact Int.le_refl _
  generalize [p] = os at nd hos hop hy q
  obtain ⟨as, hB, las, each⟩ := hx
  have lk : ∀ {G : Hp} {pt : Int}, Same H G → 0 ≤ pt ∧ pt < (rows.length : Int) → ∃ (va : Addr) (l : List Int), atI (as.map V.ref) pt = some (.ref va) ∧ SqL K G va (l.map V.int) ∧ ∀ x, x ∈ l ↔ backE rows pt x := fun {G pt} sm hp => by
    obtain ⟨a, ha⟩ : ∃ a, as[pt.toNat]? = some a := ⟨_, List.getElem?_eq_getElem (by omega)⟩
    obtain ⟨bs, h1, _, h2⟩ := each _ a ha
    rw [show ((pt.toNat : Nat) : Int) = pt by omega] at h2
    exact ⟨a, bs, atI_at hp.1 (by rw [List.getElem?_map, ha]; rfl), sqL_same sm h1, h2⟩
  have rng : ∀ q x, backE (resR rows p) q x → 0 ≤ x ∧ x < (rows.length : Int) := fun q x h => ⟨h.1, by have := h.2.1; rw [resR_len] at this; exact this⟩
  have lnk : ∀ {G : Hp}, Same H G → SqL K G B (as.map V.ref) := fun sm => sqL_same sm hB
  have hb : ∀ (j : Nat) (q : Int), Rk (inP os) (backE (resR rows p)) j q → 0 ≤ q ∧ q < (rows.length : Int) := fun j q h => by
    cases j with
    | zero => exact hos q h
    | succ j =>
      obtain ⟨r, _, e⟩ := h
      exact rng r q e
  have hge : ∀ (j : Nat) (q : Int), Rk (inP os) (backE (resR rows p)) j q → p ≤ q := fun j q h => by
    cases j with
    | zero => exact hop q h
    | succ j =>
      obtain ⟨r, _, e⟩ := h
      exact ((mem_resR e.1).mp e.2.2).1
  obtain ⟨ya, rfl, yat⟩ := ints_at hy
  have los := nodup_len rows.length os nd hos
  have hlen := hrw.len
  refine ⟨_, rfl, ya, rfl, ⟨_, yat⟩, fun F hF => ?_⟩
  refine dc_tup (xs := os.map V.int) (fun i G => Same H G ∧ G F = some (.dK ((os.take i).map fun p => (Sum.inl p, V.int 0)))) ⟨same_new hF _, upd_same⟩ (fun i G _ h => sqT_same h.1 yat) (fun i v G hv h => ?_) (fun G h => ?_)
  · obtain ⟨sm, hG⟩ := h
    obtain ⟨n, hn, rfl⟩ := ints_get hv
    have hi : i < os.length := (List.getElem?_eq_some_iff.mp hn).1
    have et : os.take (i + 1) = os.take i ++ [n] := by rw [List.take_add_one, hn]; rfl
    have nin : n ∉ os.take i := fun hm => by
      have nd' := List.Nodup.sublist (List.take_sublist (i + 1) os) nd
      rw [et] at nd'
      exact (List.nodup_append.mp nd').2.2 n hm n (by simp) rfl
    have hnew : valV ((os.take i).map fun p => ((Sum.inl p : Key), V.int 0)) (Sum.inl n) = none := by rw [val0, if_neg nin]
    refine ⟨rfl, yesG ⟨_, rfl, _, Sum.inl n, rfl, hG, Nat.lt_of_lt_of_le (show _ < 1000 by rw [List.length_map, List.length_take]; omega) (small (Nat.le_refl _)), same_upd sm hF, ?_⟩⟩
    rw [upd_same, putK_new _ hnew, et, List.map_append]
    rfl
  obtain ⟨sm, hG⟩ := h
  rw [List.length_map, List.take_length] at hG
  refine ⟨_, rfl, ya, _, rfl, .inr (sqT_same sm yat), fun ed hed => ?_⟩
  have n1 := same_new hed (.lst (os.map V.int))
  have far0 : FarTo (inP os) (backE (resR rows p)) rows.length 0 (os.map fun p => (Sum.inl p, V.int 0)) := by
    refine ⟨fun p v e => ?_, fun p k hk d => ?_, os, by rw [List.map_map]; rfl, nd, hos⟩
    · rw [val0] at e
      by_cases z : p ∈ os
      · rw [if_pos z] at e
        cases e
        exact ⟨0, Nat.le_refl _, rfl, z, fun j hj => by omega⟩
      · rw [if_neg z] at e
        cases e
    · have e : k = 0 := by omega
      subst e
      rw [val0, if_pos (show p ∈ os from d.1)]
      rfl
  have fin : ∀ {G : Hp} {kvs : List (Key × V)} {st : Nat}, Same H G → G F = some (.dK kvs) → FarTo (inP os) (backE (resR rows p)) rows.length st kvs → st ≤ most.toNat → (∀ k x, k ≤ most.toNat → Dk (inP os) (backE (resR rows p)) k x → k ≤ st) → Q (.ref F) G := fun s1 h1 h2 h3 h4 => q F _ _ s1 h1 ⟨fun x v e => by obtain ⟨k, y1, y2⟩ := h2.snd x v e; exact ⟨k, by omega, y2⟩, fun x k hk d => h2.all x k (h4 k x hk d) d, h2.keys⟩
  refine ⟨fun m σ G => ∃ (st : Nat) (ed : Addr) (es : List Int) (kvs : List (Key × V)) (o7 o8 o9 : Option V), m = most.toNat - st ∧ σ = [some (.ref B), some (.ref ya), some (.int p), some (.int most), some (.ref F), some (.ref ed), some (.int (st : Nat)), o7, o8, o9] ∧ st ≤ most.toNat ∧ Same H G ∧ G F = some (.dK kvs) ∧ G ed = some (.lst (es.map V.int)) ∧ FarTo (inP os) (backE (resR rows p)) rows.length st kvs ∧ es.Nodup ∧ ∀ x, x ∈ es ↔ Dk (inP os) (backE (resR rows p)) st x,
    ⟨_, 0, ed, os, _, _, _, _, rfl, rfl, Nat.zero_le _, sm.trans n1, n1 _ _ hG, upd_same, far0, nd, fun p => ⟨fun z => ⟨z, fun j hj => (by omega)⟩, fun d => d.1⟩⟩, ?_⟩
  clear far0 n1 hed hG sm
  rintro m σ G ⟨st, ed, es, kvs, o7, o8, o9, rfl, rfl, lst, sm, hGF, hGe, far, nde, hes⟩
  refine ⟨_, rfl, _, .inl ⟨_, SqL.of hGe, rfl⟩, ?_⟩
  cases hcs : es with
  | nil =>
    refine ifF rfl (ifF rfl ⟨_, rfl, fin sm hGF far lst fun k x _ d => ?_⟩)
    by_cases c : k ≤ st
    · exact c
    · obtain ⟨r, hr'⟩ := d.down (s := st) (by omega)
      have := (hes r).mpr hr'
      rw [hcs] at this
      cases this
  | cons e0 er =>
    rw [← hcs]
    refine ifT (by rw [hcs]; rfl) ⟨_, rfl, _, rfl, _, _, rfl, rfl, _, rfl, ?_⟩
    by_cases c : (st : Int) < most
    · refine ifT (decide_eq_true (by omega)) ⟨fun σ' G' => ∃ m', m' < most.toNat - st ∧ ∃ (st : Nat) (ed : Addr) (es : List Int) (kvs : List (Key × V)) (o7 o8 o9 : Option V), m' = most.toNat - st ∧ σ' = [some (.ref B), some (.ref ya), some (.int p), some (.int most), some (.ref F), some (.ref ed), some (.int (st : Nat)), o7, o8, o9] ∧ st ≤ most.toNat ∧ Same H G' ∧ G' F = some (.dK kvs) ∧ G' ed = some (.lst (es.map V.int)) ∧ FarTo (inP os) (backE (resR rows p)) rows.length st kvs ∧ es.Nodup ∧ ∀ x, x ∈ es ↔ Dk (inP os) (backE (resR rows p)) st x, fun σ' G' h => h, ?_⟩
      refine ⟨_, rfl, _, _, rfl, rfl, small (by show 0 ≤ 1000; decide), fun fr hfr => ?_⟩
      have n2 := same_new hfr (.lst [])
      have fr0 : H fr = none := none_same sm hfr
      have nF : F ≠ fr := ne_of_none hGF hfr
      have ne : ed ≠ fr := ne_of_none hGe hfr
      refine ⟨_, rfl, ed, rfl, ⟨_, SqL.of (n2 _ _ hGe)⟩, ?_⟩
      refine for_list (xs := es.map V.int) (fun i σ G => ∃ (o8 o9 : Option V) (kvs' : List (Key × V)) (fs : List Int), σ = [some (.ref B), some (.ref ya), some (.int p), some (.int most), some (.ref F), some (.ref ed), some (.int (st + 1 : Nat)), some (.ref fr), o8, o9] ∧ Same H G ∧ G F = some (.dK kvs') ∧ G ed = some (.lst (es.map V.int)) ∧ G fr = some (.lst (fs.map V.int)) ∧ MidTo (inP os) (backE (resR rows p)) rows.length st kvs' fs ∧ ∀ q ∈ es.take i, ∀ x, (backE (resR rows p)) q x → (valV kvs' (Sum.inl x)).isSome = true)
        ⟨_, _, kvs, [], rfl, sm.trans n2, n2 _ _ hGF, n2 _ _ hGe, upd_same, far.mid, fun q hq => by simp at hq⟩ (fun i σ G _ h => by obtain ⟨_, _, _, _, _, _, _, h3, _⟩ := h; exact SqL.of h3) (fun i v σ G hv h => ?_) (fun σ G h => ?_)
      · obtain ⟨o8, o9, kvs', fs, rfl, s1, g1, g2, g3, mid, cov⟩ := h
        obtain ⟨pt, hpt, rfl⟩ := ints_get hv
        have dpt := (hes pt).mp (List.mem_of_getElem? hpt)
        have rpt := hb st pt dpt.1
        obtain ⟨va, l, h1, h2, h3⟩ := lk s1 rpt
        obtain ⟨_, l0, h10, h20, h30⟩ := lk (Same.refl H) rpt
        rw [h1] at h10
        cases h10
        have hl0 : ∀ {G2 : Hp}, Same H G2 → SqL K G2 va (l0.map V.int) := fun s2 => sqL_same s2 h20
        refine ⟨_, rfl, _, rfl, B, _, pt, _, rfl, rfl, lnk s1, h1, va, rfl, ⟨_, hl0 s1⟩, ?_⟩
        refine for_list (xs := l0.map V.int) (fun j σ G => ∃ (o9 : Option V) (kvs' : List (Key × V)) (fs : List Int), σ = [some (.ref B), some (.ref ya), some (.int p), some (.int most), some (.ref F), some (.ref ed), some (.int (st + 1 : Nat)), some (.ref fr), some (.int pt), o9] ∧ Same H G ∧ G F = some (.dK kvs') ∧ G ed = some (.lst (es.map V.int)) ∧ G fr = some (.lst (fs.map V.int)) ∧ MidTo (inP os) (backE (resR rows p)) rows.length st kvs' fs ∧ (∀ q ∈ es.take i, ∀ x, (backE (resR rows p)) q x → (valV kvs' (Sum.inl x)).isSome = true) ∧ ∀ x ∈ l0.take j, p ≤ x → (valV kvs' (Sum.inl x)).isSome = true)
          ⟨_, kvs', fs, rfl, s1, g1, g2, g3, mid, cov, fun x hx => by simp at hx⟩ (fun j σ G _ h => by obtain ⟨_, _, _, _, s2, _⟩ := h; exact hl0 s2) (fun j v σ G hv h => ?_) (fun σ G h => ?_)
        · obtain ⟨o9, kvs2, fs2, rfl, s2, g4, g5, g6, mid2, cov2, cov3⟩ := h
          obtain ⟨n, hn, rfl⟩ := ints_get hv
          have en := (h30 n).mp (List.mem_of_getElem? hn)
          have rn : 0 ≤ n ∧ n < (rows.length : Int) := ⟨en.1, en.2.1⟩
          have et : l0.take (j + 1) = l0.take j ++ [n] := by rw [List.take_add_one, hn]; rfl
          have lk2 := key_len mid2.keys
          have lf2 : fs2.length ≤ rows.length := nodup_len _ fs2 mid2.nd fun p hp => hb _ p (mid2.fsh p hp).1.1
          refine ⟨_, rfl, _, rfl, _, _, rfl, rfl, _, rfl, ?_⟩
          by_cases cn : p ≤ n
          case neg =>
            refine ifF (decide_eq_false (by omega)) (ifF rfl ⟨_, kvs2, fs2, rfl, s2, g4, g5, g6, mid2, cov2, fun x hx hxp => ?_⟩)
            rw [et] at hx
            rcases List.mem_append.mp hx with hx | hx
            · exact cov3 x hx hxp
            · rw [List.mem_singleton.mp hx] at hxp
              exact absurd hxp cn
          have en2 : backE (resR rows p) pt n := ⟨en.1, by rw [resR_len]; exact en.2.1, (mem_resR en.1).mpr ⟨cn, hge _ pt dpt.1, en.2.2⟩⟩
          refine ifT (decide_eq_true (by omega)) ⟨_, rfl, _, rfl, F, _, rfl, DGet.k (k := Sum.inl n) g4, _, rfl, ?_⟩
          cases hval : valV kvs2 (Sum.inl n) with
          | some u =>
            refine ifF rfl ⟨_, kvs2, fs2, rfl, s2, g4, g5, g6, mid2, cov2, fun x hp hxp => ?_⟩
            rw [et] at hp
            rcases List.mem_append.mp hp with hp | hp
            · exact cov3 x hp hxp
            · rw [List.mem_singleton.mp hp, hval]
              rfl
          | none =>
            have nFf : F ≠ fr := nF
            refine ifT rfl ⟨_, rfl, _, rfl, _, rfl, F, _, rfl, DPut.k (k := Sum.inl n) g4 (Nat.lt_of_lt_of_le (show kvs2.length < 1000 by omega) (small (Nat.le_refl _))), ?_⟩
            have g6' : (upd G F (.dK (putK kvs2 (Sum.inl n) (.int (st + 1 : Nat))))) fr = some (.lst (fs2.map V.int)) := by rw [upd_ne (Ne.symm nF)]; exact g6
            refine ⟨_, rfl, .inl ⟨rfl, _, SqL.of g6'⟩, _, rfl, fr, _, _, rfl, rfl, g6', Nat.lt_of_lt_of_le (show _ < 1000 by rw [List.length_map]; omega) (small (Nat.le_refl _)), ?_⟩
            have more : ∀ x, (valV kvs2 (Sum.inl x)).isSome = true → (valV (putK kvs2 (Sum.inl n) (.int (st + 1 : Nat))) (Sum.inl x)).isSome = true := fun x hp => by
              rw [valV_put]
              split
              · rfl
              · exact hp
            refine ⟨_, _, fs2 ++ [n], rfl, same_upd (same_upd s2 hF) fr0, by rw [upd_ne nF, upd_same], by rw [upd_ne ne, upd_ne (ne_of g5 g4 (fun z => nomatch z))]; exact g5, by rw [upd_same, List.map_append]; rfl, mid2.add hval dpt en2 rn, fun q hq x e => more x (cov2 q hq x e), fun x hp hxp => ?_⟩
            rw [et] at hp
            rcases List.mem_append.mp hp with hp | hp
            · exact more x (cov3 x hp hxp)
            · rw [List.mem_singleton.mp hp, valV_put, if_pos rfl]
              rfl
        · obtain ⟨o9, kvs2, fs2, rfl, s2, g4, g5, g6, mid2, cov2, cov3⟩ := h
          rw [List.length_map, List.take_length] at cov3
          refine ⟨_, _, kvs2, fs2, rfl, s2, g4, g5, g6, mid2, fun q hq x e => ?_⟩
          rw [List.take_add_one, hpt] at hq
          rcases List.mem_append.mp hq with hq | hq
          · exact cov2 q hq x e
          · rw [show q = pt by simpa using hq] at e
            have e3 := (mem_resR e.1).mp e.2.2
            exact cov3 x ((h30 x).mpr ⟨e.1, (rng _ x e).2, e3.2.2⟩) e3.1
      · obtain ⟨o8, o9, kvs', fs, rfl, s1, g1, g2, g3, mid, cov⟩ := h
        rw [List.length_map, List.take_length] at cov
        obtain ⟨far', iff⟩ := mid.fin fun q hq p e => cov q ((hes q).mpr hq) p e
        exact ⟨_, rfl, most.toNat - (st + 1), by omega, st + 1, fr, fs, kvs', _, _, _, rfl, rfl, by omega, s1, g1, g3, far', mid.nd, iff⟩
    · refine ifF (decide_eq_false (by omega)) ⟨_, rfl, fin sm hGF far lst fun k x hk _ => by omega⟩
end
/-! nearest, shortest -/
def NearOk (S : Int → Prop) (E : Int → Int → Prop) (ps : List Int) (r : V) : Prop :=
  (r = .non ∧ ∀ p ∈ ps, ∀ k, ¬ Dk S E k p) ∨ ∃ (b : Int) (k : Nat), r = .int b ∧ b ∈ ps ∧ Dk S E k b ∧ ∀ q ∈ ps, ∀ j, Dk S E j q → k < j ∨ (k = j ∧ b ≤ q)
section
variable {P : Program} {w : World} {K : PySem.W.Frag} {mg : Str → Option Value} {base : Heap} {f : Addr} {fd : FuncData}
def spNear (K : PySem.W.Frag) (S : Int → Prop) (E : Int → Int → Prop) : Sp := fun vs H Q _ => ∃ (x : V) (ps : List Int) (F : Addr) (kvs : List (Key × V)) (n : Nat), vs = [x, .ref F] ∧ Dp K H x (.tuple (ps.map .int)) ∧ ps.Pairwise (· < ·) ∧ H F = some (.dK kvs) ∧ FarOk S E n kvs ∧ ∀ r, NearOk S E ps r → Q r H
theorem scNear : FnScope ["points", "far", "best", "point"] ["points", "far"] (defScope sNear) := ⟨rfl, rfl, rfl, by decide +kernel, rfl, by decide +kernel, by decide +kernel⟩
theorem ok_near {k : Nat} {S : Int → Prop} {E : Int → Int → Prop} (F : Fun K "nearest" "nearest" sNear f fd) : FnOk P w K mg base CX0 (k + 1) f fd ["points", "far"] (spNear K S E) := by
  refine F.ok scNear (fun vs H Q E' h => ?_) (fun cdv A outer s H vs Q E' hr h => ?_)
  · obtain ⟨x, ps, F, kvs, n, rfl, _⟩ := h
    rfl
  obtain ⟨x, ps, F, kvs, n, rfl, hx, srt, hF, far, q⟩ := h
  have hu : (A.deeper (PyProof.Rows.envOfC "nearest" (defScope sNear) s.heap.objs.size f cdv)).units + 1 < cLine := Nat.lt_of_le_of_lt (Nat.add_le_add_left (by decide : 1 ≤ 64) _) hr.units
  refine ⟨_, pss_cons (ps_set (i := 2) scNear.nd rfl (.inl rfl) pe_non)
    (pss_cons (ps_for PassesOwn.never rfl (pi_tup (pv 0)) (pg_name (i := 3) scNear.nd rfl (.inl rfl))
      (pss_one (ps_if (PW.pt (pw_and (pt_cmp (pc_din hu (pv 3) (pv 1))) (pw_and1 (PW.pt (pw_or (pt_cmpR op_isN (pv 2) pe_non (nomark _)) (pw_or1 (pt_cmpR op_lt (pe_dget hu (pv 1) (pv 3) (fun _ _ => rfl)) (pe_dget hu (pv 1) (pv 2) (fun _ _ => rfl)) (nomark _))))))))
        (pss_one (ps_set (i := 2) scNear.nd rfl (.inl rfl) (pv 3))) pss_nil)))
    (pss_one (ps_ret (pv 2)))), ?_⟩
  obtain ⟨a, rfl, at_⟩ := ints_at hx
  refine ⟨_, rfl, a, rfl, ⟨_, at_⟩, ?_⟩
  refine for_tup (xs := ps.map V.int) (fun i σ G => ∃ (r : V) (o3 : Option V), σ = [some (.ref a), some (.ref F), some r, o3] ∧ G = H ∧ NearOk S E (ps.take i) r) ⟨.non, _, rfl, rfl, .inl ⟨rfl, fun p hp => by simp at hp⟩⟩ (fun i σ G _ h => by obtain ⟨_, _, _, rfl, _⟩ := h; exact at_) (fun i v σ G hv h => ?_) (fun σ G h => ?_)
  · obtain ⟨r, o3, rfl, rfl, hn⟩ := h
    obtain ⟨p, hp, rfl⟩ := ints_get hv
    have et : ps.take (i + 1) = ps.take i ++ [p] := by rw [List.take_add_one, hp]; rfl
    have less : ∀ b ∈ ps.take i, b < p := fun b hb => by
      have := srt.sublist (List.take_sublist (i + 1) ps)
      rw [et] at this
      exact (List.pairwise_append.mp this).2.2 b hb p (by simp)
    refine ⟨_, rfl, _, rfl, F, _, rfl, DGet.k (k := Sum.inl p) hF, _, rfl, ?_⟩
    have split2 : ∀ {Pq : Int → Prop}, (∀ q ∈ ps.take i, Pq q) → Pq p → ∀ q ∈ ps.take (i + 1), Pq q := fun h1 h2 q hq => by
      rw [et] at hq
      rcases List.mem_append.mp hq with hq | hq
      · exact h1 q hq
      · rw [List.mem_singleton.mp hq]
        exact h2
    cases hval : valV kvs (Sum.inl p) with
    | none =>
      refine ifF rfl (ifF rfl ⟨r, _, rfl, rfl, ?_⟩)
      have no : ∀ k, ¬ Dk S E k p := fun k d => by
        have := far.all p k d
        rw [hval] at this
        cases this
      rcases hn with ⟨e, h1⟩ | ⟨b, k, e, h1, h2, h3⟩
      · exact .inl ⟨e, split2 h1 no⟩
      · exact .inr ⟨b, k, e, by rw [et]; exact List.mem_append_left _ h1, h2, split2 h3 fun j d => absurd d (no j)⟩
    | some u =>
      obtain ⟨kp, rfl, dp⟩ := far.snd p u hval
      have mp : p ∈ ps.take (i + 1) := by rw [et]; simp
      rcases hn with ⟨e, h1⟩ | ⟨b, k, e, h1, h2, h3⟩
      · subst e
        refine ifT rfl ⟨_, rfl, rfl, _, rfl, ifT rfl (ifT rfl ⟨_, rfl, _, _, rfl, rfl, .inr ⟨p, kp, rfl, mp, dp, split2 (fun q hq j d => absurd d (h1 q hq j)) fun j d => .inr ⟨dp.uniq d, Int.le_refl _⟩⟩⟩)⟩
      · subst e
        have vb := far.all b k h2
        refine ifT rfl ⟨_, rfl, rfl, _, rfl, ifF rfl ⟨_, rfl, _, rfl, F, _, rfl, (by have g := DGet.k (k := Sum.inl p) hF; rw [hval] at g; exact g), _, rfl, _, rfl, F, _, rfl, (by have g := DGet.k (k := Sum.inl b) hF; rw [vb] at g; exact g), _, _, rfl, rfl, _, rfl, ?_⟩⟩
        by_cases c : kp < k
        · refine ifT (decide_eq_true (by omega)) ⟨_, rfl, _, _, rfl, rfl, .inr ⟨p, kp, rfl, mp, dp, split2 (fun q hq j d => ?_) fun j d => .inr ⟨dp.uniq d, Int.le_refl _⟩⟩⟩
          rcases h3 q hq j d with y | ⟨y, _⟩ <;> exact .inl (by omega)
        · refine ifF (decide_eq_false (by omega)) ⟨_, _, rfl, rfl, .inr ⟨b, k, rfl, by rw [et]; exact List.mem_append_left _ h1, h2, split2 h3 fun j d => ?_⟩⟩
          have := dp.uniq d
          have := less b h1
          by_cases c2 : k = kp
          · exact .inr ⟨by omega, by omega⟩
          · exact .inl (by omega)
  · obtain ⟨r, o3, rfl, rfl, hn⟩ := h
    rw [List.length_map, List.take_length] at hn
    exact ⟨_, rfl, q r hn⟩
def spShort (K : PySem.W.Frag) : Sp := fun vs H Q _ => ∃ (x : V) (rows : List (List Int)) (gs : List Int) (F : Addr) (kvs : List (Key × V)) (p0 : Int) (k0 : Nat), vs = [x, .ref F, .int p0] ∧ Dp K H x (chD rows) ∧ RwOk rows ∧ (∀ ns ∈ rows, ns.Pairwise (· < ·)) ∧ H F = some (.dK kvs) ∧ FarOk (inP gs) (backE rows) rows.length kvs ∧ (∀ g ∈ gs, 0 ≤ g ∧ g < (rows.length : Int)) ∧ Dk (inP gs) (backE rows) k0 p0 ∧
  ∀ (a : Addr) (ns : List Int) (H' : Hp), Same H H' → SqT K H' a ((p0 :: ns).map V.int) → Greedy rows gs k0 (p0 :: ns) → Q (.ref a) H'
theorem scShort : FnScope ["chart", "far", "point", "walk"] ["chart", "far", "point"] (defScope sShort) := ⟨rfl, rfl, rfl, by decide +kernel, rfl, by decide +kernel, by decide +kernel⟩
theorem ok_short {k : Nat} (F : Fun K "shortest" "shortest" sShort f fd) (T : Free mg) (cN : ∀ S E, Cal P w K mg base "nearest" k ["points", "far"] (spNear K S E)) : FnOk P w K mg base CX0 (k + 1) f fd ["chart", "far", "point"] (spShort K) := by
  refine F.ok scShort (fun vs H Q E' h => ?_) (fun cdv A outer s H vs Q E' hr h => ?_)
  · obtain ⟨x, rows, gs, F, kvs, p0, k0, rfl, _⟩ := h
    rfl
  obtain ⟨x, rows, gs, F, kvs, p0, k0, rfl, hx, hrw, srt, hF, far, hgs, d0, q⟩ := h
  have hu : (A.deeper (PyProof.Rows.envOfC "shortest" (defScope sShort) s.heap.objs.size f cdv)).units + 1 < cLine := Nat.lt_of_le_of_lt (Nat.add_le_add_left (by decide : 1 ≤ 64) _) hr.units
  refine ⟨_, pss_cons (ps_set (i := 3) scShort.nd rfl (.inl rfl) (pe_lst (pa_cons (pv 2) pa_nil)))
    (pss_cons (ps_while PassesOwn.never (pt_cmpR op_gt (pe_dget hu (pv 1) (pv 2) (fun _ _ => rfl)) pe_int (nomark _))
      (pss_cons (ps_set (i := 2) scShort.nd rfl (.inl rfl) (pe_cal (cN (inP gs) (backE rows)) hr rfl (pa_cons (pe_ix ix_tup (pv 0) (pv 2) (fun _ _ => rfl)) (pa_cons (pv 1) pa_nil))))
      (pss_one (ps_expr (pe_bm PySem.F.plainAttrs_list PySem.F.slot_list_append PySem.F.type_list_append mt_append (pv 3) (pa_cons (pv 2) pa_nil))))))
    (pss_one (ps_ret (pe_callTy call_tuple_of rfl T.tuple (by decide +kernel) (pa_cons (pv 3) pa_nil))))), ?_⟩
  cases hx with
  | @tup ca cs _ cat ceach =>
  have hlen := hrw.len
  have hb : ∀ (j : Nat) (q : Int), Rk (inP gs) (backE rows) j q → 0 ≤ q ∧ q < (rows.length : Int) := fun j q h => by
    cases j with
    | zero => exact hgs q h
    | succ j =>
      obtain ⟨r, _, e⟩ := h
      exact ⟨e.1, e.2.1⟩
  have l0 := d0.bound hb
  refine ⟨_, rfl, small (by show 1 ≤ 1000; decide), fun wa hwa => ?_⟩
  have n1 := same_new hwa (.lst [.int p0])
  refine ⟨fun m σ G => ∃ (pt : Int) (k : Nat) (pre : List Int), m = k ∧ σ = [some (.ref ca), some (.ref F), some (.int pt), some (.ref wa)] ∧ Same H G ∧ G wa = some (.lst ((pre ++ [pt]).map V.int)) ∧ Dk (inP gs) (backE rows) k pt ∧ pre.length + k = k0 ∧ ∀ r, Greedy rows gs k (pt :: r) → ∃ t, p0 :: t = pre ++ pt :: r ∧ Greedy rows gs k0 (p0 :: t),
    ⟨_, p0, k0, [], rfl, rfl, n1, upd_same, d0, by simp, fun r h => ⟨r, rfl, h⟩⟩, ?_⟩
  rintro m σ G ⟨pt, _, pre, rfl, rfl, sm, hG, dk, lp, ext⟩
  have vp := far.all pt m dk
  have hFG := sm _ _ hF
  refine ⟨_, rfl, _, rfl, F, _, rfl, (by have g := DGet.k (k := Sum.inl pt) hFG; rw [vp] at g; exact g), _, _, rfl, rfl, _, rfl, ?_⟩
  cases m with
  | zero =>
    refine ifF rfl ⟨_, rfl, wa, _, rfl, .inl ⟨SqL.of hG, fun l hl => ?_⟩⟩
    obtain ⟨t, e, g⟩ := ext [] dk.1
    have nl := same_new hl (.tup ((pre ++ [pt]).map V.int))
    exact q l t _ (sm.trans nl) (by rw [e]; exact SqT.of upd_same) g
  | succ k =>
    refine ifT (decide_eq_true (by omega)) ⟨fun σ' G' => ∃ m', m' < k + 1 ∧ ∃ (pt : Int) (k : Nat) (pre : List Int), m' = k ∧ σ' = [some (.ref ca), some (.ref F), some (.int pt), some (.ref wa)] ∧ Same H G' ∧ G' wa = some (.lst ((pre ++ [pt]).map V.int)) ∧ Dk (inP gs) (backE rows) k pt ∧ pre.length + k = k0 ∧ ∀ r, Greedy rows gs k (pt :: r) → ∃ t, p0 :: t = pre ++ pt :: r ∧ Greedy rows gs k0 (p0 :: t), fun σ' G' h => h, ?_⟩
    have rp := hb _ pt dk.1
    have hr' := List.getElem?_eq_getElem (show pt.toNat < rows.length by omega)
    generalize rows[pt.toNat] = row at hr'
    obtain ⟨b, hb', bat⟩ := ch_row ceach hr'
    have hra : rowAt rows pt = row := by
      unfold rowAt
      rw [List.getD_eq_getElem?_getD, hr']
      rfl
    refine ⟨_, rfl, _, rfl, ca, cs, pt, _, rfl, rfl, sqT_same sm cat, atI_at rp.1 hb', _, rfl, .ref b, row, F, kvs, rows.length, rfl, .tup (sqT_same sm bat) (dp_ints row), srt row (List.mem_of_getElem? hr'), hFG, far, fun r hn => ?_⟩
    obtain ⟨q0, hq0, e0⟩ := dk.pred
    have q0r : q0 ∈ row := by rw [← hra]; exact e0.2.2
    rcases hn with ⟨_, no⟩ | ⟨b', kb, rfl, mb, db, min⟩
    · exact absurd hq0 (no q0 q0r k)
    · have ek : kb = k := by
        rcases min q0 q0r k hq0 with y | ⟨y, _⟩
        · exact absurd (show Rk (inP gs) (backE rows) (kb + 1) pt from ⟨b', db.1, rp.1, rp.2, by rw [hra]; exact mb⟩) (dk.2 (kb + 1) (by omega))
        · exact y
      subst ek
      refine ⟨_, rfl, .inl ⟨rfl, _, SqL.of hG⟩, _, rfl, wa, _, _, rfl, rfl, hG, Nat.lt_of_lt_of_le (show _ < 1000 by rw [List.length_map, List.length_append]; show _ + 1 < _; omega) (small (Nat.le_refl _)), kb, Nat.lt_succ_self _, b', kb, pre ++ [pt], rfl, rfl, same_upd sm hwa, by rw [upd_same, List.map_append, List.map_append, List.map_append]; rfl, db, by rw [List.length_append]; show _ + 1 + _ = _; omega, fun r g => ?_⟩
      obtain ⟨t, e, g'⟩ := ext (b' :: r) ⟨dk, by rw [hra]; exact mb, fun x hx dx => by
        rcases min x (by rw [← hra]; exact hx) kb dx with y | ⟨_, y⟩
        · omega
        · exact y, g⟩
      exact ⟨t, by rw [e, List.append_assoc]; rfl, g'⟩
end
/-! nearest, shortest, as far as m -/
def NearTo (S : Int → Prop) (E : Int → Int → Prop) (m : Nat) (ps : List Int) (r : V) : Prop :=
  (r = .non ∧ ∀ p ∈ ps, ∀ k, k ≤ m → ¬ Dk S E k p) ∨ ∃ (b : Int) (k : Nat), r = .int b ∧ b ∈ ps ∧ k ≤ m ∧ Dk S E k b ∧ ∀ q ∈ ps, ∀ j, Dk S E j q → k < j ∨ (k = j ∧ b ≤ q)
section
variable {P : Program} {w : World} {K : PySem.W.Frag} {mg : Str → Option Value} {base : Heap} {f : Addr} {fd : FuncData}
def spNearTo (K : PySem.W.Frag) : Sp := fun vs H Q _ => ∃ (S : Int → Prop) (E : Int → Int → Prop) (m : Nat) (x : V) (ps : List Int) (F : Addr) (kvs : List (Key × V)) (n : Nat), vs = [x, .ref F] ∧ Dp K H x (.tuple (ps.map .int)) ∧ ps.Pairwise (· < ·) ∧ H F = some (.dK kvs) ∧ FarTo S E n m kvs ∧ ∀ r, NearTo S E m ps r → Q r H
theorem scNearT : FnScope ["points", "far", "best", "point"] ["points", "far"] (defScope sNear) := ⟨rfl, rfl, rfl, by decide +kernel, rfl, by decide +kernel, by decide +kernel⟩
theorem ok_nearTo {k : Nat} (F : Fun K "nearest" "nearest" sNear f fd) : FnOk P w K mg base CX0 (k + 1) f fd ["points", "far"] (spNearTo K) := by
  refine F.ok scNearT (fun vs H Q E' h => ?_) (fun cdv A outer s H vs Q E' hr h => ?_)
  · obtain ⟨S, E, m, x, ps, F, kvs, n, rfl, _⟩ := h
    rfl
  obtain ⟨S, E, m, x, ps, F, kvs, n, rfl, hx, srt, hF, far, q⟩ := h
  have hu : (A.deeper (PyProof.Rows.envOfC "nearest" (defScope sNear) s.heap.objs.size f cdv)).units + 1 < cLine := Nat.lt_of_le_of_lt (Nat.add_le_add_left (by decide : 1 ≤ 64) _) hr.units
  refine ⟨_, pss_cons (ps_set (i := 2) scNearT.nd rfl (.inl rfl) pe_non)
    (pss_cons (ps_for PassesOwn.never rfl (pi_tup (pv 0)) (pg_name (i := 3) scNearT.nd rfl (.inl rfl))
      (pss_one (ps_if (PW.pt (pw_and (pt_cmp (pc_din hu (pv 3) (pv 1))) (pw_and1 (PW.pt (pw_or (pt_cmpR op_isN (pv 2) pe_non (nomark _)) (pw_or1 (pt_cmpR op_lt (pe_dget hu (pv 1) (pv 3) (fun _ _ => rfl)) (pe_dget hu (pv 1) (pv 2) (fun _ _ => rfl)) (nomark _))))))))
        (pss_one (ps_set (i := 2) scNearT.nd rfl (.inl rfl) (pv 3))) pss_nil)))
    (pss_one (ps_ret (pv 2)))), ?_⟩
  obtain ⟨a, rfl, at_⟩ := ints_at hx
  refine ⟨_, rfl, a, rfl, ⟨_, at_⟩, ?_⟩
  refine for_tup (xs := ps.map V.int) (fun i σ G => ∃ (r : V) (o3 : Option V), σ = [some (.ref a), some (.ref F), some r, o3] ∧ G = H ∧ NearTo S E m (ps.take i) r) ⟨.non, _, rfl, rfl, .inl ⟨rfl, fun p hp => by simp at hp⟩⟩ (fun i σ G _ h => by obtain ⟨_, _, _, rfl, _⟩ := h; exact at_) (fun i v σ G hv h => ?_) (fun σ G h => ?_)
  · obtain ⟨r, o3, rfl, rfl, hn⟩ := h
    obtain ⟨p, hp, rfl⟩ := ints_get hv
    have et : ps.take (i + 1) = ps.take i ++ [p] := by rw [List.take_add_one, hp]; rfl
    have less : ∀ b ∈ ps.take i, b < p := fun b hb => by
      have := srt.sublist (List.take_sublist (i + 1) ps)
      rw [et] at this
      exact (List.pairwise_append.mp this).2.2 b hb p (by simp)
    refine ⟨_, rfl, _, rfl, F, _, rfl, DGet.k (k := Sum.inl p) hF, _, rfl, ?_⟩
    have split2 : ∀ {Pq : Int → Prop}, (∀ q ∈ ps.take i, Pq q) → Pq p → ∀ q ∈ ps.take (i + 1), Pq q := fun h1 h2 q hq => by
      rw [et] at hq
      rcases List.mem_append.mp hq with hq | hq
      · exact h1 q hq
      · rw [List.mem_singleton.mp hq]
        exact h2
    cases hval : valV kvs (Sum.inl p) with
    | none =>
      refine ifF rfl (ifF rfl ⟨r, _, rfl, rfl, ?_⟩)
      have no : ∀ k, k ≤ m → ¬ Dk S E k p := fun k hk d => by
        have := far.all p k hk d
        rw [hval] at this
        cases this
      rcases hn with ⟨e, h1⟩ | ⟨b, k, e, h1, hkm, h2, h3⟩
      · exact .inl ⟨e, split2 h1 no⟩
      · exact .inr ⟨b, k, e, by rw [et]; exact List.mem_append_left _ h1, hkm, h2, split2 h3 fun j d => .inl (by
          by_cases c : j ≤ m
          · exact absurd d (no j c)
          · omega)⟩
    | some u =>
      obtain ⟨kp, hkp, rfl, dp⟩ := far.snd p u hval
      have mp : p ∈ ps.take (i + 1) := by rw [et]; simp
      rcases hn with ⟨e, h1⟩ | ⟨b, k, e, h1, hkm, h2, h3⟩
      · subst e
        refine ifT rfl ⟨_, rfl, rfl, _, rfl, ifT rfl (ifT rfl ⟨_, rfl, _, _, rfl, rfl, .inr ⟨p, kp, rfl, mp, hkp, dp, split2 (fun q hq j d => .inl (by
          by_cases c : j ≤ m
          · exact absurd d (h1 q hq j c)
          · omega)) fun j d => .inr ⟨dp.uniq d, Int.le_refl _⟩⟩⟩)⟩
      · subst e
        have vb := far.all b k hkm h2
        refine ifT rfl ⟨_, rfl, rfl, _, rfl, ifF rfl ⟨_, rfl, _, rfl, F, _, rfl, (by have g := DGet.k (k := Sum.inl p) hF; rw [hval] at g; exact g), _, rfl, _, rfl, F, _, rfl, (by have g := DGet.k (k := Sum.inl b) hF; rw [vb] at g; exact g), _, _, rfl, rfl, _, rfl, ?_⟩⟩
        by_cases c : kp < k
        · refine ifT (decide_eq_true (by omega)) ⟨_, rfl, _, _, rfl, rfl, .inr ⟨p, kp, rfl, mp, hkp, dp, split2 (fun q hq j d => ?_) fun j d => .inr ⟨dp.uniq d, Int.le_refl _⟩⟩⟩
          rcases h3 q hq j d with y | ⟨y, _⟩ <;> exact .inl (by omega)
        · refine ifF (decide_eq_false (by omega)) ⟨_, _, rfl, rfl, .inr ⟨b, k, rfl, by rw [et]; exact List.mem_append_left _ h1, hkm, h2, split2 h3 fun j d => ?_⟩⟩
          have := dp.uniq d
          have := less b h1
          by_cases c2 : k = kp
          · exact .inr ⟨by omega, by omega⟩
          · exact .inl (by omega)
  · obtain ⟨r, o3, rfl, rfl, hn⟩ := h
    rw [List.length_map, List.take_length] at hn
    exact ⟨_, rfl, q r hn⟩
def spShortC (K : PySem.W.Frag) : Sp := fun vs H Q _ => ∃ (x : V) (rows : List (List Int)) (p : Int) (mx : Nat) (F : Addr) (kvs : List (Key × V)) (p0 : Int) (k0 : Nat), vs = [x, .ref F, .int p0] ∧ Dp K H x (chD rows) ∧ RwOk rows ∧ (∀ ns ∈ rows, ns.Pairwise (· < ·)) ∧ H F = some (.dK kvs) ∧ FarTo (inP [p]) (backE (resR rows p)) rows.length mx kvs ∧ 0 ≤ p ∧ p < (rows.length : Int) ∧ k0 ≤ mx ∧ Dk (inP [p]) (backE (resR rows p)) k0 p0 ∧
  ∀ (a : Addr) (ns : List Int) (H' : Hp), Same H H' → SqT K H' a ((p0 :: ns).map V.int) → Greedy (resR rows p) [p] k0 (p0 :: ns) → Q (.ref a) H'
theorem scShortC : FnScope ["chart", "far", "point", "walk"] ["chart", "far", "point"] (defScope sShort) := ⟨rfl, rfl, rfl, by decide +kernel, rfl, by decide +kernel, by decide +kernel⟩
theorem ok_shortC {k : Nat} (F : Fun K "shortest" "shortest" sShort f fd) (T : Free mg) (cN : Cal P w K mg base "nearest" k ["points", "far"] (spNearTo K)) : FnOk P w K mg base CX0 (k + 1) f fd ["chart", "far", "point"] (spShortC K) := by
  refine F.ok scShortC (fun vs H Q E' h => ?_) (fun cdv A outer s H vs Q E' hr h => ?_)
  · obtain ⟨x, rows, p, mx, F, kvs, p0, k0, rfl, _⟩ := h
    rfl
  obtain ⟨x, rows, p, mx, F, kvs, p0, k0, rfl, hx, hrw, srt, hF, far, pz, pn, k0m, d0, q⟩ := h
  have hu : (A.deeper (PyProof.Rows.envOfC "shortest" (defScope sShort) s.heap.objs.size f cdv)).units + 1 < cLine := Nat.lt_of_le_of_lt (Nat.add_le_add_left (by decide : 1 ≤ 64) _) hr.units
  refine ⟨_, pss_cons (ps_set (i := 3) scShortC.nd rfl (.inl rfl) (pe_lst (pa_cons (pv 2) pa_nil)))
    (pss_cons (ps_while PassesOwn.never (pt_cmpR op_gt (pe_dget hu (pv 1) (pv 2) (fun _ _ => rfl)) pe_int (nomark _))
      (pss_cons (ps_set (i := 2) scShortC.nd rfl (.inl rfl) (pe_cal cN hr rfl (pa_cons (pe_ix ix_tup (pv 0) (pv 2) (fun _ _ => rfl)) (pa_cons (pv 1) pa_nil))))
      (pss_one (ps_expr (pe_bm PySem.F.plainAttrs_list PySem.F.slot_list_append PySem.F.type_list_append mt_append (pv 3) (pa_cons (pv 2) pa_nil))))))
    (pss_one (ps_ret (pe_callTy call_tuple_of rfl T.tuple (by decide +kernel) (pa_cons (pv 3) pa_nil))))), ?_⟩
  cases hx with
  | @tup ca cs _ cat ceach =>
  have hlen := hrw.len
  have hb : ∀ (j : Nat) (q : Int), Rk (inP [p]) (backE (resR rows p)) j q → 0 ≤ q ∧ q < (rows.length : Int) := fun j q h => by
    cases j with
    | zero =>
      have h : q ∈ [p] := h
      rw [List.mem_singleton.mp h]
      exact ⟨pz, pn⟩
    | succ j =>
      obtain ⟨r, _, e⟩ := h
      exact ⟨e.1, by have := e.2.1; rw [resR_len] at this; exact this⟩
  have hge : ∀ (j : Nat) (q : Int), Rk (inP [p]) (backE (resR rows p)) j q → p ≤ q := fun j q h => by
    cases j with
    | zero =>
      have h : q ∈ [p] := h
      rw [List.mem_singleton.mp h]
      exact Int.le_refl _
    | succ j =>
      obtain ⟨r, _, e⟩ := h
      exact ((mem_resR e.1).mp e.2.2).1
  have l0 := d0.bound hb
  refine ⟨_, rfl, small (by show 1 ≤ 1000; decide), fun wa hwa => ?_⟩
  have n1 := same_new hwa (.lst [.int p0])
  refine ⟨fun m σ G => ∃ (pt : Int) (k : Nat) (pre : List Int), m = k ∧ σ = [some (.ref ca), some (.ref F), some (.int pt), some (.ref wa)] ∧ Same H G ∧ G wa = some (.lst ((pre ++ [pt]).map V.int)) ∧ Dk (inP [p]) (backE (resR rows p)) k pt ∧ pre.length + k = k0 ∧ ∀ r, Greedy (resR rows p) [p] k (pt :: r) → ∃ t, p0 :: t = pre ++ pt :: r ∧ Greedy (resR rows p) [p] k0 (p0 :: t),
    ⟨_, p0, k0, [], rfl, rfl, n1, upd_same, d0, by simp, fun r h => ⟨r, rfl, h⟩⟩, ?_⟩
  rintro m σ G ⟨pt, _, pre, rfl, rfl, sm, hG, dk, lp, ext⟩
  have vp := far.all pt m (by omega) dk
  have hFG := sm _ _ hF
  refine ⟨_, rfl, _, rfl, F, _, rfl, (by have g := DGet.k (k := Sum.inl pt) hFG; rw [vp] at g; exact g), _, _, rfl, rfl, _, rfl, ?_⟩
  cases m with
  | zero =>
    refine ifF rfl ⟨_, rfl, wa, _, rfl, .inl ⟨SqL.of hG, fun l hl => ?_⟩⟩
    obtain ⟨t, e, g⟩ := ext [] dk.1
    have nl := same_new hl (.tup ((pre ++ [pt]).map V.int))
    exact q l t _ (sm.trans nl) (by rw [e]; exact SqT.of upd_same) g
  | succ k =>
    refine ifT (decide_eq_true (by omega)) ⟨fun σ' G' => ∃ m', m' < k + 1 ∧ ∃ (pt : Int) (k : Nat) (pre : List Int), m' = k ∧ σ' = [some (.ref ca), some (.ref F), some (.int pt), some (.ref wa)] ∧ Same H G' ∧ G' wa = some (.lst ((pre ++ [pt]).map V.int)) ∧ Dk (inP [p]) (backE (resR rows p)) k pt ∧ pre.length + k = k0 ∧ ∀ r, Greedy (resR rows p) [p] k (pt :: r) → ∃ t, p0 :: t = pre ++ pt :: r ∧ Greedy (resR rows p) [p] k0 (p0 :: t), fun σ' G' h => h, ?_⟩
    have rp := hb _ pt dk.1
    have hr' := List.getElem?_eq_getElem (show pt.toNat < rows.length by omega)
    generalize rows[pt.toNat] = row at hr'
    obtain ⟨b, hb', bat⟩ := ch_row ceach hr'
    have hra : rowAt rows pt = row := by
      unfold rowAt
      rw [List.getD_eq_getElem?_getD, hr']
      rfl
    refine ⟨_, rfl, _, rfl, ca, cs, pt, _, rfl, rfl, sqT_same sm cat, atI_at rp.1 hb', _, rfl, inP [p], backE (resR rows p), mx, .ref b, row, F, kvs, rows.length, rfl, .tup (sqT_same sm bat) (dp_ints row), srt row (List.mem_of_getElem? hr'), hFG, far, fun r hn => ?_⟩
    obtain ⟨q0, hq0, e0⟩ := dk.pred
    have q0r : q0 ∈ row := by rw [← hra]; exact ((mem_resR e0.1).mp e0.2.2).2.2
    rcases hn with ⟨_, no⟩ | ⟨b', kb, rfl, mb, _, db, min⟩
    · exact absurd hq0 (no q0 q0r k (by omega))
    · have mb2 : b' ∈ rowAt (resR rows p) pt := (mem_resR rp.1).mpr ⟨hge _ pt dk.1, hge _ b' db.1, by rw [hra]; exact mb⟩
      have ek : kb = k := by
        rcases min q0 q0r k hq0 with y | ⟨y, _⟩
        · exact absurd (show Rk (inP [p]) (backE (resR rows p)) (kb + 1) pt from ⟨b', db.1, rp.1, by rw [resR_len]; exact rp.2, mb2⟩) (dk.2 (kb + 1) (by omega))
        · exact y
      subst ek
      refine ⟨_, rfl, .inl ⟨rfl, _, SqL.of hG⟩, _, rfl, wa, _, _, rfl, rfl, hG, Nat.lt_of_lt_of_le (show _ < 1000 by rw [List.length_map, List.length_append]; show _ + 1 < _; omega) (small (Nat.le_refl _)), kb, Nat.lt_succ_self _, b', kb, pre ++ [pt], rfl, rfl, same_upd sm hwa, by rw [upd_same, List.map_append, List.map_append, List.map_append]; rfl, db, by rw [List.length_append]; show _ + 1 + _ = _; omega, fun r g => ?_⟩
      obtain ⟨t, e, g'⟩ := ext (b' :: r) ⟨dk, mb2, fun x hx dx => by
        rcases min x (by rw [← hra]; exact ((mem_resR rp.1).mp hx).2.2) kb dx with y | ⟨_, y⟩
        · omega
        · exact y, g⟩
      exact ⟨t, by rw [e, List.append_assoc]; rfl, g'⟩
end
/-! paper -/
def PapD (rows : List (List Int)) (ss gs : List Int) (d : PyData) : Prop :=
  (∃ ns, d = .tuple [.str "way", .tuple (ns.map .int)] ∧ LeastW rows ss gs ns) ∨
  (∃ ms : List Int, d = .tuple [.str "bar", .tuple (ms.map .int)] ∧ (∀ ns, ¬ WayP rows ss gs ns) ∧ ms.Pairwise (· < ·) ∧ ∀ p, p ∈ ms ↔ ∃ k, Rk (inP ss) (foreE rows) k p)
/-- a case that is one -/
structure CasP (K : PySem.W.Frag) (H : Hp) (x y z : V) (rows : List (List Int)) (ss gs : List Int) : Prop where
  ch : Dp K H x (chD rows)
  rw : RwOk rows
  srt : ∀ ns ∈ rows, ns.Pairwise (· < ·)
  cd : chartD (chD rows) = true
  st : Dp K H y (.tuple (ss.map .int))
  sd : pointsD rows.length (.tuple (ss.map .int)) = true
  go : Dp K H z (.tuple (gs.map .int))
  gd : pointsD rows.length (.tuple (gs.map .int)) = true
theorem CasP.ext {K : PySem.W.Frag} {H H' : Hp} {x y z : V} {rows : List (List Int)} {ss gs : List Int} (c : CasP K H x y z rows ss gs) (e : LamX.ExtN H H') : CasP K H' x y z rows ss gs :=
  ⟨dp_ext e _ _ c.ch, c.rw, c.srt, c.cd, dp_ext e _ _ c.st, c.sd, dp_ext e _ _ c.go, c.gd⟩
theorem pd_law {n : Nat} {ns : List Int} (h : pointsD n (.tuple (ns.map .int)) = true) : ns.Pairwise (· < ·) ∧ ∀ i ∈ ns, 0 ≤ i ∧ i < (n : Int) := (pts_law ns 0).mp h
section
variable {P : Program} {w : World} {K : PySem.W.Frag} {mg : Str → Option Value} {base : Heap} {f : Addr} {fd : FuncData}
def spPaper (K : PySem.W.Frag) (PT : TbP) : Sp := fun vs H Q _ => ∃ (x y z : V) (rows : List (List Int)) (ss gs : List Int), vs = [x, y, z] ∧ CasP K H x y z rows ss gs ∧ TabsG PT H ∧ ∀ v d H', LamX.ExtN H H' → TabsG PT H' → Dp K H' v d → PapD rows ss gs d → Q v H'
theorem scPaper : FnScope ["chart", "starts", "goals", "far", "start"] ["chart", "starts", "goals"] (defScope sPaper) := ⟨rfl, rfl, rfl, by decide +kernel, rfl, by decide +kernel, by decide +kernel⟩
theorem ok_paper {k : Nat} {PT : TbP} (F : Fun K "paper" "paper" sPaper f fd) (T : Free mg) (hSo : mg "sorted" = none) (cC : Cal P w K mg base "check_case" k ["chart", "starts", "goals"] (spCheckCase K PT)) (cB : Cal P w K mg base "befores_of" k ["chart"] (spBef K)) (cDT : Cal P w K mg base "distances" k ["links", "origins", "least", "most"] (spDistT K)) (cDL : Cal P w K mg base "distances" k ["links", "origins", "least", "most"] (spDistL K))
    (cN : ∀ S E, Cal P w K mg base "nearest" k ["points", "far"] (spNear K S E)) (cS : Cal P w K mg base "shortest" k ["chart", "far", "point"] (spShort K)) : FnOk P w K mg base CX0 (k + 1) f fd ["chart", "starts", "goals"] (spPaper K PT) := by
  refine F.ok scPaper (fun vs H Q E' h => ?_) (fun cdv A outer s H vs Q E' hr h => ?_)
  · obtain ⟨x, y, z, rows, ss, gs, rfl, _⟩ := h
    rfl
  obtain ⟨x, y, z, rows, ss, gs, rfl, ca, tb, q⟩ := h
  refine ⟨_, pss_cons (ps_expr (pe_cal cC hr rfl (pa_cons (pv 0) (pa_cons (pv 1) (pa_cons (pv 2) pa_nil)))))
    (pss_cons (ps_set (i := 3) scPaper.nd rfl (.inl rfl) (pe_cal cDL hr rfl (pa_cons (pe_cal cB hr rfl (pa_cons (pv 0) pa_nil)) (pa_cons (pv 2) (pa_cons pe_int (pa_cons (pe_callB call_len_seq rfl T.len PySem.boot_len (pa_cons (pv 0) pa_nil)) pa_nil))))))
    (pss_cons (ps_set (i := 4) scPaper.nd rfl (.inl rfl) (pe_cal (cN (inP gs) (backE rows)) hr rfl (pa_cons (pv 1) (pa_cons (pv 3) pa_nil))))
    (pss_cons (ps_if (pt_cmpR op_isN (pv 4) pe_non (nomark _)) (pss_one (ps_ret (pe_tup (pa_cons pe_str (pa_cons (pe_callTy call_tuple_of rfl T.tuple (by decide +kernel) (pa_cons (pe_callB (call_sortedDI rfl) rfl hSo (by decide +kernel) (pa_cons (pe_cal cDT hr rfl (pa_cons (pv 0) (pa_cons (pv 1) (pa_cons pe_int (pa_cons (pe_callB call_len_seq rfl T.len PySem.boot_len (pa_cons (pv 0) pa_nil)) pa_nil))))) pa_nil)) pa_nil)) pa_nil))))) pss_nil)
    (pss_one (ps_ret (pe_tup (pa_cons pe_str (pa_cons (pe_cal cS hr rfl (pa_cons (pv 0) (pa_cons (pv 3) (pa_cons (pv 4) pa_nil)))) pa_nil)))))))), ?_⟩
  have lr : ((rows.map fun ns => PyData.tuple (ns.map .int)).length : Int) = rows.length := by rw [List.length_map]
  refine ⟨_, rfl, _, rfl, _, rfl, x, y, z, _, _, _, rfl, ca.ch, ca.st, ca.go, ca.cd, by rw [lr]; exact ca.sd, by rw [lr]; exact ca.gd, tb, fun H1 e1 t1 => ?_⟩
  have c1 := ca.ext e1
  obtain ⟨psS, rgS⟩ := pd_law ca.sd
  obtain ⟨psG, rgG⟩ := pd_law ca.gd
  have ndS : ss.Nodup := psS.imp fun h e => by omega
  have ndG : gs.Nodup := psG.imp fun h e => by omega
  have hlen := ca.rw.len
  have hr : ∀ a b, b ∈ rowAt rows a → 0 ≤ a → 0 ≤ b ∧ b < (rows.length : Int) := fun a b h h0 => by
    unfold rowAt at h
    rw [List.getD_eq_getElem?_getD] at h
    cases e : rows[a.toNat]? with
    | none => rw [e] at h; cases h
    | some row =>
      rw [e] at h
      exact (ca.rw.row row (List.mem_of_getElem? e)).2 b h
  obtain ⟨xa, cs, rfl, cat, lc⟩ : ∃ xa cs, x = .ref xa ∧ SqT K H1 xa cs ∧ cs.length = rows.length := by
    have hch := c1.ch
    cases hch with
    | @tup a cs _ at_ each => exact ⟨a, cs, rfl, at_, by have := dpAll_len each; rw [List.length_map] at this; exact this⟩
  refine ⟨_, rfl, .ref xa, rows, rfl, c1.ch, ca.rw, ca.srt, fun B H2 s2 hB => ?_⟩
  have c2 := c1.ext (ext_same s2)
  refine ⟨_, rfl, _, rfl, xa, cs, rfl, .inr (sqT_same s2 cat), ?_⟩
  rw [lc]
  refine ⟨.ref B, z, B, rows, gs, rfl, rfl, hB, ca.rw, c2.go, ndG, rgG, fun F kvs H3 s3 hF far => ?_⟩
  have c3 := c2.ext (ext_same s3)
  have t3 := (t1.same s2).same s3
  have e3 := e1.trans ((ext_same s2).trans (ext_same s3))
  refine ⟨_, rfl, _, rfl, y, ss, F, kvs, rows.length, rfl, c3.st, psS, hF, far, fun r hn => ?_⟩
  rcases hn with ⟨rfl, no⟩ | ⟨b, kb, rfl, mb, db, min⟩
  · refine ⟨_, rfl, rfl, _, rfl, ifT rfl ?_⟩
    refine ⟨_, rfl, _, rfl, _, rfl, xa, cs, rfl, .inr (sqT_same (s2.trans s3) cat), ?_⟩
    rw [lc]
    refine ⟨.ref xa, y, rows, ss, rfl, c3.ch, ca.rw, c3.st, ndS, rgS, fun F4 kvs4 H4 s4 hF4 far4 => ?_⟩
    obtain ⟨ks, k1, k2, k3⟩ := far4.keys
    have lks := nodup_len rows.length ks k2 k3
    refine ⟨F4, kvs4, ks, rfl, .inl hF4, k1, by omega, fun ys p5 perm srt f5 => ?_⟩
    refine ⟨p5, _, rfl, .inl ⟨SqL.of upd_same, fun p6 f6 => ⟨small (by show 2 ≤ 1000; decide), fun p7 f7 => ?_⟩⟩⟩
    have n5 := same_new f5 (.lst (ys.map V.int))
    have n6 := same_new f6 (.tup (ys.map V.int))
    have n7 := same_new f7 (.tup [.str "bar", .ref p6])
    have sA := s4.trans (n5.trans (n6.trans n7))
    refine q _ (.tuple [.str "bar", .tuple (ys.map .int)]) _ (e3.trans (ext_same sA)) (t3.same sA) (.tup (SqT.of upd_same) (.cons (.str _) (.cons (.tup (sqT_same n7 (SqT.of upd_same)) (dp_ints ys)) .nil))) (.inr ⟨ys, rfl, fun ns hw => ?_, ?_, fun p => ?_⟩)
    · obtain ⟨⟨s0, r0, rfl, hs0⟩, he, hc⟩ := hw
      obtain ⟨j, _, d⟩ := (way_far hr r0 s0 (rgS s0 hs0) hc he).ex
      exact no s0 hs0 j d
    · have ndy : ys.Nodup := perm.nodup_iff.mpr k2
      refine List.Pairwise.imp₂ ?_ srt ndy
      exact fun a b h1 h2 => by omega
    · rw [perm.mem_iff]
      constructor
      · intro hp
        have hm : (Sum.inl p : Key) ∈ kvs4.map (·.1) := by rw [k1]; exact List.mem_map.mpr ⟨p, hp, rfl⟩
        obtain ⟨kv, m1, m2⟩ := List.mem_map.mp hm
        have zz : (kvs4.any fun kv => decide (kv.1 = (Sum.inl p : Key))) = true := List.any_eq_true.mpr ⟨kv, m1, decide_eq_true m2⟩
        rw [valV_any] at zz
        obtain ⟨v, hv⟩ := Option.isSome_iff_exists.mp zz
        obtain ⟨j, _, d⟩ := far4.snd p v hv
        exact ⟨j, d.1⟩
      · rintro ⟨j, hj⟩
        obtain ⟨i, _, d⟩ := hj.ex
        have hv := far4.all p i d
        have zz : (kvs4.any fun kv => decide (kv.1 = (Sum.inl p : Key))) = true := by rw [valV_any, hv]; rfl
        obtain ⟨kv, m1, m2⟩ := List.any_eq_true.mp zz
        have hm : (Sum.inl p : Key) ∈ kvs4.map (·.1) := List.mem_map.mpr ⟨kv, m1, of_decide_eq_true m2⟩
        rw [k1] at hm
        obtain ⟨p', hp', e⟩ := List.mem_map.mp hm
        rw [← Sum.inl.inj e]
        exact hp'
  · refine ⟨_, rfl, rfl, _, rfl, ifF rfl ?_⟩
    refine ⟨_, rfl, _, rfl, _, rfl, .ref xa, rows, gs, F, kvs, b, kb, rfl, c3.ch, ca.rw, ca.srt, hF, far, rgG, db, fun a ns H4 s4 ha g => ⟨small (by show 2 ≤ 1000; decide), fun p7 f7 => ?_⟩⟩
    have n7 := same_new f7 (.tup [.str "way", .ref a])
    have sA := s4.trans n7
    exact q _ (.tuple [.str "way", .tuple ((b :: ns).map .int)]) _ (e3.trans (ext_same sA)) (t3.same sA) (.tup (SqT.of upd_same) (.cons (.str _) (.cons (.tup (sqT_same n7 ha) (dp_ints _)) .nil))) (.inl ⟨b :: ns, rfl, least_of hr rgS mb db min g⟩)
end
/-! least_ranks -/
def cntR (S row : List Int) : Nat := (row.filter fun q => decide (q ∉ S)).length
theorem cnt_out {S row : List Int} {p : Int} (hp : p ∉ row) : cntR (S ++ [p]) row = cntR S row := by
  unfold cntR
  rw [List.filter_congr fun q hq => ?_]
  have : q ≠ p := fun e => hp (by rw [← e]; exact hq)
  simp [this]
theorem cnt_in {S : List Int} {p : Int} (hS : p ∉ S) : ∀ {row : List Int}, row.Nodup → p ∈ row → cntR (S ++ [p]) row + 1 = cntR S row
  | [], _, hp => by cases hp
  | a :: r, nd, hp => by
    obtain ⟨n1, n2⟩ := List.nodup_cons.mp nd
    by_cases e : a = p
    · subst e
      have := cnt_out (S := S) n1
      unfold cntR at this ⊢
      rw [List.filter_cons, List.filter_cons]
      simp only [List.mem_append, List.mem_singleton, or_true, not_true, decide_false, Bool.false_eq_true, if_false, hS, not_false_eq_true, decide_true, if_true, List.length_cons]
      rw [← this]
      simp only [List.mem_append, List.mem_singleton]
    · have hr : p ∈ r := by
        rcases List.mem_cons.mp hp with h | h
        · exact absurd h.symm e
        · exact h
      have ih := cnt_in hS n2 hr
      unfold cntR at ih ⊢
      rw [List.filter_cons, List.filter_cons]
      have c : decide (a ∉ S ++ [p]) = decide (a ∉ S) := by simp [e]
      rw [c]
      by_cases h : a ∈ S
      · simp only [h, not_true, decide_false, Bool.false_eq_true, if_false]
        exact ih
      · simp only [h, not_false_eq_true, decide_true, if_true, List.length_cons]
        omega
theorem cnt_zero {S row : List Int} : cntR S row = 0 ↔ ∀ q ∈ row, q ∈ S := by
  unfold cntR
  rw [List.length_eq_zero_iff, List.filter_eq_nil_iff]
  constructor
  · intro h q hq
    have := h q hq
    simp only [decide_eq_true_eq, Classical.not_not] at this
    exact this
  · intro h q hq
    have := h q hq
    simp [this]
theorem nodup_sub : ∀ (l ds : List Int), l.Nodup → (∀ x ∈ l, x ∈ ds) → l.length ≤ ds.length
  | [], _, _, _ => Nat.zero_le _
  | a :: l, ds, nd, h => by
    obtain ⟨n1, n2⟩ := List.nodup_cons.mp nd
    have ha := h a List.mem_cons_self
    have := nodup_sub l (ds.erase a) n2 fun x hx => (List.mem_erase_of_ne (fun e => n1 (by rw [← e]; exact hx))).mpr (h x (List.mem_cons_of_mem _ hx))
    rw [List.length_erase_of_mem ha] at this
    have hp : 0 < ds.length := List.length_pos_of_mem ha
    rw [List.length_cons]
    omega
theorem rkAt_set {l : List Int} {b x v : Int} (b0 : 0 ≤ b) (x0 : 0 ≤ x) (hb : b < (l.length : Int)) : rkAt (l.set b.toNat v) x = if x = b then v else rkAt l x := by
  unfold rkAt
  rw [List.getD_eq_getElem?_getD, List.getD_eq_getElem?_getD]
  by_cases e : x = b
  · subst e
    rw [if_pos rfl, List.getElem?_set_self (by omega)]
    rfl
  · rw [if_neg e, List.getElem?_set_ne (by omega)]
structure RkInv (rows : List (List Int)) (r : Nat) (ds es rs us : List Int) : Prop where
  nd : (ds ++ es).Nodup
  rng : ∀ p ∈ ds ++ es, 0 ≤ p ∧ p < (rows.length : Int)
  lu : us.length = rows.length
  lr : rs.length = rows.length
  us : ∀ b, 0 ≤ b → b < (rows.length : Int) → rkAt us b = cntR ds (rowAt rows b)
  zero : ∀ b, 0 ≤ b → b < (rows.length : Int) → (cntR ds (rowAt rows b) = 0 ↔ b ∈ ds ++ es)
  rE : ∀ p ∈ es, rkAt rs p = r
  rD : ∀ p ∈ ds, 0 ≤ rkAt rs p ∧ rkAt rs p < (r : Int)
  fix : ∀ p ∈ ds ++ es, rkAt rs p = 0 ∨ ∃ q ∈ rowAt rows p, rkAt rs p = rkAt rs q + 1
  gt : ∀ p ∈ ds ++ es, ∀ q ∈ rowAt rows p, rkAt rs q < rkAt rs p
structure RkMid (rows : List (List Int)) (r : Nat) (ds es rs0 : List Int) (cu : Int → Nat) (rs us fs : List Int) : Prop where
  lu : us.length = rows.length
  lr : rs.length = rows.length
  us : ∀ b, 0 ≤ b → b < (rows.length : Int) → rkAt us b = cu b
  zero : ∀ b, 0 ≤ b → b < (rows.length : Int) → (cu b = 0 ↔ (b ∈ ds ++ es ∨ b ∈ fs))
  nd : fs.Nodup
  fr : ∀ b ∈ fs, (0 ≤ b ∧ b < (rows.length : Int)) ∧ b ∉ ds ++ es ∧ rkAt rs b = r + 1
  old : ∀ b ∈ ds ++ es, 0 ≤ b → rkAt rs b = rkAt rs0 b
section
variable {rows : List (List Int)} {r : Nat} {ds es rs0 us0 : List Int} {cu cu' : Int → Nat} {rs us fs : List Int}
theorem RkInv.mid (h : RkInv rows r ds es rs us) : RkMid rows r ds es rs (fun b => cntR ds (rowAt rows b)) rs us [] :=
  ⟨h.lu, h.lr, h.us, fun b b0 b1 => by rw [h.zero b b0 b1]; simp, List.nodup_nil, (fun b hb => by cases hb), fun b _ _ => rfl⟩
theorem RkMid.cong (h : RkMid rows r ds es rs0 cu rs us fs) (e : ∀ b, 0 ≤ b → b < (rows.length : Int) → cu' b = cu b) : RkMid rows r ds es rs0 cu' rs us fs :=
  ⟨h.lu, h.lr, fun b b0 b1 => by rw [e b b0 b1]; exact h.us b b0 b1, fun b b0 b1 => by rw [e b b0 b1]; exact h.zero b b0 b1, h.nd, h.fr, h.old⟩
theorem RkMid.less (h : RkMid rows r ds es rs0 cu rs us fs) {b : Int} {c : Nat} (b0 : 0 ≤ b) (b1 : b < (rows.length : Int)) (hc : cu b = c + 1) (c0 : c ≠ 0) (e : ∀ x, 0 ≤ x → x < (rows.length : Int) → cu' x = if x = b then c else cu x) : RkMid rows r ds es rs0 cu' rs (us.set b.toNat c) fs := by
  have lu := h.lu
  refine ⟨by rw [List.length_set]; exact lu, h.lr, fun x x0 x1 => ?_, fun x x0 x1 => ?_, h.nd, h.fr, h.old⟩
  · rw [rkAt_set b0 x0 (by omega), e x x0 x1]
    by_cases z : x = b
    · rw [if_pos z, if_pos z]
    · rw [if_neg z, if_neg z]
      exact h.us x x0 x1
  · rw [e x x0 x1]
    by_cases z : x = b
    · rw [if_pos z]
      have := h.zero b b0 b1
      rw [hc] at this
      rw [z, ← this]
      omega
    · rw [if_neg z]
      exact h.zero x x0 x1
theorem RkMid.last (h : RkMid rows r ds es rs0 cu rs us fs) {b : Int} (b0 : 0 ≤ b) (b1 : b < (rows.length : Int)) (hc : cu b = 0 + 1) (e : ∀ x, 0 ≤ x → x < (rows.length : Int) → cu' x = if x = b then 0 else cu x) : RkMid rows r ds es rs0 cu' (rs.set b.toNat (r + 1 : Nat)) (us.set b.toNat (0 : Nat)) (fs ++ [b]) := by
  have lu := h.lu
  have lr := h.lr
  have no := h.zero b b0 b1
  rw [hc] at no
  have nD : b ∉ ds ++ es := fun z => by have := no.mpr (.inl z); omega
  have nF : b ∉ fs := fun z => by have := no.mpr (.inr z); omega
  refine ⟨by rw [List.length_set]; exact lu, by rw [List.length_set]; exact lr, fun x x0 x1 => ?_, fun x x0 x1 => ?_, List.nodup_append.mpr ⟨h.nd, by simp, fun a ha c hc' q => nF (by rw [← List.mem_singleton.mp hc', ← q]; exact ha)⟩, fun x hx => ?_, fun x hx => ?_⟩
  · rw [rkAt_set b0 x0 (by omega), e x x0 x1]
    by_cases z : x = b
    · rw [if_pos z, if_pos z]
    · rw [if_neg z, if_neg z]
      exact h.us x x0 x1
  · rw [e x x0 x1, List.mem_append (s := fs), List.mem_singleton]
    by_cases z : x = b
    · rw [if_pos z]
      exact ⟨fun _ => .inr (.inr z), fun _ => rfl⟩
    · rw [if_neg z, h.zero x x0 x1]
      exact ⟨fun y => y.elim .inl fun y => .inr (.inl y), fun y => y.elim .inl fun y => y.elim .inr fun y => absurd y z⟩
  · rcases List.mem_append.mp hx with hx | hx
    · obtain ⟨y1, y2, y3⟩ := h.fr x hx
      refine ⟨y1, y2, ?_⟩
      rw [rkAt_set b0 y1.1 (by omega), if_neg (fun z => nF (by rw [← z]; exact hx))]
      exact y3
    · rw [List.mem_singleton.mp hx]
      refine ⟨⟨b0, b1⟩, nD, ?_⟩
      rw [rkAt_set b0 b0 (by omega), if_pos rfl]
      omega
  · intro x0
    rw [rkAt_set b0 x0 (by omega), if_neg (fun z => nD (by rw [← z]; exact hx))]
    exact h.old x hx x0
theorem RkMid.fin (h : RkInv rows r ds es rs0 us0) (m : RkMid rows r ds es rs0 cu rs us fs) (hr : RwOk rows) (hc : ∀ b, 0 ≤ b → b < (rows.length : Int) → cu b = cntR (ds ++ es) (rowAt rows b)) : RkInv rows (r + 1) (ds ++ es) fs rs us := by
  have old : ∀ p ∈ ds ++ es, rkAt rs p = rkAt rs0 p := fun p hp => m.old p hp (h.rng p hp).1
  have le : ∀ p ∈ ds ++ es, 0 ≤ rkAt rs p ∧ rkAt rs p ≤ (r : Int) := fun p hp => by
    rw [old p hp]
    rcases List.mem_append.mp hp with hp | hp
    · have := h.rD p hp
      omega
    · have := h.rE p hp
      omega
  have inD : ∀ p ∈ ds ++ es, ∀ q ∈ rowAt rows p, q ∈ ds := fun p hp q hq => by
    obtain ⟨p0, p1⟩ := h.rng p hp
    exact cnt_zero.mp ((h.zero p p0 p1).mpr hp) q hq
  have inE : ∀ p ∈ fs, ∀ q ∈ rowAt rows p, q ∈ ds ++ es := fun p hp q hq => by
    obtain ⟨⟨p0, p1⟩, _, _⟩ := m.fr p hp
    have z := (m.zero p p0 p1).mpr (.inr hp)
    rw [hc p p0 p1] at z
    exact cnt_zero.mp z q hq
  refine ⟨List.nodup_append.mpr ⟨h.nd, m.nd, fun a ha b hb e => (m.fr b hb).2.1 (by rw [← e]; exact ha)⟩, fun p hp => ?_, m.lu, m.lr, fun b b0 b1 => by rw [m.us b b0 b1, hc b b0 b1], fun b b0 b1 => ?_, fun p hp => ?_, fun p hp => ?_, fun p hp => ?_, fun p hp q hq => ?_⟩
  · rcases List.mem_append.mp hp with hp | hp
    · exact h.rng p hp
    · exact (m.fr p hp).1
  · rw [← hc b b0 b1, m.zero b b0 b1, List.mem_append (s := ds ++ es)]
  · have := (m.fr p hp).2.2
    omega
  · have := le p hp
    omega
  · rcases List.mem_append.mp hp with hp | hp
    · rw [old p hp]
      rcases h.fix p hp with y | ⟨q, hq, y⟩
      · exact .inl y
      · refine .inr ⟨q, hq, ?_⟩
        rw [old q (List.mem_append_left _ (inD p hp q hq))]
        exact y
    · obtain ⟨⟨p0, p1⟩, y2, y3⟩ := m.fr p hp
      have nz : ¬ ∀ q ∈ rowAt rows p, q ∈ ds := fun z => y2 ((h.zero p p0 p1).mp (cnt_zero.mpr z))
      obtain ⟨q, hq⟩ := Classical.not_forall.mp nz
      obtain ⟨hq, nq⟩ := Classical.not_imp.mp hq
      have qe : q ∈ es := by
        rcases List.mem_append.mp (inE p hp q hq) with z | z
        · exact absurd z nq
        · exact z
      refine .inr ⟨q, hq, ?_⟩
      rw [y3, old q (List.mem_append_right _ qe), h.rE q qe]
  · rcases List.mem_append.mp hp with hp | hp
    · rw [old p hp, old q (List.mem_append_left _ (inD p hp q hq))]
      exact h.gt p hp q hq
    · have := le q (inE p hp q hq)
      have := (m.fr p hp).2.2
      omega
theorem RkInv.full (h : RkInv rows r ds [] rs us) (e : ds.length = rows.length) : FixR rows rs := by
  have all : ∀ p, 0 ≤ p → p < (rows.length : Int) → p ∈ ds ++ [] := fun p p0 p1 => by
    rw [List.append_nil]
    refine Classical.byContradiction fun c => ?_
    have nd : (p :: ds).Nodup := List.nodup_cons.mpr ⟨c, by have := h.nd; rw [List.append_nil] at this; exact this⟩
    have := nodup_len rows.length (p :: ds) nd fun x hx => by
      rcases List.mem_cons.mp hx with rfl | hx
      · exact ⟨p0, p1⟩
      · exact h.rng x (List.mem_append_left _ hx)
    rw [List.length_cons] at this
    omega
  refine ⟨h.lr, fun p p0 p1 => ?_, fun p p0 p1 => h.gt p (all p p0 p1), fun p p0 p1 => h.fix p (all p p0 p1)⟩
  have := all p p0 p1
  rw [List.append_nil] at this
  exact (h.rD p this).1
theorem RkInv.ring (h : RkInv rows r ds [] rs us) (hr : RwOk rows) (e : ds.length ≠ rows.length) : ∃ ns, RingP rows ns := by
  have hle : ds.length ≤ rows.length := nodup_len rows.length ds (by have := h.nd; rw [List.append_nil] at this; exact this) fun x hx => h.rng x (List.mem_append_left _ hx)
  refine ring_of (U := fun p => (0 ≤ p ∧ p < (rows.length : Int)) ∧ p ∉ ds) (fun p hp => hp.1) ?_ fun p hp => ?_
  · refine Classical.byContradiction fun c => ?_
    have all : ∀ i : Nat, i < rows.length → (i : Int) ∈ ds := fun i hi => Classical.byContradiction fun z => c ⟨i, ⟨by omega, by omega⟩, z⟩
    have : ((List.range rows.length).map fun i : Nat => (i : Int)).length ≤ ds.length := by
      refine nodup_sub _ ds (List.Pairwise.map _ (fun a b h z => h (by omega)) List.nodup_range) fun x hx => ?_
      obtain ⟨i, hi, rfl⟩ := List.mem_map.mp hx
      exact all i (List.mem_range.mp hi)
    rw [List.length_map, List.length_range] at this
    omega
  · obtain ⟨⟨p0, p1⟩, np⟩ := hp
    have nz : ¬ ∀ q ∈ rowAt rows p, q ∈ ds := fun z => np (by have := (h.zero p p0 p1).mp (cnt_zero.mpr z); rw [List.append_nil] at this; exact this)
    obtain ⟨q, hq⟩ := Classical.not_forall.mp nz
    obtain ⟨hq, nq⟩ := Classical.not_imp.mp hq
    exact ⟨q, hq, row_rng hr hq, nq⟩
end
theorem ixN_at {n : Nat} {b : Int} (b0 : 0 ≤ b) (b1 : b < (n : Int)) : ixN n b = some b.toNat := by
  unfold ixN
  rw [if_pos b0, if_pos b1]
theorem rk_get {l : List Int} {b : Int} (b0 : 0 ≤ b) (b1 : b < (l.length : Int)) : (l.map V.int)[b.toNat]? = some (.int (rkAt l b)) := by
  unfold rkAt
  rw [List.getElem?_map, List.getD_eq_getElem?_getD, List.getElem?_eq_getElem (show b.toNat < l.length by omega)]
  rfl
/-! x[i] of a list, by values -/
section
variable {X : Cx}
def rGetL (K : PySem.W.Frag) : V → V → Hp → VK → Prop := fun o i H Q => ∃ (p : Addr) (xs : List V) (k : Int) (v : V), o = .ref p ∧ i = .int k ∧ 0 ≤ k ∧ SqL K H p xs ∧ xs[k.toNat]? = some v ∧ Q v H
theorem get_listP : PGet X (rGetL X.K) := by
  intro pins s σ H o i ov iv Q I ro ri h
  obtain ⟨p, xs, k, v, rfl, rfl, k0, hq, hv, q⟩ := h
  cases ro
  obtain ⟨t, rfl⟩ := ri
  obtain ⟨its, r, pl, hz⟩ := I.list hq
  obtain ⟨u, hu, ru⟩ := r.get hv
  have hk : k.toNat < xs.length := (List.getElem?_eq_some_iff.mp hv).1
  have hn := line63
  exact wpAny_getItem_list pl.isList k0 (by omega) (by simpa using hu) ⟨v, H, I, ru, q⟩
end
def edgeL (rows : List (List Int)) (i : Nat) : List Int := ((List.range i).map fun j : Nat => (j : Int)).filter fun p => (rowAt rows p).isEmpty
theorem edgeL_succ (rows : List (List Int)) (i : Nat) : edgeL rows (i + 1) = edgeL rows i ++ if (rowAt rows (i : Int)).isEmpty = true then [(i : Int)] else [] := by
  unfold edgeL
  rw [List.range_succ, List.map_append, List.filter_append]
  by_cases c : (rowAt rows (i : Int)).isEmpty = true
  · rw [if_pos c, List.map_cons, List.map_nil, List.filter_cons, if_pos c, List.filter_nil]
  · rw [if_neg c, List.map_cons, List.map_nil, List.filter_cons, if_neg c, List.filter_nil]
theorem edgeL_len (rows : List (List Int)) (i : Nat) : (edgeL rows i).length ≤ i := by
  unfold edgeL
  have := List.length_filter_le (fun p : Int => (rowAt rows p).isEmpty) ((List.range i).map fun j : Nat => (j : Int))
  rw [List.length_map, List.length_range] at this
  exact this
theorem edgeL_mem {rows : List (List Int)} {i : Nat} {p : Int} : p ∈ edgeL rows i ↔ (0 ≤ p ∧ p < (i : Int)) ∧ rowAt rows p = [] := by
  unfold edgeL
  rw [List.mem_filter, List.mem_map, List.isEmpty_iff]
  constructor
  · rintro ⟨⟨j, hj, rfl⟩, e⟩
    exact ⟨⟨by omega, by have := List.mem_range.mp hj; omega⟩, e⟩
  · rintro ⟨⟨h0, h1⟩, e⟩
    exact ⟨⟨p.toNat, List.mem_range.mpr (by omega), by omega⟩, e⟩
theorem rk_init (rows : List (List Int)) : RkInv rows 0 [] (edgeL rows rows.length) (List.replicate rows.length 0) (rows.map fun ns => (ns.length : Int)) := by
  have us : ∀ b, 0 ≤ b → b < (rows.length : Int) → rkAt (rows.map fun ns => (ns.length : Int)) b = cntR [] (rowAt rows b) := fun b b0 b1 => by
    unfold rkAt rowAt cntR
    rw [List.getD_eq_getElem?_getD, List.getD_eq_getElem?_getD, List.getElem?_map, List.getElem?_eq_getElem (show b.toNat < rows.length by omega)]
    have e : (fun q : Int => decide (q ∉ ([] : List Int))) = fun _ => true := by funext q; simp
    rw [e, List.filter_eq_self.mpr (fun _ _ => rfl)]
    rfl
  have z0 : ∀ p, rkAt (List.replicate rows.length (0 : Int)) p = 0 := fun p => by
    unfold rkAt
    rw [List.getD_eq_getElem?_getD, List.getElem?_replicate]
    split <;> rfl
  refine ⟨?_, fun p hp => (edgeL_mem.mp hp).1, by rw [List.length_map], List.length_replicate, us, fun b b0 b1 => ?_, fun p hp => z0 p, (fun p hp => by cases hp), fun p hp => .inl (z0 p), fun p hp q hq => ?_⟩
  · show (edgeL rows rows.length).Nodup
    unfold edgeL
    exact List.Nodup.sublist List.filter_sublist (List.Pairwise.map _ (fun a b h z => h (by omega)) List.nodup_range)
  · rw [List.nil_append, edgeL_mem, cnt_zero]
    constructor
    · intro h
      refine ⟨⟨b0, b1⟩, ?_⟩
      cases e : rowAt rows b with
      | nil => rfl
      | cons x r => have := h x (by rw [e]; simp); cases this
    · intro ⟨_, e⟩ q hq
      rw [e] at hq
      cases hq
  · rw [List.nil_append, edgeL_mem] at hp
    rw [hp.2] at hq
    cases hq
section
variable {P : Program} {w : World} {K : PySem.W.Frag} {mg : Str → Option Value} {base : Heap} {f : Addr} {fd : FuncData}
def spRanks (K : PySem.W.Frag) : Sp := fun vs H Q _ => ∃ (x : V) (rows : List (List Int)), vs = [x] ∧ Dp K H x (chD rows) ∧ RwOk rows ∧ (∀ ns ∈ rows, ns.Pairwise (· < ·)) ∧
  ∀ v H', Same H H' → ((∃ (a : Addr) (rs : List Int), v = .ref a ∧ SqT K H' a (rs.map V.int) ∧ FixR rows rs) ∨ (v = .non ∧ ∃ ns, RingP rows ns)) → Q v H'
abbrev rkN : List Str := ["chart", "befores", "ranks", "unranked", "edge", "many", "rank", "fresh", "point", "before", "nexts"]
theorem scRanks : FnScope rkN ["chart"] (defScope sRanks) := ⟨rfl, rfl, rfl, by decide +kernel, rfl, by decide +kernel, by decide +kernel⟩
set_option maxHeartbeats 1000000 in
theorem ok_ranks {k : Nat} (F : Fun K "least_ranks" "least_ranks" sRanks f fd) (T : Free mg) (cB : Cal P w K mg base "befores_of" k ["chart"] (spBef K)) : FnOk P w K mg base CX0 (k + 1) f fd ["chart"] (spRanks K) := by
  refine F.ok scRanks (fun vs H Q E h => ?_) (fun cdv A outer s H vs Q E hr h => ?_)
  · obtain ⟨x, rows, rfl, _⟩ := h
    rfl
  obtain ⟨x, rows, rfl, hx, hrw, srt, q⟩ := h
  refine ⟨_, pss_cons (ps_set (i := 1) scRanks.nd rfl (.inl rfl) (pe_cal cB hr rfl (pa_cons (pv 0) pa_nil)))
    (pss_cons (ps_setLc (i := 2) (own := [("nexts", 10)]) (g := gName 10) (tt := tYes) (te := tC (.int 0)) rfl scRanks.nd rfl rfl rfl (pi_tup (pv 0))
      (blkOk_by (own := [("nexts", 10)]) (N := rkN) (sc := defScope sRanks) (by decide +kernel))
      (fun _ _ _ _ _ => pg_name (i := 10) scRanks.nd rfl (Or.inl rfl)) (fun _ _ _ _ _ => pts_nil) (fun _ _ _ _ _ => pe_int))
    (pss_cons (ps_setLc (i := 3) (own := [("nexts", 10)]) (g := gName 10) (tt := tYes) (te := tCB (rLen K) (tCons (tVar 10) tNil)) rfl scRanks.nd rfl rfl rfl (pi_tup (pv 0))
      (blkOk_by (own := [("nexts", 10)]) (N := rkN) (sc := defScope sRanks) (by decide +kernel))
      (fun _ _ _ _ _ => pg_name (i := 10) scRanks.nd rfl (Or.inl rfl)) (fun _ _ _ _ _ => pts_nil) (fun _ _ _ _ _ => pe_callB call_len_seq rfl T.len PySem.boot_len (pa_cons (pv 10) pa_nil)))
    (pss_cons (ps_setLc (i := 4) (own := [("point", 8)]) (g := gName 8) (tt := tNot (fun σ H Q => tOp (rIxT K) (tVar 0) (tVar 8) σ H fun x H' => ∃ k, TruV K x H' k ∧ Q k H')) (te := tVar 8) rfl scRanks.nd rfl rfl rfl (pi_range1 rfl T.range (pa_cons (pe_callB call_len_seq rfl T.len PySem.boot_len (pa_cons (pv 0) pa_nil)) pa_nil))
      (blkOk_by (own := [("point", 8)]) (N := rkN) (sc := defScope sRanks) (by decide +kernel))
      (fun _ _ _ _ _ => pg_name (i := 8) scRanks.nd rfl (Or.inl rfl)) (fun _ _ _ _ _ => pts_one (pt_not (pt_truth (pe_ix ix_tup (pv 0) (pv 8) (fun _ _ => rfl)) (fun _ => rfl)))) (fun _ _ _ _ _ => pv 8))
    (pss_cons (ps_set (i := 5) scRanks.nd rfl (.inl rfl) pe_int)
    (pss_cons (ps_set (i := 6) scRanks.nd rfl (.inl rfl) pe_int)
    (pss_cons (ps_while PassesOwn.never (pt_truth (pv 4) (fun _ => rfl))
      (pss_cons (ps_aug (i := 5) scRanks.nd rfl (.inl rfl) (pe_callB call_len_seq rfl T.len PySem.boot_len (pa_cons (pv 4) pa_nil)) ip_add (.inr rfl))
      (pss_cons (ps_aug (i := 6) scRanks.nd rfl (.inl rfl) pe_int ip_add (.inr rfl))
      (pss_cons (ps_set (i := 7) scRanks.nd rfl (.inl rfl) (pe_lst pa_nil))
      (pss_cons (ps_for PassesOwn.never rfl (pi_list (pv 4)) (pg_name (i := 8) scRanks.nd rfl (.inl rfl))
        (pss_one (ps_for PassesOwn.never rfl (pi_list (pe_ix ix_list (pv 1) (pv 8) (fun _ _ => rfl))) (pg_name (i := 9) scRanks.nd rfl (.inl rfl))
          (pss_cons (ps_augS (pv 3) (pv 9) get_listP pe_int ip_sub set_list)
          (pss_one (ps_if (pt_cmpR op_eq (pe_ix ix_list (pv 3) (pv 9) (fun _ _ => rfl)) pe_int (nomark _))
            (pss_cons (ps_asg (pv 6) (pg_sub (pv 2) (pv 9) set_list))
            (pss_one (ps_expr (pe_bm PySem.F.plainAttrs_list PySem.F.slot_list_append PySem.F.type_list_append mt_append (pv 7) (pa_cons (pv 9) pa_nil))))) pss_nil))))))
      (pss_one (ps_set (i := 4) scRanks.nd rfl (.inl rfl) (pv 7))))))))
    (pss_one (ps_ret (pe_ifExp (pt_cmpR op_eq (pv 5) (pe_callB call_len_seq rfl T.len PySem.boot_len (pa_cons (pv 0) pa_nil)) (nomark _)) (pe_callTy call_tuple_of rfl T.tuple (by decide +kernel) (pa_cons (pv 2) pa_nil)) pe_non))))))))), ?_⟩
  have hx0 := hx
  cases hx with
  | @tup ca cs _ cat ceach =>
  have lc : cs.length = rows.length := by have := dpAll_len ceach; rw [List.length_map] at this; exact this
  have hlen := hrw.len
  refine ⟨_, rfl, _, rows, rfl, hx0, hrw, srt, fun B H1 s1 hB => ?_⟩
  have cat1 := sqT_same s1 cat
  refine ⟨_, rfl, ca, rfl, ⟨cs, cat1⟩, fun D2 hD2 => ?_⟩
  refine lc_tup (xs := cs) (fun i G => Same H1 G ∧ G D2 = some (.lst ((List.replicate i (0 : Int)).map V.int))) ⟨same_new hD2 _, upd_same⟩ (fun i G _ h => sqT_same h.1 cat1) (fun i v G hv h => ?_) (fun G h => ?_)
  · obtain ⟨sm, hG⟩ := h
    have hi : i < cs.length := (List.getElem?_eq_some_iff.mp hv).1
    refine ⟨rfl, yesG ⟨_, hG, Nat.lt_of_lt_of_le (show _ < 1000 by rw [List.length_map, List.length_replicate]; omega) (small (Nat.le_refl _)), same_upd sm hD2, ?_⟩⟩
    rw [upd_same, List.replicate_succ', List.map_append]
    rfl
  obtain ⟨s2, hG2⟩ := h
  rw [lc] at hG2
  refine ⟨_, rfl, ca, rfl, ⟨cs, sqT_same s2 cat1⟩, fun D3 hD3 => ?_⟩
  have D30 : H1 D3 = none := none_same s2 hD3
  have D23 : D2 ≠ D3 := ne_of_none hG2 hD3
  refine lc_tup (xs := cs) (fun i G => Same H1 G ∧ G D2 = some (.lst ((List.replicate rows.length (0 : Int)).map V.int)) ∧ G D3 = some (.lst (((rows.take i).map fun ns => (ns.length : Int)).map V.int))) ⟨s2.trans (same_new hD3 _), same_new hD3 _ _ _ hG2, upd_same⟩ (fun i G _ h => sqT_same h.1 cat1) (fun i v G hv h => ?_) (fun G h => ?_)
  · obtain ⟨sm, hGa, hG⟩ := h
    have hi : i < cs.length := (List.getElem?_eq_some_iff.mp hv).1
    have hr' := List.getElem?_eq_getElem (show i < rows.length by omega)
    generalize rows[i] = row at hr'
    obtain ⟨b, hb, bat⟩ := ch_row ceach hr'
    rw [hv] at hb
    cases hb
    refine ⟨rfl, yesG ⟨_, rfl, b, _, rfl, .inr (sqT_same (s1.trans sm) bat), _, hG, Nat.lt_of_lt_of_le (show _ < 1000 by rw [List.length_map, List.length_map, List.length_take]; omega) (small (Nat.le_refl _)), same_upd sm D30, by rw [upd_ne D23]; exact hGa, ?_⟩⟩
    rw [upd_same, List.take_add_one, hr', List.map_append, List.map_append, List.length_map]
    rfl
  obtain ⟨s3, hG3a, hG3⟩ := h
  rw [lc, List.take_length] at hG3
  refine ⟨_, rfl, ca, cs, rfl, .inr (sqT_same s3 cat1), _, rfl, by omega, by rw [lc]; omega, fun D4 hD4 => ?_⟩
  rw [show ((cs.length : Nat) : Int).toNat = rows.length by omega]
  have D40 : H1 D4 = none := none_same s3 hD4
  have D24 : D2 ≠ D4 := ne_of_none hG3a hD4
  have D34 : D3 ≠ D4 := ne_of_none hG3 hD4
  refine lc_range (lo := 0) (n := rows.length) (fun i G => Same H1 G ∧ G D2 = some (.lst ((List.replicate rows.length (0 : Int)).map V.int)) ∧ G D3 = some (.lst ((rows.map fun ns => (ns.length : Int)).map V.int)) ∧ G D4 = some (.lst ((edgeL rows i).map V.int))) ⟨s3.trans (same_new hD4 _), same_new hD4 _ _ _ hG3a, same_new hD4 _ _ _ hG3, upd_same⟩ (fun i G hi h => ?_) (fun G h => ?_)
  · obtain ⟨sm, hGa, hGb, hG⟩ := h
    have hr' := List.getElem?_eq_getElem (show i < rows.length by omega)
    generalize rows[i] = row at hr'
    obtain ⟨b, hb, bat⟩ := ch_row ceach hr'
    have hra := rowAt_nat hr'
    have le := edgeL_len rows i
    refine ⟨rfl, _, rfl, _, rfl, ca, cs, 0 + (i : Int), .ref b, rfl, rfl, sqT_same sm cat1, atI_at (by omega) (by rw [show ((0 : Int) + (i : Int)).toNat = i by omega]; exact hb), _, .inr (.inl ⟨_, sqT_same (s1.trans sm) bat, rfl⟩), ?_⟩
    have es := edgeL_succ rows i
    rw [hra] at es
    cases row with
    | nil =>
      refine ifT rfl ⟨_, rfl, _, hG, Nat.lt_of_lt_of_le (show _ < 1000 by rw [List.length_map]; omega) (small (Nat.le_refl _)), same_upd sm D40, by rw [upd_ne D24]; exact hGa, by rw [upd_ne D34]; exact hGb, ?_⟩
      rw [upd_same, es, List.map_append]
      rw [show (0 : Int) + (i : Int) = (i : Int) by omega]
      rfl
    | cons _ _ =>
      refine ifF rfl ⟨sm, hGa, hGb, ?_⟩
      rw [es]
      show G D4 = some (.lst ((edgeL rows i ++ []).map V.int))
      rw [List.append_nil]
      exact hG
  obtain ⟨s4, hG4a, hG4b, hG4⟩ := h
  have D20 : H1 D2 = none := hD2
  obtain ⟨as, hBl, las, each⟩ := hB
  have inv0 := rk_init rows
  refine ⟨fun m σ G => ∃ (r : Nat) (ed : Addr) (ds es rs us : List Int) (o7 o8 o9 o10 : Option V), m = rows.length - ds.length ∧ σ = [some (.ref ca), some (.ref B), some (.ref D2), some (.ref D3), some (.ref ed), some (.int (ds.length : Nat)), some (.int (r : Nat)), o7, o8, o9, o10] ∧ ed ≠ D2 ∧ ed ≠ D3 ∧ Same H1 G ∧ G D2 = some (.lst (rs.map V.int)) ∧ G D3 = some (.lst (us.map V.int)) ∧ G ed = some (.lst (es.map V.int)) ∧ RkInv rows r ds es rs us,
    ⟨_, 0, D4, [], _, _, _, _, _, _, _, rfl, rfl, Ne.symm D24, Ne.symm D34, s4, hG4a, hG4b, hG4, inv0⟩, ?_⟩
  clear inv0 hG4 hG4a hG4b s4 hG3 hG3a s3 hG2 s2 hD4 D40 D24 D34
  rintro m σ G ⟨r, ed, ds, es, rs, us, o7, o8, o9, o10, rfl, rfl, ne2, ne3, sm, hGr, hGu, hGe, inv⟩
  refine ⟨_, rfl, _, .inl ⟨_, SqL.of hGe, rfl⟩, ?_⟩
  cases hcs : es with
  | nil =>
    rw [hcs] at inv
    refine ifF rfl ⟨_, rfl, _, rfl, ca, cs, rfl, .inr (sqT_same sm cat1), rfl, _, rfl, ?_⟩
    by_cases c : ds.length = rows.length
    · refine ifT (decide_eq_true (by rw [c, lc])) ⟨_, rfl, D2, _, rfl, .inl ⟨SqL.of hGr, fun l hl => ?_⟩⟩
      have nl := same_new hl (.tup (rs.map V.int))
      exact q _ _ (s1.trans (sm.trans nl)) (.inl ⟨l, rs, rfl, SqT.of upd_same, inv.full c⟩)
    · refine ifF (decide_eq_false (fun z => c (by injection z with z; omega))) ?_
      exact q _ _ (s1.trans sm) (.inr ⟨rfl, inv.ring hrw c⟩)
  | cons e0 er =>
    rw [← hcs]
    have les : 0 < es.length := by rw [hcs]; simp
    have lall : (ds ++ es).length ≤ rows.length := nodup_len _ _ inv.nd inv.rng
    rw [List.length_append] at lall
    refine ifT (by rw [hcs]; rfl) ⟨fun σ' G' => ∃ m', m' < rows.length - ds.length ∧ ∃ (r : Nat) (ed : Addr) (ds es rs us : List Int) (o7 o8 o9 o10 : Option V), m' = rows.length - ds.length ∧ σ' = [some (.ref ca), some (.ref B), some (.ref D2), some (.ref D3), some (.ref ed), some (.int (ds.length : Nat)), some (.int (r : Nat)), o7, o8, o9, o10] ∧ ed ≠ D2 ∧ ed ≠ D3 ∧ Same H1 G' ∧ G' D2 = some (.lst (rs.map V.int)) ∧ G' D3 = some (.lst (us.map V.int)) ∧ G' ed = some (.lst (es.map V.int)) ∧ RkInv rows r ds es rs us, fun σ' G' h => h, ?_⟩
    refine ⟨_, rfl, _, rfl, ed, _, rfl, .inl (SqL.of hGe), _, _, rfl, rfl, ?_⟩
    refine ⟨_, rfl, _, _, rfl, rfl, small (by show 0 ≤ 1000; decide), fun fr hfr => ?_⟩
    have n2 := same_new hfr (.lst [])
    have fr0 : H1 fr = none := none_same sm hfr
    have nf2 : D2 ≠ fr := ne_of_none hGr hfr
    have nf3 : D3 ≠ fr := ne_of_none hGu hfr
    have nfe : ed ≠ fr := ne_of_none hGe hfr
    rw [List.length_map]
    refine ⟨_, rfl, ed, rfl, ⟨_, SqL.of (n2 _ _ hGe)⟩, ?_⟩
    refine for_list (xs := es.map V.int) (fun i σ G => ∃ (o8 o9 o10 : Option V) (rs' us' fs : List Int), σ = [some (.ref ca), some (.ref B), some (.ref D2), some (.ref D3), some (.ref ed), some (.int ((ds.length : Int) + (es.length : Int))), some (.int (r + 1 : Nat)), some (.ref fr), o8, o9, o10] ∧ Same H1 G ∧ G D2 = some (.lst (rs'.map V.int)) ∧ G D3 = some (.lst (us'.map V.int)) ∧ G ed = some (.lst (es.map V.int)) ∧ G fr = some (.lst (fs.map V.int)) ∧ RkMid rows r ds es rs (fun b => cntR (ds ++ es.take i) (rowAt rows b)) rs' us' fs)
      ⟨_, _, _, rs, us, [], rfl, sm.trans n2, n2 _ _ hGr, n2 _ _ hGu, n2 _ _ hGe, upd_same, inv.mid.cong fun b _ _ => by rw [List.take_zero, List.append_nil]⟩ (fun i σ G _ h => by obtain ⟨_, _, _, _, _, _, _, _, _, _, h5, _⟩ := h; exact SqL.of h5) (fun i v σ G hv h => ?_) (fun σ G h => ?_)
    · obtain ⟨o8, o9, o10, rs', us', fs, rfl, t1, g1, g2, g3, g4, mid⟩ := h
      obtain ⟨pt, hpt, rfl⟩ := ints_get hv
      have hpm : pt ∈ es := List.mem_of_getElem? hpt
      have rpt := inv.rng pt (List.mem_append_right _ hpm)
      have etk : es.take (i + 1) = es.take i ++ [pt] := by rw [List.take_add_one, hpt]; rfl
      have pnew : pt ∉ ds ++ es.take i := fun hm => by
        have nd := inv.nd
        rw [← List.take_append_drop (i + 1) es, etk, ← List.append_assoc, ← List.append_assoc] at nd
        have nd := (List.nodup_append.mp nd).1
        exact (List.nodup_append.mp nd).2.2 pt hm pt (by simp) rfl
      obtain ⟨va, ha⟩ : ∃ a, as[pt.toNat]? = some a := ⟨_, List.getElem?_eq_getElem (by omega)⟩
      obtain ⟨bs, hbs, ndb, hbi⟩ := each _ va ha
      rw [show ((pt.toNat : Nat) : Int) = pt by omega] at hbi
      refine ⟨_, rfl, _, rfl, B, _, pt, _, rfl, rfl, sqL_same t1 hBl, atI_at rpt.1 (by rw [List.getElem?_map, ha]; rfl), va, rfl, ⟨_, sqL_same t1 hbs⟩, ?_⟩
      refine for_list (xs := bs.map V.int) (fun j σ G => ∃ (o9 o10 : Option V) (rs' us' fs : List Int), σ = [some (.ref ca), some (.ref B), some (.ref D2), some (.ref D3), some (.ref ed), some (.int ((ds.length : Int) + (es.length : Int))), some (.int (r + 1 : Nat)), some (.ref fr), some (.int pt), o9, o10] ∧ Same H1 G ∧ G D2 = some (.lst (rs'.map V.int)) ∧ G D3 = some (.lst (us'.map V.int)) ∧ G ed = some (.lst (es.map V.int)) ∧ G fr = some (.lst (fs.map V.int)) ∧ RkMid rows r ds es rs (fun b => if b ∈ bs.take j then cntR (ds ++ es.take (i + 1)) (rowAt rows b) else cntR (ds ++ es.take i) (rowAt rows b)) rs' us' fs)
        ⟨_, _, rs', us', fs, rfl, t1, g1, g2, g3, g4, mid.cong fun b _ _ => by rw [if_neg (by simp)]⟩ (fun j σ G _ h => by obtain ⟨_, _, _, _, _, _, s2, _⟩ := h; exact sqL_same s2 hbs) (fun j v σ G hv h => ?_) (fun σ G h => ?_)
      · obtain ⟨o9, o10, rs', us', fs, rfl, t2, g5, g6, g7, g8, mid2⟩ := h
        obtain ⟨b, hb, rfl⟩ := ints_get hv
        have eb := (hbi b).mp (List.mem_of_getElem? hb)
        have b0 := eb.1
        have b1 := eb.2.1
        have et : bs.take (j + 1) = bs.take j ++ [b] := by rw [List.take_add_one, hb]; rfl
        have bnew : b ∉ bs.take j := fun hm => by
          have nd' := List.Nodup.sublist (List.take_sublist (j + 1) bs) ndb
          rw [et] at nd'
          exact (List.nodup_append.mp nd').2.2 b hm b (by simp) rfl
        have rowNd : (rowAt rows b).Nodup := by
          have hr' := List.getElem?_eq_getElem (show b.toNat < rows.length by omega)
          unfold rowAt
          rw [List.getD_eq_getElem?_getD, hr']
          exact (srt _ (List.getElem_mem _)).imp fun h e => by omega
        have cin := cnt_in pnew rowNd eb.2.2
        rw [List.append_assoc, ← etk] at cin
        have lu2 := mid2.lu
        have lr2 := mid2.lr
        have ub := mid2.us b b0 b1
        rw [if_neg bnew, ← cin] at ub
        have cu' : ∀ x, 0 ≤ x → x < (rows.length : Int) → (if x ∈ bs.take (j + 1) then cntR (ds ++ es.take (i + 1)) (rowAt rows x) else cntR (ds ++ es.take i) (rowAt rows x)) = if x = b then cntR (ds ++ es.take (i + 1)) (rowAt rows b) else (if x ∈ bs.take j then cntR (ds ++ es.take (i + 1)) (rowAt rows x) else cntR (ds ++ es.take i) (rowAt rows x)) := fun x _ _ => by
          rw [et]
          by_cases z : x = b
          · rw [if_pos z, if_pos (by rw [z]; simp), z]
          · rw [if_neg z]
            by_cases y : x ∈ bs.take j
            · rw [if_pos y, if_pos (List.mem_append_left _ y)]
            · rw [if_neg y, if_neg (fun y' => (List.mem_append.mp y').elim y (fun y' => z (List.mem_singleton.mp y')))]
        have hcb : (fun b => if b ∈ bs.take j then cntR (ds ++ es.take (i + 1)) (rowAt rows b) else cntR (ds ++ es.take i) (rowAt rows b)) b = cntR (ds ++ es.take (i + 1)) (rowAt rows b) + 1 := by
          show (if b ∈ bs.take j then _ else _) = _
          rw [if_neg bnew, ← cin]
        generalize cntR (ds ++ es.take (i + 1)) (rowAt rows b) = c at cu' hcb ub
        have lf : fs.length ≤ rows.length := nodup_len _ fs mid2.nd fun x hx => (mid2.fr x hx).1
        refine ⟨_, rfl, _, rfl, D3, _, b, _, rfl, rfl, b0, SqL.of g6, rk_get b0 (by omega), _, _, rfl, rfl, D3, _, b, b.toNat, rfl, rfl, g6, ixN_at b0 (by rw [List.length_map]; omega), ?_⟩
        have eu : (us'.map V.int).set b.toNat (.int (rkAt us' b - 1)) = (us'.set b.toNat (c : Nat)).map V.int := by
          rw [ub, List.map_set]
          congr 2
          omega
        rw [eu]
        have n32 : D2 ≠ D3 := D23
        refine ⟨_, rfl, _, rfl, D3, _, b, _, rfl, rfl, SqL.of upd_same, atI_at b0 (rk_get b0 (by rw [List.length_set]; omega)), rfl, _, rfl, ?_⟩
        rw [rkAt_set b0 b0 (by omega), if_pos rfl]
        have k1 : (upd G D3 (.lst ((us'.set b.toNat (c : Nat)).map V.int))) D2 = some (.lst (rs'.map V.int)) := by rw [upd_ne n32]; exact g5
        have k2 : (upd G D3 (.lst ((us'.set b.toNat (c : Nat)).map V.int))) ed = some (.lst (es.map V.int)) := by rw [upd_ne ne3]; exact g7
        have k3 : (upd G D3 (.lst ((us'.set b.toNat (c : Nat)).map V.int))) fr = some (.lst (fs.map V.int)) := by rw [upd_ne (Ne.symm nf3)]; exact g8
        have k4 : (upd G D3 (.lst ((us'.set b.toNat (c : Nat)).map V.int))) D3 = some (.lst ((us'.set b.toNat (c : Nat)).map V.int)) := upd_same
        have t3 := same_upd (o := .lst ((us'.set b.toNat (c : Nat)).map V.int)) t2 D30
        generalize upd G D3 (.lst ((us'.set b.toNat (c : Nat)).map V.int)) = G3 at k1 k2 k3 k4 t3
        by_cases c0 : c = 0
        · subst c0
          refine ifT rfl ⟨_, rfl, _, rfl, _, rfl, D2, _, b, b.toNat, rfl, rfl, k1, ixN_at b0 (by rw [List.length_map]; omega), ?_⟩
          have er : (rs'.map V.int).set b.toNat (.int (r + 1 : Nat)) = (rs'.set b.toNat (r + 1 : Nat)).map V.int := by rw [List.map_set]
          have k5 : (upd G3 D2 (.lst ((rs'.map V.int).set b.toNat (.int (r + 1 : Nat))))) fr = some (.lst (fs.map V.int)) := by rw [upd_ne (Ne.symm nf2)]; exact k3
          refine ⟨_, rfl, .inl ⟨rfl, _, SqL.of k5⟩, _, rfl, fr, _, _, rfl, rfl, k5, Nat.lt_of_lt_of_le (show _ < 1000 by rw [List.length_map]; omega) (small (Nat.le_refl _)), ?_⟩
          refine ⟨_, _, _, _, fs ++ [b], rfl, same_upd (same_upd t3 D20) fr0, by rw [upd_ne nf2, upd_same, er], by rw [upd_ne nf3, upd_ne (Ne.symm n32)]; exact k4, by rw [upd_ne nfe, upd_ne ne2]; exact k2, by rw [upd_same, List.map_append]; rfl, mid2.last b0 b1 hcb cu'⟩
        · refine ifF (decide_eq_false (fun z => c0 (by injection z with z; omega))) ⟨_, _, _, _, fs, rfl, t3, k1, k4, k2, k3, mid2.less b0 b1 hcb c0 cu'⟩
      · obtain ⟨o9, o10, rs', us', fs, rfl, t2, g5, g6, g7, g8, mid2⟩ := h
        rw [List.length_map, List.take_length] at mid2
        refine ⟨_, _, _, _, _, fs, rfl, t2, g5, g6, g7, g8, mid2.cong fun b b0 b1 => ?_⟩
        by_cases z : b ∈ bs
        · rw [if_pos z]
        · rw [if_neg z, etk, ← List.append_assoc]
          exact cnt_out fun y => z ((hbi b).mpr ⟨b0, b1, y⟩)
    · obtain ⟨o8, o9, o10, rs', us', fs, rfl, t1, g1, g2, g3, g4, mid⟩ := h
      rw [List.length_map, List.take_length] at mid
      have inv' := mid.fin inv hrw fun b _ _ => rfl
      refine ⟨_, rfl, rows.length - (ds ++ es).length, by rw [List.length_append]; omega, r + 1, fr, ds ++ es, fs, rs', us', some (.ref fr), o8, o9, o10, rfl, ?_, Ne.symm nf2, Ne.symm nf3, t1, g1, g2, g4, inv'⟩
      rw [List.length_append]
      rfl
end
/-! least_ring, rounds -/
theorem cut_last {xs : List V} : cutV xs none (some (-1)) = xs.dropLast := by
  unfold cutV
  have e : HT.sIx xs.length xs.length (some (-1)) = xs.length - 1 := by
    show (if (-1 : Int) < 0 then ((-1 : Int) + (xs.length : Int)).toNat else min (-1 : Int).toNat xs.length) = _
    rw [if_pos (by decide)]
    omega
  rw [e, HT.sIx_none, List.drop_zero, Nat.sub_zero, List.dropLast_eq_take]
def RvOk (K : PySem.W.Frag) (G : Hp) (v : V) : Option (List Int) → Prop
  | none => v = .non
  | some ns => ∃ a : Addr, v = .ref a ∧ SqT K G a (ns.map V.int)
theorem RvOk.same {K : PySem.W.Frag} {G G' : Hp} {v : V} {r : Option (List Int)} (h : RvOk K G v r) (s : Same G G') : RvOk K G' v r := by
  cases r with
  | none => exact h
  | some ns =>
    obtain ⟨a, e, sq⟩ := h
    exact ⟨a, e, sqT_same s sq⟩
section
variable {P : Program} {w : World} {K : PySem.W.Frag} {mg : Str → Option Value} {base : Heap} {f : Addr} {fd : FuncData}
def spLring (K : PySem.W.Frag) : Sp := fun vs H Q _ => ∃ (x : V) (rows : List (List Int)), vs = [x] ∧ Dp K H x (chD rows) ∧ RwOk rows ∧ (∀ ns ∈ rows, ns.Pairwise (· < ·)) ∧
  ∀ v H', Same H H' → ((∃ (a : Addr) (ns : List Int), v = .ref a ∧ SqT K H' a (ns.map V.int) ∧ LeastR rows ns) ∨ (v = .non ∧ ∀ ns, ¬ RingP rows ns)) → Q v H'
abbrev lrN : List Str := ["chart", "befores", "ring", "fewest", "point", "far", "after"]
theorem scLring : FnScope lrN ["chart"] (defScope sLring) := ⟨rfl, rfl, rfl, by decide +kernel, rfl, by decide +kernel, by decide +kernel⟩
set_option maxHeartbeats 1000000 in
theorem ok_lring {k : Nat} (F : Fun K "least_ring" "least_ring" sLring f fd) (T : Free mg) (cB : Cal P w K mg base "befores_of" k ["chart"] (spBef K)) (cD : Cal P w K mg base "distances" k ["links", "origins", "least", "most"] (spDistR K)) (cN : Cal P w K mg base "nearest" k ["points", "far"] (spNearTo K)) (cS : Cal P w K mg base "shortest" k ["chart", "far", "point"] (spShortC K)) : FnOk P w K mg base CX0 (k + 1) f fd ["chart"] (spLring K) := by
  refine F.ok scLring (fun vs H Q E h => ?_) (fun cdv A outer s H vs Q E hr h => ?_)
  · obtain ⟨x, rows, rfl, _⟩ := h
    rfl
  obtain ⟨x, rows, rfl, hx, hrw, srt, q⟩ := h
  have hu : (A.deeper (PyProof.Rows.envOfC "least_ring" (defScope sLring) s.heap.objs.size f cdv)).units + 1 < cLine := Nat.lt_of_le_of_lt (Nat.add_le_add_left (by decide : 1 ≤ 64) _) hr.units
  refine ⟨_, pss_cons (ps_set (i := 1) scLring.nd rfl (.inl rfl) (pe_cal cB hr rfl (pa_cons (pv 0) pa_nil)))
    (pss_cons (ps_set (i := 2) scLring.nd rfl (.inl rfl) pe_non)
    (pss_cons (ps_set (i := 3) scLring.nd rfl (.inl rfl) (pe_op op_add (pe_callB call_len_seq rfl T.len PySem.boot_len (pa_cons (pv 0) pa_nil)) pe_int))
    (pss_cons (ps_for PassesOwn.never rfl (pi_range1 rfl T.range (pa_cons (pe_callB call_len_seq rfl T.len PySem.boot_len (pa_cons (pv 0) pa_nil)) pa_nil)) (pg_name (i := 4) scLring.nd rfl (.inl rfl))
      (pss_cons (ps_set (i := 5) scLring.nd rfl (.inl rfl) (pe_cal cD hr rfl (pa_cons (pv 1) (pa_cons (pe_tup (pa_cons (pv 4) pa_nil)) (pa_cons (pv 4) (pa_cons (pe_op op_sub (pv 3) pe_int) pa_nil))))))
      (pss_cons (ps_set (i := 6) scLring.nd rfl (.inl rfl) (pe_cal cN hr rfl (pa_cons (pe_ix ix_tup (pv 0) (pv 4) (fun _ _ => rfl)) (pa_cons (pv 5) pa_nil))))
      (pss_one (ps_if (PW.pt (pw_and (pt_cmpR op_notN (pv 6) pe_non (nomark _)) (pw_and1 (pt_cmpR op_lt (pe_op op_add (pe_dget hu (pv 5) (pv 6) (fun _ _ => rfl)) pe_int) (pv 3) (nomark _)))))
        (pss_cons (ps_set (i := 2) scLring.nd rfl (.inl rfl) (pe_op op_catA (pe_tup (pa_cons (pv 4) pa_nil)) (pe_slice sl_tupA (pe_cal cS hr rfl (pa_cons (pv 0) (pa_cons (pv 5) (pa_cons (pv 6) pa_nil)))) po_none (po_some (pe_un un_neg pe_int)))))
        (pss_one (ps_set (i := 3) scLring.nd rfl (.inl rfl) (pe_callB call_len_seq rfl T.len PySem.boot_len (pa_cons (pv 2) pa_nil))))) pss_nil)))))
    (pss_one (ps_ret (pv 2)))))), ?_⟩
  have hx0 := hx
  cases hx with
  | @tup ca cs _ cat ceach =>
  have lc : cs.length = rows.length := by have := dpAll_len ceach; rw [List.length_map] at this; exact this
  have hlen := hrw.len
  refine ⟨_, rfl, _, rows, rfl, hx0, hrw, srt, fun B H1 s1 hB => ?_⟩
  have cat1 := sqT_same s1 cat
  refine ⟨_, rfl, ca, cs, rfl, .inr cat1, _, _, rfl, rfl, ?_⟩
  refine ⟨_, rfl, ca, cs, rfl, .inr cat1, _, rfl, by omega, by rw [lc]; omega, ?_⟩
  rw [show ((cs.length : Nat) : Int).toNat = rows.length by omega, lc]
  have bef : ∀ {G : Hp}, Same H1 G → BefAt K G B rows := fun sm => by
    obtain ⟨as, h1, h2, h3⟩ := hB
    refine ⟨as, sqL_same sm h1, h2, fun i a ha => ?_⟩
    obtain ⟨bs, y1, y2⟩ := h3 i a ha
    exact ⟨bs, sqL_same sm y1, y2⟩
  refine for_range (lo := 0) (n := rows.length) (fun i σ G => ∃ (rv : V) (fw : Nat) (ring : Option (List Int)) (o4 o5 o6 : Option V), σ = [some (.ref ca), some (.ref B), some rv, some (.int (fw : Nat)), o4, o5, o6] ∧ Same H1 G ∧ RvOk K G rv ring ∧ BestTo rows i ring fw)
    ⟨.non, rows.length + 1, none, _, _, _, rfl, Same.refl _, rfl, ⟨fun _ => ⟨rfl, fun q ms hq => absurd hq (Nat.not_lt_zero _)⟩, fun ns e => by cases e⟩⟩ (fun i σ G hi h => ?_) (fun σ G h => ?_)
  · obtain ⟨rv, fw, ring, o4, o5, o6, rfl, sm, rvo, best⟩ := h
    rw [show (0 : Int) + (i : Int) = (i : Int) by omega]
    have fw1 : 1 ≤ fw := by
      cases ring with
      | none => have := (best.non rfl).1; omega
      | some ns => have := (best.som ns rfl); have := this.1.pos; omega
    refine ⟨_, rfl, _, rfl, small (by show 1 ≤ 1000; decide), fun p1 h1 => ⟨_, rfl, _, rfl, _, _, rfl, rfl, ?_⟩⟩
    have n1 := same_new h1 (.tup [.int (i : Int)])
    have sm1 := sm.trans n1
    refine ⟨.ref p1, B, rows, i, _, rfl, bef sm1, hrw, .tup (SqT.of upd_same) (dp_ints [(i : Int)]), by omega, by omega, fun F kvs G2 s2 hF far => ?_⟩
    have sm2 := sm1.trans s2
    have em : ((fw : Int) - 2).toNat = fw - 2 := by omega
    have far : FarTo (inP [(i : Int)]) (backE (resR rows i)) rows.length (fw - 2) kvs := by rw [← em]; exact far
    have hr' := List.getElem?_eq_getElem hi
    generalize rows[i] = row at hr'
    obtain ⟨b, hb, bat⟩ := ch_row ceach hr'
    have hra := rowAt_nat hr'
    refine ⟨_, rfl, _, rfl, ca, cs, i, _, rfl, rfl, sqT_same sm2 cat1, atI_at (by omega) (by rw [show ((i : Int)).toNat = i by omega]; exact hb), _, rfl, inP [(i : Int)], backE (resR rows i), fw - 2, .ref b, row, F, kvs, rows.length, rfl, .tup (sqT_same (s1.trans sm2) bat) (dp_ints row), srt row (List.mem_of_getElem? hr'), hF, far, fun r hn => ?_⟩
    have p0 : (0 : Int) ≤ (i : Int) := by omega
    rcases hn with ⟨rfl, no⟩ | ⟨af, ka, rfl, ma, hka, da, min⟩
    · refine ⟨_, rfl, rfl, _, rfl, ifF rfl (ifF rfl ⟨rv, fw, ring, _, _, _, rfl, sm2, rvo.same (n1.trans s2), best.keep fun ms m => ?_⟩)⟩
      obtain ⟨s, hs, j, hj, d⟩ := m.near hrw p0
      rw [hra] at hs
      by_cases c : fw ≤ ms.length
      · exact c
      · exact absurd d (no s hs j (by omega))
    · have va := far.all af ka hka da
      refine ⟨_, rfl, rfl, _, rfl, ifT rfl ⟨_, rfl, _, rfl, F, _, rfl, (by have g := DGet.k (k := Sum.inl af) hF; rw [va] at g; exact g), _, _, rfl, rfl, _, rfl, _, _, rfl, rfl, _, rfl, ?_⟩⟩
      by_cases c : ka + 1 < fw
      · refine ifT (decide_eq_true (by omega)) ⟨_, rfl, small (by show 1 ≤ 1000; decide), fun p3 h3 => ?_⟩
        have n3 := same_new h3 (.tup [.int (i : Int)])
        have sm3 := sm2.trans n3
        refine ⟨_, rfl, _, rfl, _, rfl, .ref ca, rows, i, fw - 2, F, kvs, af, ka, rfl, dp_ext (ext_same (s1.trans sm3)) _ _ hx0, hrw, srt, n3 _ _ hF, far, by omega, by omega, hka, da, fun a ns G4 s4 ha g => ?_⟩
        have lg := g.len
        have hlt := da.bound (n := rows.length) (fun j q h => by
          cases j with
          | zero =>
            have h : q ∈ [(i : Int)] := h
            rw [List.mem_singleton.mp h]
            omega
          | succ j =>
            obtain ⟨r, _, e⟩ := h
            exact ⟨e.1, by have := e.2.1; rw [resR_len] at this; exact this⟩)
        refine ⟨_, rfl, _, rfl, slA_run ha fun r5 G5 s5 h5 => ?_⟩
        rw [cut_last] at h5
        have a3 : SqT K G5 p3 [.int (i : Int)] := sqT_same (s4.trans s5) (SqT.of upd_same)
        have ed : ((af :: ns).map V.int).dropLast = ((af :: ns).dropLast).map V.int := by rw [List.map_dropLast]
        rw [ed] at h5
        have ldl : ((af :: ns).dropLast).length = ka := by rw [List.length_dropLast, lg]; rfl
        refine catA_run a3 h5 (by rw [List.length_map, ldl]; show 1 + ka ≤ 1000; omega) fun r6 G6 s6 h6 => ?_
        have e6 : [V.int (i : Int)] ++ ((af :: ns).dropLast).map V.int = (((i : Int) :: (af :: ns).dropLast)).map V.int := rfl
        rw [e6] at h6
        refine ⟨_, rfl, r6, _, rfl, .inr h6, ?_⟩
        have lring : ((((i : Int) :: (af :: ns).dropLast)).map V.int).length = ka + 1 := by rw [List.length_map, List.length_cons, ldl]
        rw [lring]
        exact ⟨.ref r6, ka + 1, some ((i : Int) :: (af :: ns).dropLast), _, _, _, rfl, sm3.trans (s4.trans (s5.trans s6)), ⟨r6, rfl, h6⟩, best.take hrw hi c (by rw [hra]; exact ma) da (by rw [hra]; exact min) g⟩
      · refine ifF (decide_eq_false (by omega)) ⟨rv, fw, ring, _, _, _, rfl, sm2, rvo.same (n1.trans s2), best.keep fun ms m => ?_⟩
        obtain ⟨s, hs, j, hj, d⟩ := m.near hrw p0
        rw [hra] at hs
        rcases min s hs j d with y | ⟨y, _⟩ <;> omega
  · obtain ⟨rv, fw, ring, o4, o5, o6, rfl, sm, rvo, best⟩ := h
    obtain ⟨d1, d2⟩ := best.done
    refine ⟨_, rfl, q rv G (s1.trans sm) ?_⟩
    cases ring with
    | none => exact .inr ⟨rvo, d2 rfl⟩
    | some ns =>
      obtain ⟨a, e, sq⟩ := rvo
      exact .inl ⟨a, ns, e, sq, d1 ns rfl⟩
end
/-! rounds -/
def RndD (rows : List (List Int)) (d : PyData) : Prop :=
  (∃ ns : List Int, d = .tuple [.str "ring", .tuple (ns.map .int)] ∧ LeastR rows ns) ∨ (∃ rs : List Int, d = .tuple [.str "ranks", .tuple (rs.map .int)] ∧ FixR rows rs)
section
variable {P : Program} {w : World} {K : PySem.W.Frag} {mg : Str → Option Value} {base : Heap} {f : Addr} {fd : FuncData}
structure ChP (K : PySem.W.Frag) (H : Hp) (x : V) (rows : List (List Int)) : Prop where
  ch : Dp K H x (chD rows)
  rw : RwOk rows
  srt : ∀ ns ∈ rows, ns.Pairwise (· < ·)
  cd : chartD (chD rows) = true
theorem ChP.ext {H H' : Hp} {x : V} {rows : List (List Int)} (c : ChP K H x rows) (e : LamX.ExtN H H') : ChP K H' x rows := ⟨dp_ext e _ _ c.ch, c.rw, c.srt, c.cd⟩
def spRounds (K : PySem.W.Frag) (PT : TbP) : Sp := fun vs H Q _ => ∃ (x : V) (rows : List (List Int)), vs = [x] ∧ ChP K H x rows ∧ TabsG PT H ∧ ∀ v d H', LamX.ExtN H H' → TabsG PT H' → Dp K H' v d → RndD rows d → Q v H'
theorem scRounds : FnScope ["chart", "ranks"] ["chart"] (defScope sRounds) := ⟨rfl, rfl, rfl, by decide +kernel, rfl, by decide +kernel, by decide +kernel⟩
theorem ok_rounds {k : Nat} {PT : TbP} (F : Fun K "rounds" "rounds" sRounds f fd) (cC : Cal P w K mg base "check_chart" k ["chart"] (spCheckCh K PT)) (cR : Cal P w K mg base "least_ranks" k ["chart"] (spRanks K)) (cL : Cal P w K mg base "least_ring" k ["chart"] (spLring K)) : FnOk P w K mg base CX0 (k + 1) f fd ["chart"] (spRounds K PT) := by
  refine F.ok scRounds (fun vs H Q E h => ?_) (fun cdv A outer s H vs Q E hr h => ?_)
  · obtain ⟨x, rows, rfl, _⟩ := h
    rfl
  obtain ⟨x, rows, rfl, ca, tb, q⟩ := h
  refine ⟨_, pss_cons (ps_expr (pe_cal cC hr rfl (pa_cons (pv 0) pa_nil)))
    (pss_cons (ps_set (i := 1) scRounds.nd rfl (.inl rfl) (pe_cal cR hr rfl (pa_cons (pv 0) pa_nil)))
    (pss_cons (ps_if (pt_cmpR op_isN (pv 1) pe_non (nomark _)) (pss_one (ps_ret (pe_tup (pa_cons pe_str (pa_cons (pe_cal cL hr rfl (pa_cons (pv 0) pa_nil)) pa_nil))))) pss_nil)
    (pss_one (ps_ret (pe_tup (pa_cons pe_str (pa_cons (pv 1) pa_nil))))))), ?_⟩
  refine ⟨_, rfl, x, _, rfl, ca.ch, ca.cd, tb, fun H1 e1 t1 => ?_⟩
  have c1 := ca.ext e1
  refine ⟨_, rfl, x, rows, rfl, c1.ch, c1.rw, c1.srt, fun v H2 s2 hv => ?_⟩
  have c2 := c1.ext (ext_same s2)
  have e2 := e1.trans (ext_same s2)
  have t2 := t1.same s2
  rcases hv with ⟨a, rs, rfl, sq, fx⟩ | ⟨rfl, ns0, rg⟩
  · refine ⟨_, rfl, rfl, _, rfl, ifF rfl ⟨_, rfl, small (by show 2 ≤ 1000; decide), fun p hp => ?_⟩⟩
    have n := same_new hp (.tup [.str "ranks", .ref a])
    exact q _ (.tuple [.str "ranks", .tuple (rs.map .int)]) _ (e2.trans (ext_same n)) (t2.same n) (.tup (SqT.of upd_same) (.cons (.str _) (.cons (.tup (sqT_same n sq) (dp_ints rs)) .nil))) (.inr ⟨rs, rfl, fx⟩)
  · refine ⟨_, rfl, rfl, _, rfl, ifT rfl ⟨_, rfl, x, rows, rfl, c2.ch, c2.rw, c2.srt, fun v H3 s3 hv => ?_⟩⟩
    rcases hv with ⟨a, ns, rfl, sq, lr⟩ | ⟨rfl, no⟩
    · refine ⟨small (by show 2 ≤ 1000; decide), fun p hp => ?_⟩
      have n := same_new hp (.tup [.str "ring", .ref a])
      have s4 := s3.trans n
      exact q _ (.tuple [.str "ring", .tuple (ns.map .int)]) _ (e2.trans (ext_same s4)) (t2.same s4) (.tup (SqT.of upd_same) (.cons (.str _) (.cons (.tup (sqT_same n sq) (dp_ints ns)) .nil))) (.inl ⟨ns, rfl, lr⟩)
    · exact absurd rg (no ns0)
end
/-! len(set(t)), t a tuple of ints -/
theorem not_nodup : ∀ {ns : List Int}, ¬ ns.Nodup → ∃ ms : List Int, ms.length < ns.length ∧ ∀ x ∈ ns, x ∈ ms
  | [], h => absurd List.nodup_nil h
  | a :: r, h => by
    by_cases c : a ∈ r
    · refine ⟨r, by simp, fun x hx => ?_⟩
      rcases List.mem_cons.mp hx with rfl | hx
      · exact c
      · exact hx
    · obtain ⟨ms, h1, h2⟩ := not_nodup (ns := r) fun z => h (List.nodup_cons.mpr ⟨c, z⟩)
      refine ⟨a :: ms, by simp only [List.length_cons]; omega, fun x hx => ?_⟩
      rcases List.mem_cons.mp hx with rfl | hx
      · exact List.mem_cons_self
      · exact List.mem_cons_of_mem _ (h2 x hx)
section
open PySem.Spec PyProof.Rows
variable {X : Cx}
def tLenSetT (K : PySem.W.Frag) (ta : TE) : TE := fun σ H Q => ta σ H fun x H1 => ∃ (l : Addr) (ns : List Int), x = .ref l ∧ SqT K H1 l (ns.map V.int) ∧ ns.length ≤ 1000 ∧ ∀ c : Nat, c ≤ ns.length → (c = ns.length ↔ ns.Nodup) → Q (.int (c : Nat)) H1
theorem pe_lenSetT {a : Expr} {ta : TE} {p p2 q pos : Pos} (hc : X.calm = true) (hg : Gl X "len") (hm : X.mg "len" = none) (hg2 : Gl X "set") (hm2 : X.mg "set" = none) (ha : PE X a ta)
    (na : starEach [a] X.env = (false, eval a X.env) :: starEach [] X.env := by rfl) : PE X (.Call (.Name "len" p) [.Call (.Name "set" p2) [a] [] q] [] pos) (tLenSetT X.K ta) := by
  refine ⟨fun pins s σ H Q I h => ?_⟩
  refine Call_ (ld_blt I hg hm PySem.boot_len ?_)
  refine PyProof.Rows.callWith_builtin1 (PyProof.Rows.args_cons ?_ rfl) rfl rfl
  refine Call_ (ld_blt I hg2 hm2 PyProof.Rows.boot_set ?_)
  refine PyProof.Rows.callWith_type1 (PyProof.Rows.args_cons (thn (ha.run pins s σ H _ I h) fun v s1 ⟨x, H1, I1, r1, q1⟩ => PyProof.Rows.args_nil ?_) na) na rfl
  obtain ⟨l, ns, rfl, hq, hl, q1⟩ := q1
  cases r1
  obtain ⟨its, rv, ⟨o1, g1, c1, n1, d1⟩, hz⟩ := I1.tuple hq
  refine call_set_tupI ns (I1.ok.hd hc) ⟨o1, g1, c1, n1, d1⟩ (by simpa using intsAre_of rv) (by unfold scanBound; omega) fun h' tk c R hc' hk => ?_
  refine PyProof.Rows.args_nil ?_
  obtain ⟨o, es, ep, t, ho, hex, hd, _, nd, mem, _, hf, hn, _⟩ := R
  have lk : (es.toList.map keyOf).length = c := by rw [List.length_map, Array.length_toList, hn]
  have iff : c = ns.length ↔ ns.Nodup := by
    constructor
    · intro e
      refine Classical.byContradiction fun z => ?_
      obtain ⟨ms, m1, m2⟩ := not_nodup z
      have := nodup_sub _ ms nd fun x hx => m2 x (of_decide_eq_true ((mem x).mpr hx))
      omega
    · intro nd2
      have := nodup_sub ns _ nd2 fun x hx => (mem x).mp (decide_eq_true hx)
      omega
  have I2 : Inv X pins σ H1 { s1 with heap := h', toks := tk } := I1.kept fun b o e => hk b o e
  exact call_len_set ho hex hd hf (by rw [hn] <;> omega) ⟨.int (c : Nat), H1, I2.tok _, ⟨_, by rw [hn]⟩, q1 c hc' iff⟩
end
/-! is_ring -/
def ringD (rows : List (List Int)) : PyData → Bool
  | .tuple es => walkL rows es && (decide (es.map toI).Nodup && decide (intAt es 0 ∈ rowAt rows (intAt es (es.length - 1))))
  | _ => false
def ranksL (rows : List (List Int)) (ns : List Int) : Bool := (List.range rows.length).all fun p => (rowAt rows (p : Int)).all fun q => decide (rkAt ns q < rkAt ns (p : Int))
def ranksD (rows : List (List Int)) : PyData → Bool
  | .tuple es => decide (es.length = rows.length) && (es.all wholeD && ranksL rows (es.map toI))
  | _ => false
section
variable {P : Program} {w : World} {K : PySem.W.Frag} {mg : Str → Option Value} {base : Heap} {f : Addr} {fd : FuncData}
def spIs (K : PySem.W.Frag) (PT : TbP) (fn : List (List Int) → PyData → Bool) : Sp := fun vs H Q _ => ∃ (x y : V) (rows : List (List Int)) (d : PyData), vs = [x, y] ∧ ChP K H x rows ∧ Dp K H y d ∧ (∀ es, d = .tuple es → es.length < 1000) ∧ TabsG PT H ∧ ∀ H', LamX.ExtN H H' → TabsG PT H' → Q (.bl (fn rows d)) H'
theorem scIsRing : FnScope ["chart", "thing"] ["chart", "thing"] (defScope sIsRing) := ⟨rfl, rfl, rfl, by decide +kernel, rfl, by decide +kernel, by decide +kernel⟩
theorem ok_isRing {k : Nat} {PT : TbP} (F : Fun K "is_ring" "is_ring" sIsRing f fd) (T : Free mg) (hS : mg "set" = none) (cC : Cal P w K mg base "check_chart" k ["chart"] (spCheckCh K PT)) (cW : Cal P w K mg base "is_walk" k ["chart", "thing"] (spIsWalk K PT)) : FnOk P w K mg base CX0 (k + 1) f fd ["chart", "thing"] (spIs K PT ringD) := by
  refine F.ok scIsRing (fun vs H Q E h => ?_) (fun cdv A outer s H vs Q E hr h => ?_)
  · obtain ⟨x, y, rows, d, rfl, _⟩ := h
    rfl
  obtain ⟨x, y, rows, d, rfl, ca, hy, hd, tb, q⟩ := h
  refine ⟨_, pss_cons (ps_expr (pe_cal cC hr rfl (pa_cons (pv 0) pa_nil)))
    (pss_one (ps_ret (pe_and (pe_cal cW hr rfl (pa_cons (pv 0) (pa_cons (pv 1) pa_nil)))
      (pe_and (pe_cmpR op_eq (pe_lenSetT rfl rfl T.len rfl hS (pv 1)) (pe_callB call_len_seq rfl T.len PySem.boot_len (pa_cons (pv 1) pa_nil)) rfl)
        (pe_one (pe_cmpR op_in_seq (pe_ix ix_tup (pv 1) pe_int (fun _ _ => rfl)) (pe_ix ix_tup (pv 0) (pe_ix ix_tup (pv 1) (pe_un un_neg pe_int) (fun _ _ => rfl)) (fun _ _ => rfl)) rfl)))))), ?_⟩
  refine ⟨_, rfl, x, _, rfl, ca.ch, ca.cd, tb, fun H1 e1 t1 => ?_⟩
  have c1 := ca.ext e1
  refine ⟨_, rfl, _, rfl, x, y, rows, d, rfl, c1.ch, c1.rw, dp_ext e1 _ _ hy, hd, t1, fun H2 e2 t2 => ⟨_, rfl, ?_⟩⟩
  have c2 := c1.ext e2
  have hy2 := dp_ext (e1.trans e2) _ _ hy
  have q := q H2 (e1.trans e2) t2
  cases hw : walkD rows d with
  | false =>
    have e : ringD rows d = false := by
      cases d with
      | tuple es =>
        have hw : walkL rows es = false := hw
        show (walkL rows es && _) = false
        rw [hw]
        rfl
      | _ => rfl
    rw [e] at q
    exact ifF rfl q
  | true =>
    obtain ⟨es, rfl⟩ : ∃ es, d = .tuple es := by cases d <;> first | exact ⟨_, rfl⟩ | cases hw
    have hw : walkL rows es = true := hw
    have e : ringD rows (.tuple es) = (decide (es.map toI).Nodup && decide (intAt es 0 ∈ rowAt rows (intAt es (es.length - 1)))) := by
      show (walkL rows es && _) = _
      rw [hw, Bool.true_and]
    rw [e] at q
    unfold walkL at hw
    rw [Bool.and_eq_true, Bool.and_eq_true] at hw
    obtain ⟨h1, h2, _⟩ := hw
    have le : 0 < es.length := by cases es with | nil => cases h1 | cons _ _ => simp
    have les := hd es rfl
    obtain ⟨ns, ens⟩ : ∃ ns : List Int, es = ns.map .int := whole_ints es fun d hd => by
      obtain ⟨i, rfl, _⟩ := within_int (List.all_eq_true.mp h2 d hd)
      rfl
    have eti : es.map toI = ns := by rw [ens, List.map_map]; exact List.map_id' _
    rw [eti] at q
    have rng : ∀ n ∈ ns, 0 ≤ n ∧ n < (rows.length : Int) := fun n hn => by
      obtain ⟨i, ei, h3, h4⟩ := within_int (List.all_eq_true.mp h2 (.int n) (by rw [ens]; exact List.mem_map.mpr ⟨n, hn, rfl⟩))
      injection ei with ei
      omega
    rw [ens] at hy2
    obtain ⟨a, rfl, at_⟩ := ints_at hy2
    have ln : ns.length = es.length := by rw [ens, List.length_map]
    have n0 := List.getElem?_eq_getElem (show 0 < ns.length by omega)
    have n1 := List.getElem?_eq_getElem (show ns.length - 1 < ns.length by omega)
    generalize ns[0] = u at n0
    generalize ns[ns.length - 1] = z at n1
    have i0 : intAt es 0 = u := intAt_of (by rw [ens, List.getElem?_map, n0]; rfl)
    have i1 : intAt es (es.length - 1) = z := intAt_of (by rw [ens, List.length_map, List.getElem?_map, n1]; rfl)
    rw [i0, i1] at q
    have rz := rng z (List.mem_of_getElem? n1)
    refine ifT rfl ⟨_, rfl, a, ns, rfl, at_, by omega, fun c hc iff => ⟨_, rfl, a, _, rfl, .inr at_, rfl, _, rfl, ?_⟩⟩
    rw [List.length_map]
    by_cases nd : ns.Nodup
    · rw [decide_eq_true nd, Bool.true_and] at q
      have ec := iff.mpr nd
      have hch := c2.ch
      cases hch with
      | @tup ca' cs _ cat ceach =>
        have hr' := List.getElem?_eq_getElem (show z.toNat < rows.length by omega)
        generalize rows[z.toNat] = row at hr'
        obtain ⟨b, hb, bat⟩ := ch_row ceach hr'
        have hra : rowAt rows z = row := by
          unfold rowAt
          rw [List.getD_eq_getElem?_getD, hr']
          rfl
        rw [hra] at q
        refine ifT (decide_eq_true (by rw [ec])) ⟨_, rfl, a, _, 0, _, rfl, rfl, at_, atI_at (by decide) (by rw [List.getElem?_map]; show Option.map _ ns[0]? = _; rw [n0]; rfl), _, rfl, _, rfl, _, rfl, a, _, -1, _, rfl, rfl, at_, atI_last (by rw [List.length_map]; omega) (by rw [List.length_map, List.getElem?_map, n1]; rfl), ca', cs, z, _, rfl, rfl, cat, atI_at rz.1 hb, b, _, rfl, .inr bat, rfl, flat_ints row, ?_⟩
        rw [if_neg (show ¬ (false = true) by decide), inV_ints]
        exact q
    · rw [decide_eq_false nd, Bool.false_and] at q
      exact ifF (decide_eq_false (fun h => nd (iff.mp (by injection h with h; omega)))) q
/-- all(.. for point in range(..) for after in chart[point]) -/
theorem g2_rk {H : Hp} {a ca : Addr} {cs : List V} {rows : List (List Int)} {ns : List Int} {σ0 : L2.St} {Qe Qn : Hp → Prop} (hl : σ0.length = 5) (h3 : σ0[3]? = some none) (h4 : σ0[4]? = some none) (h0 : σ0[0]? = some (some (.ref ca))) (h1 : σ0[1]? = some (some (.ref a)))
    (at_ : SqT K H a (ns.map V.int)) (cat : SqT K H ca cs) (ceach : DpAll K H cs (rows.map fun ns => .tuple (ns.map .int))) (hrw : RwOk rows) (ln : ns.length = rows.length)
    (he : (∀ p : Nat, p < rows.length → ∀ q ∈ rowAt rows (p : Int), rkAt ns q < rkAt ns (p : Int)) → Qe H) (hn : ∀ p : Nat, p < rows.length → ∀ q ∈ rowAt rows (p : Int), ¬ (rkAt ns q < rkAt ns (p : Int)) → Qn H) :
    ∃ W : Nat → Nat → Hp → Prop, (∃ m, W 0 m H) ∧ g2Turn (Itr 0 rows.length) (gName 3) (iTup K (tOp (rIxT K) (tVar 0) (tVar 3))) (gName 4) (tOp (rI0 fun i j => .bl (decide (j < i))) (tOp (rIxT K) (tVar 1) (tVar 3)) (tOp (rIxT K) (tVar 1) (tVar 4))) [3, 4] [4] σ0 true Qe Qn W := by
  refine ⟨fun i m H' => m = (rows.length - i) * 100 ∧ i ≤ rows.length ∧ H' = H ∧ ∀ p : Nat, p < i → ∀ q ∈ rowAt rows (p : Int), rkAt ns q < rkAt ns (p : Int), ⟨rows.length * 100, rfl, Nat.zero_le _, rfl, fun p hp => absurd hp (Nat.not_lt_zero _)⟩, ?_⟩
  rintro i m H' ⟨rfl, hi, rfl, done⟩
  by_cases hlt : i < rows.length
  · refine .inr ⟨hlt, fun x H'' y => ?_⟩
    obtain ⟨rfl, rfl⟩ := y
    rw [show (0 : Int) + (i : Int) = (i : Int) by omega]
    obtain ⟨v0, v1, v2, v3, v4, rfl⟩ : ∃ v0 v1 v2 v3 v4, σ0 = [v0, v1, v2, v3, v4] := by
      match σ0, hl with
      | [v0, v1, v2, v3, v4], _ => exact ⟨_, _, _, _, _, rfl⟩
    obtain rfl : v0 = some (.ref ca) := Option.some.inj h0
    obtain rfl : v1 = some (.ref a) := Option.some.inj h1
    obtain rfl : v3 = none := Option.some.inj h3
    obtain rfl : v4 = none := Option.some.inj h4
    have hr := List.getElem?_eq_getElem hlt
    generalize rows[i] = row at hr
    have hra : rowAt rows (i : Int) = row := rowAt_nat hr
    obtain ⟨b, hb, bat⟩ := ch_row ceach hr
    have hlen := hrw.len
    have hrow := hrw.row row (List.mem_of_getElem? hr)
    refine ⟨rfl, _, rfl, _, rfl, ca, cs, i, _, rfl, rfl, cat, atI_at (by omega) (by rw [show ((i : Int)).toNat = i by omega]; exact hb), b, rfl, ⟨_, bat⟩, fun j k H' => k + j + 1 = (rows.length - i) * 100 ∧ j ≤ row.length ∧ H' = H'' ∧ ∀ x ∈ row.take j, rkAt ns x < rkAt ns (i : Int), ⟨(rows.length - i) * 100 - 1, by omega, by omega, Nat.zero_le _, rfl, fun x hx => by simp at hx⟩, ?_⟩
    rintro j k H3 ⟨hkj, hj, rfl, din⟩
    by_cases jlt : j < row.length
    · have hq := List.getElem?_eq_getElem jlt
      generalize row[j] = n at hq
      have hxj : (row.map V.int)[j]? = some (.int n) := by rw [List.getElem?_map, hq]; rfl
      have rn := hrow.2 n (List.mem_of_getElem? hq)
      refine .inr ⟨⟨_, _, bat, hxj⟩, fun x H4 y => ?_⟩
      obtain ⟨rfl, y⟩ := y
      have y := y _ bat
      rw [hxj] at y
      cases y
      refine ⟨rfl, _, rfl, _, rfl, a, _, i, _, rfl, rfl, at_, atI_at (by omega) (rk_get (by omega) (by omega)), _, rfl, _, rfl, a, _, n, _, rfl, rfl, at_, atI_at rn.1 (rk_get rn.1 (by omega)), _, _, rfl, rfl, _, rfl, fun c => ⟨k - 1, by omega, by omega, jlt, rfl, fun x hx => ?_⟩, fun c => ?_⟩
      · rw [List.take_add_one, hq] at hx
        rcases List.mem_append.mp hx with hx | hx
        · exact din x hx
        · rw [show x = n by simpa using hx]
          exact of_decide_eq_true c
      · exact hn i hlt n (by rw [hra]; exact List.mem_of_getElem? hq) (fun z => c (decide_eq_true z))
    · have e : j = row.length := by omega
      subst e
      rw [List.take_length] at din
      refine .inl ⟨⟨_, bat, by rw [List.length_map]; exact Nat.le_refl _⟩, (rows.length - (i + 1)) * 100, by omega, by omega, rfl, hlt, rfl, fun p' hp' => ?_⟩
      by_cases e : p' = i
      · rw [e, hra]
        exact din
      · exact done p' (by omega)
  · have e : i = rows.length := by omega
    subst e
    exact .inl ⟨Nat.le_refl _, he done⟩
abbrev arN : List Str := ["chart", "thing", "rank", "point", "after"]
theorem scAreRanks : FnScope arN ["chart", "thing"] (defScope sAreRanks) := ⟨rfl, rfl, rfl, by decide +kernel, rfl, by decide +kernel, by decide +kernel⟩
theorem ok_areRanks {k : Nat} {c Pc : Addr} {PT : TbP} (F : Fun K "are_ranks" "are_ranks" sAreRanks f fd) (hc : fd.code = .ref c) (TB : LamX.TabB base mg c Pc) (hPT : Pc ∈ PT.g) (T : Free mg) (hA : mg "all" = none) (cC : Cal P w K mg base "check_chart" (k + 1) ["chart"] (spCheckCh K PT)) (cW : Cal P w K mg base "is_whole" k ["thing"] (spWhole K)) : FnOk P w K mg base CX0 (k + 2) f fd ["chart", "thing"] (spIs K PT ranksD) := by
  refine okC F hc scAreRanks (fun vs H Q E h => ?_) (fun A outer s H vs Q E hr h => ?_)
  · obtain ⟨x, y, rows, d, rfl, _⟩ := h
    rfl
  obtain ⟨x, y, rows, d, rfl, ca, hy, hd, tb, q⟩ := h
  refine ⟨_, pss_cons (ps_expr (pe_cal cC hr rfl (pa_cons (pv 0) pa_nil)))
    (pss_cons (ps_if (PW.pt (pw_or (pt_not (pt_val (pe_callB call_isi rfl T.isi (by decide +kernel) (pa_cons (pv 1) (pa_cons (pe_bltn (v := .ty "tuple") rfl T.tuple (by decide +kernel) rfl) pa_nil))))) (pw_or1 (pt_cmpR op_ne (pe_callB call_len_seq rfl T.len PySem.boot_len (pa_cons (pv 1) pa_nil)) (pe_callB call_len_seq rfl T.len PySem.boot_len (pa_cons (pv 0) pa_nil)) (nomark _))))) (pss_one (ps_ret pe_bl)) pss_nil)
    (pss_cons (ps_if (pt_not (pt_val (pe_allG (own := [("rank", 2)]) (wi := iTup K (tVar 1)) (g := gName 2) (tt := tYes) (te := tCall (spWhole K) [] E0 (tCons (tVar 2) tNil)) scAreRanks.nd hr rfl hA (by decide +kernel) TB rfl
        (blkOk_by (own := [("rank", 2)]) (N := arN) (sc := defScope sAreRanks) (by decide +kernel)) (by decide +kernel) rfl rfl (pi_tup (pv 1))
        (fun _ _ _ _ _ _ _ _ _ _ => pg_name (i := 2) scAreRanks.nd rfl (Or.inl rfl)) (fun _ _ _ _ _ _ _ _ _ _ => pts_nil)
        (fun _ _ _ _ _ _ _ _ _ hr' => pe_cal cW hr' rfl (pa_cons (pv 2) pa_nil)) (fun _ => rfl)))) (pss_one (ps_ret pe_bl)) pss_nil)
    (pss_one (ps_ret (pe_allG2 (own := [("point", 3), ("after", 4)]) (vs1 := [4]) (wi := iRng1 (tCons (tCB (rLen K) (tCons (tVar 0) tNil)) tNil)) (g := gName 3) (wb := iTup K (tOp (rIxT K) (tVar 0) (tVar 3))) (gb := gName 4) (te := tOp (rI0 fun i j => .bl (decide (j < i))) (tOp (rIxT K) (tVar 1) (tVar 3)) (tOp (rIxT K) (tVar 1) (tVar 4))) scAreRanks.nd hr rfl hA (by decide +kernel) TB rfl
        (blkOk_by (own := [("point", 3), ("after", 4)]) (N := arN) (sc := defScope sAreRanks) (by decide +kernel)) (by decide +kernel) rfl rfl (by decide) (fun _ _ => rfl) (pi_range1 rfl T.range (pa_cons (pe_callB call_len_seq rfl T.len PySem.boot_len (pa_cons (pv 0) pa_nil)) pa_nil))
        (fun _ _ _ _ _ _ _ _ _ _ => pg_name (i := 3) scAreRanks.nd rfl (Or.inl rfl)) (fun _ _ _ _ _ _ _ _ _ _ => pi_tup (pe_ix ix_tup (pv 0) (pv 3) (fun _ _ => rfl))) (fun _ _ _ _ _ _ _ _ _ _ => pg_name (i := 4) scAreRanks.nd rfl (Or.inl rfl))
        (fun _ _ _ _ _ _ _ _ _ hr' => pe_cmpR op_gt (pe_ix ix_tup (pv 1) (pv 3) (fun _ _ => rfl)) (pe_ix ix_tup (pv 1) (pv 4) (fun _ _ => rfl)) rfl) (fun _ => rfl)))))), ?_⟩
  refine ⟨_, rfl, x, _, rfl, ca.ch, ca.cd, tb, fun H1 e1 t1 => ?_⟩
  have c1 := ca.ext e1
  have hy1 := dp_ext e1 _ _ hy
  have q : ∀ H', LamX.ExtN H1 H' → TabsG PT H' → Q (.bl (ranksD rows d)) H' := fun H' e t => q H' (e1.trans e) t
  have q0 : ranksD rows d = false → ∀ H', LamX.ExtN H1 H' → TabsG PT H' → Q (.bl false) H' := fun z H' e t => by have := q H' e t; rw [z] at this; exact this
  refine ⟨_, rfl, y, _, _, _, _, rfl, .ty "tuple", ty_of hy1, kit_tuple d, _, rfl, ?_⟩
  cases ht : tupleD d with
  | false =>
    have e : ranksD rows d = false := by cases d <;> first | rfl | cases ht
    exact ifT rfl (ifT rfl (q0 e H1 (LamX.ExtN.refl _) t1))
  | true =>
    obtain ⟨es, rfl⟩ : ∃ es, d = .tuple es := by cases d <;> first | exact ⟨_, rfl⟩ | cases ht
    have les := hd es rfl
    have hch := c1.ch
    cases hy1 with
    | @tup a xs _ at_ each =>
      have lx := dpAll_len each
      cases hch with
      | @tup ca' cs _ cat ceach =>
        have lc : cs.length = rows.length := by have := dpAll_len ceach; rw [List.length_map] at this; exact this
        refine ifF rfl ⟨_, rfl, a, xs, rfl, .inr at_, _, rfl, ca', cs, rfl, .inr cat, rfl, _, rfl, ?_⟩
        rw [lx, lc]
        by_cases el : es.length = rows.length
        · refine ifF (by rw [el, decide_eq_true rfl]; rfl) ⟨_, rfl, a, rfl, ⟨xs, at_⟩, t1.1 Pc hPT, fun H2 b2 => ?_⟩
          have e2 := tabbed_ext (t1.1 Pc hPT) b2
          refine gx_tup (xs := xs) (fun i H' => LamX.ExtN H1 H' ∧ TabsG PT H' ∧ (es.take i).all wholeD = true) ⟨e2, t1.tabbed hPT b2, rfl⟩ (fun i H' _ h => sqT_ext h.1 at_) (fun i y H' hy h => ?_) (fun H' h => ?_)
          · obtain ⟨e3, t3, all3⟩ := h
            obtain ⟨d, hd, hdy⟩ := dpAll_get' each hy
            refine ⟨rfl, yesG ⟨_, rfl, y, d, rfl, dp_ext e3 _ _ hdy, _, rfl, fun c => ⟨e3, t3, ?_⟩, fun c => ?_⟩⟩
            · rw [all_take hd, all3, c]
              rfl
            · have e : ranksD rows (.tuple es) = false := by
                show (_ && (es.all wholeD && _)) = false
                have z : es.all wholeD = false := by
                  cases z : es.all wholeD with
                  | false => rfl
                  | true => exact absurd (List.all_eq_true.mp z d (List.mem_of_getElem? hd)) c
                rw [z, Bool.false_and, Bool.and_false]
              exact ⟨_, rfl, ifT rfl (q0 e H' e3 t3)⟩
          · obtain ⟨e3, t3, all3⟩ := h
            rw [lx, List.take_length] at all3
            obtain ⟨ns, ens⟩ : ∃ ns : List Int, es = ns.map .int := whole_ints es fun d hd => List.all_eq_true.mp all3 d hd
            have eti : es.map toI = ns := by rw [ens, List.map_map]; exact List.map_id' _
            have exs : xs = ns.map V.int := ints_dp ns xs (by rw [← ens]; exact each)
            have ln : ns.length = rows.length := by rw [← el, ens, List.length_map]
            have eR : ranksD rows (.tuple es) = ranksL rows ns := by
              show (decide (es.length = rows.length) && (es.all wholeD && ranksL rows (es.map toI))) = _
              rw [decide_eq_true el, all3, eti, Bool.true_and, Bool.true_and]
            refine ⟨_, rfl, ifF rfl ⟨_, rfl, ca', cs, rfl, .inr (sqT_ext e3 cat), _, rfl, by omega, by rw [lc]; have := c1.rw.len; omega, t3.1 Pc hPT, fun H4 b4 => ?_⟩⟩
            have x4 := tabbed_ext (t3.1 Pc hPT) b4
            have e4 := e3.trans x4
            have t4 := t3.tabbed hPT b4
            rw [show ((cs.length : Nat) : Int).toNat = rows.length by omega]
            refine g2_rk (rows := rows) (ns := ns) rfl rfl rfl rfl rfl (by rw [← exs]; exact sqT_ext e4 at_) (sqT_ext e4 cat) (dp_exts e4 _ _ ceach) c1.rw ln (fun all5 => ?_) (fun p hp i hi ni => ?_)
            · have r := q H4 e4 t4
              have z : ranksL rows ns = true := List.all_eq_true.mpr fun p hp => List.all_eq_true.mpr fun i hi => decide_eq_true (all5 p (List.mem_range.mp hp) i hi)
              rw [eR, z] at r
              exact r
            · have r := q H4 e4 t4
              have z : ranksL rows ns = false := List.all_eq_false.mpr ⟨p, List.mem_range.mpr hp, by
                rw [Bool.not_eq_true]
                exact List.all_eq_false.mpr ⟨i, hi, by rw [decide_eq_true_eq]; exact ni⟩⟩
              rw [eR, z] at r
              exact r
        · have e : ranksD rows (.tuple es) = false := by
            show (decide (es.length = rows.length) && _) = false
            rw [decide_eq_false el, Bool.false_and]
          exact ifT (by rw [decide_eq_false (fun z => el (by injection z with z; omega))]; rfl) (q0 e H1 (LamX.ExtN.refl _) t1)
end
def CalX (P : Program) (w : World) (K : PySem.W.Frag) (mg : Str → Option Value) (base : Heap) (x : Str) (k : Nat) (ps : List Str) (sp : Sp) : Prop :=
  ∃ (f : Addr) (fd : FuncData), FnOk P w K mg base (L2.CX P w) k f fd ps sp ∧ mg x = some (.ref f) ∧ PySem.W.keepIn K (.ref f) = true ∧ Binds K fd ps []
abbrev wE (E : XK) : WX := fun cls d _ H => E cls d H
theorem pass_of {X : Cx} {E : XK} (tk : Takes X (wE E)) : Passes (L2.CX X.prog X.w) X E := passes_call tk fun _ _ _ _ h => h
theorem CalX.mono {P : Program} {w : World} {K : PySem.W.Frag} {mg : Str → Option Value} {base : Heap} {x : Str} {j k : Nat} {ps : List Str} {sp : Sp} (C : CalX P w K mg base x j ps sp) (h : j ≤ k) : CalX P w K mg base x k ps sp := by
  obtain ⟨f, fd, F, r⟩ := C
  exact ⟨f, fd, F.mono h, r⟩
theorem pe_calX {X : Cx} {E : XK} {x : Str} {p pos : Pos} {e : Expr} {es : List Expr} {t : TA} {k : Nat} {ps : List Str} {sp : Sp} (C : CalX X.prog X.w X.K X.mg X.base x k ps sp) (hr : Room k X.A) (hg : Gl X x) (tk : Takes X (wE E)) (ha : PA X (e :: es) t)
    (h1 : (x == ("__debug__" : Str)) = false := by decide) (h2 : starEach (e :: es) X.env = (false, eval e X.env) :: starEach es X.env := by rfl) (h3 : ((backTo pos (starEach es X.env)).any fun x => x.fst) = false := by rfl) :
    PE X (.Call (.Name x p) (e :: es) [] pos) (tCall sp [] E t) := by
  obtain ⟨f, fd, F, hm, hk, hb⟩ := C
  exact pe_call F hr hg hm hk hb .nil (pass_of tk) ha h1 h2 h3
structure Exn (K : PySem.W.Frag) (mg : Str → Option Value) (x : Str) (C : Addr) : Prop where
  q : PySem.W.excIn K C [.type "ValueError", .type "Exception", .type "BaseException", .type "object"] "ValueError.__new__" = true
  g : mg x = some (.ref C)
  k : PySem.W.keepIn K (.ref C) = true
  s : PySem.W.subIn K (.ref C) (.type "BaseException") = some true
  t : PySem.W.typeIn K (.ref C) = some (.type "type")
/-! refusals of charts and points -/
theorem FnOk.lift {P : Program} {w : World} {K : PySem.W.Frag} {mg : Str → Option Value} {base : Heap} {k : Nat} {f : Addr} {fd : FuncData} {ps : List Str} {sp : Sp} (F : FnOk P w K mg base CX0 k f fd ps sp) : FnOk P w K mg base (L2.CX P w) k f fd ps sp :=
  ⟨F.len, fun A outer s H args us vs Q E hr e0 hb r hsp => codeAny_mono (F.run A outer s H args us vs Q E hr e0 hb r hsp) fun r s' h => by
    match r, h with
    | .error e, h => exact h.elim
    | .ok fl, h =>
      cases fl with
      | ret u => exact h
      | next => exact h
      | brk => exact h
      | cont => exact h⟩
def spOr (a b : Sp) : Sp := fun vs H Q E => a vs H Q E ∨ b vs H Q E
theorem FnOk.or {P : Program} {w : World} {K : PySem.W.Frag} {mg : Str → Option Value} {base : Heap} {CX : CXT} {k : Nat} {f : Addr} {fd : FuncData} {ps : List Str} {sp sp' : Sp} (F : FnOk P w K mg base CX k f fd ps sp) (G : FnOk P w K mg base CX k f fd ps sp') : FnOk P w K mg base CX k f fd ps (spOr sp sp') :=
  ⟨fun vs H Q E h => h.elim (F.len vs H Q E) (G.len vs H Q E), fun A outer s H args us vs Q E hr e0 hb r h => h.elim (F.run A outer s H args us vs Q E hr e0 hb r) (G.run A outer s H args us vs Q E hr e0 hb r)⟩
section
open LamX
variable {P : Program} {w : World} {K : PySem.W.Frag} {mg : Str → Option Value} {base : Heap} {f CC CP : Addr} {fd : FuncData} {PT : TbP}
/-- no chart -/
def BadH (K : PySem.W.Frag) (PT : TbP) (CC : Addr) (H : Hp) (x : V) (E : XK) : Prop := ∃ d, Dp K H x d ∧ chartD d = false ∧ TabsG PT H ∧ ∀ H', ExtN H H' → TabsG PT H' → E (.ref CC) none H'
/-- no chart, or no points of it -/
def BadC (K : PySem.W.Frag) (PT : TbP) (CC CP : Addr) (H : Hp) (x y z : V) (E : XK) : Prop := BadH K PT CC H x E ∨ ∃ ds d e, Dp K H x (.tuple ds) ∧ Dp K H y d ∧ Dp K H z e ∧ chartD (.tuple ds) = true ∧ (pointsD ds.length d && pointsD ds.length e) = false ∧ TabsG PT H ∧ ∀ H', ExtN H H' → TabsG PT H' → E (.ref CP) none H'
def spBad1 (K : PySem.W.Frag) (PT : TbP) (CC : Addr) : Sp := fun vs H _ E => ∃ x, vs = [x] ∧ BadH K PT CC H x E
def spBad2 (K : PySem.W.Frag) (PT : TbP) (CC : Addr) : Sp := fun vs H _ E => ∃ x t, vs = [x, t] ∧ BadH K PT CC H x E
def spBad3 (K : PySem.W.Frag) (PT : TbP) (CC CP : Addr) : Sp := fun vs H _ E => ∃ x y z, vs = [x, y, z] ∧ BadC K PT CC CP H x y z E
def spBad4 (K : PySem.W.Frag) (PT : TbP) (CC CP : Addr) : Sp := fun vs H _ E => ∃ x y z t, vs = [x, y, z, t] ∧ BadC K PT CC CP H x y z E
theorem bad_checkCh {k : Nat} (F : Fun K "check_chart" "check_chart" sCheckCh f fd) (X : Exn K mg "NoChart" CC) (cI : Cal P w K mg base "is_chart" k ["thing"] (spIsChart K PT)) : FnOk P w K mg base (L2.CX P w) (k + 1) f fd ["chart"] (spBad1 K PT CC) := by
  refine F.okX scCheckCh (fun vs H Q E h => ?_) (fun cdv A outer s H vs Q E hr h => ?_)
  · obtain ⟨x, rfl, _⟩ := h
    rfl
  obtain ⟨x, rfl, d, hx, hc, tb, q⟩ := h
  refine ⟨_, pss_one (ps_if (pt_not (pt_val (pe_cal cI hr rfl (pa_cons (pv 0) pa_nil)))) (pss_one (ps_raise rfl (takes_of (E := E) rfl rfl rfl rfl) (pmk_own PySem.F.excBase_ValueError X.q X.g X.k (raises_own X.s X.t) rfl))) pss_nil), ?_⟩
  refine ⟨_, rfl, x, d, rfl, hx, tb, fun H' e t => ⟨_, rfl, ?_⟩⟩
  rw [hc]
  exact ifT rfl (q H' e t)
theorem bad_checkCase {k : Nat} (F : Fun K "check_case" "check_case" sCheckCase f fd) (X : Exn K mg "NoPoints" CP) (T : Free mg) (cH : CalX P w K mg base "check_chart" k ["chart"] (spOr (spCheckCh K PT) (spBad1 K PT CC))) (cP : Cal P w K mg base "are_points" k ["thing", "many"] (spPoints K)) : FnOk P w K mg base (L2.CX P w) (k + 1) f fd ["chart", "starts", "goals"] (spBad3 K PT CC CP) := by
  refine F.okX scCheckCase (fun vs H Q E h => ?_) (fun cdv A outer s H vs Q E hr h => ?_)
  · obtain ⟨x, y, z, rfl, _⟩ := h
    rfl
  obtain ⟨x, y, z, rfl, h⟩ := h
  refine ⟨_, pss_cons (ps_expr (pe_calX (E := E) cH hr rfl (takes_of rfl rfl rfl rfl) (pa_cons (pv 0) pa_nil)))
    (pss_cons (ps_if (pt_not (pt_val (pe_cal cP hr rfl (pa_cons (pv 1) (pa_cons (pe_callB call_len_seq rfl T.len PySem.boot_len (pa_cons (pv 0) pa_nil)) pa_nil))))) (pss_one (ps_raise rfl (takes_of (E := E) rfl rfl rfl rfl) (pmk_own PySem.F.excBase_ValueError X.q X.g X.k (raises_own X.s X.t) rfl))) pss_nil)
    (pss_one (ps_if (pt_not (pt_val (pe_cal cP hr rfl (pa_cons (pv 2) (pa_cons (pe_callB call_len_seq rfl T.len PySem.boot_len (pa_cons (pv 0) pa_nil)) pa_nil))))) (pss_one (ps_raise rfl (takes_of (E := E) rfl rfl rfl rfl) (pmk_own PySem.F.excBase_ValueError X.q X.g X.k (raises_own X.s X.t) rfl))) pss_nil))), ?_⟩
  rcases h with b | ⟨ds, d, e, hx, hy, hz, hc, hp, tb, q⟩
  · exact ⟨_, rfl, .inr ⟨x, rfl, b⟩⟩
  refine ⟨_, rfl, .inl ⟨x, _, rfl, hx, hc, tb, fun H1 e1 t1 => ?_⟩⟩
  have hx1 := dp_ext e1 _ _ hx
  have hy1 := dp_ext e1 _ _ hy
  have hz1 := dp_ext e1 _ _ hz
  cases hx1 with
  | @tup a xs _ at_ each =>
    have lx := dpAll_len each
    refine ⟨_, rfl, _, rfl, a, xs, rfl, .inr at_, y, d, _, rfl, hy1, _, rfl, ?_⟩
    rw [lx]
    cases hd : pointsD ds.length d with
    | false => exact ifT rfl (q H1 e1 t1)
    | true =>
      rw [hd, Bool.true_and] at hp
      refine ifF rfl ⟨_, rfl, _, rfl, a, xs, rfl, .inr at_, z, e, _, rfl, hz1, _, rfl, ?_⟩
      rw [lx, hp]
      exact ifT rfl (q H1 e1 t1)
theorem bad_isWay {k : Nat} (F : Fun K "is_way" "is_way" sIsWay f fd) (cC : CalX P w K mg base "check_case" k ["chart", "starts", "goals"] (spBad3 K PT CC CP)) : FnOk P w K mg base (L2.CX P w) (k + 1) f fd ["chart", "starts", "goals", "thing"] (spBad4 K PT CC CP) := by
  refine F.okX scIsWay (fun vs H Q E h => ?_) (fun cdv A outer s H vs Q E hr h => ?_)
  · obtain ⟨x, y, z, t, rfl, _⟩ := h
    rfl
  obtain ⟨x, y, z, t, rfl, h⟩ := h
  refine ⟨_, pss_cons (ps_expr (pe_calX (E := E) cC hr rfl (takes_of rfl rfl rfl rfl) (pa_cons (pv 0) (pa_cons (pv 1) (pa_cons (pv 2) pa_nil))))) pss_never, ?_⟩
  exact ⟨_, rfl, _, rfl, _, rfl, x, y, z, rfl, h⟩
theorem bad_isBar {k : Nat} (F : Fun K "is_bar" "is_bar" sIsBar f fd) (cC : CalX P w K mg base "check_case" k ["chart", "starts", "goals"] (spBad3 K PT CC CP)) : FnOk P w K mg base (L2.CX P w) (k + 1) f fd ["chart", "starts", "goals", "thing"] (spBad4 K PT CC CP) := by
  refine F.okX scIsBar (fun vs H Q E h => ?_) (fun cdv A outer s H vs Q E hr h => ?_)
  · obtain ⟨x, y, z, t, rfl, _⟩ := h
    rfl
  obtain ⟨x, y, z, t, rfl, h⟩ := h
  refine ⟨_, pss_cons (ps_expr (pe_calX (E := E) cC hr rfl (takes_of rfl rfl rfl rfl) (pa_cons (pv 0) (pa_cons (pv 1) (pa_cons (pv 2) pa_nil))))) pss_never, ?_⟩
  exact ⟨_, rfl, _, rfl, _, rfl, x, y, z, rfl, h⟩
theorem bad_paper {k : Nat} (F : Fun K "paper" "paper" sPaper f fd) (cC : CalX P w K mg base "check_case" k ["chart", "starts", "goals"] (spBad3 K PT CC CP)) : FnOk P w K mg base (L2.CX P w) (k + 1) f fd ["chart", "starts", "goals"] (spBad3 K PT CC CP) := by
  refine F.okX scPaper (fun vs H Q E h => ?_) (fun cdv A outer s H vs Q E hr h => ?_)
  · obtain ⟨x, y, z, rfl, _⟩ := h
    rfl
  obtain ⟨x, y, z, rfl, h⟩ := h
  refine ⟨_, pss_cons (ps_expr (pe_calX (E := E) cC hr rfl (takes_of rfl rfl rfl rfl) (pa_cons (pv 0) (pa_cons (pv 1) (pa_cons (pv 2) pa_nil))))) pss_never, ?_⟩
  exact ⟨_, rfl, _, rfl, _, rfl, x, y, z, rfl, h⟩
theorem bad_isRing {k : Nat} (F : Fun K "is_ring" "is_ring" sIsRing f fd) (cC : CalX P w K mg base "check_chart" k ["chart"] (spBad1 K PT CC)) : FnOk P w K mg base (L2.CX P w) (k + 1) f fd ["chart", "thing"] (spBad2 K PT CC) := by
  refine F.okX scIsRing (fun vs H Q E h => ?_) (fun cdv A outer s H vs Q E hr h => ?_)
  · obtain ⟨x, t, rfl, _⟩ := h
    rfl
  obtain ⟨x, t, rfl, h⟩ := h
  refine ⟨_, pss_cons (ps_expr (pe_calX (E := E) cC hr rfl (takes_of rfl rfl rfl rfl) (pa_cons (pv 0) pa_nil))) pss_never, ?_⟩
  exact ⟨_, rfl, x, rfl, h⟩
theorem bad_areRanks {k : Nat} (F : Fun K "are_ranks" "are_ranks" sAreRanks f fd) (cC : CalX P w K mg base "check_chart" k ["chart"] (spBad1 K PT CC)) : FnOk P w K mg base (L2.CX P w) (k + 1) f fd ["chart", "thing"] (spBad2 K PT CC) := by
  refine F.okX scAreRanks (fun vs H Q E h => ?_) (fun cdv A outer s H vs Q E hr h => ?_)
  · obtain ⟨x, t, rfl, _⟩ := h
    rfl
  obtain ⟨x, t, rfl, h⟩ := h
  refine ⟨_, pss_cons (ps_expr (pe_calX (E := E) cC hr rfl (takes_of rfl rfl rfl rfl) (pa_cons (pv 0) pa_nil))) pss_never, ?_⟩
  exact ⟨_, rfl, x, rfl, h⟩
theorem bad_rounds {k : Nat} (F : Fun K "rounds" "rounds" sRounds f fd) (cC : CalX P w K mg base "check_chart" k ["chart"] (spBad1 K PT CC)) : FnOk P w K mg base (L2.CX P w) (k + 1) f fd ["chart"] (spBad1 K PT CC) := by
  refine F.okX scRounds (fun vs H Q E h => ?_) (fun cdv A outer s H vs Q E hr h => ?_)
  · obtain ⟨x, rfl, _⟩ := h
    rfl
  obtain ⟨x, rfl, h⟩ := h
  refine ⟨_, pss_cons (ps_expr (pe_calX (E := E) cC hr rfl (takes_of rfl rfl rfl rfl) (pa_cons (pv 0) pa_nil))) pss_never, ?_⟩
  exact ⟨_, rfl, x, rfl, h⟩
end
theorem pe_nev {X : Cx} {e : Expr} : PE X e (fun _ _ _ => False) := ⟨fun _ _ _ _ _ _ h => h.elim⟩
theorem pt_nev {X : Cx} {e : Expr} : PT X e (fun _ _ _ => False) := ⟨fun _ _ _ _ _ _ h => h.elim⟩
def names19 : List Str := ["NoChart", "NoPoints", "NoGraph", "NoPlace", "NoNet", "NoActor", "NoWeaving", "NoName", "NoChannel", "NoMost", "NoCode", "NoRow", "NoAddress", "NoDeed", "NotFull", "NotStill", "NoLine", "NoText", "Unsafe"]
def words19 : List Str := ["chart", "points", "graph", "place", "net", "actor", "weaving", "name", "channel", "most", "code", "row", "address", "deed", "full", "still", "line", "text", "unsafe"]
structure Kin (K : PySem.W.Frag) (mg : Str → Option Value) (D : Addr) (j : Nat) : Prop where
  exc : ExcC K D
  cls : ∀ (i : Nat) (x : Str), names19[i]? = some x → ∃ C, mg x = some (.ref C) ∧ PySem.W.kitOne K (.ref D) (.ref C) = some (decide (i = j))
  ve : PySem.W.kitOne K (.ref D) (.type "ValueError") = some true
section
open PySem.Spec PyProof.Rows
theorem call_isP {X : Cx} {a D : Addr} {oe : Obj} (C : ExcC X.K D) (hp : (a, oe) ∈ X.pn) (hz : Zc (.ref D) none oe) (hf : ∃ vs, oe.data = .fields vs) : CallR X (.builtin "isinstance") (rIsE X.K D a) := by
  intro pins s σ H xs us Q I r h
  obtain ⟨c, cv, b, rfl, hcv, e, q⟩ := h
  obtain ⟨u1, u2, rfl, r1, r2⟩ := vals2 r
  cases r1
  obtain rfl := hcv _ r2
  have there := (I.pin (a, oe) (List.mem_append_left _ hp)).1
  obtain ⟨vs, hv⟩ := hf
  have J : PySem.W.InstAt s.heap a oe D none := by
    obtain ⟨oc, od, oda, osl⟩ := oe
    obtain ⟨e1, e2⟩ := hz
    dsimp only at e1 e2 hv
    subst e1 e2 hv
    exact ⟨there, rfl, rfl, trivial⟩
  exact PySem.W.kia_one (PySem.W.handS_kitx_exc C.hg C.hk C.hs C.hd C.ha C.hn C.ht C.hm) I.kIn J e (fun z => nomatch z) fun tk => ⟨.bl b, H, I.kept (t' := tk) fun _ _ z => z, rfl, q⟩
end
def rCntB (K : PySem.W.Frag) : V → List V → Hp → VK → Prop := fun x xs H Q => ∃ (p : Addr) (bs : List Bool), x = .ref p ∧ xs = [.bl true] ∧ SqL K H p (bs.map V.bl) ∧ Q (.int (bs.count true : Nat)) H
def isT : Value → Bool
  | .bool b => b
  | _ => false
theorem bools_of : ∀ {bs : List Bool} {us : List Value}, Vals (bs.map V.bl) us → us = bs.map Value.bool
  | [], us, r => by cases r; rfl
  | b :: bs, us, r => by
    cases r with
    | cons r1 r2 =>
      cases r1
      rw [bools_of r2]
      rfl
theorem cnt_bools : ∀ bs : List Bool, (bs.map Value.bool).countP isT = bs.count true
  | [] => rfl
  | b :: bs => by
    rw [List.map_cons, List.countP_cons, List.count_cons, cnt_bools bs]
    cases b <;> rfl
theorem mt_cntB {X : Cx} : MtR X "list.count" (rCntB X.K) := by
  intro pins s σ H x xs v us Q I rx rxs h
  obtain ⟨p, bs, rfl, rfl, hs, q⟩ := h
  cases rx
  obtain ⟨u, rfl, ru⟩ := rxs.one
  cases ru
  obtain ⟨its, rv, ⟨⟨cls, dd, data, sl⟩, n, ho, hc, hdn, hd⟩, hlen⟩ := I.list hs
  simp only at hc hd
  subst hc hd
  have hi := bools_of rv
  subst hi
  refine call_meets PySem.F.slot_list_count ⟨_, ho, rfl⟩ PySem.F.entry_list_count (PySem.F.args_list_count_2 _ _) (SeqAt.list_countAt p (bs.map Value.bool).toArray n dd sl (.bool true) isT) ⟨ho, fun y hy => ?_, ?_⟩
  · obtain ⟨b, _, rfl⟩ := List.mem_map.mp (show y ∈ bs.map Value.bool by simpa using hy)
    rw [show isT (.bool b) = (b == true) by cases b <;> rfl]
    exact SeqAt.EqAt.bool_bool b true
  · refine ⟨.int (bs.count true : Nat), H, I.tok _, ⟨s.toks, ?_⟩, q⟩
    show Value.int (((bs.map Value.bool).toArray.toList.countP isT : Nat) : Int) s.toks = _
    rw [show (bs.map Value.bool).toArray.toList = bs.map Value.bool from rfl, cnt_bools]
section
open PySem.Spec PyProof.Rows
variable {P : Program} {w : World} {K : PySem.W.Frag} {mg : Str → Option Value} {base : Heap} {f D : Addr} {fd : FuncData}
theorem nb {H G : Hp} {q : Addr} (s : Same H G) (h : G q = none) : H q = none := by
  cases e : H q with
  | none => rfl
  | some u => rw [s _ _ e] at h; cases h
/-- a def that is called while the error is looked at -/
def HotOk (P : Program) (w : World) (K : PySem.W.Frag) (mg : Str → Option Value) (base : Heap) (k : Nat) (f D : Addr) (R : Hp → VK → Prop) : Prop :=
  ∀ (A : Around) (outer : List Env) (s : Shared) (H : Hp) (Q : VK) (a : Addr) (oe : Obj), L2H.RoomH k A → L2H.PinOk outer H s (a, oe) → Zc (.ref D) none oe → (∃ vs, oe.data = .fields vs) → Env0 P w K mg base A outer s H → R H Q → codeAny (model P w) A (.call (.ref f) ⟨[.ref a], []⟩) (CR CX0 outer P w H s Q E0) s
theorem HotOk.mono {R : Hp → VK → Prop} {j k : Nat} (h : HotOk P w K mg base j f D R) (l : j ≤ k) : HotOk P w K mg base k f D R := fun A outer s H Q a oe hr => h A outer s H Q a oe (hr.mono l)
theorem hot_of {k : Nat} {x : Str} {st : Stmt} {N : List Str} {R : Hp → VK → Prop} (F : Fun K x x st f fd) (S : FnScope N ["_law_e"] (defScope st)) (hl : (defScope st).names.lookup ("_law_e" : Str) = some NameKind.local) (hbd : ∀ (s : Shared) (u : Value), BindsTo s fd ⟨[u], []⟩ [("_law_e", u)])
    (main : ∀ (cdv : Value) (A : Around) (outer : List Env) (s : Shared) (H : Hp) (Q : VK) (a : Addr) (oe : Obj), L2H.RoomH k (A.deeper (envOfC x (defScope st) s.heap.objs.size f cdv)) → Zc (.ref D) none oe → (∃ vs, oe.data = .fields vs) → R H Q →
      ∃ t, PSs (L2H.cxH CX0 P w K mg base N x (defScope st) f cdv A outer s H E0 (a, oe)) (defBody st) t ∧ t { nx := fun _ _ => False, rt := Q } (L2.start N [.ref a]) H) : HotOk P w K mg base (k + 1) f D R := by
  intro A outer s H Q a oe hr pin hz hf at0 q
  obtain ⟨oc, od, kV, doc, pm, an, cdv, ct, osl, rfl, found, code⟩ := F.ex
  have hin : K.In s.heap := at0.mod.kin.keeps fun b o e => (at0.bs b o e).1
  have unl : s.heap.NoLimit := at0.mod.nolimit.keeps fun b o e => (at0.bs b o e).1
  have kinds : ∀ y ∈ [(("_law_e" : Str), Value.ref a)], (defScope st).names.lookup y.1 = some .local ∨ ((defScope st).names.lookup y.1 = some .cell ∧ ((cellsFrom (s.heap.objs.size + 1) (defScope st).names []).lookup y.1).isSome = true) := by
    intro y hy
    rcases List.mem_cons.mp hy with rfl | hy
    · exact .inl hl
    · cases hy
  refine codeAny_call_function hr.depth (hin _ _ found) rfl S.co S.gen rfl (PySem.W.codeRec_of hin code) (hbd _ _ _ _ _ _ ?_)
  refine wpAny_newFunctionEnv_cells S.kind kinds fun env he s1 ic => ?_
  subst he
  refine ⟨unl.keeps ic.toInCall.keep, codeAny_func ?_⟩
  have I := L2H.inv_startH (CX := CX0) (E := E0) (us := [.ref a]) (vs := [.ref a]) S pin at0 rfl (.cons rfl .nil) ic
  obtain ⟨t, ht, hq⟩ := main cdv A outer s H Q a oe (hr.deeper _) hz hf q
  refine wpAny_mono (ht.run [] s1 _ H _ I hq) (fun fl s' out => ?_) fun e s' out => out
  cases fl with
  | ret u =>
    obtain ⟨v, σ', H', J, rv, q⟩ := out
    exact ⟨v, H', J.os, J.bare, J.base, J.hok, rv, q⟩
  | next =>
    obtain ⟨_, _, _, z⟩ := out
    exact z.elim
  | brk =>
    obtain ⟨_, _, _, z⟩ := out
    exact z.elim
  | cont =>
    obtain ⟨_, _, _, z⟩ := out
    exact z.elim
theorem pe_hot {Z : Cx} {a f D : Addr} {oe : Obj} {x : Str} {R : Hp → VK → Prop} {k : Nat} {p pos : Pos} {e : Expr} {t : TA} (hp : (a, oe) ∈ Z.pn) (hz : Zc (.ref D) none oe) (hf : ∃ vs, oe.data = .fields vs) (ok : HotOk Z.prog Z.w Z.K Z.mg Z.base k f D R) (hr : L2H.RoomH k Z.A) (hg : Gl Z x)
    (hm : Z.mg x = some (.ref f)) (hk : PySem.W.keepIn Z.K (.ref f) = true) (ha : PA Z [e] t) (h2 : starEach [e] Z.env = (false, eval e Z.env) :: starEach [] Z.env := by rfl) (h3 : ((backTo pos (starEach [] Z.env)).any fun x => x.fst) = false := by rfl) (h4 : (x == ("__debug__" : Str)) = false := by decide) :
    PE Z (.Call (.Name x p) [e] [] pos) (fun σ H Q => t σ H fun vs H1 => vs = [.ref a] ∧ R H1 Q) := by
  refine ⟨fun pins s σ H Q I h => ?_⟩
  refine wpAny_Call_Name_kw (ld_glob I hg hm ?_ h4)
  refine PySem.W.callWith_K (h₀ := Z.base) I.ok.mod.kin hk (thn (ha.run pos pins s σ H _ I h) fun us s1 ⟨vs, H1, I1, r, ev, q⟩ => ⟨I1.kIn, ?_⟩) h2 h3
  subst ev
  obtain ⟨u, rfl, ru⟩ := vals1 r
  cases ru
  have pn := I1.pin (a, oe) (List.mem_append_left _ hp)
  have pin : L2H.PinOk Z.stack H1 s1 (a, oe) := ⟨pn.1, pn.2.1, fun z => (List.mem_cons.mp (I1.stkSub a z)).elim pn.2.2.1 pn.2.2.2.1, pn.2.2.2.2⟩
  refine wpAny_call (codeAny_mono (ok Z.A Z.stack s1 H1 Q a oe hr pin hz hf I1.env0 q) fun r s' hq => ?_)
  match r, hq with
  | .error e, hq => exact (show False from hq).elim
  | .ok (.ret u), hq => exact I1.after hq
  | .ok .next, hq => exact (show False from hq).elim
  | .ok .brk, hq => exact (show False from hq).elim
  | .ok .cont, hq => exact (show False from hq).elim
/-! _law_marks -/
def bl19 (j : Nat) : List V := [.bl (decide ((0 : Nat) = j)), .bl (decide ((1 : Nat) = j)), .bl (decide ((2 : Nat) = j)), .bl (decide ((3 : Nat) = j)), .bl (decide ((4 : Nat) = j)), .bl (decide ((5 : Nat) = j)), .bl (decide ((6 : Nat) = j)), .bl (decide ((7 : Nat) = j)), .bl (decide ((8 : Nat) = j)), .bl (decide ((9 : Nat) = j)), .bl (decide ((10 : Nat) = j)), .bl (decide ((11 : Nat) = j)), .bl (decide ((12 : Nat) = j)), .bl (decide ((13 : Nat) = j)), .bl (decide ((14 : Nat) = j)), .bl (decide ((15 : Nat) = j)), .bl (decide ((16 : Nat) = j)), .bl (decide ((17 : Nat) = j)), .bl (decide ((18 : Nat) = j))]
def RMarks (j : Nat) : Hp → VK → Prop := fun H Q => ∀ p H', Same H H' → H' p = some (.lst (bl19 j)) → Q (.ref p) H'
theorem scMarks : FnScope ["_law_e", "_law_marks_here"] ["_law_e"] (defScope sMarks) := ⟨rfl, rfl, rfl, by decide +kernel, rfl, by decide +kernel, by decide +kernel⟩
set_option maxHeartbeats 1000000 in
theorem ok_marks {j k : Nat} (F : Fun K "_law_marks" "_law_marks" sMarks f fd) (hbd : ∀ (s : Shared) (u : Value), BindsTo s fd ⟨[u], []⟩ [("_law_e", u)]) (T : Free mg) (kin : Kin K mg D j) : HotOk P w K mg base (k + 1) f D (RMarks j) := by
  refine hot_of F scMarks rfl hbd fun cdv A outer s H Q a oe hr hz hf q => ?_
  have hp : (a, oe) ∈ (L2H.cxH CX0 P w K mg base ["_law_e", "_law_marks_here"] "_law_marks" (defScope sMarks) f cdv A outer s H E0 (a, oe)).pn := List.mem_cons_self
  obtain ⟨c0, m0, k0⟩ := kin.cls 0 _ rfl
  obtain ⟨c1, m1, k1⟩ := kin.cls 1 _ rfl
  obtain ⟨c2, m2, k2⟩ := kin.cls 2 _ rfl
  obtain ⟨c3, m3, k3⟩ := kin.cls 3 _ rfl
  obtain ⟨c4, m4, k4⟩ := kin.cls 4 _ rfl
  obtain ⟨c5, m5, k5⟩ := kin.cls 5 _ rfl
  obtain ⟨c6, m6, k6⟩ := kin.cls 6 _ rfl
  obtain ⟨c7, m7, k7⟩ := kin.cls 7 _ rfl
  obtain ⟨c8, m8, k8⟩ := kin.cls 8 _ rfl
  obtain ⟨c9, m9, k9⟩ := kin.cls 9 _ rfl
  obtain ⟨c10, m10, k10⟩ := kin.cls 10 _ rfl
  obtain ⟨c11, m11, k11⟩ := kin.cls 11 _ rfl
  obtain ⟨c12, m12, k12⟩ := kin.cls 12 _ rfl
  obtain ⟨c13, m13, k13⟩ := kin.cls 13 _ rfl
  obtain ⟨c14, m14, k14⟩ := kin.cls 14 _ rfl
  obtain ⟨c15, m15, k15⟩ := kin.cls 15 _ rfl
  obtain ⟨c16, m16, k16⟩ := kin.cls 16 _ rfl
  obtain ⟨c17, m17, k17⟩ := kin.cls 17 _ rfl
  obtain ⟨c18, m18, k18⟩ := kin.cls 18 _ rfl
  refine ⟨_, (pss_cons (ps_set (i := 1) scMarks.nd rfl (.inl rfl) (pe_lst (pa_cons (pe_callB (call_isP kin.exc hp hz hf) rfl T.isi (by decide +kernel) (pa_cons (pv 0) (pa_cons (pe_glob (v := .ref c0) rfl m0 rfl) pa_nil))) (pa_cons (pe_callB (call_isP kin.exc hp hz hf) rfl T.isi (by decide +kernel) (pa_cons (pv 0) (pa_cons (pe_glob (v := .ref c1) rfl m1 rfl) pa_nil))) (pa_cons (pe_callB (call_isP kin.exc hp hz hf) rfl T.isi (by decide +kernel) (pa_cons (pv 0) (pa_cons (pe_glob (v := .ref c2) rfl m2 rfl) pa_nil))) (pa_cons (pe_callB (call_isP kin.exc hp hz hf) rfl T.isi (by decide +kernel) (pa_cons (pv 0) (pa_cons (pe_glob (v := .ref c3) rfl m3 rfl) pa_nil))) pa_nil))))))
      (pss_cons (ps_set (i := 1) scMarks.nd rfl (.inl rfl) (pe_op op_cat (pv 1) (pe_lst (pa_cons (pe_callB (call_isP kin.exc hp hz hf) rfl T.isi (by decide +kernel) (pa_cons (pv 0) (pa_cons (pe_glob (v := .ref c4) rfl m4 rfl) pa_nil))) (pa_cons (pe_callB (call_isP kin.exc hp hz hf) rfl T.isi (by decide +kernel) (pa_cons (pv 0) (pa_cons (pe_glob (v := .ref c5) rfl m5 rfl) pa_nil))) (pa_cons (pe_callB (call_isP kin.exc hp hz hf) rfl T.isi (by decide +kernel) (pa_cons (pv 0) (pa_cons (pe_glob (v := .ref c6) rfl m6 rfl) pa_nil))) pa_nil))))))
      (pss_cons (ps_expr (pe_bm PySem.F.plainAttrs_list PySem.F.slot_list_append PySem.F.type_list_append mt_append (pv 1) (pa_cons (pe_callB (call_isP kin.exc hp hz hf) rfl T.isi (by decide +kernel) (pa_cons (pv 0) (pa_cons (pe_glob (v := .ref c7) rfl m7 rfl) pa_nil))) pa_nil)))
      (pss_cons (ps_set (i := 1) scMarks.nd rfl (.inl rfl) (pe_op op_cat (pv 1) (pe_lst (pa_cons (pe_callB (call_isP kin.exc hp hz hf) rfl T.isi (by decide +kernel) (pa_cons (pv 0) (pa_cons (pe_glob (v := .ref c8) rfl m8 rfl) pa_nil))) (pa_cons (pe_callB (call_isP kin.exc hp hz hf) rfl T.isi (by decide +kernel) (pa_cons (pv 0) (pa_cons (pe_glob (v := .ref c9) rfl m9 rfl) pa_nil))) (pa_cons (pe_callB (call_isP kin.exc hp hz hf) rfl T.isi (by decide +kernel) (pa_cons (pv 0) (pa_cons (pe_glob (v := .ref c10) rfl m10 rfl) pa_nil))) pa_nil))))))
      (pss_cons (ps_expr (pe_bm PySem.F.plainAttrs_list PySem.F.slot_list_append PySem.F.type_list_append mt_append (pv 1) (pa_cons (pe_callB (call_isP kin.exc hp hz hf) rfl T.isi (by decide +kernel) (pa_cons (pv 0) (pa_cons (pe_glob (v := .ref c11) rfl m11 rfl) pa_nil))) pa_nil)))
      (pss_cons (ps_set (i := 1) scMarks.nd rfl (.inl rfl) (pe_op op_cat (pv 1) (pe_lst (pa_cons (pe_callB (call_isP kin.exc hp hz hf) rfl T.isi (by decide +kernel) (pa_cons (pv 0) (pa_cons (pe_glob (v := .ref c12) rfl m12 rfl) pa_nil))) (pa_cons (pe_callB (call_isP kin.exc hp hz hf) rfl T.isi (by decide +kernel) (pa_cons (pv 0) (pa_cons (pe_glob (v := .ref c13) rfl m13 rfl) pa_nil))) (pa_cons (pe_callB (call_isP kin.exc hp hz hf) rfl T.isi (by decide +kernel) (pa_cons (pv 0) (pa_cons (pe_glob (v := .ref c14) rfl m14 rfl) pa_nil))) pa_nil))))))
      (pss_cons (ps_expr (pe_bm PySem.F.plainAttrs_list PySem.F.slot_list_append PySem.F.type_list_append mt_append (pv 1) (pa_cons (pe_callB (call_isP kin.exc hp hz hf) rfl T.isi (by decide +kernel) (pa_cons (pv 0) (pa_cons (pe_glob (v := .ref c15) rfl m15 rfl) pa_nil))) pa_nil)))
      (pss_one (ps_ret (pe_op op_cat (pv 1) (pe_lst (pa_cons (pe_callB (call_isP kin.exc hp hz hf) rfl T.isi (by decide +kernel) (pa_cons (pv 0) (pa_cons (pe_glob (v := .ref c16) rfl m16 rfl) pa_nil))) (pa_cons (pe_callB (call_isP kin.exc hp hz hf) rfl T.isi (by decide +kernel) (pa_cons (pv 0) (pa_cons (pe_glob (v := .ref c17) rfl m17 rfl) pa_nil))) (pa_cons (pe_callB (call_isP kin.exc hp hz hf) rfl T.isi (by decide +kernel) (pa_cons (pv 0) (pa_cons (pe_glob (v := .ref c18) rfl m18 rfl) pa_nil))) pa_nil)))))))))))))), ?_⟩
  refine ⟨_, rfl, .ref c0, .ref c0, _, rfl, fun _ h => h, k0, _, rfl, .ref c1, .ref c1, _, rfl, fun _ h => h, k1, _, rfl, .ref c2, .ref c2, _, rfl, fun _ h => h, k2, _, rfl, .ref c3, .ref c3, _, rfl, fun _ h => h, k3, small (by show 4 ≤ 1000; decide), fun p0 h0 => ?_⟩
  have W0 := Same.refl H
  have np0 := nb (W0) h0
  refine ⟨_, rfl, _, rfl, .ref c4, .ref c4, _, rfl, fun _ h => h, k4, _, rfl, .ref c5, .ref c5, _, rfl, fun _ h => h, k5, _, rfl, .ref c6, .ref c6, _, rfl, fun _ h => h, k6, small (by show 3 ≤ 1000; decide), fun q1 gq1 => ?_⟩
  have nq1 := nb (same_upd (W0) np0) gq1
  have sq1 := same_new gq1 (.lst [.bl (decide ((4 : Nat) = j)), .bl (decide ((5 : Nat) = j)), .bl (decide ((6 : Nat) = j))])
  refine ⟨p0, q1, [.bl (decide ((0 : Nat) = j)), .bl (decide ((1 : Nat) = j)), .bl (decide ((2 : Nat) = j)), .bl (decide ((3 : Nat) = j))], [.bl (decide ((4 : Nat) = j)), .bl (decide ((5 : Nat) = j)), .bl (decide ((6 : Nat) = j))], rfl, rfl, sq1 _ _ upd_same, upd_same, small (by show 7 ≤ 1000; decide), fun p1 hp1 => ?_⟩
  have np1 := nb (same_upd (same_upd (W0) np0) nq1) hp1
  refine ⟨_, rfl, .inl ⟨rfl, _, SqL.of upd_same⟩, _, rfl, .ref c7, .ref c7, _, rfl, fun _ h => h, k7, p1, [.bl (decide ((0 : Nat) = j)), .bl (decide ((1 : Nat) = j)), .bl (decide ((2 : Nat) = j)), .bl (decide ((3 : Nat) = j)), .bl (decide ((4 : Nat) = j)), .bl (decide ((5 : Nat) = j)), .bl (decide ((6 : Nat) = j))], .bl (decide ((7 : Nat) = j)), rfl, rfl, upd_same, Nat.lt_of_lt_of_le (show 7 < 1000 by decide) (small (Nat.le_refl _)), ?_⟩
  refine ⟨_, rfl, _, rfl, .ref c8, .ref c8, _, rfl, fun _ h => h, k8, _, rfl, .ref c9, .ref c9, _, rfl, fun _ h => h, k9, _, rfl, .ref c10, .ref c10, _, rfl, fun _ h => h, k10, small (by show 3 ≤ 1000; decide), fun q2 gq2 => ?_⟩
  have nq2 := nb (same_upd (same_upd (same_upd (same_upd (W0) np0) nq1) np1) np1) gq2
  have sq2 := same_new gq2 (.lst [.bl (decide ((8 : Nat) = j)), .bl (decide ((9 : Nat) = j)), .bl (decide ((10 : Nat) = j))])
  refine ⟨p1, q2, [.bl (decide ((0 : Nat) = j)), .bl (decide ((1 : Nat) = j)), .bl (decide ((2 : Nat) = j)), .bl (decide ((3 : Nat) = j)), .bl (decide ((4 : Nat) = j)), .bl (decide ((5 : Nat) = j)), .bl (decide ((6 : Nat) = j)), .bl (decide ((7 : Nat) = j))], [.bl (decide ((8 : Nat) = j)), .bl (decide ((9 : Nat) = j)), .bl (decide ((10 : Nat) = j))], rfl, rfl, sq2 _ _ upd_same, upd_same, small (by show 11 ≤ 1000; decide), fun p2 hp2 => ?_⟩
  have np2 := nb (same_upd (same_upd (same_upd (same_upd (same_upd (W0) np0) nq1) np1) np1) nq2) hp2
  refine ⟨_, rfl, .inl ⟨rfl, _, SqL.of upd_same⟩, _, rfl, .ref c11, .ref c11, _, rfl, fun _ h => h, k11, p2, [.bl (decide ((0 : Nat) = j)), .bl (decide ((1 : Nat) = j)), .bl (decide ((2 : Nat) = j)), .bl (decide ((3 : Nat) = j)), .bl (decide ((4 : Nat) = j)), .bl (decide ((5 : Nat) = j)), .bl (decide ((6 : Nat) = j)), .bl (decide ((7 : Nat) = j)), .bl (decide ((8 : Nat) = j)), .bl (decide ((9 : Nat) = j)), .bl (decide ((10 : Nat) = j))], .bl (decide ((11 : Nat) = j)), rfl, rfl, upd_same, Nat.lt_of_lt_of_le (show 11 < 1000 by decide) (small (Nat.le_refl _)), ?_⟩
  refine ⟨_, rfl, _, rfl, .ref c12, .ref c12, _, rfl, fun _ h => h, k12, _, rfl, .ref c13, .ref c13, _, rfl, fun _ h => h, k13, _, rfl, .ref c14, .ref c14, _, rfl, fun _ h => h, k14, small (by show 3 ≤ 1000; decide), fun q3 gq3 => ?_⟩
  have nq3 := nb (same_upd (same_upd (same_upd (same_upd (same_upd (same_upd (same_upd (W0) np0) nq1) np1) np1) nq2) np2) np2) gq3
  have sq3 := same_new gq3 (.lst [.bl (decide ((12 : Nat) = j)), .bl (decide ((13 : Nat) = j)), .bl (decide ((14 : Nat) = j))])
  refine ⟨p2, q3, [.bl (decide ((0 : Nat) = j)), .bl (decide ((1 : Nat) = j)), .bl (decide ((2 : Nat) = j)), .bl (decide ((3 : Nat) = j)), .bl (decide ((4 : Nat) = j)), .bl (decide ((5 : Nat) = j)), .bl (decide ((6 : Nat) = j)), .bl (decide ((7 : Nat) = j)), .bl (decide ((8 : Nat) = j)), .bl (decide ((9 : Nat) = j)), .bl (decide ((10 : Nat) = j)), .bl (decide ((11 : Nat) = j))], [.bl (decide ((12 : Nat) = j)), .bl (decide ((13 : Nat) = j)), .bl (decide ((14 : Nat) = j))], rfl, rfl, sq3 _ _ upd_same, upd_same, small (by show 15 ≤ 1000; decide), fun p3 hp3 => ?_⟩
  have np3 := nb (same_upd (same_upd (same_upd (same_upd (same_upd (same_upd (same_upd (same_upd (W0) np0) nq1) np1) np1) nq2) np2) np2) nq3) hp3
  refine ⟨_, rfl, .inl ⟨rfl, _, SqL.of upd_same⟩, _, rfl, .ref c15, .ref c15, _, rfl, fun _ h => h, k15, p3, [.bl (decide ((0 : Nat) = j)), .bl (decide ((1 : Nat) = j)), .bl (decide ((2 : Nat) = j)), .bl (decide ((3 : Nat) = j)), .bl (decide ((4 : Nat) = j)), .bl (decide ((5 : Nat) = j)), .bl (decide ((6 : Nat) = j)), .bl (decide ((7 : Nat) = j)), .bl (decide ((8 : Nat) = j)), .bl (decide ((9 : Nat) = j)), .bl (decide ((10 : Nat) = j)), .bl (decide ((11 : Nat) = j)), .bl (decide ((12 : Nat) = j)), .bl (decide ((13 : Nat) = j)), .bl (decide ((14 : Nat) = j))], .bl (decide ((15 : Nat) = j)), rfl, rfl, upd_same, Nat.lt_of_lt_of_le (show 15 < 1000 by decide) (small (Nat.le_refl _)), ?_⟩
  refine ⟨_, rfl, _, rfl, .ref c16, .ref c16, _, rfl, fun _ h => h, k16, _, rfl, .ref c17, .ref c17, _, rfl, fun _ h => h, k17, _, rfl, .ref c18, .ref c18, _, rfl, fun _ h => h, k18, small (by show 3 ≤ 1000; decide), fun q4 gq4 => ?_⟩
  have nq4 := nb (same_upd (same_upd (same_upd (same_upd (same_upd (same_upd (same_upd (same_upd (same_upd (same_upd (W0) np0) nq1) np1) np1) nq2) np2) np2) nq3) np3) np3) gq4
  have sq4 := same_new gq4 (.lst [.bl (decide ((16 : Nat) = j)), .bl (decide ((17 : Nat) = j)), .bl (decide ((18 : Nat) = j))])
  refine ⟨p3, q4, [.bl (decide ((0 : Nat) = j)), .bl (decide ((1 : Nat) = j)), .bl (decide ((2 : Nat) = j)), .bl (decide ((3 : Nat) = j)), .bl (decide ((4 : Nat) = j)), .bl (decide ((5 : Nat) = j)), .bl (decide ((6 : Nat) = j)), .bl (decide ((7 : Nat) = j)), .bl (decide ((8 : Nat) = j)), .bl (decide ((9 : Nat) = j)), .bl (decide ((10 : Nat) = j)), .bl (decide ((11 : Nat) = j)), .bl (decide ((12 : Nat) = j)), .bl (decide ((13 : Nat) = j)), .bl (decide ((14 : Nat) = j)), .bl (decide ((15 : Nat) = j))], [.bl (decide ((16 : Nat) = j)), .bl (decide ((17 : Nat) = j)), .bl (decide ((18 : Nat) = j))], rfl, rfl, sq4 _ _ upd_same, upd_same, small (by show 19 ≤ 1000; decide), fun p4 hp4 => ?_⟩
  have np4 := nb (same_upd (same_upd (same_upd (same_upd (same_upd (same_upd (same_upd (same_upd (same_upd (same_upd (same_upd (W0) np0) nq1) np1) np1) nq2) np2) np2) nq3) np3) np3) nq4) hp4
  exact q p4 _ (same_upd (same_upd (same_upd (same_upd (same_upd (same_upd (same_upd (same_upd (same_upd (same_upd (same_upd (same_upd (W0) np0) nq1) np1) np1) nq2) np2) np2) nq3) np3) np3) nq4) np4) upd_same
/-! _law_word -/
theorem idx19 {j : Nat} (hj : j = 0 ∨ j = 1) : (bl19 j).all flatV = true ∧ (bl19 j)[j]? = some (.bl true) ∧ ∀ (m : Nat) (z : V), m < j → (bl19 j)[m]? = some z → eqV z (.bl true) = false := by
  rcases hj with rfl | rfl
  · exact ⟨rfl, rfl, fun m z hm e => absurd hm (Nat.not_lt_zero _)⟩
  · refine ⟨rfl, rfl, fun m z hm e => ?_⟩
    match m, hm, e with
    | 0, _, e => cases e; rfl
def wordOf (j : Nat) : Str := words19.getD j ""
def RWord (j : Nat) : Hp → VK → Prop := fun H Q => ∀ p H', Same H H' → H' p = some (.tup [.str (wordOf j)]) → Q (.ref p) H'
abbrev wdN : List Str := ["_law_e", "_law_words", "_law_marks_here", "_law_word_here"]
theorem scWord : FnScope wdN ["_law_e"] (defScope sWord) := ⟨rfl, rfl, rfl, by decide +kernel, rfl, by decide +kernel, by decide +kernel⟩
set_option maxHeartbeats 1000000 in
theorem ok_word {j k : Nat} {fm : Addr} (F : Fun K "_law_word" "_law_word" sWord f fd) (hbd : ∀ (s : Shared) (u : Value), BindsTo s fd ⟨[u], []⟩ [("_law_e", u)]) (T : Free mg) (hmV : mg "ValueError" = none) (kin : Kin K mg D j) (hj : j = 0 ∨ j = 1) (mM : mg "_law_marks" = some (.ref fm)) (kM : PySem.W.keepIn K (.ref fm) = true) (okM : HotOk P w K mg base k fm D (RMarks j)) : HotOk P w K mg base (k + 1) f D (RWord j) := by
  refine hot_of F scWord rfl hbd fun cdv A outer s H Q a oe hr hz hf q => ?_
  have hp : (a, oe) ∈ (L2H.cxH CX0 P w K mg base wdN "_law_word" (defScope sWord) f cdv A outer s H E0 (a, oe)).pn := List.mem_cons_self
  refine ⟨_, pss_cons (ps_set (i := 1) scWord.nd rfl (.inl rfl) (pe_lst (pa_cons pe_str (pa_cons pe_str (pa_cons pe_str (pa_cons pe_str (pa_cons pe_str (pa_cons pe_str (pa_cons pe_str (pa_cons pe_str (pa_cons pe_str (pa_cons pe_str pa_nil))))))))))))
    (pss_cons (ps_set (i := 1) scWord.nd rfl (.inl rfl) (pe_op op_cat (pv 1) (pe_lst (pa_cons pe_str (pa_cons pe_str pa_nil)))))
    (pss_cons (ps_set (i := 1) scWord.nd rfl (.inl rfl) (pe_op op_cat (pv 1) (pe_lst (pa_cons pe_str (pa_cons pe_str (pa_cons pe_str (pa_cons pe_str (pa_cons pe_str (pa_cons pe_str (pa_cons pe_str pa_nil))))))))))
    (pss_cons (ps_set (i := 2) scWord.nd rfl (.inl rfl) (pe_hot (k := k) hp hz hf okM hr rfl mM kM (pa_cons (pv 0) pa_nil)))
    (pss_cons (ps_if (PW.pt (pw_or (pt_cmpR op_ne (pe_bm PySem.F.plainAttrs_list PySem.F.slot_list_count PySem.F.type_list_count mt_cntB (pv 2) (pa_cons pe_bl pa_nil)) pe_int (nomark _)) (pw_or1 (pt_not (pt_val (pe_callB (call_isP kin.exc hp hz hf) rfl T.isi (by decide +kernel) (pa_cons (pv 0) (pa_cons (pe_bltn (v := .ty "ValueError") rfl hmV (by decide +kernel) rfl) pa_nil)))))))) (pss_one (ps_ret (pe_tup (pa_cons pe_str pa_nil)))) pss_nil)
    (pss_cons (ps_set (i := 3) scWord.nd rfl (.inl rfl) (pe_ix ix_list (pv 1) (pe_bm PySem.F.plainAttrs_list PySem.F.slot_list_index PySem.F.type_list_index mt_index (pv 2) (pa_cons pe_bl pa_nil)) (fun _ _ => rfl)))
    (pss_cons (ps_if (pt_cmpR op_eq (pv 3) pe_str (nomark _)) pss_never pss_nil)
    (pss_one (ps_ret (pe_ifExp (pt_cmpR op_eq (pv 3) pe_str (nomark _)) pe_nev (pe_tup (pa_cons (pv 3) pa_nil))))))))))), ?_⟩
  have W0 := Same.refl H
  refine ⟨small (by show 10 ≤ 1000; decide), fun p1 h1 => ?_⟩
  have np1 := nb (W0) h1
  refine ⟨_, rfl, small (by show 2 ≤ 1000; decide), fun q2 gq2 => ?_⟩
  have nq2 := nb (same_upd (W0) np1) gq2
  have sq2 := same_new gq2 (.lst [.str "code", .str "row"])
  refine ⟨p1, q2, [.str "chart", .str "points", .str "graph", .str "place", .str "net", .str "actor", .str "weaving", .str "name", .str "channel", .str "most"], [.str "code", .str "row"], rfl, rfl, sq2 _ _ upd_same, upd_same, small (by show 12 ≤ 1000; decide), fun p2 hp2 => ?_⟩
  have np2 := nb (same_upd (same_upd (W0) np1) nq2) hp2
  refine ⟨_, rfl, small (by show 7 ≤ 1000; decide), fun q3 gq3 => ?_⟩
  have nq3 := nb (same_upd (same_upd (same_upd (W0) np1) nq2) np2) gq3
  have sq3 := same_new gq3 (.lst [.str "address", .str "deed", .str "full", .str "still", .str "line", .str "text", .str "unsafe"])
  refine ⟨p2, q3, [.str "chart", .str "points", .str "graph", .str "place", .str "net", .str "actor", .str "weaving", .str "name", .str "channel", .str "most", .str "code", .str "row"], [.str "address", .str "deed", .str "full", .str "still", .str "line", .str "text", .str "unsafe"], rfl, rfl, sq3 _ _ upd_same, upd_same, small (by show 19 ≤ 1000; decide), fun p3 hp3 => ?_⟩
  have np3 := nb (same_upd (same_upd (same_upd (same_upd (W0) np1) nq2) np2) nq3) hp3
  refine ⟨_, rfl, rfl, fun pm Hm sm hm => ?_⟩
  have SA := (same_upd (same_upd (same_upd (same_upd (same_upd (W0) np1) nq2) np2) nq3) np3).trans sm
  have hW := sm _ _ (upd_same (a := p3) (o := .lst ([.str "chart", .str "points", .str "graph", .str "place", .str "net", .str "actor", .str "weaving", .str "name", .str "channel", .str "most", .str "code", .str "row"] ++ [.str "address", .str "deed", .str "full", .str "still", .str "line", .str "text", .str "unsafe"])))
  refine ⟨_, rfl, .inl ⟨rfl, _, SqL.of hm⟩, pm, [decide ((0 : Nat) = j), decide ((1 : Nat) = j), decide ((2 : Nat) = j), decide ((3 : Nat) = j), decide ((4 : Nat) = j), decide ((5 : Nat) = j), decide ((6 : Nat) = j), decide ((7 : Nat) = j), decide ((8 : Nat) = j), decide ((9 : Nat) = j), decide ((10 : Nat) = j), decide ((11 : Nat) = j), decide ((12 : Nat) = j), decide ((13 : Nat) = j), decide ((14 : Nat) = j), decide ((15 : Nat) = j), decide ((16 : Nat) = j), decide ((17 : Nat) = j), decide ((18 : Nat) = j)], rfl, rfl, SqL.of hm, rfl, _, rfl, ?_⟩
  have cnt : List.count true [decide ((0 : Nat) = j), decide ((1 : Nat) = j), decide ((2 : Nat) = j), decide ((3 : Nat) = j), decide ((4 : Nat) = j), decide ((5 : Nat) = j), decide ((6 : Nat) = j), decide ((7 : Nat) = j), decide ((8 : Nat) = j), decide ((9 : Nat) = j), decide ((10 : Nat) = j), decide ((11 : Nat) = j), decide ((12 : Nat) = j), decide ((13 : Nat) = j), decide ((14 : Nat) = j), decide ((15 : Nat) = j), decide ((16 : Nat) = j), decide ((17 : Nat) = j), decide ((18 : Nat) = j)] = 1 := by rcases hj with rfl | rfl <;> decide
  rw [cnt]
  refine ifF rfl ⟨_, rfl, .ty "ValueError", .type "ValueError", _, rfl, fun _ h => h, kin.ve, _, rfl, ifF rfl ?_⟩
  obtain ⟨f1, f2, f3⟩ := idx19 hj
  refine ⟨_, rfl, _, rfl, .inl ⟨rfl, _, SqL.of hm⟩, pm, bl19 j, .bl true, j, .bl true, rfl, rfl, SqL.of hm, rfl, f1, f2, rfl, f3, ?_⟩
  rcases hj with rfl | rfl
  · refine ⟨p3, _, 0, .str "chart", rfl, rfl, SqL.of hW, atI_nat (j := 0) rfl, ?_⟩
    refine ⟨_, rfl, rfl, _, rfl, ifF (by decide +kernel) ⟨_, rfl, rfl, _, rfl, ifF (by decide +kernel) ⟨_, rfl, small (by show 1 ≤ 1000; decide), fun p9 h9 => q p9 _ (same_upd SA (nb SA h9)) upd_same⟩⟩⟩
  · refine ⟨p3, _, 1, .str "points", rfl, rfl, SqL.of hW, atI_nat (j := 1) rfl, ?_⟩
    refine ⟨_, rfl, rfl, _, rfl, ifF (by decide +kernel) ⟨_, rfl, rfl, _, rfl, ifF (by decide +kernel) ⟨_, rfl, small (by show 1 ≤ 1000; decide), fun p9 h9 => q p9 _ (same_upd SA (nb SA h9)) upd_same⟩⟩⟩
end
/-! lambdas that stand in a list -/
section
open PySem.Spec PyProof.Rows LamX
/-- a lambda, kept -/
def LamO (q : Str) (params : Arguments) (body : Expr) (scope : Scope) (cl : List (Str × Addr)) (f c' : Addr) : HO := .ext fun h => ∃ pm ctv : Value, h.get? f = some (PySem.W.kla_obj "<lambda>" q params body scope cl pm c' ctv)
theorem lamO_ok {P : Program} {w : World} {H : Hp} {h : Heap} {q : Str} {params : Arguments} {body : Expr} {scope : Scope} {cl : List (Str × Addr)} {f c' : Addr} {pm ctv : Value} (e : h.get? f = some (PySem.W.kla_obj "<lambda>" q params body scope cl pm c' ctv)) : ObjOk P w H h f (LamO q params body scope cl f c') :=
  ⟨⟨pm, ctv, e⟩, ⟨_, e⟩, fun _ _ ⟨pm, ctv, z⟩ st => ⟨pm, ctv, st _ z⟩⟩
theorem lamO_tbl {q : Str} {params : Arguments} {body : Expr} {scope : Scope} {cl : List (Str × Addr)} {f c' : Addr} (ps : Array Value) : LamO q params body scope cl f c' ≠ .tbl ps := fun z => by
  unfold LamO at z
  cases z
def tMk (T : List (Addr × Str)) (Pt : Addr) (q : Str) (mk : Addr → Addr → HO) : TE := fun _ H Q => Tabs T H ∧ ∀ (f c' : Addr) (H1 : Hp), ExtN H H1 → Tabs T H1 → (∀ b ps, b ≠ Pt → H b = some (.tbl ps) → H1 b = some (.tbl ps)) → H1 f = none → H1 c' = some (CodeO c' q) → Q (.ref f) (upd H1 f (mk f c'))
/-- the tables, one of them grown by a new code object -/
theorem tabs_more {T : List (Addr × Str)} {H : Hp} {Pt c' : Addr} {q : Str} {ps : Array Value} {pos : Pos} (hT : Tabs T H) (hm : (Pt, q) ∈ T) (hu : ∀ p ∈ T, p.1 = Pt → p.2 = q) (hP : H Pt = some (.tbl ps)) (ht : TriplesOk ps.toList) (nC : H c' = none) :
    ExtN H (upd (upd H Pt (.tbl (ps ++ #[rawInt pos.line, rawInt pos.col, .ref c']))) c' (CodeO c' q)) ∧ Tabs T (upd (upd H Pt (.tbl (ps ++ #[rawInt pos.line, rawInt pos.col, .ref c']))) c' (CodeO c' q)) := by
  have ext : ExtN H (upd (upd H Pt (.tbl (ps ++ #[rawInt pos.line, rawInt pos.col, .ref c']))) c' (CodeO c' q)) := by
    intro b o hb no
    have n1 : b ≠ c' := ne_of_none hb nC
    have n2 : b ≠ Pt := by
      rintro rfl
      rw [hP] at hb
      exact no ps (Option.some.inj hb).symm
    rw [upd_ne n1, upd_ne n2]
    exact hb
  refine ⟨ext, ?_⟩
  rintro ⟨P1, q1⟩ hp
  obtain ⟨qs, g1, g2, g3⟩ := hT _ hp
  have n1 : P1 ≠ c' := ne_of_none g1 nC
  by_cases e : P1 = Pt
  · have eq : q1 = q := hu _ hp e
    subst e eq
    have eqs : qs = ps := by
      have := g1.symm.trans hP
      cases this
      rfl
    subst eqs
    have el : (qs ++ #[rawInt pos.line, rawInt pos.col, .ref c']).toList = qs.toList ++ [rawInt pos.line, rawInt pos.col, .ref c'] := by simp
    refine ⟨_, by rw [upd_ne n1, upd_same], by rw [el]; exact PySem.TriplesOk_snoc _ _ _ _ ht, fun p2 cv hcv => ?_⟩
    rw [el] at hcv
    rcases among_app _ ht hcv with z | rfl
    · obtain ⟨c0, z1, z2⟩ := g3 p2 cv z
      exact ⟨c0, z1, ext _ _ z2 codeO_ne⟩
    · exact ⟨c', rfl, upd_same⟩
  · refine ⟨qs, by rw [upd_ne n1, upd_ne e]; exact g1, g2, fun p2 cv hcv => ?_⟩
    obtain ⟨c0, z1, z2⟩ := g3 p2 cv hcv
    exact ⟨c0, z1, ext _ _ z2 codeO_ne⟩
/-- lambda: body, as a value -/
theorem pe_lamV {X : Cx} {T : List (Addr × Str)} {c Pt : Addr} {params : Arguments} {body : Expr} {scope : Scope} {pos : Pos} (TB : TabB X.base X.mg c Pt) (hcode : X.env.code = .ref c) (hm : (Pt, X.env.qual ++ "<lambda>") ∈ T) (hu : ∀ p ∈ T, p.1 = Pt → p.2 = X.env.qual ++ "<lambda>")
    (L : LamS X.env.scope scope) (hdef : defaultsOf params X.env = ([], [])) :
    PE X (.Lambda params body scope pos) (tMk T Pt (X.env.qual ++ "<lambda>") fun f c' => LamO (X.env.qual ++ "<lambda>") params body scope (cloFrom X.env.cells scope.names []) f c') := by
  refine ⟨fun pins s σ H Q I h => ?_⟩
  obtain ⟨hT, k⟩ := h
  obtain ⟨ps, hP, ht, ha⟩ := hT _ hm
  have clo := closure_ok (L.has I.ok)
  have glb := I.mod.glob.keeps I.bk
  have cdh := TB.code.keeps I.bk
  have blt := TB.bm.keeps I.bk
  refine PySem.W.kla_eval hdef ?_
  cases hc : codeAmong pos ps.toList with
  | some cv =>
    obtain ⟨c', rfl, hco⟩ := ha pos cv hc
    refine PySem.W.kla_makeFunctionHit (mg := X.mg) (c := c) (P := Pt) (ps := ps) clo I.ok.glob glb hcode cdh (I.hok Pt _ hP) ht hc blt fun ctv h' tk hx hsz => ?_
    exact ⟨.ref _, _, I.laid (t' := tk) (fun b o e => Heap.get?_push_of_some _ (hx b o e)) hsz (lamO_ok (Heap.get?_push_size _ rfl)), rfl, k _ c' H (ExtN.refl H) hT (fun b ps _ e => e) (I.hok.fresh hsz) hco⟩
  | none =>
    refine PySem.W.kla_makeFunction (mg := X.mg) (c := c) (P := Pt) (ps := ps) clo I.ok.glob glb hcode cdh (I.hok Pt _ hP) ht hc TB.gP blt fun c' ctv h' tk hx hge hlt hrec htb => ?_
    obtain ⟨c2, oc, vs, t, e2, hoc, hd, hv⟩ := hrec
    cases e2
    have I1 := inv_table (t' := tk) (more := #[rawInt pos.line, rawInt pos.col, .ref c']) (q := X.env.qual ++ "<lambda>") I hP (fun b o hb e => hx b o hb e) htb hge ⟨oc, vs, t, hoc, hd, hv⟩
    obtain ⟨ext, tbs⟩ := tabs_more (pos := pos) hT hm hu hP ht (I.hok.fresh hge)
    exact ⟨.ref _, _, I1.laid (t' := tk) (fun b o e => Heap.get?_push_of_some _ e) (Nat.le_refl _) (lamO_ok (Heap.get?_push_size _ rfl)), rfl, k _ c' _ ext tbs (fun b qs hb e => by rw [upd_ne (ne_of_none e (I.hok.fresh hge)), upd_ne hb]; exact e) (I1.hok.fresh (Nat.le_refl _)) upd_same⟩
/-- what is known of a kept lambda: its reading t -/
def LamHas (X : Cx) (k : Nat) (H : Hp) (f c' : Addr) (t : XK → TE) : Prop := ∃ (params : Arguments) (body : Expr) (scope : Scope), H f = some (LamO (X.env.qual ++ "<lambda>") params body scope (cloFrom X.env.cells scope.names []) f c') ∧ H c' = some (CodeO c' (X.env.qual ++ "<lambda>")) ∧ LamS X.env.scope scope ∧
  (∀ (q : Str) (cl : List (Str × Addr)) (pm cv ctv : Value), bindArgs (PySem.W.kla_fn "<lambda>" q params body scope cl pm cv ctv) ⟨[], []⟩ = pure []) ∧
  ∀ (A : Around) (outer : List Env) (s : Shared) (H : Hp) (E : XK) (f c' : Addr), Room k (A.deeper (lamEnv X scope s.heap.objs.size f c')) → PE (lamCx X A outer s H E scope f c') body (t E)
theorem LamHas.ext {X : Cx} {k : Nat} {H H' : Hp} {f c' : Addr} {t : XK → TE} (h : LamHas X k H f c' t) (e : ExtN H H') : LamHas X k H' f c' t := by
  obtain ⟨pa, bo, sc, h1, h2, r⟩ := h
  exact ⟨pa, bo, sc, e _ _ h1 lamO_tbl, e _ _ h2 codeO_ne, r⟩
/-- a kept lambda is called by the def that got it -/
theorem pe_actV {X : Cx} {pins : List (Addr × Obj)} {σ : L2.St} {H : Hp} {s : Shared} {CXg : CXT} {Eg : XK} {Ng : List Str} {qg : Str} {sg : Scope} {g f c' : Addr} {cdg : Value} {k i : Nat} {a : Str} {pn : List (Addr × Obj)} {xe : Value → Shared → Prop} {W : WX} {E : XK} {t : XK → TE} {p1 p2 : Pos}
    (I : Inv X pins σ H s) (tk : Takes ((cxOf CXg X.prog X.w X.K X.mg X.base Ng qg sg g cdg X.A X.stack s H Eg).tr pn xe) W) (hW : ∀ cls d σ' H', E cls d H' → W cls d σ' H') (hr : Room (k + 1) (X.A.deeper (envOfC qg sg s.heap.objs.size g cdg)))
    (hN : Ng[i]? = some a) (hv : Vis sg a) (hd : (a == ("__debug__" : Str)) = false := by decide) (hcd : (a == ("__classdict__" : Str)) = false := by decide) :
    PE ((cxOf CXg X.prog X.w X.K X.mg X.base Ng qg sg g cdg X.A X.stack s H Eg).tr pn xe) (.Call (.Name a p1) [] [] p2)
      (fun σZ HZ Q => σZ[i]? = some (some (.ref f)) ∧ LamHas X k HZ f c' t ∧ t E σ HZ Q) := by
  refine ⟨fun pinsZ sZ σZ HZ Q IZ h => ?_⟩
  obtain ⟨hs, ⟨params, body, scope, hf, hc, L, hbind, hbody⟩, ht⟩ := h
  refine wpAny_Call_Name_kw (thn ((pe_var (pos := p1) (i := i) hN hv hd hcd).run pinsZ sZ σZ HZ (fun v H1 => v = .ref f ∧ H1 = HZ) IZ ⟨.ref f, hs, rfl, rfl⟩) fun u s1 out => ?_)
  obtain ⟨v, H1, I1, r1, rfl, rfl⟩ := out
  cases r1
  obtain ⟨⟨pm, ctv, of1⟩, _, _⟩ := I1.hok f _ hf
  obtain ⟨⟨oc, vs, tq, hoc, hdc, hvc⟩, _, _⟩ := I1.hok c' _ hc
  refine PySem.W.callWith_F0 ⟨_, _, _, _, of1⟩ ?_
  have run : codeAny (model X.prog X.w) (X.A.deeper (envOfC qg sg s.heap.objs.size g cdg)) (.call (.ref f) ⟨[], []⟩) (CR (L2.CX X.prog X.w) (envOfC qg sg s.heap.objs.size g cdg :: X.stack) X.prog X.w H1 s1 Q E) s1 := by
    refine PySem.W.kla_callFunE hr.depth of1 rfl L.co L.gen rfl ⟨c', oc, vs, tq, rfl, hoc, hdc, hvc⟩ ?_
    rw [hbind]
    refine wpAny_pure (wpAny_newFunctionEnv (fun y hy => (L.own y hy).2) (fun y hy => absurd hy (by simp)) (fun h₁ hns hsb => ⟨I1.nolimit.fresh _ hsb, ?_⟩) L.kind)
    have kp : ∀ b o, s1.heap.get? b = some o → h₁.get? b = some o := fun b o e => hsb.extBut b o (Nat.ne_of_lt (Heap.lt_size e)) (Heap.get?_push_of_some _ e)
    have J := lam_start2 (E := E) (f := f) (c' := c') (tk := s1.toks + ([] : List (Str × Value)).length) I L I1.env0 hr.hd I1.base hns kp
    refine PySem.W.kla_codeExpr (wpAny_mono ((hbody _ _ s1 H1 E f c' (hr.deeper _)).run [] _ _ H1 Q J ht) (fun v s' out => ?_) fun e s' out => out)
    obtain ⟨w', H', J', rv, q⟩ := out
    exact ⟨w', H', J'.os, J'.bare, J'.base, J'.hok, rv, q⟩
  refine wpAny_call (codeAny_mono run fun r s' hq => ?_)
  match r, hq with
  | .error e, hq => exact passes_call tk hW pinsZ σZ H1 s1 e s' I1 hq
  | .ok (.ret u), hq => exact I1.after hq
  | .ok .next, hq => exact hq.elim
  | .ok .brk, hq => exact hq.elim
  | .ok .cont, hq => exact hq.elim
/-- x(e), where e is a kept lambda -/
def tLamV (X : Cx) (k : Nat) (TT : (XK → Hp → VK → Prop) → Hp → VK → Prop) (te : TE) : TE := fun σ H Q => te σ H fun v H1 => ∃ (f c' : Addr) (t : XK → TE), [v] = [.ref f] ∧ LamHas X k H1 f c' t ∧ TT (fun E H' Q' => LamHas X k H' f c' t ∧ t E σ H' Q') H1 Q
theorem pe_lamVcall {X : Cx} {TT : (XK → Hp → VK → Prop) → Hp → VK → Prop} {x a : Str} {g : Addr} {k : Nat} {pg : Arguments} {bg : List Stmt} {sg : Scope} {dV kV doc pm cdv ct oc : Value} {an od : Option Addr} {osl : Array (Option Value)} {Ng : List Str} {e : Expr} {te : TE} {p pos : Pos} (hg : Gl X x) (hm : X.mg x = some (.ref g)) (hk : PySem.W.keepIn X.K (.ref g) = true)
    (lk : X.K.lookup g = some ⟨oc, od, .func (PySem.W.fnOf x x pg bg sg dV kV doc pm an cdv ct), osl⟩) (hcg : PySem.W.codeIn X.K cdv x = true) (hb : L2.Binds X.K (PySem.W.fnOf x x pg bg sg dV kV doc pm an cdv ct) [a] []) (Sg : FnScope Ng [a] sg) (hNg : Ng[0]? = some a) (hva : Vis sg a)
    (hG : GivesTo X Ng x sg g cdv bg a (X.env.qual ++ "<lambda>") TT) (hr : Room (k + 2) X.A) (he : PE X e te) (hst : starEach [e] X.env = (false, eval e X.env) :: starEach [] X.env := by rfl) (hfin : ((backTo pos (starEach [] X.env)).any fun x => x.fst) = false := by rfl)
    (hdb : (x == ("__debug__" : Str)) = false := by decide) (hd : (a == ("__debug__" : Str)) = false := by decide) (hcd : (a == ("__classdict__" : Str)) = false := by decide) :
    PE X (.Call (.Name x p) [e] [] pos) (tLamV X k TT te) := by
  refine ⟨fun pins s σ H Q I h => ?_⟩
  refine wpAny_Call_Name_kw (ld_glob I hg hm ?_ hdb)
  refine PySem.W.callWith_K (h₀ := X.base) I.ok.mod.kin hk (thn ((pa_cons he pa_nil hst).run pos pins s σ H (fun vs H1 => ∃ (f c' : Addr) (t : XK → TE), vs = [.ref f] ∧ LamHas X k H1 f c' t ∧ TT (fun E H' Q' => LamHas X k H' f c' t ∧ t E σ H' Q') H1 Q) I h) fun us s1 out => ?_) hst hfin
  obtain ⟨vs, H1, I1, rv, f, c', t, rfl, lam, tt⟩ := out
  obtain ⟨u, rfl, ru⟩ := vals1 rv
  cases ru
  refine ⟨I1.kIn, ?_⟩
  have hco : H1 c' = some (CodeO c' (X.env.qual ++ "<lambda>")) := by
    obtain ⟨_, _, _, _, h2, _⟩ := lam
    exact h2
  have run : codeAny (model X.prog X.w) X.A (.call (.ref g) ⟨[.ref f], []⟩) (CR C8.CX0 X.stack X.prog X.w H1 s1 Q C8.E0) s1 := by
    refine run_ofS (N := Ng) (ps := [a]) (us := [.ref f]) (vs := [.ref f]) lk hcg Sg hr I1.env0 (hb s1 [.ref f] I1.kIn rfl) (.cons rfl .nil) rfl fun hr2 => ?_
    obtain ⟨t2, ht2, hq2⟩ := hG f c' s1 H1 Q (fun E H' Q' => LamHas X k H' f c' t ∧ t E σ H' Q') (fun W pn xe E p1 p2 tk hW => ⟨fun pins s σZ HZ Q IZ z => (pe_actV (E := E) (c' := c') (f := f) (t := t) (k := k) (p1 := p1) (p2 := p2) I1 tk hW hr2 hNg hva hd hcd).run pins s σZ HZ Q IZ ⟨z.1, z.2.2.1, z.2.2.2⟩⟩) hco tt
    exact ⟨t2, ht2.nox, hq2⟩
  refine wpAny_call (codeAny_mono run fun r s2 hq => ?_)
  match r, hq with
  | .error e, hq => exact (show False from hq).elim
  | .ok (.ret u), hq => exact I1.after hq
  | .ok .next, hq => exact (show False from hq).elim
  | .ok .brk, hq => exact (show False from hq).elim
  | .ok .cont, hq => exact (show False from hq).elim
/-- lambda: body, as a value whose reading is told -/
def tMkH (X : Cx) (k : Nat) (T : List (Addr × Str)) (Pt : Addr) (t : XK → TE) : TE := fun _ H Q => Tabs T H ∧ ∀ (f c' : Addr) (H1 : Hp) (O : HO), ExtN H H1 → Tabs T H1 → (∀ b ps, b ≠ Pt → H b = some (.tbl ps) → H1 b = some (.tbl ps)) → H1 f = none → LamHas X k (upd H1 f O) f c' t → Q (.ref f) (upd H1 f O)
theorem pe_lamH {X : Cx} {T : List (Addr × Str)} {c Pt : Addr} {k : Nat} {params : Arguments} {body : Expr} {scope : Scope} {pos : Pos} {t : XK → TE} (TB : TabB X.base X.mg c Pt) (hcode : X.env.code = .ref c) (hm : (Pt, X.env.qual ++ "<lambda>") ∈ T) (hu : ∀ p ∈ T, p.1 = Pt → p.2 = X.env.qual ++ "<lambda>")
    (L : LamS X.env.scope scope) (hdef : defaultsOf params X.env = ([], [])) (hbind : ∀ (q : Str) (cl : List (Str × Addr)) (pm cv ctv : Value), bindArgs (PySem.W.kla_fn "<lambda>" q params body scope cl pm cv ctv) ⟨[], []⟩ = pure [])
    (hbody : ∀ (A : Around) (outer : List Env) (s : Shared) (H : Hp) (E : XK) (f c' : Addr), Room k (A.deeper (lamEnv X scope s.heap.objs.size f c')) → PE (lamCx X A outer s H E scope f c') body (t E)) : PE X (.Lambda params body scope pos) (tMkH X k T Pt t) :=
  ⟨fun pins s σ H Q I h => (pe_lamV TB hcode hm hu L hdef).run pins s σ H Q I ⟨h.1, fun f c' H1 e t1 ot hf hc => h.2 f c' H1 _ e t1 ot hf ⟨_, _, _, upd_same, by rw [upd_ne (ne_of_none hc hf)]; exact hc, L, hbind, hbody⟩⟩⟩
end
/-! what is said: the answer, or the word of the refusal -/
section
open PySem.Spec PyProof.Rows LamX
theorem scSaid : FnScope ["_law_call", "_law_e"] ["_law_call"] (defScope sSaid) := ⟨rfl, rfl, rfl, by decide +kernel, rfl, by decide +kernel, by decide +kernel⟩
/-- the two errors that come here -/
def Ech (CG CP : Addr) (Q : VK) : XK := fun cls d H => (cls = .ref CG ∧ d = none ∧ RWord 0 H Q) ∨ (cls = .ref CP ∧ d = none ∧ RWord 1 H Q)
def TTsaid (CG CP : Addr) : (XK → Hp → VK → Prop) → Hp → VK → Prop := fun tl H Q => tl (Ech CG CP Q) H fun v H1 => [v].length ≤ sizeLine ∧ ∀ p, H1 p = none → Q (.ref p) (upd H1 p (.lst [v]))
structure SaidAt (P : Program) (w : World) (K : PySem.W.Frag) (mg : Str → Option Value) (base : Heap) (CS CG CP fw : Addr) (k : Nat) : Prop where
  give : mg "GiveError" = some (.ref CS)
  word : mg "_law_word" = some (.ref fw)
  keep : PySem.W.keepIn K (.ref fw) = true
  graph : HotOk P w K mg base k fw CG (RWord 0)
  place : HotOk P w K mg base k fw CP (RWord 1)
  mG : PySem.W.exmOne K (.ref CG) (.ref CS) = some true
  mP : PySem.W.exmOne K (.ref CP) (.ref CS) = some true
theorem said_gives {X : Cx} {q : Str} {g CS CG CP fw : Addr} {cdg : Value} {k : Nat} (S : SaidAt X.prog X.w X.K X.mg X.base CS CG CP fw k) (hr : Room (k + 1) X.A) :
    GivesTo X ["_law_call", "_law_e"] "_law_said" (defScope sSaid) g cdg (defBody sSaid) "_law_call" q (TTsaid CG CP) := by
  intro f c' s H Q tl act hc h
  have hr2 : ∀ A : Around, A.depth = X.A.depth + 1 → A.units = X.A.units + 3 → L2H.RoomH k A := fun A e1 e2 => ⟨by have := hr.dp; rw [e1]; omega, by have := hr.un; rw [e2]; omega⟩
  refine ⟨_, pss_one (ps_try_as (X := (cxOf C8.CX0 X.prog X.w X.K X.mg X.base ["_law_call", "_law_e"] "_law_said" (defScope sSaid) g cdg X.A X.stack s H C8.E0).nox) (i := 1) (c := .ref CS)
      (tb := fun W D σ H => ∃ E : XK, (∀ cls d σ' H', E cls d H' → W cls d σ' H') ∧ σ[0]? = some (some (.ref f)) ∧ H c' = some (CodeO c' q) ∧ tl E H fun v H1 => [v].length ≤ sizeLine ∧ ∀ p, H1 p = none → D.rt (.ref p) (upd H1 p (.lst [v])))
      (ts := fun a cls d D σ H => (∃ σ0 : L2.St, σ = σ0.set 1 (some (.ref a))) ∧ ((cls = .ref CG ∧ d = none ∧ RWord 0 H D.rt) ∨ (cls = .ref CP ∧ d = none ∧ RWord 1 H D.rt)))
      rfl rfl scSaid.nd rfl rfl ⟨rfl, by decide, .inl S.give⟩ LamX.takes0 (fun W pn xe tk _ => ?_) (fun a oe cls d pn hz hf => ?_)), ?_⟩
  · refine ⟨fun pins s' σ H' D I h' => ?_⟩
    obtain ⟨E, hW, h1, h2, h3⟩ := h'
    exact (pss_one (ps_ret (pe_lst (pa_cons (act W pn xe E _ _ tk hW) pa_nil)))).run pins s' σ H' D I ⟨h1, h2, h3⟩
  · refine ⟨fun pins s' σ H' D I h' => ?_⟩
    obtain ⟨⟨σ0, rfl⟩, h'⟩ := h'
    have ln := I.len
    have l2 : 1 < σ0.length := by
      rw [List.length_set] at ln
      rw [ln]
      exact (by decide : 1 < 2)
    have sl : (σ0.set 1 (some (V.ref a)))[1]? = some (some (V.ref a)) := by rw [List.getElem?_set_self l2]
    rcases h' with ⟨rfl, rfl, h'⟩ | ⟨rfl, rfl, h'⟩
    · exact (pss_one (ps_ret (pe_hot (x := "_law_word") (Z := (cxOf C8.CX0 X.prog X.w X.K X.mg X.base ["_law_call", "_law_e"] "_law_said" (defScope sSaid) g cdg X.A X.stack s H C8.E0).nox.suite a ((a, oe) :: pn)) (k := k) (D := CG) List.mem_cons_self hz hf S.graph (hr2 _ rfl rfl) rfl S.word S.keep (pa_cons (pv 1) pa_nil)))).run pins s' _ H' D I ⟨_, sl, rfl, h'⟩
    · exact (pss_one (ps_ret (pe_hot (x := "_law_word") (Z := (cxOf C8.CX0 X.prog X.w X.K X.mg X.base ["_law_call", "_law_e"] "_law_said" (defScope sSaid) g cdg X.A X.stack s H C8.E0).nox.suite a ((a, oe) :: pn)) (k := k) (D := CP) List.mem_cons_self hz hf S.place (hr2 _ rfl rfl) rfl S.word S.keep (pa_cons (pv 1) pa_nil)))).run pins s' _ H' D I ⟨_, sl, rfl, h'⟩
  · refine ⟨Ech CG CP Q, fun cls d σ' H' e => ?_, rfl, hc, h⟩
    rcases e with ⟨rfl, rfl, e⟩ | ⟨rfl, rfl, e⟩
    · exact ⟨true, S.mG, fun _ a _ => ⟨⟨σ', rfl⟩, .inl ⟨rfl, rfl, e⟩⟩, fun z => by cases z⟩
    · exact ⟨true, S.mP, fun _ a _ => ⟨⟨σ', rfl⟩, .inr ⟨rfl, rfl, e⟩⟩, fun z => by cases z⟩
theorem SaidAt.mono {P : Program} {w : World} {K : PySem.W.Frag} {mg : Str → Option Value} {base : Heap} {CS CG CP fw : Addr} {j k : Nat} (S : SaidAt P w K mg base CS CG CP fw j) (l : j ≤ k) : SaidAt P w K mg base CS CG CP fw k :=
  ⟨S.give, S.word, S.keep, S.graph.mono l, S.place.mono l, S.mG, S.mP⟩
/-- all that calls of _law_said want -/
structure SaidF (P : Program) (w : World) (K : PySem.W.Frag) (mg : Str → Option Value) (base : Heap) (CS CG CP fw g : Addr) (fdg : FuncData) (k : Nat) : Prop where
  S : SaidAt P w K mg base CS CG CP fw k
  F : Fun K "_law_said" "_law_said" sSaid g fdg
  B : L2.Binds K fdg ["_law_call"] []
  M : mg "_law_said" = some (.ref g)
theorem pe_saidV {X : Cx} {CS CG CP fw g : Addr} {fdg : FuncData} {k : Nat} {e : Expr} {te : TE} {p pos : Pos} (Z : SaidF X.prog X.w X.K X.mg X.base CS CG CP fw g fdg k) (hr : Room (k + 2) X.A) (hg : Gl X "_law_said") (he : PE X e te) (hst : starEach [e] X.env = (false, eval e X.env) :: starEach [] X.env := by rfl) (hfin : ((backTo pos (starEach [] X.env)).any fun x => x.fst) = false := by rfl) :
    PE X (.Call (.Name "_law_said" p) [e] [] pos) (tLamV X k (TTsaid CG CP) te) := by
  obtain ⟨oc, od, kV, doc, pm, an, cdv, ct, osl, rfl, lk, hcd⟩ := Z.F.ex
  exact pe_lamVcall hg Z.M Z.F.kp lk hcd Z.B scSaid rfl (.inl rfl) (said_gives Z.S (hr.mono (by omega))) hr he hst hfin
end
section
variable {P : Program} {w : World} {K : PySem.W.Frag} {mg : Str → Option Value} {base : Heap} {f : Addr} {fd : FuncData}
def spOdd (K : PySem.W.Frag) : Sp := fun vs H Q _ => ∃ (st : Addr), vs = [.ref st] ∧ StAt H st ∧ ∀ v d H', Mv st H H' → Dp K (mn st H') v d → d ∈ odd0 ++ odd1 ++ odd2 → Q v H'
theorem scOdd : FnScope ["_law_state_here", "_law_some_here"] ["_law_state_here"] (defScope sOdd) := ⟨rfl, rfl, rfl, by decide +kernel, rfl, by decide +kernel, by decide +kernel⟩
theorem ok_odd {k : Nat} (F : Fun K "_law_odd" "_law_odd" sOdd f fd) (T : Free mg) (cC : Cal P w K mg base "_law_choice" k ["_law_state_here", "_law_many"] spChoice) : FnOk P w K mg base CX0 (k + 1) f fd ["_law_state_here"] (spOdd K) := by
  refine F.ok scOdd (fun vs H Q E h => ?_) (fun cdv A outer s H vs Q E hr h => ?_)
  · obtain ⟨st, rfl, _⟩ := h
    rfl
  obtain ⟨st, rfl, sa, q⟩ := h
  refine ⟨_, pss_cons (ps_set (i := 1) scOdd.nd rfl (.inl rfl) (pe_lst (lits_cons lit_non (lits_cons lit_bl (lits_cons lit_bl (lits_cons lit_int (lits_cons lit_int (lits_cons (lit_neg pe_int) (lits_cons lit_big (lits_cons lit_str (lits_cons lit_str (lits_cons lit_str (lits_cons lit_str (lits_cons (lit_tup lits_nil (by decide)) (lits_cons (lit_lst lits_nil (by decide)) (lits_cons lit_dict0 (lits_cons (lit_tup (lits_cons lit_int lits_nil) (by decide)) (lits_cons (lit_lst (lits_cons lit_int lits_nil) (by decide)) (lits_cons (lit_tup (lits_cons lit_non lits_nil) (by decide)) lits_nil)))))))))))))))))))
    (pss_cons (ps_set (i := 1) scOdd.nd rfl (.inl rfl) (pe_op op_cat (pv 1) (pe_lst (lits_cons (lit_tup (lits_cons (lit_tup lits_nil (by decide)) lits_nil) (by decide)) (lits_cons lit_str lits_nil)))))
    (pss_one (ps_ret (pe_ix ix_list (pe_op op_cat (pv 1) (pe_lst (lits_cons lit_str (lits_cons lit_dict1 (lits_cons (lit_tup (lits_cons lit_str (lits_cons lit_int lits_nil)) (by decide)) (lits_cons (lit_tup (lits_cons lit_int (lits_cons lit_int lits_nil)) (by decide)) lits_nil)))))) (pe_cal cC hr rfl (pa_cons (pv 0) (pa_cons pe_int pa_nil))) (fun _ _ => rfl))))), ?_⟩
  have some_st := sa.some
  have stx : ∃ l, H st = some l := by
    obtain ⟨l, h⟩ := some_st
    exact ⟨_, h⟩
  intro v0 H0 s0 d0
  have l0 := dpAll_len d0
  refine ⟨small (by rw [l0]; decide), fun p0 h0 => ?_⟩
  have n0 := same_new h0 (.lst v0)
  refine ⟨_, rfl, fun v1 H1 s1 d1 => ?_⟩
  have l1 := dpAll_len d1
  refine ⟨small (by rw [l1]; decide), fun p1 h1 => ?_⟩
  have n1 := same_new h1 (.lst v1)
  refine ⟨p0, p1, v0, v1, rfl, rfl, n1 _ _ (s1 _ _ upd_same), upd_same, small (by rw [l0, l1]; decide), fun p2 h2 => ?_⟩
  have n2 := same_new h2 (.lst (v0 ++ v1))
  refine ⟨_, rfl, fun v3 H3 s3 d3 => ?_⟩
  have l3 := dpAll_len d3
  refine ⟨small (by rw [l3]; decide), fun p3 h3 => ?_⟩
  have n3 := same_new h3 (.lst v3)
  refine ⟨p2, p3, v0 ++ v1, v3, rfl, rfl, n3 _ _ (s3 _ _ upd_same), upd_same, small (by rw [List.length_append, l0, l1, l3]; decide), fun p4 h4 => ?_⟩
  have n4 := same_new h4 (.lst (v0 ++ v1 ++ v3))
  have sA := s0.trans n0
  have sB := sA.trans (s1.trans (n1.trans n2))
  have sC := sB.trans (s3.trans (n3.trans n4))
  have all : DpAll K (dif H (upd (upd H3 p3 (.lst v3)) p4 (.lst (v0 ++ v1 ++ v3)))) (v0 ++ v1 ++ v3) (odd0 ++ odd1 ++ odd2) :=
    dpAll_append (dps_same ((dif_r sB).trans (dif_l (n3.trans n4))) d3) (dpAll_append (dps_same ((dif_r sA).trans (dif_l (n1.trans (n2.trans (s3.trans (n3.trans n4)))))) d1) (dps_same (dif_l (n0.trans (s1.trans (n1.trans (n2.trans (s3.trans (n3.trans n4))))))) d0))
  have len := dpAll_len all
  refine ⟨_, rfl, st, 23, rfl, sa.same sC, by decide, by decide, fun r H5 r0 r1 mv => ?_⟩
  have len' : (v0 ++ v1 ++ v3).length = 23 := len
  have np4 : p4 ≠ st := (sa.same (sB.trans (s3.trans n3))).ne h4
  have hr5 : r.toNat < (v0 ++ v1 ++ v3).length := by omega
  have hx := List.getElem?_eq_getElem hr5
  obtain ⟨d, hd, hdp⟩ := dpAll_get' all hx
  refine ⟨p4, _, r, _, rfl, rfl, SqL.of (mv.kp _ _ np4 upd_same), atI_at r0 hx, q _ d H5 ⟨(Kp.of_same sC).trans mv.kp, mv.sa⟩ (dp_same ((mn_dif stx).trans (mn_kp mv.kp)) hdp) (List.mem_of_getElem? hd)⟩
end
section
variable {P : Program} {w : World} {K : PySem.W.Frag} {mg : Str → Option Value} {base : Heap} {f : Addr} {fd : FuncData}
theorem scLWhole : FnScope ["_law_thing"] ["_law_thing"] (defScope sLWhole) := ⟨rfl, rfl, rfl, by decide +kernel, rfl, by decide +kernel, by decide +kernel⟩
theorem ok_lwhole {k : Nat} (F : Fun K "_law_whole" "_law_whole" sLWhole f fd) (T : Free mg) : FnOk P w K mg base CX0 (k + 1) f fd ["_law_thing"] (spWhole K) := by
  refine F.ok scLWhole (fun vs H Q E h => ?_) (fun cdv A outer s H vs Q E hr h => ?_)
  · obtain ⟨x, d, rfl, _⟩ := h
    rfl
  obtain ⟨x, d, rfl, hx, q⟩ := h
  refine ⟨_, pss_one (ps_ret (pe_and (pe_callB call_isi rfl T.isi (by decide +kernel) (pa_cons (pv 0) (pa_cons (pe_bltn (v := .ty "int") rfl T.int (by decide +kernel) rfl) pa_nil)))
    (pe_one (pe_not (pe_callB call_isi rfl T.isi (by decide +kernel) (pa_cons (pv 0) (pa_cons (pe_bltn (v := .ty "bool") rfl T.bool (by decide +kernel) rfl) pa_nil))))))), ?_⟩
  have ht := ty_of hx
  refine ⟨_, rfl, x, _, _, _, _, rfl, .ty "int", ht, kit_int d, _, rfl, ?_⟩
  cases d with
  | int i => exact ifT rfl ⟨_, rfl, _, _, _, _, _, rfl, .ty "bool", ht, kit_bool _, _, rfl, q⟩
  | bool b => exact ifT rfl ⟨_, rfl, _, _, _, _, _, rfl, .ty "bool", ht, kit_bool _, _, rfl, q⟩
  | none => exact ifF rfl q
  | str _ => exact ifF rfl q
  | list _ => exact ifF rfl q
  | tuple _ => exact ifF rfl q
  | dict _ => exact ifF rfl q
end
/-! data that may be shown, however it is bent -/
inductive Bd (c wd : Nat) : PyData → Prop
  | non : Bd c wd .none
  | bl {t : Bool} : Bd c wd (.bool t)
  | int {i : Int} (h : i.natAbs < c) : Bd c wd (.int i)
  | str {x : Str} (h : ∀ z ∈ x.cps.toList, z < 128) : Bd c wd (.str x)
  | lst {es : List PyData} (len : es.length ≤ wd) (each : ∀ z ∈ es, Bd c wd z) : Bd c wd (.list es)
  | tup {es : List PyData} (len : es.length ≤ wd) (each : ∀ z ∈ es, Bd c wd z) : Bd c wd (.tuple es)
  | dct {kvs : List (PyData × PyData)} (h1 : (PyData.dict kvs).showable = true) (h2 : (PyData.dict kvs).leavesShort 40 = true) : Bd c wd (.dict kvs)
theorem Bd.mono {c c' wd wd' : Nat} (h : c ≤ c') (h' : wd ≤ wd') {d : PyData} (b : Bd c wd d) : Bd c' wd' d := by
  induction b with
  | non => exact .non
  | bl => exact .bl
  | int q => exact .int (Nat.lt_of_lt_of_le q h)
  | str q => exact .str q
  | lst l _ ih => exact .lst (Nat.le_trans l h') ih
  | tup l _ ih => exact .tup (Nat.le_trans l h') ih
  | dct a b => exact .dct a b
theorem Bd.shw {c wd : Nat} (hc : c ≤ 10 ^ 35) {d : PyData} (b : Bd c wd d) : d.showable = true := by
  induction b with
  | non => simp only [PyData.showable]
  | bl => simp only [PyData.showable]
  | @int i q =>
    simp only [PyData.showable, decide_eq_true_eq]
    by_cases z : i.natAbs = 0
    · rw [z]
      decide
    · exact Nat.lt_of_lt_of_le ((Nat.log2_lt z).mpr (Nat.lt_of_lt_of_le (Nat.lt_of_lt_of_le q hc) (show 10 ^ 35 ≤ 2 ^ 120 by decide))) (by decide)
  | str q => simp only [PyData.showable]
  | lst _ _ ih => simp only [PyData.showable]; exact show_all ih
  | tup _ _ ih => simp only [PyData.showable]; exact show_all ih
  | dct a b => exact a
theorem Bd.sho {c wd : Nat} (hc : c ≤ 10 ^ 35) {d : PyData} (b : Bd c wd d) : d.leavesShort 40 = true := by
  induction b with
  | non => simp only [PyData.leavesShort]
  | bl => simp only [PyData.leavesShort]
  | @int i q =>
    simp only [PyData.leavesShort, decide_eq_true_eq]
    have e := PySem.int_text_length_le10 (k := 35) (by decide) (Nat.lt_of_lt_of_le q hc)
    show (Str.ofString (toString i)).length ≤ 40
    rw [ofString_length]
    exact Nat.le_trans e (by decide)
  | str q =>
    simp only [PyData.leavesShort, List.all_eq_true, decide_eq_true_eq]
    intro z hz
    exact Nat.lt_of_lt_of_le (q z hz) (by decide)
  | lst _ _ ih => simp only [PyData.leavesShort]; exact short_all ih
  | tup _ _ ih => simp only [PyData.leavesShort]; exact short_all ih
  | dct a b => exact b
def bdQ (c wd : Nat) : Nat → PyData → Bool
  | 0, _ => false
  | n + 1, .tuple es => (decide (es.length ≤ wd) && es.all (bdQ c wd n))
  | n + 1, .list es => (decide (es.length ≤ wd) && es.all (bdQ c wd n))
  | _ + 1, .int i => decide (i.natAbs < c)
  | _ + 1, .str x => x.cps.toList.all fun z => decide (z < 128)
  | _ + 1, .dict kvs => (PyData.dict kvs).showable && (PyData.dict kvs).leavesShort 40
  | _ + 1, .none => true
  | _ + 1, .bool _ => true
theorem bdQ_ok {c wd : Nat} : ∀ (n : Nat) (d : PyData), bdQ c wd n d = true → Bd c wd d
  | 0, _, h => by cases h
  | n + 1, .tuple es, h => by
    have h : (decide (es.length ≤ wd) && es.all (bdQ c wd n)) = true := h
    rw [Bool.and_eq_true] at h
    exact .tup (of_decide_eq_true h.1) fun z hz => bdQ_ok n z (List.all_eq_true.mp h.2 z hz)
  | n + 1, .list es, h => by
    have h : (decide (es.length ≤ wd) && es.all (bdQ c wd n)) = true := h
    rw [Bool.and_eq_true] at h
    exact .lst (of_decide_eq_true h.1) fun z hz => bdQ_ok n z (List.all_eq_true.mp h.2 z hz)
  | n + 1, .int i, h => .int (of_decide_eq_true h)
  | n + 1, .str x, h => .str fun z hz => of_decide_eq_true (List.all_eq_true.mp h z hz)
  | n + 1, .dict kvs, h => by
    have h : ((PyData.dict kvs).showable && (PyData.dict kvs).leavesShort 40) = true := h
    rw [Bool.and_eq_true] at h
    exact .dct h.1 h.2
  | n + 1, .none, _ => .non
  | n + 1, .bool _, _ => .bl
/-- what one bending makes of it -/
structure Bn (c wd : Nat) (d d' : PyData) : Prop where
  bd : Bd (c + 10000) (wd + 1) d'
  blk : d'.bulk ≤ 2 * d.bulk + 20
  dep : d'.depth ≤ d.depth + 3
def oddQ (o : PyData) : Bool := bdQ (10 ^ 29 + 1) 2 3 o && decide (o.bulk ≤ 12) && decide (o.depth ≤ 3)
theorem odd_all : (odd0 ++ odd1 ++ odd2).all oddQ = true := by decide +kernel
theorem odd_is {o : PyData} (h : o ∈ odd0 ++ odd1 ++ odd2) : Bd (10 ^ 29 + 1) 2 o ∧ o.bulk ≤ 12 ∧ o.depth ≤ 3 := by
  have := List.all_eq_true.mp odd_all o h
  unfold oddQ at this
  simp only [Bool.and_eq_true, decide_eq_true_eq] at this
  exact ⟨bdQ_ok _ _ this.1.1, this.1.2, this.2⟩
theorem odd_bn {c wd : Nat} (hc : 10 ^ 29 + 1 ≤ c) (hw : 2 ≤ wd) {d o : PyData} (h : o ∈ odd0 ++ odd1 ++ odd2) : Bn c wd d o := by
  obtain ⟨a, b, e⟩ := odd_is h
  exact ⟨a.mono (by omega) (by omega), by omega, by omega⟩
theorem depth_mem : ∀ {l : List PyData} {z : PyData}, z ∈ l → z.depth ≤ PyData.depthAll l
  | u :: v, z, h => by
    simp only [PyData.depthAll]
    rcases List.mem_cons.mp h with rfl | h
    · omega
    · have := depth_mem h
      omega
theorem len_bulk : ∀ (l : List PyData), l.length ≤ PyData.bulkAll l
  | [] => by simp [PyData.bulkAll]
  | u :: v => by
    have := len_bulk v
    simp only [PyData.bulkAll, List.length_cons]
    omega
theorem bulk_rev : ∀ (l : List PyData), PyData.bulkAll l.reverse = PyData.bulkAll l
  | [] => rfl
  | u :: v => by
    rw [List.reverse_cons, bulk_app, bulk_rev v]
    simp only [PyData.bulkAll]
    omega
/-- a tuple of things of the old one -/
theorem bn_tup {c wd : Nat} {ds l : List PyData} (hd : Bd c wd (.tuple ds)) (hl : l.length ≤ wd + 1) (hm : ∀ z ∈ l, z ∈ ds ∨ z = .int 0 ∨ z = .tuple ds) (hc : 0 < c) (hb : PyData.bulkAll l ≤ 2 * PyData.bulkAll ds + 20) : Bn c wd (.tuple ds) (.tuple l) := by
  have each : ∀ z ∈ ds, Bd c wd z := by cases hd with | tup _ e => exact e
  have len : ds.length ≤ wd := by cases hd with | tup l _ => exact l
  refine ⟨.tup hl fun z hz => ?_, by rw [bulk_tup, bulk_tup]; exact hb, ?_⟩
  · rcases hm z hz with q | rfl | rfl
    · exact (each z q).mono (by omega) (by omega)
    · exact .int (by show 0 < _; omega)
    · exact hd.mono (by omega) (by omega)
  · rw [depth_tup, depth_tup]
    have : PyData.depthAll l ≤ PyData.depthAll ds + 1 := depth_all fun z hz => by
      rcases hm z hz with q | rfl | rfl
      · have := depth_mem q
        omega
      · simp only [PyData.depth]
        omega
      · rw [depth_tup]
        omega
    omega
theorem bn_lst {c wd : Nat} {ds : List PyData} (hd : Bd c wd (.tuple ds)) : Bn c wd (.tuple ds) (.list ds) := by
  have each : ∀ z ∈ ds, Bd c wd z := by cases hd with | tup _ e => exact e
  have len : ds.length ≤ wd := by cases hd with | tup l _ => exact l
  exact ⟨.lst (by omega) fun z hz => (each z hz).mono (by omega) (by omega), by rw [bulk_tup, bulk_lst]; omega, by rw [depth_tup, depth_lst]; omega⟩
theorem bn_set {c wd : Nat} {ds : List PyData} {i : Nat} {e e' : PyData} (hd : Bd c wd (.tuple ds)) (hi : ds[i]? = some e) (h : Bn c wd e e') : Bn c wd (.tuple ds) (.tuple (ds.set i e')) := by
  have each : ∀ z ∈ ds, Bd c wd z := by cases hd with | tup _ e => exact e
  have len : ds.length ≤ wd := by cases hd with | tup l _ => exact l
  have hm := List.mem_of_getElem? hi
  refine ⟨.tup (by rw [List.length_set]; omega) fun z hz => ?_, ?_, ?_⟩
  · rcases List.mem_or_eq_of_mem_set hz with q | q
    · exact (each z q).mono (by omega) (by omega)
    · rw [q]
      exact h.bd
  · rw [bulk_tup, bulk_tup]
    have b1 := bulk_set (e' := e') hi
    have b2 := bulk_mem hm
    have b3 := h.blk
    omega
  · rw [depth_tup, depth_tup]
    have dm := depth_mem hm
    have : PyData.depthAll (ds.set i e') ≤ PyData.depthAll ds + 3 := depth_all fun z hz => by
      rcases List.mem_or_eq_of_mem_set hz with q | q
      · have := depth_mem q
        omega
      · rw [q]
        have := h.dep
        omega
    omega
theorem bn_int {c wd : Nat} {i k : Int} (h : Bd c wd (.int i)) (hk : k.natAbs < 10000) : Bn c wd (.int i) (.int (i + k)) := by
  cases h with
  | int h => exact ⟨.int (by omega), by simp only [PyData.bulk]; omega, by simp only [PyData.depth]; omega⟩
theorem bn_str {c wd : Nat} {x y : Str} (h : ∀ z ∈ y.cps.toList, z < 128) (hl : y.cps.size ≤ x.cps.size + 4) : Bn c wd (.str x) (.str y) := ⟨.str h, by simp only [PyData.bulk]; omega, by simp only [PyData.depth]; omega⟩
theorem asc_app {x y : Str} (h : ∀ z ∈ x.cps.toList, z < 128) (h' : ∀ z ∈ y.cps.toList, z < 128) : ∀ z ∈ (x ++ y).cps.toList, z < 128 := fun z hz => by
  have e : (x ++ y).cps = x.cps ++ y.cps := rfl
  rw [e, Array.toList_append] at hz
  rcases List.mem_append.mp hz with q | q
  · exact h z q
  · exact h' z q
theorem asc_cut {x : Str} {lo hi : Option Int} (h : ∀ z ∈ x.cps.toList, z < 128) : ∀ z ∈ (cutS x lo hi).cps.toList, z < 128 := fun z hz => by
  have hz : z ∈ (x.cps.toList.drop (HT.sIx x.length 0 lo)).take (HT.sIx x.length x.length hi - HT.sIx x.length 0 lo) := by simpa [cutS] using hz
  exact h z (List.mem_of_mem_drop (List.mem_of_mem_take hz))
theorem asc_up {x : Str} (h : ∀ z ∈ x.cps.toList, z < 128) : (∀ z ∈ (Txt.upper x).cps.toList, z < 128) ∧ (Txt.upper x).cps.size = x.cps.size := by
  rw [PyProof.Rows.upper_ascii h]
  refine ⟨fun z hz => ?_, by simp⟩
  have hz : z ∈ x.cps.toList.map PyProof.Rows.up1 := by simpa using hz
  obtain ⟨c, hc, rfl⟩ := List.mem_map.mp hz
  have := h c hc
  unfold PyProof.Rows.up1
  split <;> omega

section
variable {K : PySem.W.Frag}
theorem dpAll_rev {H : Hp} : ∀ {vs : List V} {ds : List PyData}, DpAll K H vs ds → DpAll K H vs.reverse ds.reverse
  | _, _, .nil => .nil
  | _, _, .cons a t => by rw [List.reverse_cons, List.reverse_cons]; exact dpAll_snoc a (dpAll_rev t)
def cutD (ds : List PyData) (lo hi : Option Int) : List PyData := (ds.drop (HT.sIx ds.length 0 lo)).take (HT.sIx ds.length ds.length hi - HT.sIx ds.length 0 lo)
theorem dpAll_cut {H : Hp} {vs : List V} {ds : List PyData} (h : DpAll K H vs ds) (lo hi : Option Int) : DpAll K H (cutV vs lo hi) (cutD ds lo hi) := by
  unfold cutV cutD
  rw [dpAll_len h]
  exact dpAll_take _ (dpAll_drop _ h)
theorem cutD_mem {ds : List PyData} {lo hi : Option Int} {z : PyData} (h : z ∈ cutD ds lo hi) : z ∈ ds := List.mem_of_mem_drop (List.mem_of_mem_take h)
theorem cutD_len (ds : List PyData) (lo hi : Option Int) : (cutD ds lo hi).length ≤ ds.length := by
  unfold cutD
  rw [List.length_take, List.length_drop]
  omega
theorem last_len (ds : List PyData) : (cutD ds (some (-1)) none).length ≤ 1 := by
  unfold cutD
  rw [List.length_take, List.length_drop, HT.sIx_none]
  have e : HT.sIx ds.length 0 (some (-1)) = ds.length - 1 := by
    show (if (-1 : Int) < 0 then ((-1 : Int) + (ds.length : Int)).toNat else min (-1 : Int).toNat ds.length) = _
    rw [if_pos (by decide)]
    omega
  rw [e]
  omega
theorem cutD_bulk (ds : List PyData) (lo hi : Option Int) : PyData.bulkAll (cutD ds lo hi) ≤ PyData.bulkAll ds := by
  unfold cutD
  have a := bulk_cut (ds.drop (HT.sIx ds.length 0 lo)) (HT.sIx ds.length ds.length hi - HT.sIx ds.length 0 lo)
  have b := bulk_drop ds (HT.sIx ds.length 0 lo)
  omega
end
/-! _law_bent -/
def spBent (K : PySem.W.Frag) (c wd n : Nat) : Sp := fun vs H Q _ => ∃ (st : Addr) (x : V) (d : PyData), vs = [.ref st, x] ∧ StAt H st ∧ Dp K (mn st H) x d ∧ Bd c wd d ∧ d.depth ≤ n ∧ d.bulk ≤ 100000 ∧ ∀ v d' H', Mv st H H' → Dp K (mn st H') v d' → Bn c wd d d' → Q v H'
def spBentS (K : PySem.W.Frag) (c wd n : Nat) : Sp := fun vs H Q E => ∃ m, n = m + 1 ∧ spBent K c wd m vs H Q E
def tBent (K : PySem.W.Frag) (c wd : Nat) : TS := fun D σ H => ∃ (st : Addr) (x : V) (d : PyData) (o2 o3 o4 : Option V), σ = [some (.ref st), some x, o2, o3, o4] ∧ StAt H st ∧ Dp K (mn st H) x d ∧ Bd c wd d ∧ d.bulk ≤ 100000 ∧
  ∀ v d' H', Mv st H H' → Dp K (mn st H') v d' → Bn c wd d d' → D.rt v H'
def tBentT (K : PySem.W.Frag) (c wd : Nat) : TS := fun D σ H => ∃ (st : Addr) (x : V) (d : PyData) (way : Int) (o2 o4 : Option V), σ = [some (.ref st), some x, o2, some (.int way), o4] ∧ 0 ≤ way ∧ StAt H st ∧ Dp K (mn st H) x d ∧ Bd c wd d ∧ d.bulk ≤ 100000 ∧
  ∀ v d' H', Mv st H H' → Dp K (mn st H') v d' → Bn c wd d d' → D.rt v H'
section
variable {P : Program} {w : World} {K : PySem.W.Frag} {mg : Str → Option Value} {base : Heap} {f : Addr} {fd : FuncData}
theorem scBent : FnScope ["_law_state_here", "_law_thing", "_law_at", "_law_way", "_law_more"] ["_law_state_here", "_law_thing"] (defScope sBent) := ⟨rfl, rfl, rfl, by decide +kernel, rfl, by decide +kernel, by decide +kernel⟩
theorem ok_bent {k c wd n : Nat} (hc : 10 ^ 29 + 1 ≤ c) (hwd : 2 ≤ wd) (F : Fun K "_law_bent" "_law_bent" sBent f fd) (T : Free mg) (hS : mg "str" = none) (cC : Cal P w K mg base "_law_choice" k ["_law_state_here", "_law_many"] spChoice) (cW : Cal P w K mg base "_law_whole" k ["_law_thing"] (spWhole K))
    (cO : Cal P w K mg base "_law_odd" k ["_law_state_here"] (spOdd K)) (cB : Cal P w K mg base "_law_bent" k ["_law_state_here", "_law_thing"] (spBentS K c wd n)) : FnOk P w K mg base CX0 (k + 1) f fd ["_law_state_here", "_law_thing"] (spBent K c wd n) := by
  refine F.ok scBent (fun vs H Q E h => ?_) (fun cdv A outer s H vs Q E hr h => ?_)
  · obtain ⟨st, x, d, rfl, _⟩ := h
    rfl
  obtain ⟨st, x, d, rfl, sa, hx, hd, hn, hb, q⟩ := h
  refine ⟨_, pss_cons (ps_if (PW.pt (pw_and (pt_val (pe_callB call_isi rfl T.isi (by decide +kernel) (pa_cons (pv 1) (pa_cons (pe_bltn (v := .ty "tuple") rfl T.tuple (by decide +kernel) rfl) pa_nil))))
      (pw_and (pt_cmpR (op_neE hr.units) (pv 1) (pe_tup pa_nil) (nomark _)) (pw_and1 (pt_cmpR op_gt (pe_cal cC hr rfl (pa_cons (pv 0) (pa_cons pe_int pa_nil))) pe_int (nomark _))))))
      (pss_cons (ps_set (i := 2) scBent.nd rfl (.inl rfl) (pe_cal cC hr rfl (pa_cons (pv 0) (pa_cons (pe_callB call_len_seq rfl T.len PySem.boot_len (pa_cons (pv 1) pa_nil)) pa_nil))))
      (pss_one (ps_ret (pe_op op_catA (pe_op op_catA (pe_slice sl_tupA (pv 1) po_none (po_some (pv 2))) (pe_tup (pa_cons (pe_cal cB hr rfl (pa_cons (pv 0) (pa_cons (pe_ix ix_tup (pv 1) (pv 2) (fun _ _ => rfl)) pa_nil))) pa_nil)))
        (pe_slice sl_tupA (pv 1) (po_some (pe_op op_add (pv 2) pe_int)) po_none))))) pss_nil)
    (pss_imp (t' := tBent K c wd) (pss_cons (ps_set (i := 3) scBent.nd rfl (.inl rfl) (pe_cal cC hr rfl (pa_cons (pv 0) (pa_cons pe_int pa_nil))))
      (pss_cons (ps_if (PW.pt (pw_and (pt_val (pe_callB call_isi rfl T.isi (by decide +kernel) (pa_cons (pv 1) (pa_cons (pe_bltn (v := .ty "tuple") rfl T.tuple (by decide +kernel) rfl) pa_nil)))) (pw_and1 (pt_cmpR op_lt (pv 3) pe_int (nomark _)))))
        (pss_cons (ps_set (i := 4) scBent.nd rfl (.inl rfl) (pe_lst (pa_cons (pe_op op_catA (pv 1) (pe_slice sl_tupA (pv 1) (po_some (pe_un un_neg pe_int)) po_none)) (pa_cons (pe_slice sl_tupA (pv 1) po_none (po_some (pe_un un_neg pe_int)))
          (pa_cons (pe_slice sl_tupA (pv 1) (po_some pe_int) po_none) (pa_cons (pe_rev (pv 1)) (pa_cons (pe_callTy call_list_of rfl T.list (by decide +kernel) (pa_cons (pv 1) pa_nil)) (pa_cons (pe_op op_catA (pv 1) (pe_tup (pa_cons pe_int pa_nil))) pa_nil))))))))
        (pss_cons (ps_expr (pe_bm PySem.F.plainAttrs_list PySem.F.slot_list_append PySem.F.type_list_append mt_append (pv 4) (pa_cons (pe_op op_catA (pv 1) (pe_tup (pa_cons (pv 1) pa_nil))) pa_nil)))
        (pss_one (ps_ret (pe_ix ix_list (pv 4) (pv 3) (fun _ _ => rfl)))))) pss_nil)
      (pss_imp (t' := tBentT K c wd) (pss_cons (ps_if (PW.pt (pw_and (pt_val (pe_cal cW hr rfl (pa_cons (pv 1) pa_nil))) (pw_and1 (pt_cmpR op_lt (pv 3) pe_int (nomark _)))))
        (pss_one (ps_ret (pe_op op_add (pv 1) (pe_ix ix_list (pe_lst (pa_cons pe_int (pa_cons (pe_un un_neg pe_int) (pa_cons pe_int (pa_cons pe_int (pa_cons (pe_un un_neg pe_int) (pa_cons pe_int pa_nil))))))) (pv 3) (fun _ _ => rfl))))) pss_nil)
      (pss_imp (t' := tBentT K c wd) (pss_cons (ps_if (PW.pt (pw_and (pt_val (pe_callB call_isi rfl T.isi (by decide +kernel) (pa_cons (pv 1) (pa_cons (pe_bltn (v := .ty "str") rfl hS (by decide +kernel) rfl) pa_nil)))) (pw_and1 (pt_cmpR op_lt (pv 3) pe_int (nomark _)))))
        (pss_one (ps_ret (pe_ix ix_list (pe_lst (pa_cons (pe_op op_add_str (pv 1) pe_str) (pa_cons (pe_slice sl_str (pv 1) po_none (po_some (pe_un un_neg pe_int))) (pa_cons (pe_upper (pv 1)) (pa_cons (pe_op op_add_str pe_str (pv 1)) (pa_cons (pe_op op_add_str (pv 1) pe_str) (pa_cons pe_str pa_nil))))))) (pv 3) (fun _ _ => rfl)))) pss_nil)
      (pss_one (ps_ret (pe_cal cO hr rfl (pa_cons (pv 0) pa_nil))))) ?texts))
      ?tail)))
      ?base), ?_⟩
  case texts =>
    clear hx hd hn hb q sa
    intro D σ H ⟨st, x, d, way, o2, o4, hσ, w0, sa, hx, hd, hb, q⟩
    subst hσ
    have hxH := dp_same mn_in hx
    have oddly : spOdd K [.ref st] H D.rt E0 := ⟨st, rfl, sa, fun v d' H' mv hdp hm => q v d' H' mv hdp (odd_bn hc hwd hm)⟩
    refine ⟨_, rfl, x, _, _, _, _, rfl, .ty "str", ty_of hxH, kit_str d, _, rfl, ?_⟩
    cases ht : strD d with
    | false => exact ifF rfl (ifF rfl ⟨_, rfl, oddly⟩)
    | true =>
      refine ifT rfl ⟨_, rfl, _, _, rfl, rfl, _, rfl, ite2 (fun cw => ?_) (fun cw => ⟨_, rfl, oddly⟩)⟩
      have w6 : way < 6 := of_decide_eq_true cw
      obtain ⟨z, rfl⟩ : ∃ z, d = .str z := by
        cases d <;> first | exact ⟨_, rfl⟩ | cases ht
      cases hx
      have asc : ∀ a ∈ z.cps.toList, a < 128 := by cases hd with | str h => exact h
      have hz : z.length ≤ 100000 := by
        have e : (PyData.str z).bulk = z.cps.size := by simp only [PyData.bulk]
        rw [e] at hb
        exact hb
      have l1 : ∀ y : Str, y.length ≤ 1 → z.length + y.length ≤ sizeLine := fun y hy => big (by omega)
      refine ⟨_, rfl, _, _, rfl, rfl, l1 _ (by decide), _, rfl, _, rfl, _, rfl, _, rfl, big (by omega), _, rfl, ⟨_, rfl⟩, _, rfl, rfl, by omega, _, rfl, _, _, rfl, rfl, (by rw [Nat.add_comm]; exact l1 _ (by decide)), _, rfl, _, _, rfl, rfl, l1 _ (by decide), small (by show 6 ≤ 1000; decide), fun p hp => ?_⟩
      have s1 := same_new hp (.lst [.str (z ++ "a"), .str (cutS z none (some (-1))), .str (Txt.upper z), .str ("G" ++ z), .str (z ++ " "), .str "send"])
      have up := asc_up asc
      have all : ∀ v ∈ [V.str (z ++ "a"), .str (cutS z none (some (-1))), .str (Txt.upper z), .str ("G" ++ z), .str (z ++ " "), .str "send"], ∃ y : Str, v = .str y ∧ Bn c wd (.str z) (.str y) := fun v hv => by
        simp only [List.mem_cons, List.not_mem_nil, or_false] at hv
        rcases hv with rfl | rfl | rfl | rfl | rfl | rfl
        · exact ⟨_, rfl, bn_str (asc_app asc (by decide)) (by show (z.cps ++ _).size ≤ _; rw [Array.size_append]; exact Nat.add_le_add_left (by decide) _)⟩
        · exact ⟨_, rfl, bn_str (asc_cut asc) (Nat.le_trans (cutS_length z _ _) (Nat.le_add_right _ _))⟩
        · exact ⟨_, rfl, bn_str up.1 (by rw [up.2]; omega)⟩
        · exact ⟨_, rfl, bn_str (asc_app (by decide) asc) (by show (_ ++ z.cps).size ≤ _; rw [Array.size_append, Nat.add_comm]; exact Nat.add_le_add_left (by decide) _)⟩
        · exact ⟨_, rfl, bn_str (asc_app asc (by decide)) (by show (z.cps ++ _).size ≤ _; rw [Array.size_append]; exact Nat.add_le_add_left (by decide) _)⟩
        · exact ⟨_, rfl, bn_str (by decide) (by show 4 ≤ _; omega)⟩
      have hlt : way.toNat < 6 := by omega
      obtain ⟨v, hv⟩ : ∃ v, ([V.str (z ++ "a"), .str (cutS z none (some (-1))), .str (Txt.upper z), .str ("G" ++ z), .str (z ++ " "), .str "send"])[way.toNat]? = some v := ⟨_, List.getElem?_eq_getElem hlt⟩
      obtain ⟨y, rfl, hy⟩ := all v (List.mem_of_getElem? hv)
      exact ⟨_, rfl, p, _, way, _, rfl, rfl, SqL.of upd_same, atI_at w0 hv, q _ _ _ ⟨Kp.of_same s1, sa.same s1⟩ (.str y) hy⟩
  case tail =>
    clear hx hd hn hb q sa
    intro D σ H ⟨st, x, d, way, o2, o4, hσ, w0, sa, hx, hd, hb, q⟩
    subst hσ
    have hxH := dp_same mn_in hx
    refine ⟨_, rfl, x, d, rfl, hxH, _, rfl, ?_⟩
    cases hw : wholeD d with
    | false => exact ifF rfl (ifF rfl ⟨st, x, d, way, o2, o4, rfl, w0, sa, hx, hd, hb, q⟩)
    | true =>
      refine ifT rfl ⟨_, rfl, _, _, rfl, rfl, _, rfl, ite2 (fun cw => ?_) (fun cw => ⟨st, x, d, way, o2, o4, rfl, w0, sa, hx, hd, hb, q⟩)⟩
      have w6 : way < 6 := of_decide_eq_true cw
      obtain ⟨i, rfl⟩ : ∃ i, d = .int i := by
        cases d <;> first | exact ⟨_, rfl⟩ | cases hw
      cases hx
      refine ⟨_, rfl, _, rfl, _, rfl, small (by show 6 ≤ 1000; decide), fun p hp => ?_⟩
      have s1 := same_new hp (.lst [.int 1, .int (-1), .int 2, .int 9999, .int (-9999), .int 5])
      have hlt : way.toNat < 6 := by omega
      obtain ⟨v, hv⟩ : ∃ v, ([V.int 1, .int (-1), .int 2, .int 9999, .int (-9999), .int 5])[way.toNat]? = some v := ⟨_, List.getElem?_eq_getElem hlt⟩
      have all : ∀ v ∈ [V.int 1, .int (-1), .int 2, .int 9999, .int (-9999), .int 5], ∃ k : Int, v = .int k ∧ k.natAbs < 10000 := fun v hv => by
        simp only [List.mem_cons, List.not_mem_nil, or_false] at hv
        rcases hv with rfl | rfl | rfl | rfl | rfl | rfl <;> exact ⟨_, rfl, by decide⟩
      obtain ⟨j, rfl, hj⟩ := all v (List.mem_of_getElem? hv)
      exact ⟨_, rfl, p, _, way, _, rfl, rfl, SqL.of upd_same, atI_at w0 hv, _, _, rfl, rfl, q _ _ _ ⟨Kp.of_same s1, sa.same s1⟩ (.int _) (bn_int hd hj)⟩
  case base =>
    clear hx hd hn hb q sa
    intro D σ H ⟨st, x, d, o2, o3, o4, hσ, sa, hx, hd, hb, q⟩
    subst hσ
    refine ⟨_, rfl, st, 9, rfl, sa, by decide, by decide, fun way H1 w0 w1 mv => ?_⟩
    have m1 := mn_kp mv.kp
    have hx1 := dp_same m1 hx
    have go : ∀ v d' H', Mv st H1 H' → Dp K (mn st H') v d' → Bn c wd d d' → D.rt v H' := fun v d' H' mv' => q v d' H' (mv.trans mv')
    refine ⟨_, rfl, x, _, _, _, _, rfl, .ty "tuple", ty_of (dp_same mn_in hx1), kit_tuple d, _, rfl, ?_⟩
    cases ht : tupleD d with
    | false => exact ifF rfl (ifF rfl ⟨st, x, d, way, o2, o4, rfl, w0, mv.sa, hx1, hd, hb, go⟩)
    | true =>
      refine ifT rfl ⟨_, rfl, _, _, rfl, rfl, _, rfl, ite2 (fun cw => ?_) (fun cw => ⟨st, x, d, way, o2, o4, rfl, w0, mv.sa, hx1, hd, hb, go⟩)⟩
      have w7 : way < 7 := of_decide_eq_true cw
      obtain ⟨ds, rfl⟩ : ∃ ds, d = .tuple ds := by
        cases d <;> first | exact ⟨_, rfl⟩ | cases ht
      have hx1' := hx1
      cases hx1 with
      | @tup a xs _ at1 each1 =>
        have lx := dpAll_len each1
        rw [bulk_tup] at hb
        have lb := len_bulk ds
        have l5 : xs.length ≤ 100000 := by omega
        have cl := fun lo hi => Nat.le_trans (cutV_length xs lo hi) l5
        have a1 := sqT_same mn_in at1
        refine ⟨_, rfl, _, rfl, _, rfl, _, rfl, noP (slA_run a1 fun r2 H2 s2 h2 => catB_run (sqT_same s2 a1) h2 (by have := cl (some (-1)) none; omega) fun r3 H3 s3 h3 => ?_)⟩
        have t3 := s2.trans s3
        have a3 := sqT_same t3 a1
        refine ⟨_, rfl, _, rfl, _, rfl, slA_run a3 fun r4 H4 s4 h4 => ⟨_, rfl, _, rfl, noP (slA_run (sqT_same s4 a3) fun r5 H5 s5 h5 => ?_)⟩⟩
        have t5 := t3.trans (s4.trans s5)
        have a5 := sqT_same t5 a1
        refine ⟨_, rfl, a, xs, rfl, a5, fun p6 f6 => ?_⟩
        have n6 := same_new f6 (.tup xs.reverse)
        have t6 := t5.trans n6
        refine ⟨_, rfl, a, xs, rfl, .inr (sqT_same t6 a1), fun p7 f7 => ?_⟩
        have n7 := same_new f7 (.lst xs)
        have t7 := t6.trans n7
        refine ⟨_, rfl, small (by show 1 ≤ 1000; decide), fun p8 f8 => ?_⟩
        have n8 := same_new f8 (.tup [.int 0])
        have t8 := t7.trans n8
        refine catB_run (sqT_same t8 a1) (SqT.of upd_same) (by show _ + 1 ≤ _; omega) fun r9 H9 s9 h9 => ?_
        have t9 := t8.trans s9
        refine ⟨small (by show 6 ≤ 1000; decide), fun p10 f10 => ?_⟩
        have n10 := same_new f10 (.lst [.ref r3, .ref r4, .ref r5, .ref p6, .ref p7, .ref r9])
        have t10 := t9.trans n10
        -- the seventh
        refine ⟨_, rfl, .inl ⟨rfl, _, SqL.of upd_same⟩, ?_⟩
        refine ⟨_, rfl, _, rfl, small (by show 1 ≤ 1000; decide), fun p11 f11 => ?_⟩
        have n11 := same_new f11 (.tup [.ref a])
        have t11 := t10.trans n11
        refine catB_run (sqT_same t11 a1) (SqT.of upd_same) (by show _ + 1 ≤ _; omega) fun r12 H12 s12 h12 => ?_
        have t12 := t11.trans s12
        have h10 : H12 p10 = some (.lst [.ref r3, .ref r4, .ref r5, .ref p6, .ref p7, .ref r9]) := (n11.trans s12) _ _ upd_same
        refine ⟨p10, _, _, rfl, rfl, h10, Nat.lt_of_lt_of_le (show 6 < 1000 by decide) (small (Nat.le_refl _)), ?_⟩
        have free10 : H1 p10 = none := t9.free f10
        have np10 : p10 ≠ st := (mv.sa.same t9).ne f10
        have kpf : Kp st H1 (upd H12 p10 (.lst ([.ref r3, .ref r4, .ref r5, .ref p6, .ref p7, .ref r9] ++ [.ref r12]))) := (Kp.of_same t12).upd free10
        have saf : StAt (upd H12 p10 (.lst ([.ref r3, .ref r4, .ref r5, .ref p6, .ref p7, .ref r9] ++ [.ref r12]))) st := (mv.sa.same t12).upd np10
        have kt12 := KT.upd (l' := [.ref r3, .ref r4, .ref r5, .ref p6, .ref p7, .ref r9] ++ [.ref r12]) h10
        generalize hHf : upd H12 p10 (.lst ([.ref r3, .ref r4, .ref r5, .ref p6, .ref p7, .ref r9] ++ [.ref r12])) = Hf at kpf saf kt12
        have fp10 : Hf p10 = some (.lst ([.ref r3, .ref r4, .ref r5, .ref p6, .ref p7, .ref r9] ++ [.ref r12])) := by rw [← hHf]; exact upd_same
        have u9 := n10.trans (n11.trans s12)
        have u7 := n8.trans (s9.trans u9)
        have u5 := n6.trans (n7.trans u7)
        have up : ∀ {Hx : Hp} {r : Addr} {ys : List V}, Same Hx H12 → SqT K Hx r ys → SqT K (mn st Hf) r ys := fun sx h => sqT_mn saf (sqT_kt ((KT.of_same sx).trans kt12) h)
        have eachf := dps_same (mn_kp kpf) each1
        have atf := sqT_same (mn_kp kpf) at1
        have np7 : p7 ≠ p10 := ne_of_none ((n8.trans s9) _ _ upd_same) f10
        have h7 : Hf p7 = some (.lst xs) := by
          rw [← hHf, upd_ne np7]
          exact u7 _ _ upd_same
        have ns7 : p7 ≠ st := (mv.sa.same t6).ne f7
        have all7 : DpAll K (mn st Hf) ([.ref r3, .ref r4, .ref r5, .ref p6, .ref p7, .ref r9] ++ [.ref r12]) [.tuple (ds ++ cutD ds (some (-1)) none), .tuple (cutD ds none (some (-1))), .tuple (cutD ds (some 1) none), .tuple ds.reverse, .list ds, .tuple (ds ++ [.int 0]), .tuple (ds ++ [.tuple ds])] :=
          .cons (.tup (up (s4.trans (s5.trans u5)) h3) (dpAll_append (dpAll_cut eachf _ _) eachf))
          (.cons (.tup (up (s5.trans u5) h4) (dpAll_cut eachf _ _))
          (.cons (.tup (up u5 h5) (dpAll_cut eachf _ _))
          (.cons (.tup (up (n7.trans u7) (SqT.of upd_same)) (dpAll_rev eachf))
          (.cons (.lst (SqL.of (mn_at ns7 h7)) eachf)
          (.cons (.tup (up u9 h9) (dpAll_snoc (.int 0) eachf))
          (.cons (.tup (up (Same.refl _) h12) (dpAll_snoc (.tup atf eachf) eachf)) .nil))))))
        obtain ⟨v, d', hat, hdp, hm⟩ := pick_dp all7 w0 (by show way < 7; exact w7)
        refine ⟨_, rfl, _, rfl, p10, _, way, v, rfl, rfl, SqL.of fp10, hat, go v d' Hf ⟨kpf, saf⟩ hdp ?_⟩
        have lwd : ds.length ≤ wd := by cases hd with | tup l _ => exact l
        have c0 : 0 < c := Nat.lt_of_lt_of_le (by decide) hc
        simp only [List.mem_cons, List.not_mem_nil, or_false] at hm
        rcases hm with rfl | rfl | rfl | rfl | rfl | rfl | rfl
        · exact bn_tup hd (by have := last_len ds; rw [List.length_append]; omega) (fun z hz => .inl ((List.mem_append.mp hz).elim id cutD_mem)) c0 (by rw [bulk_app]; have := cutD_bulk ds (some (-1)) none; omega)
        · exact bn_tup hd (by have := cutD_len ds none (some (-1)); omega) (fun z hz => .inl (cutD_mem hz)) c0 (by have := cutD_bulk ds none (some (-1)); omega)
        · exact bn_tup hd (by have := cutD_len ds (some 1) none; omega) (fun z hz => .inl (cutD_mem hz)) c0 (by have := cutD_bulk ds (some 1) none; omega)
        · exact bn_tup hd (by rw [List.length_reverse]; omega) (fun z hz => .inl (List.mem_reverse.mp hz)) c0 (by rw [bulk_rev]; omega)
        · exact bn_lst hd
        · exact bn_tup hd (by rw [List.length_append]; show _ + 1 ≤ _; omega) (fun z hz => (List.mem_append.mp hz).elim .inl fun y => .inr (.inl (List.mem_singleton.mp y))) c0 (by rw [bulk_app]; simp only [PyData.bulkAll, PyData.bulk]; omega)
        · exact bn_tup hd (by rw [List.length_append]; show _ + 1 ≤ _; omega) (fun z hz => (List.mem_append.mp hz).elim .inl fun y => .inr (.inr (List.mem_singleton.mp y))) c0 (by rw [bulk_app]; simp only [PyData.bulkAll, PyData.bulk]; omega)
  refine ⟨_, rfl, x, _, _, _, _, rfl, .ty "tuple", ty_of (dp_same mn_in hx), kit_tuple d, _, rfl, ?_⟩
  cases ht : tupleD d with
  | false => exact ifF rfl (ifF rfl ⟨st, x, d, _, _, _, rfl, sa, hx, hd, hb, q⟩)
  | true =>
    obtain ⟨ds, rfl⟩ : ∃ ds, d = .tuple ds := by
      cases d <;> first | exact ⟨_, rfl⟩ | cases ht
    cases hx with
    | @tup a xs _ at0 each0 =>
    have lx := dpAll_len each0
    refine ifT rfl ⟨_, rfl, small (by show 0 ≤ 1000; decide), fun p1 h1 => ?_⟩
    have s1 := same_new h1 (.tup [])
    have sa1 := sa.same s1
    have m1 := mn_kp (Kp.of_same (st := st) s1)
    have mv1 : Mv st H _ := ⟨Kp.of_same s1, sa1⟩
    have at1 := sqT_same m1 at0
    have each1 := dps_same m1 each0
    refine ⟨a, p1, xs, rfl, rfl, sqT_same mn_in at1, SqT.of upd_same, _, rfl, ?_⟩
    have rest : ∀ {H2 : Hp} {o2 o3 o4 : Option V}, Mv st H H2 → tBent K c wd { nx := fun _ H' => Q .non H', rt := Q } [some (.ref st), some (.ref a), o2, o3, o4] H2 := fun {H2 o2 o3 o4} mv2 =>
      ⟨st, .ref a, .tuple ds, o2, o3, o4, rfl, mv2.sa, .tup (sqT_same (mn_kp mv2.kp) at0) (dps_same (mn_kp mv2.kp) each0), hd, hb, fun v d' H' mv3 => q v d' H' (mv2.trans mv3)⟩
    cases xs with
    | nil => exact ifF rfl (ifF rfl (rest mv1))
    | cons y0 ys0 =>
      generalize hxs : y0 :: ys0 = xs at at0 each0 at1 each1 lx rest
      have lp : 0 < xs.length := by rw [← hxs]; simp
      refine ifT (by rw [← hxs]; rfl) ⟨_, rfl, st, 5, rfl, sa1, by decide, by decide, fun r2 H2 r20 r21 mv2 => ⟨_, _, rfl, rfl, _, rfl, ite2 (fun c2 => ?_) (fun c2 => rest (mv1.trans mv2))⟩⟩
      have mvA := mv1.trans mv2
      have m2 := mn_kp mvA.kp
      have at2 := sqT_same m2 at0
      have each2 := dps_same m2 each0
      rw [bulk_tup] at hb
      have lb := len_bulk ds
      have l5 : xs.length ≤ 100000 := by omega
      have cl := fun lo hi => Nat.le_trans (cutV_length xs lo hi) l5
      refine ⟨_, rfl, _, rfl, a, xs, rfl, .inr (sqT_same mn_in at2), st, _, rfl, mv2.sa, by omega, by omega, fun r H3 r0 r1 mv3 => ?_⟩
      have m3 := mn_kp mv3.kp
      have at3 := sqT_same m3 at2
      refine ⟨_, rfl, _, rfl, _, rfl, slA_run (sqT_same mn_in at3) fun r4 H4 s4 h4 => ?_⟩
      have k4 := mn_kp (Kp.of_same (st := st) s4)
      have at4 := sqT_same k4 at3
      have each4 := dps_same (m3.trans k4) each2
      have sa4 := mv3.sa.same s4
      have hi : r.toNat < ds.length := by omega
      have hget := List.getElem?_eq_getElem hi
      obtain ⟨y, hy, hdy⟩ := dpAll_get each4 hget
      have hmem := List.getElem_mem hi
      have hde : Bd c wd ds[r.toNat] := by cases hd with | tup _ e => exact e _ hmem
      obtain ⟨m, rfl⟩ : ∃ m, n = m + 1 := ⟨n - 1, by rw [depth_tup] at hn; omega⟩
      have hdep : ds[r.toNat].depth ≤ m := by
        have := depth_mem hmem
        rw [depth_tup] at hn
        omega
      have hblk : ds[r.toNat].bulk ≤ 100000 := by
        have := bulk_mem hmem
        omega
      refine ⟨_, rfl, _, rfl, _, rfl, a, xs, r, y, rfl, rfl, sqT_same mn_in at4, atI_at r0 hy, m, rfl, st, y, ds[r.toNat], rfl, sa4, hdy, hde, hdep, hblk, fun v d' H5 mv5 hdp hbn => ⟨small (by show 1 ≤ 1000; decide), fun p6 h6 => ?_⟩⟩
      have k5 := mn_kp mv5.kp
      have h4m := sqT_same mn_in (sqT_same k5 (sqT_mn sa4 h4))
      have n6 := same_new h6 (.tup [v])
      refine catB_run (sqT_same n6 h4m) (SqT.of upd_same) (by have := cl none (some r); show _ + 1 ≤ 1000000; omega) fun r7 H7 s7 h7 => ?_
      have at7 := sqT_same (n6.trans s7) (sqT_same mn_in (sqT_same k5 at4))
      refine ⟨_, rfl, _, rfl, _, _, rfl, rfl, _, rfl, noP (slA_run at7 fun r8 H8 s8 h8 => ?_)⟩
      refine catB_run (sqT_same s8 h7) h8 (by have := cl none (some r); have := cl (some (r + 1)) none; rw [List.length_append]; show _ + 1 + _ ≤ 1000000; omega) fun r9 H9 s9 h9 => ?_
      rw [cut_to r0 (by omega), cut_from0 (by omega), show (r + 1).toNat = r.toNat + 1 by omega, set_split xs r.toNat v (by omega)] at h9
      have t9 := n6.trans (s7.trans (s8.trans s9))
      have k9 := mn_kp (Kp.of_same (st := st) t9)
      have sa9 := mv5.sa.same t9
      exact q _ (.tuple (ds.set r.toNat d')) H9 ⟨(mvA.kp.trans mv3.kp).trans ((Kp.of_same s4).trans (mv5.kp.trans (Kp.of_same t9))), sa9⟩ (.tup (sqT_mn sa9 h9) (dpAll_set (dp_same k9 hdp) _ (dps_same (k5.trans k9) each4))) (bn_set hd hget hbn)
end
section
variable {P : Program} {w : World} {K : PySem.W.Frag} {mg : Str → Option Value} {base : Heap} {f : Addr} {fd : FuncData}
theorem no_bent {k c wd : Nat} : FnOk P w K mg base CX0 k f fd ["_law_state_here", "_law_thing"] (spBentS K c wd 0) := ⟨(fun vs H Q E h => by obtain ⟨m, e, _⟩ := h; cases e), fun A outer s H args us vs Q E hr he hb hv h => by obtain ⟨m, e, _⟩ := h; cases e⟩
theorem all_bent {k c wd : Nat} (hc : 10 ^ 29 + 1 ≤ c) (hwd : 2 ≤ wd) (F : Fun K "_law_bent" "_law_bent" sBent f fd) (hm : mg "_law_bent" = some (.ref f)) (hb : Binds K fd ["_law_state_here", "_law_thing"] []) (T : Free mg) (hS : mg "str" = none) (cC : Cal P w K mg base "_law_choice" k ["_law_state_here", "_law_many"] spChoice) (cW : Cal P w K mg base "_law_whole" k ["_law_thing"] (spWhole K)) (cO : Cal P w K mg base "_law_odd" k ["_law_state_here"] (spOdd K)) :
    ∀ n, FnOk P w K mg base CX0 (k + n + 1) f fd ["_law_state_here", "_law_thing"] (spBent K c wd n)
  | 0 => ok_bent hc hwd F T hS cC cW cO ⟨f, fd, no_bent, hm, F.kp, hb⟩
  | n + 1 => by
    have ih := all_bent hc hwd F hm hb T hS cC cW cO n
    exact ok_bent (k := k + (n + 1)) hc hwd F T hS (cC.mono (by omega)) (cW.mono (by omega)) (cO.mono (by omega)) ⟨f, fd, ih.imp (fun vs H Q E z => by obtain ⟨m, e, z⟩ := z; cases e; exact z), hm, F.kp, hb⟩
end


section
variable {X : Cx}
def rEqLE (K : PySem.W.Frag) : R2 := fun x y H Q => ∃ a b xs, x = .ref a ∧ y = .ref b ∧ SqL K H a xs ∧ SqL K H b [] ∧ Q (.bl xs.isEmpty) H
theorem op_eqLE (hu : X.A.units + 64 < cLine) : OpR X (compareOp .Eq) (rEqLE X.K) := by
  intro pins s σ H x y v u Q I rx ry h
  obtain ⟨a, b, xs, rfl, rfl, ha, hb, q⟩ := h
  cases rx
  cases ry
  obtain ⟨its, r1, ⟨o1, n1, g1, c1, _, d1⟩, _⟩ := I.list ha
  obtain ⟨its2, r2, ⟨o2, n2, g2, c2, _, d2⟩, _⟩ := I.list hb
  cases r2
  cases xs with
  | nil =>
    cases r1
    exact SeqAt.RcAt.lists (e := fun _ => true) ⟨o1, g1, c1, n1, d1⟩ ⟨o2, g2, c2, n2, d2⟩ rfl (by omega) (fun j _ h2 => absurd h2 (by simp)) X.prog X.w _ _ ⟨.bl true, H, I, rfl, q⟩
  | cons z zs =>
    cases r1 with
    | cons _ _ => exact SeqAt.RcAt.lists_lengths ⟨o1, g1, c1, n1, d1⟩ ⟨o2, g2, c2, n2, d2⟩ (by simp) (by omega) X.prog X.w _ _ ⟨.bl false, H, I, rfl, q⟩
end
/-! _law_are_points, _law_is_chart -/
def rEqO (K : PySem.W.Frag) : R2 := fun x y H Q => ∃ d e, Dp K H x d ∧ Dp K H y e ∧ SeqAt.shaped d = true ∧ SeqAt.shaped e = true ∧ Q (.bl (PyData.eqv d e)) H
theorem op_eqO {X : Cx} (hu : X.A.units + 64 < cLine) : OpR X (compareOp .Eq) (rEqO X.K) := by
  intro pins s σ H x y v u Q I rx ry h
  obtain ⟨d, e, hd, he, sd, se, q⟩ := h
  obtain ⟨as, r1, _⟩ := Dp.rd I d x v hd rx
  obtain ⟨bs, r2, _⟩ := Dp.rd I e y u he ry
  exact SeqAt.compareEq_shaped r1 r2 sd se hu ⟨.bl _, H, I, rfl, q⟩
section
variable {P : Program} {w : World} {K : PySem.W.Frag} {mg : Str → Option Value} {base : Heap} {f : Addr} {fd : FuncData}
def spLPoints (K : PySem.W.Frag) : Sp := fun vs H Q _ => ∃ (many : Int) (x : V) (d : PyData) (c wd : Nat), vs = [.int many, x] ∧ Dp K H x d ∧ Bd c wd d ∧ wd < 60 ∧ ∀ H', Same H H' → Q (.bl (pointsD many d)) H'
abbrev lpN : List Str := ["_law_many", "_law_thing", "_law_one"]
theorem scLPoints : FnScope lpN ["_law_many", "_law_thing"] (defScope sLPoints) := ⟨rfl, rfl, rfl, by decide +kernel, rfl, by decide +kernel, by decide +kernel⟩
theorem pointsD_no {many : Int} {d : PyData} (h : tupleD d = false) : pointsD many d = false := by cases d <;> first | rfl | cases h
theorem ok_lpoints {k : Nat} (F : Fun K "_law_are_points" "_law_are_points" sLPoints f fd) (T : Free mg) (hS : mg "set" = none) (hO : mg "sorted" = none) (cW : Cal P w K mg base "_law_whole" k ["_law_thing"] (spWhole K)) : FnOk P w K mg base CX0 (k + 1) f fd ["_law_many", "_law_thing"] (spLPoints K) := by
  refine F.ok scLPoints (fun vs H Q E h => ?_) (fun cdv A outer s H vs Q E hr h => ?_)
  · obtain ⟨many, x, d, c, wd, rfl, _⟩ := h
    rfl
  obtain ⟨many, x, d, c, wd, rfl, hx, hd, hw, q⟩ := h
  refine ⟨_, pss_cons (ps_if (PW.pt (pw_or (pt_not (pt_val (pe_callB call_isi rfl T.isi (by decide +kernel) (pa_cons (pv 1) (pa_cons (pe_bltn (v := .ty "tuple") rfl T.tuple (by decide +kernel) rfl) pa_nil)))))
      (pw_or1 (pt_cmpR (op_neLE hr.units) (pe_lc (own := [("_law_one", 2)]) (g := gName 2) (tt := tNot (tB (tCall (spWhole K) [] E0 (tCons (tVar 2) tNil)))) (te := tVar 2) rfl scLPoints.nd (pi_tup (pv 1))
        (blkOk_by (own := [("_law_one", 2)]) (N := lpN) (sc := defScope sLPoints) (by decide +kernel))
        (fun _ _ _ _ _ => pg_name (i := 2) scLPoints.nd rfl (Or.inl rfl)) (fun _ _ _ _ _ => pts_one (pt_not (pt_val (pe_cal cW hr rfl (pa_cons (pv 2) pa_nil))))) (fun _ _ _ _ _ => pv 2)) (pe_lst pa_nil) (nomark _)))))
      (pss_one (ps_ret pe_bl)) pss_nil)
    (pss_one (ps_ret (pe_and (pe_cmpR (op_eqO hr.units) (pe_callTy call_list_of rfl T.list (by decide +kernel) (pa_cons (pv 1) pa_nil)) (pe_callB (cr_sortedSet rfl) rfl hO (by decide +kernel) (pa_cons (pe_callTy (cr_setTI rfl) rfl hS (by decide +kernel) (pa_cons (pv 1) pa_nil)) pa_nil)) (nomark _))
      (pe_one (pe_cmpR (op_eqLE hr.units) (pe_lc (own := [("_law_one", 2)]) (g := gName 2) (tt := tNot (tTest (tChain (rI0 fun i j => .bl (decide (i ≤ j))) (rI0 fun i j => .bl (decide (i < j))) (tC (.int 0)) (tVar 2) (tVar 0)))) (te := tVar 2) rfl scLPoints.nd (pi_tup (pv 1))
        (blkOk_by (own := [("_law_one", 2)]) (N := lpN) (sc := defScope sLPoints) (by decide +kernel))
        (fun _ _ _ _ _ => pg_name (i := 2) scLPoints.nd rfl (Or.inl rfl)) (fun _ _ _ _ _ => pts_one (pt_not (pt_chain op_le op_lt pe_int (pv 2) (pv 0)))) (fun _ _ _ _ _ => pv 2)) (pe_lst pa_nil) (nomark _)))))), ?_⟩
  have q0 : pointsD many d = false → ∀ H', Same H H' → Q (.bl false) H' := fun z H' e => by have := q H' e; rw [z] at this; exact this
  refine ⟨_, rfl, x, _, _, _, _, rfl, .ty "tuple", ty_of hx, kit_tuple d, _, rfl, ?_⟩
  cases ht : tupleD d with
  | false => exact ifT rfl (ifT rfl (q0 (pointsD_no ht) H (Same.refl _)))
  | true =>
    obtain ⟨es, rfl⟩ : ∃ es, d = .tuple es := by cases d <;> first | exact ⟨_, rfl⟩ | cases ht
    have les : es.length ≤ wd := by cases hd with | tup l _ => exact l
    cases hx with
    | @tup a xs _ at_ each =>
    have lx := dpAll_len each
    refine ifF rfl (ne_nil (xs := xs) (σ := [some (.int many), some (.ref a), none]) (fun i => !wholeD ((es[i]?).getD .none)) (fun Q h => ⟨_, rfl, h⟩) at_ (by omega) (by simp) (fun i v H' R' hv sm h => ?_) (fun H2 s2 => ?_))
    · obtain ⟨d, hd, hdv⟩ := dpAll_get' each hv
      refine ⟨_, rfl, v, d, rfl, dp_same sm hdv, _, rfl, ?_⟩
      rw [hd] at h
      exact h
    · have e1 : ((List.range xs.length).all fun i => !!wholeD ((es[i]?).getD .none)) = es.all wholeD := by
        rw [lx]
        exact range_all es _ _ fun i x hx => by rw [hx, Bool.not_not]; rfl
      rw [e1]
      cases hall : es.all wholeD with
      | false =>
        refine ifT rfl (q0 (pts_not es 0 ?_) _ s2)
        obtain ⟨e, he, hne⟩ := List.all_eq_false.mp hall
        exact ⟨e, he, by simpa using hne⟩
      | true =>
        obtain ⟨ns, rfl⟩ := whole_ints es fun z hz => List.all_eq_true.mp hall z hz
        have ex : xs = ns.map V.int := ints_dp ns xs each
        subst ex
        rw [List.length_map] at les
        have at2 := sqT_same s2 at_
        refine ifF rfl ⟨_, rfl, a, _, rfl, .inr at2, fun p4 h4 => ?_⟩
        have n4 := same_new h4 (.lst (ns.map V.int))
        refine ⟨_, rfl, a, ns, rfl, sqT_same n4 at2, by omega, fun p5 c5 hc5 h5 => ?_⟩
        have n5 := same_new h5 (SetO w p5 (fun j => decide (j ∈ ns)) c5)
        refine ⟨p5, _, c5, rfl, upd_same, by omega, fun ms p6 srt mem _ h6 => ?_⟩
        have n6 := same_new h6 (.lst (ms.map V.int))
        have s6 := s2.trans (n4.trans (n5.trans n6))
        have at6 := sqT_same s6 at_
        refine ⟨.list (ns.map .int), .list (ms.map .int), .lst (SqL.of ((n5.trans n6) _ _ upd_same)) (dp_ints ns), .lst (SqL.of upd_same) (dp_ints ms), shaped_ints ns, shaped_ints ms, _, rfl, ?_⟩
        rw [eqv_ints, sorted_same srt mem]
        generalize upd _ p6 (.lst (ms.map V.int)) = G6 at s6 at6 n6
        by_cases hp : ns.Pairwise (· < ·)
        · refine ifT (decide_eq_true hp) ?_
          refine lc_fil (row := ns) (σ := [some (.int many), some (.ref a), none]) (fun n => !(decide (0 ≤ n) && decide (n < many))) (fun Q h => ⟨_, rfl, h⟩) at6 (by omega) (by simp) (fun n H' R' hn sm h => ?_) (fun D7 G7 s7 h7 _ => ⟨small (by show 0 ≤ 1000; decide), fun p8 f8 => ?_⟩)
          · refine ⟨_, rfl, _, _, rfl, rfl, _, rfl, ?_⟩
            by_cases c1 : 0 ≤ n
            · refine ifT (decide_eq_true c1) ⟨_, rfl, _, _, rfl, rfl, _, rfl, ?_⟩
              rw [decide_eq_true c1, Bool.true_and] at h
              exact h
            · refine ifF (decide_eq_false c1) ⟨_, rfl, ?_⟩
              rw [decide_eq_false c1, Bool.false_and] at h
              exact h
          · have n8 := same_new f8 (.lst [])
            refine ⟨D7, p8, _, rfl, rfl, SqL.of (n8 _ _ h7), SqL.of upd_same, ?_⟩
            have e : ((ns.filter fun n => !(decide (0 ≤ n) && decide (n < many))).map V.int).isEmpty = pointsD many (.tuple (ns.map .int)) := by
              rw [Bool.eq_iff_iff, show pointsD many (.tuple (ns.map .int)) = ptsFrom many 0 (ns.map .int) from rfl, pts_law ns 0, List.isEmpty_iff, List.map_eq_nil_iff, List.filter_eq_nil_iff]
              constructor
              · refine fun z => ⟨hp, fun n hn => ?_⟩
                have := z n hn
                simpa using this
              · rintro ⟨_, z⟩ n hn
                have := z n hn
                simpa using this
            rw [e]
            exact q _ (s6.trans (s7.trans n8))
        · refine ifF (decide_eq_false hp) (q0 ?_ _ s6)
          cases z : pointsD many (.tuple (ns.map .int)) with
          | false => rfl
          | true => exact absurd ((pts_law ns 0).mp z).1 hp
def spLChart (K : PySem.W.Frag) : Sp := fun vs H Q _ => ∃ (x : V) (d : PyData) (c wd : Nat), vs = [x] ∧ Dp K H x d ∧ Bd c wd d ∧ wd < 60 ∧ ∀ H', Same H H' → Q (.bl (chartD d)) H'
theorem scLChart : FnScope ["_law_thing", "_law_nexts"] ["_law_thing"] (defScope sLChart) := ⟨rfl, rfl, rfl, by decide +kernel, rfl, by decide +kernel, by decide +kernel⟩
theorem ok_lchart {k : Nat} (F : Fun K "_law_is_chart" "_law_is_chart" sLChart f fd) (T : Free mg) (cP : Cal P w K mg base "_law_are_points" k ["_law_many", "_law_thing"] (spLPoints K)) : FnOk P w K mg base CX0 (k + 1) f fd ["_law_thing"] (spLChart K) := by
  refine F.ok scLChart (fun vs H Q E h => ?_) (fun cdv A outer s H vs Q E hr h => ?_)
  · obtain ⟨x, d, c, wd, rfl, _⟩ := h
    rfl
  obtain ⟨x, d, c, wd, rfl, hx, hd, hw, q⟩ := h
  refine ⟨_, pss_cons (ps_if (pt_not (pt_val (pe_callB call_isi rfl T.isi (by decide +kernel) (pa_cons (pv 0) (pa_cons (pe_bltn (v := .ty "tuple") rfl T.tuple (by decide +kernel) rfl) pa_nil))))) (pss_one (ps_ret pe_bl)) pss_nil)
    (pss_one (ps_ret (pe_cmpR (op_eqLE hr.units) (pe_lc (own := [("_law_nexts", 1)]) (g := gName 1) (tt := tNot (tB (tCall (spLPoints K) [] E0 (tCons (tCB (rLen K) (tCons (tVar 0) tNil)) (tCons (tVar 1) tNil))))) (te := tVar 1) rfl scLChart.nd (pi_tup (pv 0))
      (blkOk_by (own := [("_law_nexts", 1)]) (N := ["_law_thing", "_law_nexts"]) (sc := defScope sLChart) (by decide +kernel))
      (fun _ _ _ _ _ => pg_name (i := 1) scLChart.nd rfl (Or.inl rfl)) (fun _ _ _ _ _ => pts_one (pt_not (pt_val (pe_cal cP hr rfl (pa_cons (pe_callB call_len_seq rfl T.len PySem.boot_len (pa_cons (pv 0) pa_nil)) (pa_cons (pv 1) pa_nil)))))) (fun _ _ _ _ _ => pv 1)) (pe_lst pa_nil) (nomark _)))), ?_⟩
  refine ⟨_, rfl, x, _, _, _, _, rfl, .ty "tuple", ty_of hx, kit_tuple d, _, rfl, ?_⟩
  cases ht : tupleD d with
  | false =>
    have e : chartD d = false := by cases d <;> first | rfl | cases ht
    rw [e] at q
    exact ifT rfl (q H (Same.refl _))
  | true =>
    obtain ⟨ds, rfl⟩ : ∃ ds, d = .tuple ds := by cases d <;> first | exact ⟨_, rfl⟩ | cases ht
    have lds : ds.length ≤ wd := by cases hd with | tup l _ => exact l
    have eachB : ∀ z ∈ ds, Bd c wd z := by cases hd with | tup _ e => exact e
    cases hx with
    | @tup a xs _ at_ each =>
    have lx := dpAll_len each
    refine ifF rfl ⟨_, rfl, a, rfl, ⟨xs, at_⟩, fun D hD => ?_⟩
    refine lc_tup (xs := xs) (fun j G => Same H G ∧ ∃ zs : List V, G D = some (.lst zs) ∧ zs.length ≤ j ∧ zs.isEmpty = (ds.take j).all (pointsD ds.length)) ⟨same_new hD _, [], upd_same, Nat.le_refl _, rfl⟩ (fun j G _ h => sqT_same h.1 at_) (fun j v G hv h => ?_) (fun G h => ?_)
    · obtain ⟨sm, zs, hz, lz, ez⟩ := h
      obtain ⟨e, hei, hev⟩ := dpAll_get' each hv
      have hj : j < xs.length := (List.getElem?_eq_some_iff.mp hv).1
      have at' := sqT_same sm at_
      refine ⟨rfl, _, rfl, a, xs, rfl, .inr at', _, rfl, (ds.length : Int), v, e, c, wd, by rw [lx]; rfl, dp_same sm hev, eachB e (List.mem_of_getElem? hei), hw, fun G2 s2 => ⟨_, rfl, ?_⟩⟩
      cases hp : pointsD ds.length e with
      | true => exact ifF rfl ⟨sm.trans s2, zs, s2 _ _ hz, by omega, by rw [all_take hei, hp, Bool.and_true]; exact ez⟩
      | false =>
        refine ifT rfl ⟨_, rfl, zs, s2 _ _ hz, Nat.lt_of_lt_of_le (show zs.length < 1000 by omega) (small (Nat.le_refl _)), same_upd (sm.trans s2) hD, zs ++ [v], upd_same, by rw [List.length_append]; show _ + 1 ≤ _; omega, ?_⟩
        rw [all_take hei, hp, Bool.and_false]
        cases zs <;> rfl
    · obtain ⟨sm, zs, hz, lz, ez⟩ := h
      refine ⟨small (by show 0 ≤ 1000; decide), fun p3 h3 => ?_⟩
      have n3 := same_new h3 (.lst [])
      refine ⟨D, p3, zs, rfl, rfl, SqL.of (n3 _ _ hz), SqL.of upd_same, ?_⟩
      rw [lx, List.take_length] at ez
      rw [ez]
      exact q _ (sm.trans n3)
end
/-- the script, which nobody writes -/
def ScrOk (K : PySem.W.Frag) (H : Hp) (a : Addr) (xs : List V) : Prop := (∃ o, H a = some (.frz o (.lst xs))) ∨
  ∃ (o : Obj) (its : Array Value) (n : Nat), K.lookup a = some o ∧ o.cls = .type "list" ∧ o.dict = none ∧ o.data = .seq its n ∧ its.size ≤ sizeLine ∧ Vals xs its.toList
theorem ScrOk.kt {K : PySem.W.Frag} {H H' : Hp} {a : Addr} {xs : List V} (h : ScrOk K H a xs) (k : KT H H') : ScrOk K H' a xs := by
  rcases h with ⟨o, z⟩ | z
  · exact .inl ⟨o, k _ _ z (fun l q => by cases q)⟩
  · exact .inr z
theorem ScrOk.sq {K : PySem.W.Frag} {H : Hp} {a : Addr} {xs : List V} (h : ScrOk K H a xs) : SqL K H a xs := by
  rcases h with h | h
  · exact .inl (.inr h)
  · exact .inr h
/-! repr, where sys.modules stands in the base: no list and no dict of the law's is it -/
section
variable {X : Cx} {pins : List (Addr × Obj)} {σ : L2.St} {H : Hp} {s : Shared}
def SysB (base : Heap) : Prop := ∃ mm, base.Ns sysModules mm
theorem list_ne_sys (I : Inv X pins σ H s) (hs : SysB X.base) {r : Addr} {us : List V} (h : SqL X.K H r us) : r ≠ sysModules := by
  obtain ⟨mm, o0, es, ep, e0, d0, _⟩ := hs
  have hn := (I.bs _ _ e0).2
  intro e
  rw [e] at h
  rcases h with (z | ⟨o, z⟩) | ⟨o, its, n, hk, hc, hdn, hd, _⟩
  · rw [hn] at z
    cases z
  · rw [hn] at z
    cases z
  · have z := I.mod.kin _ _ hk
    rw [e0] at z
    cases z
    rw [d0] at hd
    cases hd
mutual
theorem Dp.rdS (I : Inv X pins σ H s) (hs : SysB X.base) : ∀ (d : PyData) (v : V) (u : Value), Dp X.K H v d → RelV v u → ∃ as, Reads s.heap u d as ∧ sysModules ∉ as
  | .none, v, u, h, r => by cases h; cases r; exact ⟨_, .none, fun z => nomatch z⟩
  | .bool b, v, u, h, r => by cases h; cases r; exact ⟨_, .bool b, fun z => nomatch z⟩
  | .int i, v, u, h, r => by cases h; obtain ⟨t, rfl⟩ := r; exact ⟨_, .int i t, fun z => nomatch z⟩
  | .str x, v, u, h, r => by cases h; obtain ⟨t, rfl⟩ := r; exact ⟨_, .str x t, fun z => nomatch z⟩
  | .list es, v, u, h, r => by
    cases h with
    | lst at_ each =>
      cases r
      have ne := list_ne_sys I hs at_
      obtain ⟨its, rv, ⟨o, n, ho, hc, _, hd⟩, _⟩ := I.list at_
      obtain ⟨as, hr, hn⟩ := Dp.rdsS I hs es _ its each rv
      refine ⟨_, .list ho hc hd hr, fun z => ?_⟩
      rcases List.mem_cons.mp z with z | z
      · exact ne z.symm
      · exact hn z
  | .tuple es, v, u, h, r => by
    cases h with
    | tup at_ each =>
      cases r
      obtain ⟨its, rv, ⟨o, ho, hc, n, hd⟩, _⟩ := I.tuple at_
      obtain ⟨as, hr, hn⟩ := Dp.rdsS I hs es _ its each rv
      exact ⟨_, .tuple ho hc hd hr, hn⟩
  | .dict kvs, v, u, h, r => by
    cases h with
    | dct at_ =>
      cases r
      obtain ⟨_, _, _, _, _, _, ns, rd⟩ := dct_reads I at_
      exact ⟨_, rd, fun z => by
        have z : sysModules ∈ [_] := z
        exact ns (List.mem_singleton.mp z).symm⟩
theorem Dp.rdsS (I : Inv X pins σ H s) (hs : SysB X.base) : ∀ (ds : List PyData) (vs : List V) (us : List Value), DpAll X.K H vs ds → Vals vs us → ∃ as, ReadsAll s.heap us ds as ∧ sysModules ∉ as
  | [], vs, us, h, r => by cases h; cases r; exact ⟨_, .nil, fun z => nomatch z⟩
  | d :: ds, vs, us, h, r => by
    cases h with
    | cons one more =>
      cases r with
      | cons r1 r2 =>
        obtain ⟨as, q1, n1⟩ := Dp.rdS I hs d _ _ one r1
        obtain ⟨bs, q2, n2⟩ := Dp.rdsS I hs ds _ _ more r2
        refine ⟨_, .cons q1 q2, fun hm => ?_⟩
        rcases List.mem_append.mp hm with hm | hm
        · exact n1 hm
        · exact n2 hm
end
end
theorem call_reprS {X : Cx} (hs : SysB X.base) (hg : X.A.guards = some []) (hu : X.A.units + 80 < cLine) : CallR X (.builtin "repr") (fun xs H Q => ∃ (a : Addr) (d : PyData), xs = [.ref a] ∧ Dp X.K H (.ref a) d ∧ d.showable = true ∧ d.depth ≤ 64 ∧ d.shown.length ≤ sizeLine ∧ Q (.str d.shown) H) := by
  intro pins s σ H xs us Q I r h
  obtain ⟨a, d, rfl, hd, h1, h3, h4, q⟩ := h
  obtain ⟨u, rfl, ru⟩ := vals1 r
  cases ru
  obtain ⟨as, hr, hn⟩ := Dp.rdS I hs d (.ref a) (.ref a) hd rfl
  exact repr_of_reads' hr h1 (fun _ => hn) hg (by omega) (fun _ _ e => e) (fun h' u tk hk => ⟨.str d.shown, H, I.kept hk, ⟨u, rfl⟩, q⟩) h4
/-! repr of whatever data -/
theorem call_reprA {X : Cx} (hs : SysB X.base) (hg : X.A.guards = some []) (hu : X.A.units + 80 < cLine) : CallR X (.builtin "repr") (fun xs H Q => ∃ (v : V) (d : PyData), xs = [v] ∧ Dp X.K H v d ∧ d.showable = true ∧ d.depth ≤ 64 ∧ d.shown.length ≤ sizeLine ∧ Q (.str d.shown) H) := by
  intro pins s σ H xs us Q I r h
  obtain ⟨v, d, rfl, hd, h1, h3, h4, q⟩ := h
  have refs : ∀ a : Addr, v = .ref a → wpAny (model X.prog X.w) X.A (call (.builtin "repr") us) (EP X pins σ Q) X.xe s := fun a e => by
    subst e
    exact call_reprS hs hg hu pins s σ H _ us Q I r ⟨a, d, rfl, hd, h1, h3, h4, q⟩
  cases hd with
  | non =>
    obtain ⟨u, rfl, ru⟩ := vals1 r
    cases ru
    exact PySem.P.repr_of_none ⟨.str _, H, I.tok _, ⟨_, rfl⟩, q⟩
  | bl b =>
    obtain ⟨u, rfl, ru⟩ := vals1 r
    cases ru
    exact PySem.P.repr_of_bool ⟨.str _, H, I.tok _, ⟨_, rfl⟩, by simpa only [PyData.shown] using q⟩
  | int i =>
    obtain ⟨u, rfl, t, rfl⟩ := vals1 r
    exact PySem.P.repr_of_int (of_decide_eq_true (by simpa only [PyData.showable] using h1)) ⟨.str _, H, I.tok _, ⟨_, rfl⟩, by simpa only [PyData.shown] using q⟩
  | str x =>
    obtain ⟨u, rfl, t, rfl⟩ := vals1 r
    exact PySem.P.repr_of_str ⟨.str _, H, I.tok _, ⟨_, rfl⟩, by simpa only [PyData.shown] using q⟩ (by simpa only [PyData.shown] using h4)
  | lst _ _ => exact refs _ rfl
  | tup _ _ => exact refs _ rfl
  | dct _ => exact refs _ rfl
/-! defs that are called where nothing is being shown -/
structure FnG (P : Program) (w : World) (K : PySem.W.Frag) (mg : Str → Option Value) (base : Heap) (k : Nat) (f : Addr) (fd : FuncData) (ps : List Str) (sp : Sp) : Prop where
  len : ∀ vs H Q, sp vs H Q E0 → vs.length = ps.length
  run : ∀ (A : Around) (outer : List Env) (s : Shared) (H : Hp) (args : Args) (us : List Value) (vs : List V) (Q : VK), A.guards = some [] → Room k A → Env0 P w K mg base A outer s H → BindsTo s fd args (ps.zip us) → Vals vs us → sp vs H Q E0 →
    codeAny (model P w) A (.call (.ref f) args) (CR CX0 outer P w H s Q E0) s
theorem FnG.mono {P : Program} {w : World} {K : PySem.W.Frag} {mg : Str → Option Value} {base : Heap} {j k : Nat} {f : Addr} {fd : FuncData} {ps : List Str} {sp : Sp} (F : FnG P w K mg base j f fd ps sp) (h : j ≤ k) : FnG P w K mg base k f fd ps sp :=
  ⟨F.len, fun A outer s H args us vs Q hg hr => F.run A outer s H args us vs Q hg (hr.mono h)⟩
section
open PySem.Spec PyProof.Rows
theorem okG {P : Program} {w : World} {K : PySem.W.Frag} {mg : Str → Option Value} {base : Heap} {x : Str} {st : Stmt} {f : Addr} {fd : FuncData} {N ps : List Str} {k : Nat} {sp : Sp} (F : Fun K x x st f fd) (S : FnScope N ps (defScope st)) (len : ∀ vs H Q, sp vs H Q E0 → vs.length = ps.length)
    (body : ∀ (cdv : Value) (A : Around) (outer : List Env) (s : Shared) (H : Hp) (vs : List V) (Q : VK), fd.code = cdv → A.guards = some [] → Room k (A.deeper (envOfC x (defScope st) s.heap.objs.size f cdv)) → sp vs H Q E0 →
      ∃ t, PSs (cxOf CX0 P w K mg base N x (defScope st) f cdv A outer s H E0).nox (defBody st) t ∧ t { nx := fun _ H' => Q .non H', rt := Q } (L2.start N vs) H) : FnG P w K mg base (k + 1) f fd ps sp := by
  refine ⟨len, fun A outer s H args us vs Q guard room at0 bd rel prom => ?_⟩
  obtain ⟨oc, od, kV, doc, pm, an, cdv, ct, osl, rfl, found, code⟩ := F.ex
  have many := len _ _ _ prom
  have kin : K.In s.heap := at0.mod.kin.keeps fun b o e => (at0.bs b o e).1
  have unl : s.heap.NoLimit := at0.mod.nolimit.keeps fun b o e => (at0.bs b o e).1
  have kinds : ∀ y ∈ ps.zip us, (defScope st).names.lookup y.1 = some .local ∨ ((defScope st).names.lookup y.1 = some .cell ∧ ((cellsFrom (s.heap.objs.size + 1) (defScope st).names []).lookup y.1).isSome = true) := by
    intro y hy
    rcases S.par y.1 (List.of_mem_zip (show (y.1, y.2) ∈ ps.zip us from hy)).1 with q | q
    · exact .inl q
    · exact .inr ⟨q, PySem.W.cellsFrom_some _ _ _ (.inl q)⟩
  refine codeAny_call_function room.depth (kin _ _ found) rfl S.co S.gen rfl (PySem.W.codeRec_of kin code) (bd _ _ _ _ ?_)
  refine wpAny_newFunctionEnv_cells S.kind kinds fun env he s1 ic => ?_
  subst he
  refine ⟨unl.keeps ic.toInCall.keep, codeAny_func ?_⟩
  obtain ⟨t, ht, hq⟩ := body cdv A outer s H vs Q rfl guard (room.deeper _) prom
  have start_ok := inv_start (CX := CX0) (E := E0) S room.hd at0 many rel ic
  refine wpAny_mono (ht.nox.run [] s1 _ H _ start_ok hq) (fun fl s' out => ?_) fun e s' out => out
  cases fl with
  | ret u =>
    obtain ⟨v, σ', H', J, rv, q⟩ := out
    exact ⟨v, H', J.os, J.bare, J.base, J.hok, rv, q⟩
  | next =>
    obtain ⟨σ', H', J, q⟩ := out
    exact ⟨.non, H', J.os, J.bare, J.base, J.hok, rfl, q⟩
  | brk =>
    obtain ⟨_, _, _, q⟩ := out
    exact q.elim
  | cont =>
    obtain ⟨_, _, _, q⟩ := out
    exact q.elim
def CalS (P : Program) (w : World) (K : PySem.W.Frag) (mg : Str → Option Value) (base : Heap) (x : Str) (k : Nat) (ps : List Str) (sp : Sp) : Prop :=
  ∃ (f : Addr) (fd : FuncData), FnG P w K mg base k f fd ps sp ∧ mg x = some (.ref f) ∧ PySem.W.keepIn K (.ref f) = true ∧ Binds K fd ps []
theorem pe_calS {X : Cx} {x : Str} {p pos : Pos} {e : Expr} {es : List Expr} {t : TA} {k : Nat} {ps : List Str} {sp : Sp} (C : CalS X.prog X.w X.K X.mg X.base x k ps sp) (hg0 : X.A.guards = some []) (hr : Room k X.A) (hg : Gl X x) (ha : PA X (e :: es) t)
    (hdb : (x == ("__debug__" : Str)) = false := by decide) (h2 : starEach (e :: es) X.env = (false, eval e X.env) :: starEach es X.env := by rfl) (h3 : ((backTo pos (starEach es X.env)).any fun x => x.fst) = false := by rfl) :
    PE X (.Call (.Name x p) (e :: es) [] pos) (tCall sp [] E0 t) := by
  obtain ⟨f, fd, F, hm, hk, hb⟩ := C
  refine ⟨fun pins s σ H Q I h => ?_⟩
  refine wpAny_Call_Name_kw (ld_glob I hg hm ?_ hdb)
  refine PySem.W.callWith_K (h₀ := X.base) I.ok.mod.kin hk (thn (ha.run pos pins s σ H _ I h) fun us s1 ⟨vs, H1, I1, r, q⟩ => ⟨I1.kIn, ?_⟩) h2 h3
  have q : sp (vs ++ []) H1 Q E0 := q
  rw [List.append_nil] at q
  have l1 : us.length = ps.length := by rw [← r.length]; exact F.len _ _ _ q
  have b := hb s1 us I1.kIn (by rw [List.append_nil]; exact l1)
  rw [List.append_nil] at b
  refine wpAny_call (codeAny_mono (F.run X.A X.stack s1 H1 ⟨us, []⟩ us vs Q hg0 hr I1.env0 b r q) fun r s' res => ?_)
  match r, res with
  | .error e, res => exact (show False from res).elim
  | .ok (.ret u), res => exact I1.after res
  | .ok .next, res => exact (show False from res).elim
  | .ok .brk, res => exact (show False from res).elim
  | .ok .cont, res => exact (show False from res).elim
end
/-! data without a list stands while lists change -/
mutual
theorem dp_ktN {K : PySem.W.Frag} {H H' : Hp} (k : KT H H') : ∀ (d : PyData) (v : V), noL d = true → Dp K H v d → Dp K H' v d
  | .none, v, _, h => by cases h; exact .non
  | .bool b, v, _, h => by cases h; exact .bl b
  | .int i, v, _, h => by cases h; exact .int i
  | .str x, v, _, h => by cases h; exact .str x
  | .list es, v, n, h => by simp [noL] at n
  | .tuple es, v, n, h => by
    cases h with
    | tup at_ each => exact .tup (sqT_kt k at_) (dps_ktN k es _ (by simpa only [noL] using n) each)
  | .dict kvs, v, _, h => by
    cases h with
    | dct at_ => exact .dct (k _ _ at_ fun l z => by cases z)
theorem dps_ktN {K : PySem.W.Frag} {H H' : Hp} (k : KT H H') : ∀ (ds : List PyData) (vs : List V), noLs ds = true → DpAll K H vs ds → DpAll K H' vs ds
  | [], vs, _, h => by cases h; exact .nil
  | d :: ds, vs, n, h => by
    have n' : noL d = true ∧ noLs ds = true := by simpa [noLs] using n
    cases h with
    | cons one more => exact .cons (dp_ktN k d _ n'.1 one) (dps_ktN k ds _ n'.2 more)
end
/-! what is written of data that stands in slots -/
def EnvD (K : PySem.W.Frag) (L : List (Nat × PyData)) (σ : L2.St) (H : Hp) : Prop := ∀ p ∈ L, ∃ v, σ[p.1]? = some (some v) ∧ Dp K H v p.2
theorem EnvD.same {K : PySem.W.Frag} {L : List (Nat × PyData)} {σ : L2.St} {H H' : Hp} (e : EnvD K L σ H) (s : Same H H') : EnvD K L σ H' := fun p hp => by
  obtain ⟨v, h1, h2⟩ := e p hp
  exact ⟨v, h1, dp_same s h2⟩
def Mk (K : PySem.W.Frag) (L : List (Nat × PyData)) (t : TE) (d : PyData) : Prop := ∀ (σ : L2.St) (H : Hp) (Q : VK), EnvD K L σ H → (∀ v H', Same H H' → Dp K H' v d → Q v H') → t σ H Q
def MkA (K : PySem.W.Frag) (L : List (Nat × PyData)) (t : TA) (ds : List PyData) : Prop := ∀ (σ : L2.St) (H : Hp) (Q : List V → Hp → Prop), EnvD K L σ H → (∀ vs H', Same H H' → DpAll K H' vs ds → Q vs H') → t σ H Q
section
variable {K : PySem.W.Frag} {L : List (Nat × PyData)}
theorem mk_int {i : Int} : Mk K L (tC (.int i)) (.int i) := fun σ H Q e q => q _ H (Same.refl _) (.int i)
theorem mk_str {x : Str} : Mk K L (tC (.str x)) (.str x) := fun σ H Q e q => q _ H (Same.refl _) (.str x)
theorem mk_bl {b : Bool} : Mk K L (tC (.bl b)) (.bool b) := fun σ H Q e q => q _ H (Same.refl _) (.bl b)
theorem mk_neg {i : Int} : Mk K L (tUn (rU fun i => .int (-i)) (tC (.int i))) (.int (-i)) := fun σ H Q e q => ⟨i, rfl, q _ H (Same.refl _) (.int _)⟩
theorem mk_var {i : Nat} {d : PyData} (h : (i, d) ∈ L) : Mk K L (tVar i) d := fun σ H Q e q => by
  obtain ⟨v, h1, h2⟩ := e _ h
  exact ⟨v, h1, q v H (Same.refl _) h2⟩
theorem mka_nil : MkA K L tNil [] := fun σ H Q e q => q [] H (Same.refl _) .nil
theorem mka_cons {t : TE} {ta : TA} {d : PyData} {ds : List PyData} (h : Mk K L t d) (hs : MkA K L ta ds) : MkA K L (tCons t ta) (d :: ds) := fun σ H Q e q =>
  h σ H _ e fun v H1 s1 d1 => hs σ H1 _ (e.same s1) fun vs H2 s2 d2 => q _ H2 (s1.trans s2) (.cons (dp_same s2 d1) d2)
theorem mk_tup {ta : TA} {ds : List PyData} (h : MkA K L ta ds) (hl : ds.length ≤ 1000) : Mk K L (tTup ta) (.tuple ds) := fun σ H Q e q =>
  h σ H _ e fun vs H1 s1 d1 => ⟨small (by rw [dpAll_len d1]; exact hl), fun p hp => q _ _ (s1.trans (same_new hp _)) (.tup (SqT.of upd_same) (dps_same (same_new hp _) d1))⟩
theorem mk_cat {t1 t2 : TE} {ds es : List PyData} (h1 : Mk K L t1 (.tuple ds)) (h2 : Mk K L t2 (.tuple es)) (hl : ds.length + es.length ≤ 1000) : Mk K L (tOp (rCatA K) t1 t2) (.tuple (ds ++ es)) := fun σ H Q e q =>
  h1 σ H _ e fun v1 H1 s1 d1 => h2 σ H1 _ (e.same s1) fun v2 H2 s2 d2 => by
    cases dp_same s2 d1 with
    | tup at1 each1 =>
      cases d2 with
      | tup at2 each2 =>
        exact catA_run at1 at2 (by rw [dpAll_len each1, dpAll_len each2]; exact hl) fun r H3 s3 h3 => q _ H3 (s1.trans (s2.trans s3)) (.tup h3 (dpAll_append (dps_same s3 each2) (dps_same s3 each1)))
end
/-! the end of a law whose defs hold lambdas: the tables of their code are tracked, too -/
section
open PySem.Spec PyProof.Rows LamX
theorem run_law2 {P : Program} {w : World} {K : PySem.W.Frag} {mg : Str → Option Value} {base : Heap} {fa a : Addr} {fd : FuncData} {st : Stmt} {N : List Str} {k : Nat} {s : Shared} {H : Hp} {nm par : Str}
    (F : Fun K nm nm st fa fd) (S : FnScope N [par] (defScope st)) (room : Room (k + 1) callerA) (at0 : Env0 P w K mg base callerA [] s H) (bd : BindsTo s fd ⟨[.ref a], []⟩ [(par, .ref a)])
    (body : ∀ cdv, fd.code = cdv → Room k (callerA.deeper (envOfC nm (defScope st) s.heap.objs.size fa cdv)) →
      ∃ t, PSs (cxOf CX0 P w K mg base N nm (defScope st) fa cdv callerA [] s H E0).nox (defBody st) t ∧ t { nx := fun _ _ => False, rt := fun v _ => v = .bl true } (L2.start N [.ref a]) H) :
    codeAny (model P w) callerA (.call (.ref fa) ⟨[.ref a], []⟩) (CR CX0 [] P w H s (fun v _ => v = .bl true) E0) s := by
  obtain ⟨oc, od, kV, doc, pm, an, cdv, ct, osl, rfl, found, code⟩ := F.ex
  have kin : K.In s.heap := at0.mod.kin.keeps fun b o e => (at0.bs b o e).1
  have unl : s.heap.NoLimit := at0.mod.nolimit.keeps fun b o e => (at0.bs b o e).1
  have kinds : ∀ y ∈ [(par, Value.ref a)], (defScope st).names.lookup y.1 = some .local ∨ ((defScope st).names.lookup y.1 = some .cell ∧ ((cellsFrom (s.heap.objs.size + 1) (defScope st).names []).lookup y.1).isSome = true) := by
    intro y hy
    rcases List.mem_cons.mp hy with rfl | hy
    · rcases S.par par List.mem_cons_self with q | q
      · exact .inl q
      · exact .inr ⟨q, PySem.W.cellsFrom_some _ _ _ (.inl q)⟩
    · cases hy
  refine codeAny_call_function room.depth (kin _ _ found) rfl S.co S.gen rfl (PySem.W.codeRec_of kin code) (bd _ _ _ _ ?_)
  refine wpAny_newFunctionEnv_cells S.kind kinds fun env he s1 ic => ?_
  subst he
  refine ⟨unl.keeps ic.toInCall.keep, codeAny_func ?_⟩
  obtain ⟨t, ht, hq⟩ := body cdv rfl (room.deeper _)
  have start_ok := inv_start (CX := CX0) (E := E0) (us := [.ref a]) (vs := [.ref a]) S room.hd at0 rfl (.cons rfl .nil) ic
  refine wpAny_mono (ht.nox.run [] s1 _ H _ start_ok hq) (fun fl s' out => ?_) fun e s' out => out
  cases fl with
  | ret u =>
    obtain ⟨v, σ', H', J, rv, q⟩ := out
    exact ⟨v, H', J.os, J.bare, J.base, J.hok, rv, q⟩
  | next =>
    obtain ⟨_, _, _, q⟩ := out
    exact q.elim
  | brk =>
    obtain ⟨_, _, _, q⟩ := out
    exact q.elim
  | cont =>
    obtain ⟨_, _, _, q⟩ := out
    exact q.elim
/-- what the module's head leaves of tables -/
structure TabsAt (K : PySem.W.Frag) (mg : Str → Option Value) (h : Heap) (cs : List (Addr × Addr)) : Prop where
  empty : ∀ p ∈ cs, h.get? p.2 = some { cls := .none, data := .fields #[] }
  out : ∀ p ∈ cs, K.lookup p.2 = none
  heads : ∀ p ∈ cs, PySem.W.CodeHd h p.1 p.2
  sys : SysB h
  blt : ∃ (bm : Addr) (ob : Obj), mg "__builtins__" = some (.ref bm) ∧ bm ≠ builtinsNs ∧ h.get? bm = some ob ∧ ob.cls = .type "module" ∧ ob.dict = some builtinsNs ∧ ob.data = .plain
theorem law_endT {P : Program} {w : World} {K : PySem.W.Frag} {mg mb : Str → Option Value} {fa a : Addr} {cs : List (Addr × Addr)} {fd : FuncData} {st : Stmt} {N : List Str} {k : Nat} {s : Shared} {nm par : Str} {vs : List Value} {ns : List Int}
    (kin : K.In s.heap) (gl : s.heap.Ns mainGlobals mg) (bl : s.heap.Ns builtinsNs mb) (blb : ∀ x : Str, x ≠ "__name__" → mb x = bootBuiltins x) (unl : s.heap.NoLimit) (gens : s.gens = #[]) (TA : TabsAt K mg s.heap cs)
    (ha : s.heap.get? a = some { cls := .type "list", data := .seq vs.toArray }) (hi : IntsAre vs ns) (hl : ns.length ≤ sizeLine) (room : Room (k + 1) callerA)
    (F : Fun K nm nm st fa fd) (S : FnScope N [par] (defScope st)) (bd : ∀ (s : Shared) (u : Value), BindsTo s fd ⟨[u], []⟩ [(par, u)])
    (body : ∀ (base : Heap), K.In base → base.Ns mainGlobals mg → SysB base → (∀ p ∈ cs, TabB base mg p.1 p.2) → ∀ (H : Hp) cdv, fd.code = cdv → (∀ p ∈ cs, H p.2 = some (.tbl #[])) → ScrOk K H a (ns.map V.int) → Room k (callerA.deeper (envOfC nm (defScope st) s.heap.objs.size fa cdv)) →
      ∃ t, PSs (cxOf CX0 P w K mg base N nm (defScope st) fa cdv callerA [] s H E0).nox (defBody st) t ∧ t { nx := fun _ _ => False, rt := fun v _ => v = .bl true } (L2.start N [.ref a]) H) :
    codeAny (model P w) callerA (.call (.ref fa) ⟨[.ref a], []⟩) (fun r s' => r = .ok (.ret (.bool true)) ∧ OldK s.heap s'.heap ∧ s'.os = s.os ∧ AllBare s'.gens) s := by
  have vals := vals_ints hi
  have len := hi.length
  have no_tab : ∀ p ∈ cs, p.2 ≠ a := fun p hp z => by
    have e := TA.empty p hp
    rw [z, ha] at e
    have e : Data.seq vs.toArray _ = Data.fields #[] := congrArg Obj.data (Option.some.inj e)
    cases e
  -- whatever of the script is tracked
  have main : ∀ H : Hp, (∀ p ∈ cs, H p.2 = some (.tbl #[])) → ScrOk K H a (ns.map V.int) → HOk P w H s.heap →
      (∀ b u, H b = some u → (b = a ∧ K.lookup a = none ∧ ∃ o xs, u = .frz o (.lst xs)) ∨ ∃ p ∈ cs, b = p.2) →
      codeAny (model P w) callerA (.call (.ref fa) ⟨[.ref a], []⟩) (fun r s' => r = .ok (.ret (.bool true)) ∧ OldK s.heap s'.heap ∧ s'.os = s.os ∧ AllBare s'.gens) s := by
    intro H tabs scr hok alone
    have off : ∀ {b : Addr} {o : Obj}, s.heap.get? b = some o → (∀ us n, o.data ≠ .seq us n) → o.data ≠ .fields #[] → H b = none := by
      intro b o e n1 n2
      cases q : H b with
      | none => rfl
      | some u =>
        rcases alone b u q with ⟨rfl, _⟩ | ⟨p, hp, rfl⟩
        · rw [ha] at e
          cases e
          exact absurd rfl (n1 _ _)
        · rw [TA.empty p hp] at e
          cases e
          exact absurd rfl n2
    have spaces : ∀ {b : Addr} {m : Str → Option Value}, s.heap.Ns b m → (hidT s.heap H).Ns b m := by
      intro b m ⟨o, es, ep, e, d, r⟩
      refine ⟨o, es, ep, hidT_get e (off e (fun us n z => ?_) fun z => ?_), d, r⟩
      · rw [d] at z
        cases z
      · rw [d] at z
        cases z
    have kinB : K.In (hidT s.heap H) := by
      intro b o e
      refine hidT_get (kin b o e) ?_
      cases q : H b with
      | none => rfl
      | some u =>
        rcases alone b u q with ⟨rfl, z, _⟩ | ⟨p, hp, rfl⟩
        · rw [z] at e
          cases e
        · rw [TA.out p hp] at e
          cases e
    have TB : ∀ p ∈ cs, TabB (hidT s.heap H) mg p.1 p.2 := by
      intro p hp
      constructor
      · obtain ⟨o, us, x1, x2, x3, x4, x5, x6, x7, e, y1, y2, y3, y4⟩ := TA.heads p hp
        refine ⟨o, us, x1, x2, x3, x4, x5, x6, x7, hidT_get e (off e (fun vs n z => ?_) fun z => ?_), y1, y2, y3, y4⟩
        · rw [y2] at z
          cases z
        · rw [y2] at z
          cases z
          simp at y3
      · obtain ⟨bm, ob, g1, g2, g3, g4, g5, g6⟩ := TA.blt
        refine ⟨bm, ob, g1, g2, fun z => ?_, fun z => ?_, hidT_get g3 (off g3 (fun vs n z => ?_) fun z => ?_), g4, g5, g6⟩
        · obtain ⟨o, es, ep, e, d, _⟩ := gl
          rw [z, e] at g3
          cases g3
          rw [d] at g6
          cases g6
        · rw [z, TA.empty p hp] at g3
          cases g3
          cases g6
        · rw [g6] at z
          cases z
        · rw [g6] at z
          cases z
      · intro z
        obtain ⟨o, es, ep, e, d, _⟩ := gl
        rw [z, TA.empty p hp] at e
        cases e
        cases d
    obtain ⟨mc, un1, un2⟩ := unl
    have md : Mod K mg (hidT s.heap H) := ⟨kinB, spaces gl, ⟨mb, spaces bl, blb⟩, ⟨mc, spaces un1, un2⟩⟩
    have at0 : Env0 P w K mg (hidT s.heap H) callerA [] s H := by
      refine ⟨rfl, md, fun b o e => of_hidT e, Nat.le_of_eq (hidT_size _ _), trivial, fun b hb => ?_, hok, .of_eq gens⟩
      cases (show b ∈ ([] : List Addr) from hb)
    refine codeAny_mono (run_law2 F S room at0 (bd s (.ref a)) fun cdv hc hr => body _ kinB (spaces gl) (let ⟨mm, z⟩ := TA.sys; ⟨mm, spaces z⟩) TB H cdv hc tabs scr hr) fun r s' res => ?_
    match r, res with
    | .error e, res => exact (show False from res).elim
    | .ok .next, res => exact (show False from res).elim
    | .ok .brk, res => exact (show False from res).elim
    | .ok .cont, res => exact (show False from res).elim
    | .ok (.ret u), res =>
      obtain ⟨v, H', os, bare, un, hok', rv, q⟩ := res
      obtain rfl : v = .bl true := q
      obtain rfl : u = Value.bool true := rv
      have stays : ∀ b o, (∀ p ∈ cs, b ≠ p.2) → s.heap.get? b = some o → s'.heap.get? b = some o := by
        intro b o nb e
        cases q : H b with
        | none =>
          refine un.keep b o e q (fun z => ?_) (by simp)
          cases (show b ∈ ([] : List Addr) from z)
        | some u =>
          rcases alone b u q with ⟨_, _, ob, xs, rfl⟩ | ⟨p, hp, z⟩
          · obtain ⟨e1, _⟩ := hok b _ q
            obtain ⟨e2, _⟩ := hok' b _ (un.frzs b ob _ q)
            rw [e] at e1
            cases e1
            exact e2
          · exact absurd z (nb p hp)
      have grows : ∀ p ∈ cs, ∃ more : Array Value, s'.heap.get? p.2 = some { cls := .none, data := .fields more } := by
        intro p hp
        obtain ⟨more, z⟩ := un.tbls p.2 #[] (tabs p hp)
        exact ⟨_, hok' p.2 _ z⟩
      refine ⟨rfl, ⟨fun b o e => ?_, fun b o e => ?_⟩, os, bare⟩
      · by_cases nb : ∀ p ∈ cs, b ≠ p.2
        · exact .inl (stays b o nb e)
        · obtain ⟨p, hp, z⟩ : ∃ p ∈ cs, b = p.2 := by
            refine Classical.byContradiction fun no => nb fun p hp z => no ⟨p, hp, z⟩
          subst z
          obtain ⟨more, hm⟩ := grows p hp
          have e0 := TA.empty p hp
          rw [e0] at e
          cases e
          refine .inr (.inl ⟨((TA.heads p hp).tab (ps := #[]) e0).isCodeTable, rfl, #[], more, rfl, ?_⟩)
          rw [Array.empty_append]
          exact hm
      · by_cases nb : ∀ p ∈ cs, b ≠ p.2
        · exact ⟨o, stays b o nb e⟩
        · obtain ⟨p, hp, z⟩ : ∃ p ∈ cs, b = p.2 := by
            refine Classical.byContradiction fun no => nb fun p hp z => no ⟨p, hp, z⟩
          subst z
          obtain ⟨more, hm⟩ := grows p hp
          exact ⟨_, hm⟩
  -- the tables, and the script where it isn't written
  let tb : Addr → Bool := fun b => cs.any fun p => decide (b = p.2)
  have tb_in : ∀ {b}, tb b = true → ∃ p ∈ cs, b = p.2 := fun {b} z => by
    obtain ⟨p, hp, e⟩ := List.any_eq_true.mp z
    exact ⟨p, hp, of_decide_eq_true e⟩
  have in_tb : ∀ p ∈ cs, tb p.2 = true := fun p hp => List.any_eq_true.mpr ⟨p, hp, decide_eq_true rfl⟩
  cases hk : K.lookup a with
  | some o =>
    have e := kin a o hk
    rw [ha] at e
    cases e
    refine main (fun b => if tb b = true then some (.tbl #[]) else none) (fun p hp => if_pos (in_tb p hp)) (.inr ⟨_, vs.toArray, _, hk, rfl, rfl, rfl, by rw [List.size_toArray, len]; exact hl, by simpa using vals⟩) (fun b u z => ?_) (fun b u z => ?_)
    · by_cases c : tb b = true
      · obtain ⟨p, hp, rfl⟩ := tb_in c
        have z := (if_pos c).symm.trans z
        cases z
        exact TA.empty p hp
      · have z := (if_neg c).symm.trans z
        cases z
    · by_cases c : tb b = true
      · exact .inr (tb_in c)
      · have z := (if_neg c).symm.trans z
        cases z
  | none =>
    refine main (fun b => if b = a then some (.frz { cls := .type "list", data := .seq vs.toArray } (.lst (ns.map V.int))) else if tb b = true then some (.tbl #[]) else none) (fun p hp => (if_neg (no_tab p hp)).trans (if_pos (in_tb p hp))) (.inl ⟨_, if_pos rfl⟩) (fun b u z => ?_) (fun b u z => ?_)
    · by_cases c0 : b = a
      · have z := (if_pos c0).symm.trans z
        cases z
        rw [c0]
        exact ⟨ha, by rw [List.length_map]; exact hl, vs, _, vals, ha⟩
      · have z := (if_neg c0).symm.trans z
        by_cases c : tb b = true
        · obtain ⟨p, hp, rfl⟩ := tb_in c
          have z := (if_pos c).symm.trans z
          cases z
          exact TA.empty p hp
        · have z := (if_neg c).symm.trans z
          cases z
    · by_cases c0 : b = a
      · have z := (if_pos c0).symm.trans z
        exact .inl ⟨c0, hk, _, _, (Option.some.inj z).symm⟩
      · have z := (if_neg c0).symm.trans z
        by_cases c : tb b = true
        · exact .inr (tb_in c)
        · have z := (if_neg c).symm.trans z
          cases z
end
section
open PySem.Spec PyProof.Rows LamX
theorem mn_ext {st : Addr} {H H' : Hp} (e : ExtN H H') : ExtN (mn st H) (mn st H') := fun b o h n => by
  obtain ⟨n1, h1⟩ := mn_some h
  exact mn_at n1 (e b o h1 n)
theorem st_ext {st : Addr} {H H' : Hp} (h : StAt H st) (e : ExtN H H') : StAt H' st := by
  obtain ⟨x, y, z, h, ok⟩ := h
  exact ⟨x, y, z, e _ _ h (fun ps q => by cases q), ok⟩
theorem scr_ext {K : PySem.W.Frag} {H H' : Hp} {a : Addr} {xs : List V} (h : ScrOk K H a xs) (e : ExtN H H') : ScrOk K H' a xs := by
  rcases h with ⟨o, z⟩ | z
  · exact .inl ⟨o, e _ _ z (fun ps q => by cases q)⟩
  · exact .inr z
end
abbrev c01 : Nat := 10 ^ 29 + 1
theorem bool_len (b : Bool) : (PyData.shown (.bool b)).length ≤ sizeLine := by cases b <;> exact small (by decide)
theorem ps_imp {X : Cx} {e : Stmt} {t t' : TS} (h : PS X e t) (i : ∀ D σ H, t' D σ H → t D σ H) : PS X e t' := ⟨fun pins s σ H D I q => h.run pins s σ H D I (i D σ H q)⟩
/-! _law_right -/
theorem TabsG.mk' {PT : TbP} {H H1 : Hp} {Pt : Addr} {q : Str} (t : TabsG PT H) (hm : (Pt, q) ∈ PT.t) (t1 : LamX.Tabs PT.t H1) (oth : ∀ b ps, b ≠ Pt → H b = some (.tbl ps) → H1 b = some (.tbl ps)) : TabsG PT H1 := ⟨fun P hP => by
  obtain ⟨ps, h, ok⟩ := t.1 P hP
  exact ⟨ps, oth _ _ (fun e => PT.ap _ hm (by rw [← e]; exact hP)) h, ok⟩, t1⟩
def dueD : Option Nat → PyData
  | none => .none
  | some j => .tuple [.str (wordOf j)]
def DueOk (o : Option Nat) : Prop := o = none ∨ o = some 0 ∨ o = some 1
section
open PySem.Spec PyProof.Rows LamX
variable {P : Program} {w : World} {K : PySem.W.Frag} {mg : Str → Option Value} {base : Heap} {f c Pt CS CC CP fw g : Addr} {fd fdg : FuncData} {PT : TbP}
/-- what is asked of the four -/
structure Four (K : PySem.W.Frag) (PT : TbP) (H : Hp) (x y z t : V) (dx dy dz dt : PyData) : Prop where
  x : Dp K H x dx
  y : Dp K H y dy
  z : Dp K H z dz
  t : Dp K H t dt
  tb : TabsG PT H
theorem Four.ext {H H' : Hp} {x y z t : V} {dx dy dz dt : PyData} (h : Four K PT H x y z t dx dy dz dt) (e : ExtN H H') (tb : TabsG PT H') : Four K PT H' x y z t dx dy dz dt := ⟨dp_ext e _ _ h.x, dp_ext e _ _ h.y, dp_ext e _ _ h.z, dp_ext e _ _ h.t, tb⟩
structure FourB (dx dy dz dt : PyData) : Prop where
  x : Bd (c01 + 30000) 20 dx
  y : Bd (c01 + 30000) 20 dy
  z : Bd (c01 + 30000) 20 dz
  t : Bd (c01 + 30000) 20 dt
  shw : (PyData.tuple [dx, dy, dz, dt]).showable = true
  dep : (PyData.tuple [dx, dy, dz, dt]).depth ≤ 64
  len : (PyData.tuple [dx, dy, dz, dt]).shown.length ≤ sizeLine
def due1 (dx dy dz : PyData) : Option Nat := match dx with
  | .tuple ds => if chartD (.tuple ds) = true then (if (pointsD ds.length dy && pointsD ds.length dz) = true then none else some 1) else some 0
  | _ => some 0
def due2 (dx : PyData) : Option Nat := if chartD dx = true then none else some 0
def spRight (K : PySem.W.Frag) (PT : TbP) : Sp := fun vs H Q _ => ∃ (x y z t : V) (dx dy dz dt : PyData), vs = [x, y, z, t] ∧ Four K PT H x y z t dx dy dz dt ∧ FourB dx dy dz dt ∧ ∀ H', ExtN H H' → TabsG PT H' → Q (.bl true) H'
abbrev riN : List Str := ["_law_chart_here", "_law_starts", "_law_goals", "_law_thing", "_law_kept", "_law_due", "_law_calls", "_law_call", "_law_said_here"]
theorem scRight : FnScope riN ["_law_chart_here", "_law_starts", "_law_goals", "_law_thing"] (defScope sRight) := ⟨rfl, rfl, rfl, by decide +kernel, rfl, by decide +kernel, by decide +kernel⟩
/-- what is needed of the others -/
structure Rights (P : Program) (w : World) (K : PySem.W.Frag) (mg : Str → Option Value) (base : Heap) (PT : TbP) (CS CC CP fw g : Addr) (fdg : FuncData) (k : Nat) : Prop where
  cL : Cal P w K mg base "_law_is_chart" (k + 2) ["_law_thing"] (spLChart K)
  cQ : Cal P w K mg base "_law_are_points" (k + 2) ["_law_many", "_law_thing"] (spLPoints K)
  Z : SaidF P w K mg base CS CC CP fw g fdg k
  cW : CalX P w K mg base "is_way" k ["chart", "starts", "goals", "thing"] (spOr (spWay K PT wayD) (spBad4 K PT CC CP))
  cB : CalX P w K mg base "is_bar" k ["chart", "starts", "goals", "thing"] (spOr (spWay K PT barD) (spBad4 K PT CC CP))
  cP : CalX P w K mg base "paper" k ["chart", "starts", "goals"] (spOr (spPaper K PT) (spBad3 K PT CC CP))
  cI : CalX P w K mg base "is_ring" k ["chart", "thing"] (spOr (spIs K PT ringD) (spBad2 K PT CC))
  cA : CalX P w K mg base "are_ranks" k ["chart", "thing"] (spOr (spIs K PT ranksD) (spBad2 K PT CC))
  cR : CalX P w K mg base "rounds" k ["chart"] (spOr (spRounds K PT) (spBad1 K PT CC))
abbrev rT (K : PySem.W.Frag) : TT := tOr (tTest (tOp rNe (tCB (rIsi K) (tCons (tVar 8) (tCons (tC (.ty "list")) tNil))) (tOp (fun x y H Q => y = .non ∧ Q (.bl (decide (x = .non))) H) (tVar 5) (tC .non)))) (tAnd (tTest (tOp (fun x y H Q => y = .non ∧ Q (.bl (!decide (x = .non))) H) (tVar 5) (tC .non))) (tTest (tOp (rNeD K) (tVar 8) (tVar 5))))
/-- what is said -/
def SaidIs (H : Hp) (p : Addr) : Option Nat → Prop
  | none => ∃ v, H p = some (.lst [v])
  | some j => H p = some (.tup [.str (wordOf j)])
theorem kitL : PySem.W.kitOne K (.type "list") (.type "list") = some true := kit_ty (show kitB "list" "list" = some true by decide +kernel)
theorem kitLT : PySem.W.kitOne K (.type "tuple") (.type "list") = some false := kit_ty (show kitB "tuple" "list" = some false by decide +kernel)
theorem word_shaped {j : Nat} (h : j = 0 ∨ j = 1) : SeqAt.shaped (.tuple [.str (wordOf j)]) = true ∧ PyData.eqv (.tuple [.str (wordOf j)]) (.tuple [.str (wordOf j)]) = true := by
  rcases h with rfl | rfl <;> exact ⟨by decide +kernel, by decide +kernel⟩
theorem rT_no {σ : L2.St} {H : Hp} {R : Bool → Hp → Prop} {p : Addr} {dv : V} {o : Option Nat} (h8 : σ[8]? = some (some (.ref p))) (h5 : σ[5]? = some (some dv)) (sd : SaidIs H p o) (hd : Dp K H dv (dueD o)) (ok : DueOk o) (r : R false H) : rT K σ H R := by
  cases o with
  | none =>
    obtain ⟨v, hp⟩ := sd
    cases hd
    exact ⟨_, h8, .ref p, _, _, _, _, rfl, .ty "list", ty_lst (SqL.of hp), kitL, _, h5, rfl, rfl, _, rfl, ifF rfl ⟨_, h5, rfl, _, rfl, ifF rfl r⟩⟩
  | some j =>
    have hj : j = 0 ∨ j = 1 := by
      rcases ok with h | h | h <;> cases h
      · exact .inl rfl
      · exact .inr rfl
    obtain ⟨ws, we⟩ := word_shaped hj
    have hp : H p = some (.tup [.str (wordOf j)]) := sd
    cases hd with
    | @tup b ys _ at_ each =>
      have hdd : Dp K H (.ref b) (.tuple [.str (wordOf j)]) := .tup at_ each
      refine ⟨_, h8, .ref p, _, _, _, _, rfl, .ty "list", ty_tup (SqT.of hp), kitLT, _, h5, rfl, rfl, _, rfl, ifF rfl ⟨_, h5, rfl, _, rfl, ifT rfl ⟨_, h8, _, h5, .tuple [.str (wordOf j)], .tuple [.str (wordOf j)], .tup (SqT.of hp) (.cons (.str _) .nil), hdd, ws, ws, _, rfl, ?_⟩⟩⟩
      rw [we]
      exact r
/-- what a reading says -/
def SayT (K : PySem.W.Frag) (PT : TbP) (CC CP : Addr) (x y z t : V) (dx dy dz dt : PyData) (o : Option Nat) (tl : XK → TE) : Prop := ∀ (σ : L2.St) (G : Hp) (Q : VK), σ[0]? = some (some x) → σ[1]? = some (some y) → σ[2]? = some (some z) → σ[3]? = some (some t) → Four K PT G x y z t dx dy dz dt →
  (∀ p G', ExtN G G' → TabsG PT G' → SaidIs G' p o → Q (.ref p) G') → tl (Ech CC CP Q) σ G fun v H1 => [v].length ≤ sizeLine ∧ ∀ p, H1 p = none → Q (.ref p) (upd H1 p (.lst [v]))
abbrev tLoop (X : Cx) (k : Nat) (K : PySem.W.Frag) (CC CP : Addr) : L2.TS := tFor (iList K (tVar 6)) (gName 7) (tSeq (tAsg (tLamV X k (TTsaid CC CP) (tVar 7)) (gName 8)) (tIfS (rT K) (tRet (tC (.bl false))) tNext))
theorem loop3 {X : Cx} {k : Nat} {D : Ends} {G : Hp} {x y z t kp dv : V} {dx dy dz dt : PyData} {o : Option Nat} {L : Addr} {o7 o8 : Option V} {fs : List (Addr × Addr × (XK → TE))} (four : Four K PT G x y z t dx dy dz dt) (hL : G L = some (.lst (fs.map fun q => V.ref q.1))) (lam : ∀ q ∈ fs, LamHas X k G q.1 q.2.1 q.2.2 ∧ SayT K PT CC CP x y z t dx dy dz dt o q.2.2)
    (due : Dp K G dv (dueD o)) (ok : DueOk o) (nx : ∀ o7 o8 G', ExtN G G' → TabsG PT G' → D.nx [some x, some y, some z, some t, some kp, some dv, some (.ref L), o7, o8] G') : tLoop X k K CC CP D [some x, some y, some z, some t, some kp, some dv, some (.ref L), o7, o8] G := by
  refine ⟨_, rfl, L, rfl, ⟨_, SqL.of hL⟩, ?_⟩
  refine for_list (xs := fs.map fun q => V.ref q.1) (fun i σ G' => ∃ o7 o8, σ = [some x, some y, some z, some t, some kp, some dv, some (.ref L), o7, o8] ∧ ExtN G G' ∧ TabsG PT G') ⟨_, _, rfl, ExtN.refl _, four.tb⟩ (fun i σ G' _ h => by obtain ⟨_, _, _, e, _⟩ := h; exact SqL.of (ext_lst e hL)) (fun i v σ G' hv h => ?_) (fun σ G' h => ?_)
  · obtain ⟨o7, o8, rfl, e, tb⟩ := h
    obtain ⟨q, hq, rfl⟩ := List.mem_map.mp (List.mem_of_getElem? hv)
    obtain ⟨lh, say⟩ := lam q hq
    have four' := four.ext e tb
    refine ⟨_, rfl, q.1, q.2.1, q.2.2, rfl, lh.ext e, lh.ext e, say _ G' _ rfl rfl rfl rfl four' fun p G2 e2 t2 sd => ?_⟩
    exact rT_no (o := o) rfl rfl sd (dp_ext (e.trans e2) _ _ due) ok (ifF rfl ⟨_, _, rfl, e.trans e2, t2⟩)
  · obtain ⟨o7, o8, rfl, e, tb⟩ := h
    exact nx _ _ _ e tb
/-! what the six say -/
theorem say_good {Q : VK} {G H1 : Hp} {v : V} (q : ∀ p G', ExtN G G' → TabsG PT G' → SaidIs G' p none → Q (.ref p) G') (e : ExtN G H1) (tb : TabsG PT H1) : [v].length ≤ sizeLine ∧ ∀ p, H1 p = none → Q (.ref p) (upd H1 p (.lst [v])) :=
  ⟨small (by show 1 ≤ 1000; decide), fun p hp => q p _ (e.trans (ext_same (same_new hp _))) (tb.same (same_new hp _)) ⟨v, upd_same⟩⟩
theorem say_bad0 {Q : VK} {G H1 : Hp} (q : ∀ p G', ExtN G G' → TabsG PT G' → SaidIs G' p (some 0) → Q (.ref p) G') (e : ExtN G H1) (tb : TabsG PT H1) : Ech CC CP Q (.ref CC) none H1 := .inl ⟨rfl, rfl, fun p G' s hp => q p G' (e.trans (ext_same s)) (tb.same s) hp⟩
theorem say_bad1 {Q : VK} {G H1 : Hp} (q : ∀ p G', ExtN G G' → TabsG PT G' → SaidIs G' p (some 1) → Q (.ref p) G') (e : ExtN G H1) (tb : TabsG PT H1) : Ech CC CP Q (.ref CP) none H1 := .inr ⟨rfl, rfl, fun p G' s hp => q p G' (e.trans (ext_same s)) (tb.same s) hp⟩
theorem bd_tup {c wd : Nat} {ds : List PyData} (h : Bd c wd (.tuple ds)) : ds.length ≤ wd ∧ ∀ z ∈ ds, Bd c wd z := by
  cases h with
  | tup l e => exact ⟨l, e⟩
theorem pts_row {n : Int} {d : PyData} (h : pointsD n d = true) : ∃ ss : List Int, d = .tuple (ss.map .int) ∧ ss.Pairwise (· < ·) ∧ ∀ i ∈ ss, 0 ≤ i ∧ i < n := by
  cases d with
  | tuple es =>
    obtain ⟨e, _⟩ := pts_ints h
    rw [e] at h
    exact ⟨es.map toI, by rw [← e], (pts_law _ 0).mp h⟩
  | _ => cases h
theorem chart_rows : ∀ {ds : List PyData} {n : Nat}, ds.all (pointsD n) = true → ∃ rows : List (List Int), ds = rows.map (fun ns => .tuple (ns.map .int)) ∧ ∀ ns ∈ rows, ns.Pairwise (· < ·) ∧ ∀ i ∈ ns, 0 ≤ i ∧ i < (n : Int)
  | [], n, _ => ⟨[], rfl, fun ns h => by cases h⟩
  | d :: ds, n, h => by
    rw [List.all_cons, Bool.and_eq_true] at h
    obtain ⟨rows, rfl, r⟩ := chart_rows h.2
    obtain ⟨ss, rfl, s⟩ := pts_row h.1
    exact ⟨ss :: rows, rfl, fun ns hn => by
      rcases List.mem_cons.mp hn with rfl | hn
      · exact s
      · exact r ns hn⟩
theorem chart_is {d : PyData} {cc : Nat} (hb : Bd cc 20 d) (h : chartD d = true) : ∃ rows : List (List Int), d = chD rows ∧ RwOk rows ∧ (∀ ns ∈ rows, ns.Pairwise (· < ·)) ∧ chartD (chD rows) = true := by
  cases d with
  | tuple ds =>
    have l := (bd_tup hb).1
    obtain ⟨rows, rfl, r⟩ := chart_rows (show ds.all (pointsD ds.length) = true from h)
    rw [List.length_map] at l r
    exact ⟨rows, rfl, ⟨by omega, fun ns hn => ⟨nodup_len _ _ ((r ns hn).1.imp fun h e => by omega) (r ns hn).2, (r ns hn).2⟩⟩, fun ns hn => (r ns hn).1, h⟩
  | _ => cases h
theorem due1_cases {dx dy dz : PyData} {cc : Nat} (hb : Bd cc 20 dx) : (due1 dx dy dz = some 0 ∧ chartD dx = false) ∨ (due1 dx dy dz = some 1 ∧ ∃ ds, dx = .tuple ds ∧ chartD dx = true ∧ (pointsD ds.length dy && pointsD ds.length dz) = false) ∨ (due1 dx dy dz = none ∧ chartD dx = true ∧ ∃ (rows : List (List Int)) (ss gs : List Int), dx = chD rows ∧ RwOk rows ∧ (∀ ns ∈ rows, ns.Pairwise (· < ·)) ∧ chartD (chD rows) = true ∧ dy = .tuple (ss.map .int) ∧ pointsD rows.length (.tuple (ss.map .int)) = true ∧ dz = .tuple (gs.map .int) ∧ pointsD rows.length (.tuple (gs.map .int)) = true) := by
  cases h : chartD dx with
  | false =>
    refine .inl ⟨?_, rfl⟩
    cases dx with
    | tuple ds => show (if chartD (.tuple ds) = true then _ else _) = _; rw [h]; rfl
    | _ => rfl
  | true =>
    obtain ⟨rows, rfl, rw', srt, cd⟩ := chart_is hb h
    have e1 : due1 (chD rows) dy dz = if (pointsD rows.length dy && pointsD rows.length dz) = true then none else some 1 := by
      show (if chartD (chD rows) = true then (if (pointsD ((rows.map fun ns => PyData.tuple (ns.map .int)).length : Nat) dy && pointsD ((rows.map fun ns => PyData.tuple (ns.map .int)).length : Nat) dz) = true then none else some 1) else some 0) = _
      rw [if_pos cd, List.length_map]
    cases hp : (pointsD rows.length dy && pointsD rows.length dz) with
    | false =>
      refine .inr (.inl ⟨by rw [e1, hp]; rfl, _, rfl, rfl, ?_⟩)
      rw [List.length_map]
      exact hp
    | true =>
      rw [Bool.and_eq_true] at hp
      obtain ⟨ss, rfl, _⟩ := pts_row hp.1
      obtain ⟨gs, rfl, _⟩ := pts_row hp.2
      exact .inr (.inr ⟨by rw [e1, hp.1, hp.2]; rfl, rfl, rows, ss, gs, rfl, rw', srt, cd, rfl, hp.1, rfl, hp.2⟩)
theorem badC_of {G : Hp} {x y z t : V} {dx dy dz dt : PyData} {Q : VK} {cc : Nat} {o : Option Nat} (hb : Bd cc 20 dx) (four : Four K PT G x y z t dx dy dz dt) (q : ∀ p G', ExtN G G' → TabsG PT G' → SaidIs G' p (due1 dx dy dz) → Q (.ref p) G') (no : due1 dx dy dz ≠ none) : BadC K PT CC CP G x y z (Ech CC CP Q) := by
  rcases due1_cases (dy := dy) (dz := dz) hb with ⟨e, h⟩ | ⟨e, ds, rfl, h1, h2⟩ | ⟨e, _⟩
  · rw [e] at q
    exact .inl ⟨dx, four.x, h, four.tb, fun H' e t' => say_bad0 q e t'⟩
  · rw [e] at q
    exact .inr ⟨ds, dy, dz, four.x, four.y, four.z, h1, h2, four.tb, fun H' e t' => say_bad1 q e t'⟩
  · exact absurd e no
theorem say_way (fn : List (List Int) → List Int → List Int → PyData → Bool) {x y z t : V} {dx dy dz dt : PyData} (fb : FourB dx dy dz dt) : SayT K PT CC CP x y z t dx dy dz dt (due1 dx dy dz) (fun E => tCall (spOr (spWay K PT fn) (spBad4 K PT CC CP)) [] E (tCons (tVar 0) (tCons (tVar 1) (tCons (tVar 2) (tCons (tVar 3) tNil))))) := by
  intro σ G Q h0 h1 h2 h3 four q
  by_cases no : due1 dx dy dz = none
  · rcases due1_cases (dy := dy) (dz := dz) fb.x with ⟨e, h⟩ | ⟨e, _⟩ | ⟨_, _, rows, ss, gs, rfl, rw', srt, cd, rfl, sd, rfl, gd⟩
    · rw [e] at no; cases no
    · rw [e] at no; cases no
    · rw [no] at q
      refine ⟨_, h0, _, h1, _, h2, _, h3, .inl ⟨x, y, z, t, rows, ss, gs, dt, rfl, ⟨four.x, rw', cd, four.y, sd, four.z, gd, four.t, fun es e => ?_, ?_, ?_⟩, four.tb, fun H' e t' => say_good q e t'⟩⟩
      · subst e
        have := (bd_tup fb.t).1
        omega
      · have := (bd_tup fb.y).1
        rw [List.length_map] at this
        omega
      · have := (bd_tup fb.z).1
        rw [List.length_map] at this
        omega
  · exact ⟨_, h0, _, h1, _, h2, _, h3, .inr ⟨x, y, z, t, rfl, badC_of (o := none) fb.x four q no⟩⟩
theorem say_paper {x y z t : V} {dx dy dz dt : PyData} (fb : FourB dx dy dz dt) : SayT K PT CC CP x y z t dx dy dz dt (due1 dx dy dz) (fun E => tCall (spOr (spPaper K PT) (spBad3 K PT CC CP)) [] E (tCons (tVar 0) (tCons (tVar 1) (tCons (tVar 2) tNil)))) := by
  intro σ G Q h0 h1 h2 h3 four q
  by_cases no : due1 dx dy dz = none
  · rcases due1_cases (dy := dy) (dz := dz) fb.x with ⟨e, h⟩ | ⟨e, _⟩ | ⟨_, _, rows, ss, gs, rfl, rw', srt, cd, rfl, sd, rfl, gd⟩
    · rw [e] at no; cases no
    · rw [e] at no; cases no
    · rw [no] at q
      exact ⟨_, h0, _, h1, _, h2, .inl ⟨x, y, z, rows, ss, gs, rfl, ⟨four.x, rw', srt, cd, four.y, sd, four.z, gd⟩, four.tb, fun v d H' e t' _ _ => say_good q e t'⟩⟩
  · exact ⟨_, h0, _, h1, _, h2, .inr ⟨x, y, z, rfl, badC_of (o := none) fb.x four q no⟩⟩
theorem due2_cases {dx : PyData} {cc : Nat} (hb : Bd cc 20 dx) : (due2 dx = some 0 ∧ chartD dx = false) ∨ (due2 dx = none ∧ ∃ rows : List (List Int), dx = chD rows ∧ RwOk rows ∧ (∀ ns ∈ rows, ns.Pairwise (· < ·)) ∧ chartD (chD rows) = true) := by
  unfold due2
  cases h : chartD dx with
  | false => exact .inl ⟨rfl, rfl⟩
  | true => exact .inr ⟨rfl, chart_is hb h⟩
theorem say_is (fn : List (List Int) → PyData → Bool) {x y z t : V} {dx dy dz dt : PyData} (fb : FourB dx dy dz dt) : SayT K PT CC CP x y z t dx dy dz dt (due2 dx) (fun E => tCall (spOr (spIs K PT fn) (spBad2 K PT CC)) [] E (tCons (tVar 0) (tCons (tVar 3) tNil))) := by
  intro σ G Q h0 h1 h2 h3 four q
  rcases due2_cases fb.x with ⟨e, h⟩ | ⟨e, rows, rfl, rw', srt, cd⟩
  · rw [e] at q
    exact ⟨_, h0, _, h3, .inr ⟨x, t, rfl, dx, four.x, h, four.tb, fun H' e t' => say_bad0 q e t'⟩⟩
  · rw [e] at q
    refine ⟨_, h0, _, h3, .inl ⟨x, t, rows, dt, rfl, ⟨four.x, rw', srt, cd⟩, four.t, fun es e => ?_, four.tb, fun H' e t' => say_good q e t'⟩⟩
    subst e
    have := (bd_tup fb.t).1
    omega
theorem say_rounds {x y z t : V} {dx dy dz dt : PyData} (fb : FourB dx dy dz dt) : SayT K PT CC CP x y z t dx dy dz dt (due2 dx) (fun E => tCall (spOr (spRounds K PT) (spBad1 K PT CC)) [] E (tCons (tVar 0) tNil)) := by
  intro σ G Q h0 h1 h2 h3 four q
  rcases due2_cases fb.x with ⟨e, h⟩ | ⟨e, rows, rfl, rw', srt, cd⟩
  · rw [e] at q
    exact ⟨_, h0, .inr ⟨x, rfl, dx, four.x, h, four.tb, fun H' e t' => say_bad0 q e t'⟩⟩
  · rw [e] at q
    exact ⟨_, h0, .inl ⟨x, rows, rfl, ⟨four.x, rw', srt, cd⟩, four.tb, fun v d H' e t' _ _ => say_good q e t'⟩⟩
theorem LamHas.updL {X : Cx} {k : Nat} {H : Hp} {f c' L : Addr} {o : HO} {t : XK → TE} (h : LamHas X k H f c' t) (hL : ∀ φ, H L ≠ some (.ext φ)) : LamHas X k (upd H L o) f c' t := by
  obtain ⟨pa, bo, sc, h1, h2, r⟩ := h
  exact ⟨pa, bo, sc, by rw [upd_ne (fun e => hL _ (by rw [← e]; exact h1))]; exact h1, by rw [upd_ne (fun e => hL _ (by rw [← e]; exact h2))]; exact h2, r⟩
def tTail (K : PySem.W.Frag) (PT : TbP) (o : Option Nat) (x y z t : V) (dx dy dz dt : PyData) : L2.TS := fun D σ G => ∃ (dv : V) (o6 o7 o8 : Option V), σ = [some x, some y, some z, some t, some (.str (PyData.tuple [dx, dy, dz, dt]).shown), some dv, o6, o7, o8] ∧ Four K PT G x y z t dx dy dz dt ∧ Dp K G dv (dueD o) ∧ ∀ G', ExtN G G' → TabsG PT G' → D.rt (.bl true) G'
theorem due1_ok {dx dy dz dt : PyData} (fb : FourB dx dy dz dt) : DueOk (due1 dx dy dz) := by
  rcases due1_cases (dy := dy) (dz := dz) fb.x with ⟨e, _⟩ | ⟨e, _⟩ | ⟨e, _⟩ <;> rw [e]
  · exact .inr (.inl rfl)
  · exact .inr (.inr rfl)
  · exact .inl rfl
theorem due2_ok {dx dy dz dt : PyData} (fb : FourB dx dy dz dt) : DueOk (due2 dx) := by
  rcases due2_cases fb.x with ⟨e, _⟩ | ⟨e, _⟩ <;> rw [e]
  · exact .inr (.inl rfl)
  · exact .inl rfl
/-- a lambda made -/
theorem made {G H1 : Hp} {f : Addr} {q : Str} {o : HO} (tb : TabsG PT G) (hm : (Pt, q) ∈ PT.t) (e1 : ExtN G H1) (t1 : Tabs PT.t H1) (oth : ∀ b ps, b ≠ Pt → G b = some (.tbl ps) → H1 b = some (.tbl ps)) (hf : H1 f = none) : ExtN G (upd H1 f o) ∧ TabsG PT (upd H1 f o) :=
  ⟨e1.trans (ext_same (same_new hf _)), (tb.mk' hm t1 oth).same (same_new hf _)⟩
set_option maxHeartbeats 0 in
theorem ok_right {k : Nat} (F : Fun K "_law_right" "_law_right" sRight f fd) (hc : fd.code = .ref c) (T : Free mg) (sys : SysB base) (TB : LamX.TabB base mg c Pt) (hmT : (Pt, ("_law_right" : Str) ++ ".<locals>." ++ "<lambda>") ∈ PT.t) (hu : ∀ p ∈ PT.t, p.1 = Pt → p.2 = ("_law_right" : Str) ++ ".<locals>." ++ "<lambda>") (N : Rights P w K mg base PT CS CC CP fw g fdg k) :
    FnG P w K mg base (k + 3) f fd ["_law_chart_here", "_law_starts", "_law_goals", "_law_thing"] (spRight K PT) := by
  refine okG F scRight (fun vs H Q h => ?_) (fun cdv A outer s H vs Q ec guard hr h => ?_)
  · obtain ⟨x, y, z, t, dx, dy, dz, dt, rfl, _⟩ := h
    rfl
  rw [hc] at ec
  subst ec
  obtain ⟨x, y, z, t, dx, dy, dz, dt, rfl, fo, fb, q⟩ := h
  have hgd : (A.deeper (envOfC "_law_right" (defScope sRight) s.heap.objs.size f (.ref c))).guards = some [] := guard
  have hun : (A.deeper (envOfC "_law_right" (defScope sRight) s.heap.objs.size f (.ref c))).units + 80 < cLine := by
    have := hr.un
    omega
  refine ⟨_, pss_cons (ps_par (i := 4) (j := 5) rfl scRight.nd rfl rfl (by decide) rfl rfl (pa_cons (pe_callB (call_reprA sys hgd hun) rfl T.repr (by decide +kernel) (pa_cons (pe_tup (pa_cons (pv 0) (pa_cons (pv 1) (pa_cons (pv 2) (pa_cons (pv 3) pa_nil))))) pa_nil)) (pa_cons pe_non pa_nil)) rfl)
    (pss_cons (ps_if (pt_not (pt_val (pe_cal N.cL hr rfl (pa_cons (pv 0) pa_nil)))) (pss_one (ps_set (i := 5) scRight.nd rfl (.inl rfl) (pe_tup (pa_cons pe_str pa_nil))))
      (pss_one (ps_if (PW.pt (pw_or (pt_not (pt_val (pe_cal N.cQ hr rfl (pa_cons (pe_callB call_len_seq rfl T.len PySem.boot_len (pa_cons (pv 0) pa_nil)) (pa_cons (pv 1) pa_nil))))) (pw_or1 (pt_not (pt_val (pe_cal N.cQ hr rfl (pa_cons (pe_callB call_len_seq rfl T.len PySem.boot_len (pa_cons (pv 0) pa_nil)) (pa_cons (pv 2) pa_nil))))))))
        (pss_one (ps_set (i := 5) scRight.nd rfl (.inl rfl) (pe_tup (pa_cons pe_str pa_nil)))) pss_nil)))
    (pss_imp (t' := tTail K PT (due1 dx dy dz) x y z t dx dy dz dt) (pss_cons (ps_set (i := 6) scRight.nd rfl (.inl rfl) (pe_lst (pa_cons (pe_lamH (k := k) (t := fun E => tCall (spOr (spWay K PT wayD) (spBad4 K PT CC CP)) [] E (tCons (tVar 0) (tCons (tVar 1) (tCons (tVar 2) (tCons (tVar 3) tNil))))) TB rfl hmT hu (lamS_by (sc := defScope sRight) (by decide +kernel)) rfl (fun _ _ _ _ _ => rfl) (fun A outer s H E f c' hr2 => pe_calX (E := E) N.cW hr2 rfl (takes_of rfl rfl rfl rfl) (pa_cons (pv 0) (pa_cons (pv 1) (pa_cons (pv 2) (pa_cons (pv 3) pa_nil)))))) pa_nil)))
    (pss_cons (ps_expr (pe_bm PySem.F.plainAttrs_list PySem.F.slot_list_append PySem.F.type_list_append mt_append (pv 6) (pa_cons (pe_lamH (k := k) (t := fun E => tCall (spOr (spWay K PT barD) (spBad4 K PT CC CP)) [] E (tCons (tVar 0) (tCons (tVar 1) (tCons (tVar 2) (tCons (tVar 3) tNil))))) TB rfl hmT hu (lamS_by (sc := defScope sRight) (by decide +kernel)) rfl (fun _ _ _ _ _ => rfl) (fun A outer s H E f c' hr2 => pe_calX (E := E) N.cB hr2 rfl (takes_of rfl rfl rfl rfl) (pa_cons (pv 0) (pa_cons (pv 1) (pa_cons (pv 2) (pa_cons (pv 3) pa_nil)))))) pa_nil)))
    (pss_cons (ps_expr (pe_bm PySem.F.plainAttrs_list PySem.F.slot_list_append PySem.F.type_list_append mt_append (pv 6) (pa_cons (pe_lamH (k := k) (t := fun E => tCall (spOr (spPaper K PT) (spBad3 K PT CC CP)) [] E (tCons (tVar 0) (tCons (tVar 1) (tCons (tVar 2) tNil)))) TB rfl hmT hu (lamS_by (sc := defScope sRight) (by decide +kernel)) rfl (fun _ _ _ _ _ => rfl) (fun A outer s H E f c' hr2 => pe_calX (E := E) N.cP hr2 rfl (takes_of rfl rfl rfl rfl) (pa_cons (pv 0) (pa_cons (pv 1) (pa_cons (pv 2) pa_nil))))) pa_nil)))
    (pss_cons (ps_for PassesOwn.never rfl (pi_list (pv 6)) (pg_name (i := 7) scRight.nd rfl (.inl rfl))
      (pss_cons (ps_set (i := 8) scRight.nd rfl (.inl rfl) (pe_saidV N.Z hr rfl (pv 7)))
      (pss_one (ps_if (PW.pt (pw_or (pt_cmpR op_ne (pe_callB call_isi rfl T.isi (by decide +kernel) (pa_cons (pv 8) (pa_cons (pe_bltn (v := .ty "list") rfl T.list (by decide +kernel) rfl) pa_nil))) (pe_cmpR op_isN (pv 5) pe_non (nomark _)) (nomark _)) (pw_or1 (PW.pt (pw_and (pt_cmpR op_notN (pv 5) pe_non (nomark _)) (pw_and1 (pt_cmpR (op_neD hr.units) (pv 8) (pv 5) (nomark _)))))))) (pss_one (ps_ret pe_bl)) pss_nil))))
    (pss_cons (ps_set (i := 5) scRight.nd rfl (.inl rfl) (pe_ifExp (pt_cmpR (op_eqO hr.units) (pv 5) (pe_tup (pa_cons pe_str pa_nil)) (nomark _)) pe_non (pv 5)))
    (pss_imp (t' := tTail K PT (due2 dx) x y z t dx dy dz dt) (pss_cons (ps_set (i := 6) scRight.nd rfl (.inl rfl) (pe_lst (pa_cons (pe_lamH (k := k) (t := fun E => tCall (spOr (spIs K PT ringD) (spBad2 K PT CC)) [] E (tCons (tVar 0) (tCons (tVar 3) tNil))) TB rfl hmT hu (lamS_by (sc := defScope sRight) (by decide +kernel)) rfl (fun _ _ _ _ _ => rfl) (fun A outer s H E f c' hr2 => pe_calX (E := E) N.cI hr2 rfl (takes_of rfl rfl rfl rfl) (pa_cons (pv 0) (pa_cons (pv 3) pa_nil)))) pa_nil)))
    (pss_cons (ps_expr (pe_bm PySem.F.plainAttrs_list PySem.F.slot_list_append PySem.F.type_list_append mt_append (pv 6) (pa_cons (pe_lamH (k := k) (t := fun E => tCall (spOr (spIs K PT ranksD) (spBad2 K PT CC)) [] E (tCons (tVar 0) (tCons (tVar 3) tNil))) TB rfl hmT hu (lamS_by (sc := defScope sRight) (by decide +kernel)) rfl (fun _ _ _ _ _ => rfl) (fun A outer s H E f c' hr2 => pe_calX (E := E) N.cA hr2 rfl (takes_of rfl rfl rfl rfl) (pa_cons (pv 0) (pa_cons (pv 3) pa_nil)))) pa_nil)))
    (pss_cons (ps_expr (pe_bm PySem.F.plainAttrs_list PySem.F.slot_list_append PySem.F.type_list_append mt_append (pv 6) (pa_cons (pe_lamH (k := k) (t := fun E => tCall (spOr (spRounds K PT) (spBad1 K PT CC)) [] E (tCons (tVar 0) tNil)) TB rfl hmT hu (lamS_by (sc := defScope sRight) (by decide +kernel)) rfl (fun _ _ _ _ _ => rfl) (fun A outer s H E f c' hr2 => pe_calX (E := E) N.cR hr2 rfl (takes_of rfl rfl rfl rfl) (pa_cons (pv 0) pa_nil))) pa_nil)))
    (pss_cons (ps_for PassesOwn.never rfl (pi_list (pv 6)) (pg_name (i := 7) scRight.nd rfl (.inl rfl))
      (pss_cons (ps_set (i := 8) scRight.nd rfl (.inl rfl) (pe_saidV N.Z hr rfl (pv 7)))
      (pss_one (ps_if (PW.pt (pw_or (pt_cmpR op_ne (pe_callB call_isi rfl T.isi (by decide +kernel) (pa_cons (pv 8) (pa_cons (pe_bltn (v := .ty "list") rfl T.list (by decide +kernel) rfl) pa_nil))) (pe_cmpR op_isN (pv 5) pe_non (nomark _)) (nomark _)) (pw_or1 (PW.pt (pw_and (pt_cmpR op_notN (pv 5) pe_non (nomark _)) (pw_and1 (pt_cmpR (op_neD hr.units) (pv 8) (pv 5) (nomark _)))))))) (pss_one (ps_ret pe_bl)) pss_nil))))
    (pss_one (ps_ret (pe_cmpR op_eq (pe_callB (call_reprA sys hgd hun) rfl T.repr (by decide +kernel) (pa_cons (pe_tup (pa_cons (pv 0) (pa_cons (pv 1) (pa_cons (pv 2) (pa_cons (pv 3) pa_nil))))) pa_nil)) (pv 4) (nomark _)))))))) ?tail2)))))) ?tail)), ?main⟩
  case tail2 =>
    rintro D σ G ⟨dv, o6, o7, o8, rfl, four, due, q⟩
    refine ⟨four.tb.2, fun f1 c1 H1 O1 e1 t1 ot1 hf1 lh1 => ⟨small (by show 1 ≤ 1000; decide), fun L fL => ?_⟩⟩
    obtain ⟨x1, tb1⟩ := made (o := O1) four.tb hmT e1 t1 ot1 hf1
    have nL1 := same_new fL (.lst [V.ref f1])
    have lh1 := lh1.ext (ext_same nL1)
    have xA := x1.trans (ext_same nL1)
    have tbA := tb1.same nL1
    have GL := ext_none x1 fL
    have hLA : (upd _ L (.lst [V.ref f1])) L = some (.lst [V.ref f1]) := upd_same (H := upd H1 f1 O1) (a := L) (o := .lst [V.ref f1])
    generalize upd _ L (.lst [V.ref f1]) = GA at lh1 xA tbA hLA
    clear nL1 tb1 x1 fL e1 t1 ot1 hf1
    refine ⟨_, rfl, .inl ⟨rfl, _, SqL.of hLA⟩, tbA.2, fun f2 c2 H2 O2 e2 t2 ot2 hf2 lh2 => ?_⟩
    obtain ⟨x2, tb2⟩ := made (o := O2) tbA hmT e2 t2 ot2 hf2
    have hL2 := ext_lst x2 hLA
    refine ⟨L, [V.ref f1], .ref f2, rfl, rfl, hL2, Nat.lt_of_lt_of_le (show 1 < 1000 by decide) (small (Nat.le_refl _)), ?_⟩
    have noE2 : ∀ φ, (upd H2 f2 O2) L ≠ some (.ext φ) := fun φ z => by rw [hL2] at z; cases z
    have lh1 := (lh1.ext x2).updL (o := .lst ([V.ref f1] ++ [V.ref f2])) noE2
    have lh2 := lh2.updL (o := .lst ([V.ref f1] ++ [V.ref f2])) noE2
    have xB := ext_upd (o := .lst ([V.ref f1] ++ [V.ref f2])) (xA.trans x2) GL
    have tbB := tabs_updD (o := .lst ([V.ref f1] ++ [V.ref f2])) tb2 (fun ps z => by rw [hL2] at z; cases z) noE2
    have hLB : (upd _ L (.lst ([V.ref f1] ++ [V.ref f2]))) L = some (.lst ([V.ref f1] ++ [V.ref f2])) := upd_same (H := upd H2 f2 O2) (a := L) (o := .lst ([V.ref f1] ++ [V.ref f2]))
    generalize upd _ L (.lst ([V.ref f1] ++ [V.ref f2])) = GB at lh1 lh2 xB tbB hLB ⊢
    refine ⟨_, rfl, .inl ⟨rfl, _, SqL.of hLB⟩, tbB.2, fun f3 c3 H3 O3 e3 t3 ot3 hf3 lh3 => ?_⟩
    obtain ⟨x3, tb3⟩ := made (o := O3) tbB hmT e3 t3 ot3 hf3
    have hL3 := ext_lst x3 hLB
    refine ⟨L, [V.ref f1, V.ref f2], .ref f3, rfl, rfl, hL3, Nat.lt_of_lt_of_le (show 2 < 1000 by decide) (small (Nat.le_refl _)), ?_⟩
    have noE3 : ∀ φ, (upd H3 f3 O3) L ≠ some (.ext φ) := fun φ z => by rw [hL3] at z; cases z
    have lh1 := (lh1.ext x3).updL (o := .lst ([V.ref f1, V.ref f2] ++ [V.ref f3])) noE3
    have lh2 := (lh2.ext x3).updL (o := .lst ([V.ref f1, V.ref f2] ++ [V.ref f3])) noE3
    have lh3 := lh3.updL (o := .lst ([V.ref f1, V.ref f2] ++ [V.ref f3])) noE3
    have xC := ext_upd (o := .lst ([V.ref f1, V.ref f2] ++ [V.ref f3])) (xB.trans x3) GL
    have tbC := tabs_updD (o := .lst ([V.ref f1, V.ref f2] ++ [V.ref f3])) tb3 (fun ps z => by rw [hL3] at z; cases z) noE3
    have hLC : (upd _ L (.lst ([V.ref f1, V.ref f2] ++ [V.ref f3]))) L = some (.lst ([V.ref f1, V.ref f2] ++ [V.ref f3])) := upd_same (H := upd H3 f3 O3) (a := L) (o := .lst ([V.ref f1, V.ref f2] ++ [V.ref f3]))
    generalize upd _ L (.lst ([V.ref f1, V.ref f2] ++ [V.ref f3])) = GC at lh1 lh2 lh3 xC tbC hLC ⊢
    refine loop3 (fs := [(f1, c1, fun E => tCall (spOr (spIs K PT ringD) (spBad2 K PT CC)) [] E (tCons (tVar 0) (tCons (tVar 3) tNil))), (f2, c2, fun E => tCall (spOr (spIs K PT ranksD) (spBad2 K PT CC)) [] E (tCons (tVar 0) (tCons (tVar 3) tNil))), (f3, c3, fun E => tCall (spOr (spRounds K PT) (spBad1 K PT CC)) [] E (tCons (tVar 0) tNil))]) (o := due2 dx) (four.ext xC tbC) hLC (fun p hp => ?_) (dp_ext xC _ _ due) (due2_ok fb) (fun o7 o8 G4 x4 tb4 => ?_)
    · simp only [List.mem_cons, List.not_mem_nil, or_false] at hp
      rcases hp with rfl | rfl | rfl
      · exact ⟨lh1, say_is ringD fb⟩
      · exact ⟨lh2, say_is ranksD fb⟩
      · exact ⟨lh3, say_rounds fb⟩
    · have four4 := four.ext (xC.trans x4) tb4
      refine ⟨_, rfl, _, rfl, _, rfl, _, rfl, small (by show 4 ≤ 1000; decide), fun p9 f9 => ?_⟩
      have n9 := same_new f9 (.tup [x, y, z, t])
      have four9 := four4.ext (ext_same n9) (tb4.same n9)
      refine ⟨.ref p9, .tuple [dx, dy, dz, dt], rfl, .tup (SqT.of upd_same) (.cons four9.x (.cons four9.y (.cons four9.z (.cons four9.t .nil)))), fb.shw, fb.dep, fb.len, _, rfl, rfl, ?_⟩
      have ee : V.bl (decide (V.str (PyData.tuple [dx, dy, dz, dt]).shown = V.str (PyData.tuple [dx, dy, dz, dt]).shown)) = V.bl true := congrArg V.bl (decide_eq_true rfl)
      rw [ee]
      exact q _ ((xC.trans x4).trans (ext_same n9)) (tb4.same n9)
  case tail =>
    rintro D σ G ⟨dv, o6, o7, o8, rfl, four, due, q⟩
    refine ⟨four.tb.2, fun f1 c1 H1 O1 e1 t1 ot1 hf1 lh1 => ⟨small (by show 1 ≤ 1000; decide), fun L fL => ?_⟩⟩
    obtain ⟨x1, tb1⟩ := made (o := O1) four.tb hmT e1 t1 ot1 hf1
    have nL1 := same_new fL (.lst [V.ref f1])
    have lh1 := lh1.ext (ext_same nL1)
    have xA := x1.trans (ext_same nL1)
    have tbA := tb1.same nL1
    have GL := ext_none x1 fL
    have hLA : (upd _ L (.lst [V.ref f1])) L = some (.lst [V.ref f1]) := upd_same (H := upd H1 f1 O1) (a := L) (o := .lst [V.ref f1])
    generalize upd _ L (.lst [V.ref f1]) = GA at lh1 xA tbA hLA
    clear nL1 tb1 x1 fL e1 t1 ot1 hf1
    refine ⟨_, rfl, .inl ⟨rfl, _, SqL.of hLA⟩, tbA.2, fun f2 c2 H2 O2 e2 t2 ot2 hf2 lh2 => ?_⟩
    obtain ⟨x2, tb2⟩ := made (o := O2) tbA hmT e2 t2 ot2 hf2
    have hL2 := ext_lst x2 hLA
    refine ⟨L, [V.ref f1], .ref f2, rfl, rfl, hL2, Nat.lt_of_lt_of_le (show 1 < 1000 by decide) (small (Nat.le_refl _)), ?_⟩
    have noE2 : ∀ φ, (upd H2 f2 O2) L ≠ some (.ext φ) := fun φ z => by rw [hL2] at z; cases z
    have lh1 := (lh1.ext x2).updL (o := .lst ([V.ref f1] ++ [V.ref f2])) noE2
    have lh2 := lh2.updL (o := .lst ([V.ref f1] ++ [V.ref f2])) noE2
    have xB := ext_upd (o := .lst ([V.ref f1] ++ [V.ref f2])) (xA.trans x2) GL
    have tbB := tabs_updD (o := .lst ([V.ref f1] ++ [V.ref f2])) tb2 (fun ps z => by rw [hL2] at z; cases z) noE2
    have hLB : (upd _ L (.lst ([V.ref f1] ++ [V.ref f2]))) L = some (.lst ([V.ref f1] ++ [V.ref f2])) := upd_same (H := upd H2 f2 O2) (a := L) (o := .lst ([V.ref f1] ++ [V.ref f2]))
    generalize upd _ L (.lst ([V.ref f1] ++ [V.ref f2])) = GB at lh1 lh2 xB tbB hLB ⊢
    refine ⟨_, rfl, .inl ⟨rfl, _, SqL.of hLB⟩, tbB.2, fun f3 c3 H3 O3 e3 t3 ot3 hf3 lh3 => ?_⟩
    obtain ⟨x3, tb3⟩ := made (o := O3) tbB hmT e3 t3 ot3 hf3
    have hL3 := ext_lst x3 hLB
    refine ⟨L, [V.ref f1, V.ref f2], .ref f3, rfl, rfl, hL3, Nat.lt_of_lt_of_le (show 2 < 1000 by decide) (small (Nat.le_refl _)), ?_⟩
    have noE3 : ∀ φ, (upd H3 f3 O3) L ≠ some (.ext φ) := fun φ z => by rw [hL3] at z; cases z
    have lh1 := (lh1.ext x3).updL (o := .lst ([V.ref f1, V.ref f2] ++ [V.ref f3])) noE3
    have lh2 := (lh2.ext x3).updL (o := .lst ([V.ref f1, V.ref f2] ++ [V.ref f3])) noE3
    have lh3 := lh3.updL (o := .lst ([V.ref f1, V.ref f2] ++ [V.ref f3])) noE3
    have xC := ext_upd (o := .lst ([V.ref f1, V.ref f2] ++ [V.ref f3])) (xB.trans x3) GL
    have tbC := tabs_updD (o := .lst ([V.ref f1, V.ref f2] ++ [V.ref f3])) tb3 (fun ps z => by rw [hL3] at z; cases z) noE3
    have hLC : (upd _ L (.lst ([V.ref f1, V.ref f2] ++ [V.ref f3]))) L = some (.lst ([V.ref f1, V.ref f2] ++ [V.ref f3])) := upd_same (H := upd H3 f3 O3) (a := L) (o := .lst ([V.ref f1, V.ref f2] ++ [V.ref f3]))
    generalize upd _ L (.lst ([V.ref f1, V.ref f2] ++ [V.ref f3])) = GC at lh1 lh2 lh3 xC tbC hLC ⊢
    refine loop3 (fs := [(f1, c1, fun E => tCall (spOr (spWay K PT wayD) (spBad4 K PT CC CP)) [] E (tCons (tVar 0) (tCons (tVar 1) (tCons (tVar 2) (tCons (tVar 3) tNil))))), (f2, c2, fun E => tCall (spOr (spWay K PT barD) (spBad4 K PT CC CP)) [] E (tCons (tVar 0) (tCons (tVar 1) (tCons (tVar 2) (tCons (tVar 3) tNil))))), (f3, c3, fun E => tCall (spOr (spPaper K PT) (spBad3 K PT CC CP)) [] E (tCons (tVar 0) (tCons (tVar 1) (tCons (tVar 2) tNil))))]) (o := due1 dx dy dz) (four.ext xC tbC) hLC (fun p hp => ?_) (dp_ext xC _ _ due) (due1_ok fb) (fun o7 o8 G4 x4 tb4 => ?_)
    · simp only [List.mem_cons, List.not_mem_nil, or_false] at hp
      rcases hp with rfl | rfl | rfl
      · exact ⟨lh1, say_way wayD fb⟩
      · exact ⟨lh2, say_way barD fb⟩
      · exact ⟨lh3, say_paper fb⟩
    · have four4 := four.ext (xC.trans x4) tb4
      have due4 := dp_ext (xC.trans x4) _ _ due
      refine ⟨_, rfl, small (by show 1 ≤ 1000; decide), fun p9 f9 => ?_⟩
      have n9 := same_new f9 (.tup [.str "points"])
      have four9 := four4.ext (ext_same n9) (tb4.same n9)
      have due9 := dp_ext (ext_same n9) _ _ due4
      have q9 : ∀ G', ExtN (upd G4 p9 (.tup [.str "points"])) G' → TabsG PT G' → D.rt (.bl true) G' := fun G' e t' => q G' ((xC.trans x4).trans ((ext_same n9).trans e)) t'
      have new9 : Dp K (upd G4 p9 (.tup [.str "points"])) (.ref p9) (.tuple [.str "points"]) := .tup (SqT.of upd_same) (.cons (.str _) .nil)
      generalize upd G4 p9 (.tup [.str "points"]) = G9 at four9 due9 q9 new9
      rcases due1_cases (dy := dy) (dz := dz) fb.x with ⟨e, h⟩ | ⟨e, ds, _, h, _⟩ | ⟨e, h, _⟩
      · rw [e] at due9
        refine ⟨dueD (some 0), _, due9, new9, by decide +kernel, by decide +kernel, _, rfl, ?_⟩
        refine ifF (by decide +kernel) ⟨_, rfl, dv, _, _, _, rfl, four9, ?_, q9⟩
        unfold due2
        rw [h]
        exact due9
      · rw [e] at due9
        refine ⟨dueD (some 1), _, due9, new9, by decide +kernel, by decide +kernel, _, rfl, ?_⟩
        refine ifT (by decide +kernel) ⟨.non, _, _, _, rfl, four9, ?_, q9⟩
        unfold due2
        rw [h]
        exact .non
      · rw [e] at due9
        refine ⟨dueD none, _, due9, new9, by decide +kernel, by decide +kernel, _, rfl, ?_⟩
        refine ifF (by decide +kernel) ⟨_, rfl, dv, _, _, _, rfl, four9, ?_, q9⟩
        unfold due2
        rw [h]
        exact due9
  case main =>
    refine ⟨_, rfl, _, rfl, _, rfl, _, rfl, small (by show 4 ≤ 1000; decide), fun p1 f1 => ?_⟩
    have n1 := same_new f1 (.tup [x, y, z, t])
    have fo1 := fo.ext (ext_same n1) (fo.tb.same n1)
    refine ⟨.ref p1, .tuple [dx, dy, dz, dt], rfl, .tup (SqT.of upd_same) (.cons fo1.x (.cons fo1.y (.cons fo1.z (.cons fo1.t .nil)))), fb.shw, fb.dep, fb.len, _, _, rfl, ?_⟩
    refine ⟨_, rfl, x, dx, _, _, rfl, fo1.x, fb.x, by decide, fun H2 s2 => ⟨_, rfl, ?_⟩⟩
    have fo2 := fo1.ext (ext_same s2) (fo1.tb.same s2)
    have q2 : ∀ G', ExtN H2 G' → TabsG PT G' → Q (.bl true) G' := fun G' e t' => q G' ((ext_same (n1.trans s2)).trans e) t'
    clear n1 fo1 s2 f1
    rcases due1_cases (dy := dy) (dz := dz) fb.x with ⟨e, h⟩ | ⟨e, ds, rfl, h, hp⟩ | ⟨e, h, rows, ss, gs, rfl, _, _, _, rfl, sd, rfl, gd⟩
    · rw [h]
      refine ifT rfl ⟨small (by show 1 ≤ 1000; decide), fun p3 f3 => ?_⟩
      have n3 := same_new f3 (.tup [.str "chart"])
      refine ⟨.ref p3, _, _, _, rfl, fo2.ext (ext_same n3) (fo2.tb.same n3), ?_, fun G' e' t' => q2 G' ((ext_same n3).trans e') t'⟩
      rw [e]
      exact .tup (SqT.of upd_same) (.cons (.str _) .nil)
    · rw [h]
      have hx2 := fo2.x
      cases hx2 with
      | @tup ca cs _ cat each =>
      have lx := dpAll_len each
      have pts : ∀ {G : Hp}, Same H2 G → ∀ p3, G p3 = none → tTail K PT (due1 (.tuple ds) dy dz) (.ref ca) y z t (.tuple ds) dy dz dt { nx := fun _ H' => Q .non H', rt := Q } [some (.ref ca), some y, some z, some t, some (.str (PyData.tuple [.tuple ds, dy, dz, dt]).shown), some (.ref p3), none, none, none] (upd G p3 (.tup [.str "points"])) := fun {G} sG p3 f3 => by
        have n3 := sG.trans (same_new f3 (.tup [.str "points"]))
        refine ⟨.ref p3, _, _, _, rfl, fo2.ext (ext_same n3) (fo2.tb.same n3), ?_, fun G' e' t' => q2 G' ((ext_same n3).trans e') t'⟩
        rw [e]
        exact .tup (SqT.of upd_same) (.cons (.str _) .nil)
      refine ifF rfl ⟨_, rfl, ca, cs, rfl, .inr cat, _, rfl, (cs.length : Int), y, dy, _, _, rfl, fo2.y, fb.y, by decide, fun H3 s3 => ⟨_, rfl, ?_⟩⟩
      rw [lx]
      cases h1 : pointsD ds.length dy with
      | false => exact ifT rfl (ifT rfl ⟨small (by show 1 ≤ 1000; decide), fun p3 f3 => pts s3 p3 f3⟩)
      | true =>
        rw [h1, Bool.true_and] at hp
        refine ifF rfl ⟨_, rfl, ca, cs, rfl, .inr (sqT_same s3 cat), _, rfl, (cs.length : Int), z, dz, _, _, rfl, dp_same s3 fo2.z, fb.z, by decide, fun H4 s4 => ⟨_, rfl, ?_⟩⟩
        rw [lx, hp]
        exact ifT rfl ⟨small (by show 1 ≤ 1000; decide), fun p3 f3 => pts (s3.trans s4) p3 f3⟩
    · rw [h]
      have hx2 := fo2.x
      cases hx2 with
      | @tup ca cs _ cat each =>
      have lx := dpAll_len each
      rw [List.length_map] at lx
      refine ifF rfl ⟨_, rfl, ca, cs, rfl, .inr cat, _, rfl, (cs.length : Int), y, _, _, _, rfl, fo2.y, fb.y, by decide, fun H3 s3 => ⟨_, rfl, ?_⟩⟩
      rw [lx, sd]
      refine ifF rfl ⟨_, rfl, ca, cs, rfl, .inr (sqT_same s3 cat), _, rfl, (cs.length : Int), z, _, _, _, rfl, dp_same s3 fo2.z, fb.z, by decide, fun H4 s4 => ⟨_, rfl, ?_⟩⟩
      rw [lx, gd]
      have sA := s3.trans s4
      refine ifF rfl ⟨.non, _, _, _, rfl, fo2.ext (ext_same sA) (fo2.tb.same sA), ?_, fun G' e' t' => q2 G' ((ext_same sA).trans e') t'⟩
      rw [e]
      exact .non
end
theorem bulk_all {k : Nat} : ∀ {l : List PyData}, (∀ z ∈ l, z.bulk ≤ k) → PyData.bulkAll l ≤ (k + 1) * l.length
  | [], _ => by simp only [PyData.bulkAll]; exact Nat.zero_le _
  | u :: v, h => by
    have h1 := h u List.mem_cons_self
    have h2 := bulk_all (l := v) fun z hz => h z (List.mem_cons_of_mem _ hz)
    simp only [PyData.bulkAll, List.length_cons]
    rw [Nat.mul_add]
    omega
section
open PySem.Spec PyProof.Rows LamX
theorem mv_of {st : Addr} {H H' : Hp} (sa : StAt H st) (s : Same H H') : Mv st H H' := ⟨Kp.of_same s, sa.same s⟩
section
variable {K : PySem.W.Frag}
theorem ch_at {H : Hp} {v : V} {rows : List (List Int)} (h : Dp K H v (chD rows)) : ∃ ca cs, v = .ref ca ∧ SqT K H ca cs ∧ cs.length = rows.length := by
  cases h with
  | @tup ca cs _ cat ceach => exact ⟨ca, cs, rfl, cat, by have := dpAll_len ceach; rw [List.length_map] at this; exact this⟩
theorem dp_laid {st p : Addr} {ms : List Int} {H : Hp} (sa : StAt H st) (h : SqT K H p (ms.map V.int)) : Dp K (mn st H) (.ref p) (.tuple (ms.map .int)) := .tup (sqT_mn sa h) (dp_ints ms)
end
end
/-! the law -/
theorem TabsG.kp {PT : TbP} {H H' : Hp} {st : Addr} (t : TabsG PT H) (sa : StAt H st) (k : Kp st H H') : TabsG PT H' := by
  obtain ⟨l, hl⟩ := sa.some
  refine ⟨fun P hP => ?_, fun p hp => ?_⟩
  · obtain ⟨ps, h1, h2⟩ := t.1 P hP
    exact ⟨ps, k _ _ (fun z => by rw [z, hl] at h1; cases h1) h1, h2⟩
  · obtain ⟨ps, h1, h2, h3⟩ := t.2 p hp
    refine ⟨ps, k _ _ (fun z => by rw [z, hl] at h1; cases h1) h1, h2, fun pos cv hc => ?_⟩
    obtain ⟨c, e1, e2⟩ := h3 pos cv hc
    exact ⟨c, e1, k _ _ (fun z => by rw [z, hl] at e2; cases e2) e2⟩
section
open PySem.Spec PyProof.Rows LamX
def KX (st : Addr) (H H' : Hp) : Prop := ∀ b u, b ≠ st → H b = some u → (∀ ps, u ≠ .tbl ps) → H' b = some u
theorem KX.refl {st : Addr} (H : Hp) : KX st H H := fun _ _ _ h _ => h
theorem KX.trans {st : Addr} {H H1 H2 : Hp} (a : KX st H H1) (b : KX st H1 H2) : KX st H H2 := fun c u n h t => b c u n (a c u n h t) t
theorem KX.mv {st : Addr} {H H' : Hp} (m : Mv st H H') : KX st H H' := fun b u n h _ => m.kp b u n h
theorem KX.ext {st : Addr} {H H' : Hp} (e : ExtN H H') : KX st H H' := fun b u _ h t => e b u h t
theorem KX.same {st : Addr} {H H' : Hp} (e : Same H H') : KX st H H' := fun b u _ h _ => e b u h
theorem KX.mx {st : Addr} {H H' : Hp} (k : KX st H H') : ExtN (mn st H) (mn st H') := fun b o h t => by
  obtain ⟨n, h⟩ := mn_some h
  exact mn_at n (k b o n h t)
theorem KX.dp {K : PySem.W.Frag} {st : Addr} {H H' : Hp} {v : V} {d : PyData} (k : KX st H H') (h : Dp K (mn st H) v d) : Dp K (mn st H') v d := dp_ext k.mx _ _ h
theorem KX.dps {K : PySem.W.Frag} {st : Addr} {H H' : Hp} {vs : List V} {ds : List PyData} (k : KX st H H') (h : DpAll K (mn st H) vs ds) : DpAll K (mn st H') vs ds := dp_exts k.mx _ _ h
theorem KX.lst {st p : Addr} {H H' : Hp} {l : List V} (k : KX st H H') (n : p ≠ st) (h : H p = some (.lst l)) : H' p = some (.lst l) := k p _ n h fun ps z => by cases z
structure Wd (K : PySem.W.Frag) (PT : TbP) (a : Addr) (xs : List V) (st : Addr) (H : Hp) : Prop where
  scr : ScrOk K H a xs
  sa : StAt H st
  tb : TabsG PT H
section
variable {K : PySem.W.Frag} {PT : TbP} {a st : Addr} {xs : List V} {H H' : Hp}
theorem Wd.mv (h : Wd K PT a xs st H) (m : Mv st H H') : Wd K PT a xs st H' := ⟨h.scr.kt (m.kp.kt h.sa), m.sa, h.tb.kp h.sa m.kp⟩
theorem Wd.ext (h : Wd K PT a xs st H) (e : ExtN H H') (t : TabsG PT H') : Wd K PT a xs st H' := ⟨scr_ext h.scr e, st_ext h.sa e, t⟩
theorem Wd.same (h : Wd K PT a xs st H) (s : Same H H') : Wd K PT a xs st H' := h.ext (ext_same s) (h.tb.same s)
end
structure T5 (z : PyData) : Prop where
  bd : Bd c01 16 z
  blk : z.bulk ≤ 200
  dep : z.depth ≤ 5
structure Th5 (z : PyData) : Prop where
  bd : Bd (c01 + 30000) 20 z
  blk : z.bulk ≤ 2000
  dep : z.depth ≤ 12
theorem T5.th {z : PyData} (t : T5 z) : Th5 z := ⟨t.bd.mono (by decide) (by decide), by have := t.blk; omega, by have := t.dep; omega⟩
theorem T5.ben {z z' : PyData} (t : T5 z) (b : Bn c01 16 z z') : Th5 z' := ⟨b.bd.mono (by decide) (by decide), by have := t.blk; have := b.blk; omega, by have := t.dep; have := b.dep; omega⟩
theorem ints_T5 {ns : List Int} (l : ns.length ≤ 16) (h : ∀ i ∈ ns, i.natAbs < 10 ^ 21) : T5 (.tuple (ns.map .int)) ∧ T5 (.list (ns.map .int)) := by
  have each : ∀ y ∈ ns.map PyData.int, Bd c01 16 y := fun y hy => by
    obtain ⟨i, hi, rfl⟩ := List.mem_map.mp hy
    exact .int (Nat.lt_of_lt_of_le (h i hi) (by decide))
  have b := bulk_all (k := 0) (l := ns.map PyData.int) fun y hy => by
    obtain ⟨i, _, rfl⟩ := List.mem_map.mp hy
    simp [PyData.bulk]
  have d := depth_all (k := 0) (l := ns.map PyData.int) fun y hy => by
    obtain ⟨i, _, rfl⟩ := List.mem_map.mp hy
    simp [PyData.depth]
  rw [List.length_map] at b
  exact ⟨⟨.tup (by rw [List.length_map]; exact l) each, by rw [bulk_tup]; omega, by rw [depth_tup]; omega⟩, ⟨.lst (by rw [List.length_map]; exact l) each, by rw [bulk_lst]; omega, by rw [depth_lst]; omega⟩⟩
theorem chart_T5 {rows : List (List Int)} (h : RwOk rows) (n8 : rows.length ≤ 8) : Bd c01 16 (chD rows) ∧ (chD rows).bulk ≤ 200 ∧ (chD rows).depth ≤ 2 := by
  have each : ∀ z ∈ rows.map (fun ns => PyData.tuple (ns.map .int)), Bd c01 16 z ∧ z.bulk ≤ 8 ∧ z.depth ≤ 1 := fun z hz => by
    obtain ⟨ns, hn, rfl⟩ := List.mem_map.mp hz
    obtain ⟨r1, r2⟩ := h.row ns hn
    have b := bulk_all (k := 0) (l := ns.map PyData.int) fun y hy => by
      obtain ⟨i, _, rfl⟩ := List.mem_map.mp hy
      simp [PyData.bulk]
    have d := depth_all (k := 0) (l := ns.map PyData.int) fun y hy => by
      obtain ⟨i, _, rfl⟩ := List.mem_map.mp hy
      simp [PyData.depth]
    rw [List.length_map] at b
    exact ⟨(ints_T5 (ns := ns) (by omega) fun i hi => (by have := r2 i hi; exact Nat.lt_of_lt_of_le (show i.natAbs < 8 by omega) (by decide))).1.bd, by rw [bulk_tup]; omega, by rw [depth_tup]; omega⟩
  refine ⟨.tup (by rw [List.length_map]; omega) fun z hz => (each z hz).1, ?_, ?_⟩
  · have e : (chD rows).bulk = PyData.bulkAll (rows.map fun ns => PyData.tuple (ns.map .int)) := bulk_tup _
    rw [e]
    have h0 := bulk_all (k := 8) (l := rows.map fun ns => PyData.tuple (ns.map .int)) fun z hz => (each z hz).2.1
    rw [List.length_map] at h0
    omega
  · have e : (chD rows).depth = 1 + PyData.depthAll (rows.map fun ns => PyData.tuple (ns.map .int)) := depth_tup _
    rw [e]
    have h0 := depth_all (k := 1) (l := rows.map fun ns => PyData.tuple (ns.map .int)) fun z hz => (each z hz).2.2
    omega
theorem show5 {z : PyData} (b : Bd (c01 + 30000) 20 z) (h3 : z.bulk ≤ 9000) (h4 : z.depth ≤ 20) : z.showable = true ∧ z.depth ≤ 64 ∧ z.shown.length ≤ sizeLine := by
  have l := PyData.shown_le_bulk 40 (by decide) z (b.sho (by decide))
  exact ⟨b.shw (by decide), Nat.le_trans h4 (by decide), big (by omega)⟩
end
theorem chOk7 {d : PyData} (h : ChOk 7 d) : ∃ rows : List (List Int), d = chD rows ∧ rows.length ≤ 7 ∧ RwOk rows ∧ (∀ ns ∈ rows, ns.Pairwise (· < ·)) ∧ chartD (chD rows) = true := by
  obtain ⟨rows, rfl, l, r⟩ := h
  refine ⟨rows, rfl, by omega, ⟨by omega, fun ns hn => ⟨(r ns hn).1, (r ns hn).2.1⟩⟩, fun ns hn => ((pts_law ns 0).mp (r ns hn).2.2).1, ?_⟩
  show (rows.map fun ns => PyData.tuple (ns.map .int)).all (pointsD _) = true
  refine List.all_eq_true.mpr fun z hz => ?_
  obtain ⟨ns, hn, rfl⟩ := List.mem_map.mp hz
  rw [List.length_map]
  exact (r ns hn).2.2
theorem scr_kx {K : PySem.W.Frag} {H H' : Hp} {st a : Addr} {xs : List V} (h : ScrOk K H a xs) (sa : StAt H st) (k : KX st H H') : ScrOk K H' a xs := by
  rcases h with ⟨o, z⟩ | z
  · obtain ⟨x, y, u, hs, _⟩ := sa
    exact .inl ⟨o, k _ _ (fun e => by rw [e, hs] at z; cases z) z (fun ps q => by cases q)⟩
  · exact .inr z
section
open PySem.Spec PyProof.Rows LamX
variable {P : Program} {w : World} {K : PySem.W.Frag} {mg : Str → Option Value} {base : Heap} {f c : Addr} {fd : FuncData} {PT : TbP}
theorem four_B {dx dy dz dt : PyData} (a : Th5 dx) (b : Th5 dy) (c : Th5 dz) (d : Th5 dt) : FourB dx dy dz dt := by
  have a2 := a.blk
  have b2 := b.blk
  have c2 := c.blk
  have d2 := d.blk
  have a3 := a.dep
  have b3 := b.dep
  have c3 := c.dep
  have d3 := d.dep
  obtain ⟨h1, h2, h3⟩ := show5 (z := .tuple [dx, dy, dz, dt]) (.tup (by show 4 ≤ 20; decide) fun z hz => by
    simp only [List.mem_cons, List.not_mem_nil, or_false] at hz
    rcases hz with rfl | rfl | rfl | rfl
    · exact a.bd
    · exact b.bd
    · exact c.bd
    · exact d.bd) (by
    simp only [PyData.bulk, PyData.bulkAll] at a2 b2 c2 d2 ⊢
    omega) (by
    rw [depth_tup]
    have h0 := depth_all (k := 12) (l := [dx, dy, dz, dt]) fun z hz => by
      simp only [List.mem_cons, List.not_mem_nil, or_false] at hz
      rcases hz with rfl | rfl | rfl | rfl <;> omega
    omega)
  exact ⟨a.bd, b.bd, c.bd, d.bd, h1, h2, h3⟩
theorem odd_th {d : PyData} (h : d ∈ odd0 ++ odd1 ++ odd2) : Th5 d := by
  obtain ⟨q1, q2, q3⟩ := odd_is h
  exact ⟨q1.mono (by decide) (by decide), by omega, by omega⟩
abbrev NLaw : List Str := ["_law_script", "_law_k", "_law_state_here", "_law_turn", "_law_chart_here", "_law_many", "_law_starts", "_law_goals", "_law_bad", "_law_ends", "_law_one"]
theorem scLaw : FnScope NLaw ["_law_script"] (defScope sLaw) := ⟨rfl, rfl, rfl, by decide +kernel, rfl, by decide +kernel, by decide +kernel⟩
structure Law04 (P : Program) (w : World) (K : PySem.W.Frag) (mg : Str → Option Value) (base : Heap) (PT : TbP) (k : Nat) : Prop where
  cSt : Cal P w K mg base "_law_state" k ["_law_script", "_law_k"] (spState K)
  cC : Cal P w K mg base "_law_choice" k ["_law_state_here", "_law_many"] spChoice
  cCh : Cal P w K mg base "_law_chart" k ["_law_state_here", "_law_most"] (spChartG K)
  cS : Cal P w K mg base "_law_some" k ["_law_state_here", "_law_many"] (spSomeP K)
  cO : Cal P w K mg base "_law_odd" k ["_law_state_here"] (spOdd K)
  cB : Cal P w K mg base "_law_bent" k ["_law_state_here", "_law_thing"] (spBent K c01 16 5)
  cR : CalS P w K mg base "_law_right" k ["_law_chart_here", "_law_starts", "_law_goals", "_law_thing"] (spRight K PT)
set_option maxHeartbeats 0 in
theorem law_body {k : Nat} {cdv : Value} {s : Shared} {H : Hp} {a : Addr} {ns : List Int} (T : Free mg) (scr : ScrOk K H a (ns.map V.int)) (h63 : ns.length ≤ 63) (tbs : TabsG PT H)
    (hr : Room k (callerA.deeper (envOfC "law" (defScope sLaw) s.heap.objs.size f cdv))) (L : Law04 P w K mg base PT k) :
    ∃ t, PSs (cxOf CX0 P w K mg base NLaw "law" (defScope sLaw) f cdv callerA [] s H E0).nox (defBody sLaw) t ∧ t { nx := fun _ _ => False, rt := fun v _ => v = .bl true } (L2.start NLaw [.ref a]) H := by
  refine ⟨_, pss_cons (ps_for PassesOwn.never rfl (pi_range1 rfl T.range (pa_cons (pe_callB (call_max2 rfl) rfl T.max (by decide +kernel) (pa_cons pe_int (pa_cons (pe_callB (call_min2 rfl) rfl T.min (by decide +kernel)
        (pa_cons (pe_callB call_len_seq rfl T.len PySem.boot_len (pa_cons (pv 0) pa_nil)) (pa_cons pe_int pa_nil))) pa_nil))) pa_nil)) (pg_name (i := 1) scLaw.nd rfl (.inl rfl))
    (pss_cons (ps_set (i := 2) scLaw.nd rfl (.inl rfl) (pe_cal L.cSt hr rfl (pa_cons (pv 0) (pa_cons (pv 1) pa_nil))))
    (pss_one (ps_for PassesOwn.never rfl (pi_range1 rfl T.range (pa_cons pe_int pa_nil)) (pg_name (i := 3) scLaw.nd rfl (.inl rfl))
      (pss_cons (ps_set (i := 4) scLaw.nd rfl (.inl rfl) (pe_cal L.cCh hr rfl (pa_cons (pv 2) (pa_cons pe_int pa_nil))))
      (pss_cons (ps_set (i := 5) scLaw.nd rfl (.inl rfl) (pe_callB call_len_seq rfl T.len PySem.boot_len (pa_cons (pv 4) pa_nil)))
      (pss_cons (ps_par (i := 6) (j := 7) rfl scLaw.nd rfl rfl (by decide) rfl rfl (pa_cons (pe_cal L.cS hr rfl (pa_cons (pv 2) (pa_cons (pv 5) pa_nil))) (pa_cons (pe_cal L.cS hr rfl (pa_cons (pv 2) (pa_cons (pv 5) pa_nil))) pa_nil)) rfl)
      (pss_cons (ps_set (i := 8) scLaw.nd rfl (.inl rfl) (pe_ix ix_list (pe_lst (pa_cons (pv 4) (pa_cons (pe_cal L.cB hr rfl (pa_cons (pv 2) (pa_cons (pv 4) pa_nil))) (pa_cons (pe_callTy call_list_of rfl T.list (by decide +kernel) (pa_cons (pv 4) pa_nil)) (pa_cons (pe_cal L.cO hr rfl (pa_cons (pv 2) pa_nil)) pa_nil))))) (pe_cal L.cC hr rfl (pa_cons (pv 2) (pa_cons pe_int pa_nil))) (fun _ _ => rfl)))
      (pss_cons (ps_set (i := 9) scLaw.nd rfl (.inl rfl) (pe_lst (pa_cons (pv 6) (pa_cons (pe_tup (pa_cons (pv 5) pa_nil)) (pa_cons (pe_tup (pa_cons (pe_un un_neg pe_int) pa_nil)) (pa_cons (pe_callTy call_list_of rfl T.list (by decide +kernel) (pa_cons (pv 6) pa_nil)) (pa_cons (pe_tup (pa_cons pe_int (pa_cons pe_int pa_nil))) (pa_cons (pe_tup (pa_cons pe_int (pa_cons pe_int pa_nil))) (pa_cons (pe_tup (pa_cons pe_bl pa_nil)) pa_nil)))))))))
      (pss_cons (ps_set (i := 9) scLaw.nd rfl (.inl rfl) (pe_op op_cat (pv 9) (pe_lst (pa_cons (pe_cal L.cB hr rfl (pa_cons (pv 2) (pa_cons (pv 6) pa_nil))) (pa_cons pe_non pa_nil)))))
      (pss_cons (ps_for PassesOwn.never rfl (pi_list (pv 9)) (pg_name (i := 10) scLaw.nd rfl (.inl rfl))
        (pss_one (ps_if (PW.pt (pw_or (pt_not (pt_val (pe_calS L.cR rfl hr rfl (pa_cons (pv 4) (pa_cons (pv 10) (pa_cons (pv 7) (pa_cons (pe_cal L.cO hr rfl (pa_cons (pv 2) pa_nil)) pa_nil))))))) (pw_or1 (pt_not (pt_val (pe_calS L.cR rfl hr rfl (pa_cons (pv 4) (pa_cons (pv 6) (pa_cons (pv 10) (pa_cons (pe_tup pa_nil) pa_nil)))))))))) (pss_one (ps_ret pe_bl)) pss_nil)))
      (pss_one (ps_if (pt_not (pt_val (pe_calS L.cR rfl hr rfl (pa_cons (pv 8) (pa_cons (pe_ix ix_list (pv 9) (pe_cal L.cC hr rfl (pa_cons (pv 2) (pa_cons pe_int pa_nil))) (fun _ _ => rfl)) (pa_cons (pe_ix ix_list (pv 9) (pe_cal L.cC hr rfl (pa_cons (pv 2) (pa_cons pe_int pa_nil))) (fun _ _ => rfl)) (pa_cons (pv 6) pa_nil))))))) (pss_one (ps_ret pe_bl)) pss_nil)))))))))))))
    (pss_one (ps_ret pe_bl)), ?main⟩
  case main =>
  have ll : (ns.map V.int).length = ns.length := List.length_map _
  have hm : 0 ≤ (if (if (5 : Int) < ((ns.map V.int).length : Int) then 5 else ((ns.map V.int).length : Int)) > 1 then (if (5 : Int) < ((ns.map V.int).length : Int) then 5 else ((ns.map V.int).length : Int)) else 1) ∧
      (if (if (5 : Int) < ((ns.map V.int).length : Int) then 5 else ((ns.map V.int).length : Int)) > 1 then (if (5 : Int) < ((ns.map V.int).length : Int) then 5 else ((ns.map V.int).length : Int)) else 1) ≤ 5 := by
    split <;> split <;> omega
  refine ⟨_, rfl, a, _, rfl, .inl scr.sq, _, _, rfl, _, _, rfl, _, rfl, by omega, by omega, ?_⟩
  refine for_range (lo := 0) (fun i σ H' => ∃ o1 o2 o3 o4 o5 o6 o7 o8 o9 o10, σ = [some (.ref a), o1, o2, o3, o4, o5, o6, o7, o8, o9, o10] ∧ ScrOk K H' a (ns.map V.int) ∧ TabsG PT H') ⟨_, _, _, _, _, _, _, _, _, _, rfl, scr, tbs⟩ (fun i σ H' hi h => ?_) (fun σ H' h => rfl)
  obtain ⟨o1, o2, o3, o4, o5, o6, o7, o8, o9, o10, rfl, sc, tb'⟩ := h
  refine ⟨_, rfl, _, rfl, a, ns, 0 + (i : Int), rfl, sc.sq, by omega, fun st x y z hst ok => ?_⟩
  have s0 := same_new hst (.lst [.int x, .int y, .int z])
  have wd0 : Wd K PT a (ns.map V.int) st (upd H' st (.lst [.int x, .int y, .int z])) := ⟨scr_ext sc (ext_same s0), ⟨x, y, z, upd_same, ok⟩, tb'.same s0⟩
  generalize upd H' st (.lst [.int x, .int y, .int z]) = H0 at wd0
  clear s0
  refine ⟨5, rfl, by decide, by decide, ?_⟩
  refine for_range (lo := 0) (n := 5) (fun j σ G => ∃ o3 o4 o5 o6 o7 o8 o9 o10, σ = [some (.ref a), some (.int (0 + (i : Int))), some (.ref st), o3, o4, o5, o6, o7, o8, o9, o10] ∧ Wd K PT a (ns.map V.int) st G) ⟨_, _, _, _, _, _, _, _, rfl, wd0⟩ (fun j σ G hj h => ?_) (fun σ G h => ?_)
  · obtain ⟨o3, o4, o5, o6, o7, o8, o9, o10, rfl, wd⟩ := h
    refine ⟨_, rfl, st, 7, rfl, wd.sa, by decide, by decide, fun cv d G1 mv1 hd1 ok1 => ?_⟩
    obtain ⟨rows, rfl, n7, hrw, srt, cd⟩ := chOk7 ok1
    have wd1 := wd.mv mv1
    obtain ⟨ca, cs, rfl, cat1, each1, lc⟩ : ∃ ca cs, cv = .ref ca ∧ SqT K (mn st G1) ca cs ∧ DpAll K (mn st G1) cs (rows.map fun ns => .tuple (ns.map .int)) ∧ cs.length = rows.length := by
      cases hd1 with
      | @tup ca cs _ at_ each => exact ⟨ca, cs, rfl, at_, each, by have := dpAll_len each; rw [List.length_map] at this; exact this⟩
    refine ⟨_, rfl, ca, cs, rfl, .inr (sqT_same mn_in cat1), ?_⟩
    rw [lc]
    refine ⟨_, rfl, _, rfl, st, _, rfl, wd1.sa, by omega, by omega, fun sv ss G2 mv2 hs2 ps2 => ?_⟩
    have wd2 := wd1.mv mv2
    refine ⟨_, rfl, _, rfl, st, _, rfl, wd2.sa, by omega, by omega, fun gv gs G3 mv3 hg3 ps3 => ⟨_, _, rfl, ?_⟩⟩
    have wd3 := wd2.mv mv3
    have k3 : KX st G1 G3 := (KX.mv mv2).trans (KX.mv mv3)
    have hd3 := k3.dp hd1
    have hs3 := (KX.mv mv3).dp hs2
    have each3 := k3.dps each1
    have cat3 : SqT K G3 ca cs := by
      have e := dp_ext (mn_ext (st := st) (H := G1) (H' := G1) (ExtN.refl _)) _ _ hd1
      exact sqT_kt (mv3.kp.kt wd2.sa) (sqT_kt (mv2.kp.kt wd1.sa) (sqT_same mn_in cat1))
    clear k3 each1 cat1 hs2 mv3 mv2 hd1 mv1 wd2 wd1 wd ok1
    have lss : ss.length ≤ 7 := by have := ps2.1; omega
    have lgs : gs.length ≤ 7 := by have := ps3.1; omega
    have small7 : ∀ {ns : List Int}, ns.length ≤ 7 → (∀ i ∈ ns, 0 ≤ i ∧ i < (rows.length : Int)) → T5 (.tuple (ns.map .int)) ∧ T5 (.list (ns.map .int)) := fun l h => ints_T5 (by omega) fun i hi => Nat.lt_of_lt_of_le (show i.natAbs < 20 by have := h i hi; omega) (by decide)
    have tS := small7 lss ps2.2.1
    have tG := small7 lgs ps3.2.1
    obtain ⟨c1, c2, c3⟩ := chart_T5 hrw (by omega)
    have tC : T5 (chD rows) := ⟨c1, c2, by omega⟩
    have tL : T5 (.list (rows.map fun ns => PyData.tuple (ns.map .int))) := by
      obtain ⟨b1, b2⟩ := bd_tup c1
      have e2 : (chD rows).bulk = PyData.bulkAll (rows.map fun ns => PyData.tuple (ns.map .int)) := bulk_tup _
      have e3 : (chD rows).depth = 1 + PyData.depthAll (rows.map fun ns => PyData.tuple (ns.map .int)) := depth_tup _
      exact ⟨.lst b1 b2, by rw [bulk_lst]; omega, by rw [depth_lst]; omega⟩
    -- bad
    refine ⟨_, rfl, _, rfl, _, rfl, st, .ref ca, chD rows, rfl, wd3.sa, hd3, tC.bd, tC.dep, by have := tC.blk; omega, fun bv bd G4 mv4 hb4 bn4 => ⟨_, rfl, ca, cs, rfl, .inr (sqT_kt (mv4.kp.kt wd3.sa) cat3), fun l5 f5 => ?_⟩⟩
    have wd4 := wd3.mv mv4
    have nl5 : l5 ≠ st := wd4.sa.ne f5
    have n5 := same_new f5 (.lst cs)
    have wd5 := wd4.same n5
    have k45 : KX st G4 (upd G4 l5 (.lst cs)) := KX.same n5
    have k35 := (KX.mv mv4).trans k45
    have hl5 : Dp K (mn st (upd G4 l5 (.lst cs))) (.ref l5) (.list (rows.map fun ns => PyData.tuple (ns.map .int))) := .lst (SqL.of (mn_at nl5 upd_same)) (k35.dps each3)
    have hb5 := k45.dp hb4
    generalize upd G4 l5 (.lst cs) = G5 at wd5 k35 hl5 hb5
    clear k45 n5 f5 hb4 wd4 mv4
    refine ⟨_, rfl, st, rfl, wd5.sa, fun ov od G6 mv6 ho6 hm6 => ⟨small (by show 4 ≤ 1000; decide), fun L7 f7 => ?_⟩⟩
    have wd6 := wd5.mv mv6
    have nL7 : L7 ≠ st := wd6.sa.ne f7
    have n7' := same_new f7 (.lst [V.ref ca, bv, .ref l5, ov])
    have wd7 := wd6.same n7'
    have k57 : KX st G5 (upd G6 L7 (.lst [V.ref ca, bv, .ref l5, ov])) := (KX.mv mv6).trans (KX.same n7')
    have all7 : DpAll K (mn st (upd G6 L7 (.lst [V.ref ca, bv, .ref l5, ov]))) [V.ref ca, bv, .ref l5, ov] [chD rows, bd, .list (rows.map fun ns => PyData.tuple (ns.map .int)), od] := .cons ((k35.trans k57).dp hd3) (.cons (k57.dp hb5) (.cons (k57.dp hl5) (.cons ((KX.same n7').dp ho6) .nil)))
    have hL7 : (upd G6 L7 (.lst [V.ref ca, bv, .ref l5, ov])) L7 = some (.lst [V.ref ca, bv, .ref l5, ov]) := upd_same
    have k37 := k35.trans k57
    generalize upd G6 L7 (.lst [V.ref ca, bv, .ref l5, ov]) = G7 at wd7 all7 hL7 k37
    clear k57 n7' f7 wd6 ho6 mv6 hb5 hl5 k35 wd5
    refine ⟨_, rfl, st, 4, rfl, wd7.sa, by decide, by decide, fun r8 G8 r80 r81 mv8 => ?_⟩
    obtain ⟨vb, hvb⟩ : ∃ v, ([V.ref ca, bv, .ref l5, ov])[r8.toNat]? = some v := ⟨_, List.getElem?_eq_getElem (show r8.toNat < 4 by omega)⟩
    refine ⟨L7, _, r8, vb, rfl, rfl, SqL.of (mv8.kp _ _ nL7 hL7), atI_at r80 hvb, ?_⟩
    have wd8 := wd7.mv mv8
    have k38 := k37.trans (KX.mv mv8)
    obtain ⟨db, hdb, hvd⟩ := dpAll_get' ((KX.mv mv8).dps all7) hvb
    have tB : Th5 db := by
      have hm' := List.mem_of_getElem? hdb
      simp only [List.mem_cons, List.not_mem_nil, or_false] at hm'
      rcases hm' with rfl | rfl | rfl | rfl
      · exact tC.th
      · exact tC.ben bn4
      · exact tL.th
      · exact odd_th hm6
    have hd8 := k38.dp hd3
    have hs8 := k38.dp hs3
    have hg8 := k38.dp hg3
    clear hdb hvb all7 hL7 mv8 k37 wd7 k38 hm6 bn4 each3 cat3 hd3 hs3 hg3 wd3
    -- ends
    obtain ⟨sa', rfl, sat8⟩ := ints_at (dp_same mn_in hs8)
    refine ⟨_, rfl, _, rfl, small (by show 1 ≤ 1000; decide), fun e1 g1 => ⟨_, rfl, small (by show 1 ≤ 1000; decide), fun e2 g2 => ⟨_, rfl, sa', _, rfl, .inr (sqT_same ((same_new g1 _).trans (same_new g2 _)) sat8), fun l3 g3 => ⟨small (by show 2 ≤ 1000; decide), fun e4 g4 => ⟨small (by show 2 ≤ 1000; decide), fun e5 g5 => ⟨small (by show 1 ≤ 1000; decide), fun e6 g6 => ⟨small (by show 7 ≤ 1000; decide), fun L9 g9 => ?_⟩⟩⟩⟩⟩⟩⟩
    have m1 := same_new g1 (.tup [.int (rows.length : Nat)])
    have m2 := same_new g2 (.tup [.int (-1)])
    have m3 := same_new g3 (.lst (ss.map V.int))
    have m4 := same_new g4 (.tup [.int 1, .int 0])
    have m5 := same_new g5 (.tup [.int 0, .int 0])
    have m6 := same_new g6 (.tup [.bl true])
    have m9 := same_new g9 (.lst [V.ref sa', .ref e1, .ref e2, .ref l3, .ref e4, .ref e5, .ref e6])
    have u5 := m6.trans m9
    have u4 := m5.trans u5
    have u3 := m4.trans u4
    have u2 := m3.trans u3
    have u1 := m2.trans u2
    have u0 := m1.trans u1
    have wd9 := wd8.same u0
    have nl3 : l3 ≠ st := ((wd8.same m1).same m2).sa.ne g3
    have nL9 : L9 ≠ st := ((((((wd8.same m1).same m2).same m3).same m4).same m5).same m6).sa.ne g9
    have k9 : KX st G8 _ := KX.same u0
    have at1 := u1 _ _ (upd_same (H := G8) (a := e1) (o := .tup [.int (rows.length : Nat)]))
    have at2 := u2 _ _ (upd_same (H := upd G8 e1 (.tup [.int (rows.length : Nat)])) (a := e2) (o := .tup [.int (-1)]))
    have at3 := u3 _ _ (upd_same (a := l3) (o := .lst (ss.map V.int)))
    have at4 := u4 _ _ (upd_same (a := e4) (o := .tup [.int 1, .int 0]))
    have at5 := u5 _ _ (upd_same (a := e5) (o := .tup [.int 0, .int 0]))
    have at6 := m9 _ _ (upd_same (a := e6) (o := .tup [.bl true]))
    have at9 := upd_same (H := upd (upd (upd (upd (upd (upd G8 e1 (.tup [.int (rows.length : Nat)])) e2 (.tup [.int (-1)])) l3 (.lst (ss.map V.int))) e4 (.tup [.int 1, .int 0])) e5 (.tup [.int 0, .int 0])) e6 (.tup [.bl true])) (a := L9) (o := .lst [V.ref sa', .ref e1, .ref e2, .ref l3, .ref e4, .ref e5, .ref e6])
    have hs9 := k9.dp hs8
    have hd9 := k9.dp hd8
    have hg9 := k9.dp hg8
    have hv9 := k9.dp hvd
    generalize upd (upd (upd (upd (upd (upd (upd G8 e1 (.tup [.int (rows.length : Nat)])) e2 (.tup [.int (-1)])) l3 (.lst (ss.map V.int))) e4 (.tup [.int 1, .int 0])) e5 (.tup [.int 0, .int 0])) e6 (.tup [.bl true])) L9 (.lst [V.ref sa', .ref e1, .ref e2, .ref l3, .ref e4, .ref e5, .ref e6]) = G9 at wd9 k9 at1 at2 at3 at4 at5 at6 at9 hs9 hd9 hg9 hv9
    clear u0 u1 u2 u3 u4 u5 m1 m2 m3 m4 m5 m6 m9 g1 g2 g3 g4 g5 g6 g9 k9 hs8 hd8 hg8 hvd sat8 wd8
    have all9 : DpAll K (mn st G9) [V.ref sa', .ref e1, .ref e2, .ref l3, .ref e4, .ref e5, .ref e6] [.tuple (ss.map .int), .tuple ([(rows.length : Int)].map .int), .tuple ([(-1 : Int)].map .int), .list (ss.map .int), .tuple ([(1 : Int), 0].map .int), .tuple ([(0 : Int), 0].map .int), .tuple [.bool true]] :=
      .cons hs9 (.cons (dp_laid wd9.sa (SqT.of at1)) (.cons (dp_laid wd9.sa (SqT.of at2)) (.cons (.lst (SqL.of (mn_at nl3 at3)) (dp_ints ss)) (.cons (dp_laid wd9.sa (SqT.of at4)) (.cons (dp_laid wd9.sa (SqT.of at5)) (.cons (.tup (sqT_kt (kt_mn wd9.sa) (SqT.of at6)) (.cons (.bl true) .nil)) .nil))))))
    -- two more
    refine ⟨_, rfl, _, rfl, _, rfl, st, .ref sa', _, rfl, wd9.sa, hs9, tS.1.bd, tS.1.dep, by have := tS.1.blk; omega, fun bv2 bd2 G10 mv10 hb10 bn10 => ⟨small (by show 2 ≤ 1000; decide), fun L11 g11 => ?_⟩⟩
    have m11 := same_new g11 (.lst [bv2, V.non])
    refine ⟨L9, L11, _, _, rfl, rfl, m11 _ _ (mv10.kp _ _ nL9 at9), upd_same, small (by show 9 ≤ 1000; decide), fun L12 g12 => ?_⟩
    have m12 := same_new g12 (.lst ([V.ref sa', .ref e1, .ref e2, .ref l3, .ref e4, .ref e5, .ref e6] ++ [bv2, V.non]))
    have mA := m11.trans m12
    have wd10 := wd9.mv mv10
    have wd12 := wd10.same mA
    have nL12 : L12 ≠ st := (wd10.same m11).sa.ne g12
    have k12 : KX st G9 _ := (KX.mv mv10).trans (KX.same mA)
    have all12 := dpAll_append (DpAll.cons ((KX.same (st := st) mA).dp hb10) (.cons .non .nil)) (k12.dps all9)
    have at12 := upd_same (H := upd G10 L11 (.lst [bv2, V.non])) (a := L12) (o := .lst ([V.ref sa', .ref e1, .ref e2, .ref l3, .ref e4, .ref e5, .ref e6] ++ [bv2, V.non]))
    have hs12 := k12.dp hs9
    have hd12 := k12.dp hd9
    have hg12 := k12.dp hg9
    have hv12 := k12.dp hv9
    generalize upd (upd G10 L11 (.lst [bv2, V.non])) L12 (.lst ([V.ref sa', .ref e1, .ref e2, .ref l3, .ref e4, .ref e5, .ref e6] ++ [bv2, V.non])) = G12 at wd12 k12 all12 at12 hs12 hd12 hg12 hv12
    have ok12 : ∀ z ∈ [PyData.tuple (ss.map .int), .tuple ([(rows.length : Int)].map .int), .tuple ([(-1 : Int)].map .int), .list (ss.map .int), .tuple ([(1 : Int), 0].map .int), .tuple ([(0 : Int), 0].map .int), .tuple [.bool true]] ++ [bd2, .none], Th5 z := fun z hz => by
      have tiny : ∀ {ns : List Int}, ns.length ≤ 16 → (∀ i ∈ ns, i.natAbs < 20) → Th5 (.tuple (ns.map .int)) := fun l h => (ints_T5 l fun i hi => Nat.lt_of_lt_of_le (h i hi) (by decide)).1.th
      simp only [List.cons_append, List.nil_append, List.mem_cons, List.not_mem_nil, or_false] at hz
      rcases hz with rfl | rfl | rfl | rfl | rfl | rfl | rfl | rfl | rfl
      · exact tS.1.th
      · exact tiny (by show 1 ≤ 16; decide) fun i hi => by rw [List.mem_singleton.mp hi]; omega
      · exact tiny (ns := [-1]) (by decide) (by decide)
      · exact tS.2.th
      · exact tiny (ns := [1, 0]) (by decide) (by decide)
      · exact tiny (ns := [0, 0]) (by decide) (by decide)
      · exact ⟨.tup (by show 1 ≤ 20; decide) fun z hz => by rw [List.mem_singleton.mp hz]; exact .bl, by simp [PyData.bulk, PyData.bulkAll], by simp [PyData.depth, PyData.depthAll]⟩
      · exact tS.1.ben bn10
      · exact ⟨.non, by simp [PyData.bulk], by simp [PyData.depth]⟩
    generalize [PyData.tuple (ss.map .int), .tuple ([(rows.length : Int)].map .int), .tuple ([(-1 : Int)].map .int), .list (ss.map .int), .tuple ([(1 : Int), 0].map .int), .tuple ([(0 : Int), 0].map .int), .tuple [.bool true]] ++ [bd2, .none] = es at all12 ok12
    have l12 : ([V.ref sa', .ref e1, .ref e2, .ref l3, .ref e4, .ref e5, .ref e6] ++ [bv2, V.non]).length = 9 := rfl
    generalize [V.ref sa', .ref e1, .ref e2, .ref l3, .ref e4, .ref e5, .ref e6] ++ [bv2, V.non] = vs at all12 at12 l12
    clear k12 mA m12 g12 m11 g11 hb10 bn10 mv10 wd10 all9 at1 at2 at3 at4 at5 at6 at9 hs9 hd9 hg9 hv9 wd9
    have one : ∀ {G : Hp} {x y z t : V} {dx dy dz dt : PyData}, Wd K PT a (ns.map V.int) st G → Dp K (mn st G) x dx → Dp K (mn st G) y dy → Dp K (mn st G) z dz → Dp K (mn st G) t dt → Four K PT G x y z t dx dy dz dt := fun wd h1 h2 h3 h4 => ⟨dp_same mn_in h1, dp_same mn_in h2, dp_same mn_in h3, dp_same mn_in h4, wd.tb⟩
    refine ⟨_, rfl, L12, rfl, ⟨_, SqL.of at12⟩, ?_⟩
    refine for_list (xs := vs) (fun l σ G => ∃ o10, σ = [some (.ref a), some (.int (0 + (i : Int))), some (.ref st), some (.int (0 + (j : Int))), some (.ref ca), some (.int (rows.length : Nat)), some (.ref sa'), some gv, some vb, some (.ref L12), o10] ∧ Wd K PT a (ns.map V.int) st G ∧ KX st G12 G) ⟨_, rfl, wd12, KX.refl _⟩ (fun l σ G _ h => by obtain ⟨_, _, _, kx⟩ := h; exact SqL.of (kx.lst nL12 at12)) (fun l v σ G hv h => ?_) (fun σ G h => ?_)
    · obtain ⟨o10, rfl, wdG, kG⟩ := h
      obtain ⟨d, hd, hdv⟩ := dpAll_get' all12 hv
      have td := ok12 d (List.mem_of_getElem? hd)
      refine ⟨_, rfl, _, rfl, _, rfl, _, rfl, st, rfl, wdG.sa, fun ov od GA mvA hoA hmA => ?_⟩
      have wdA := wdG.mv mvA
      have kA := kG.trans (KX.mv mvA)
      refine ⟨.ref ca, v, gv, ov, _, d, _, od, rfl, one wdA (kA.dp hd12) (kA.dp hdv) (kA.dp hg12) hoA, four_B tC.th td tG.1.th (odd_th hmA), fun GB eB tB' => ⟨_, rfl, ifF rfl ?_⟩⟩
      have wdB := wdA.ext eB tB'
      have kB := kA.trans (KX.ext eB)
      refine ⟨_, rfl, _, rfl, _, rfl, small (by show 0 ≤ 1000; decide), fun p0 f0 => ?_⟩
      have m0 := same_new f0 (.tup [])
      have wdC := wdB.same m0
      have kC := kB.trans (KX.same m0)
      refine ⟨.ref ca, .ref sa', v, .ref p0, _, _, d, .tuple (([] : List Int).map .int), rfl, one wdC (kC.dp hd12) (kC.dp hs12) (kC.dp hdv) (dp_laid (ms := []) wdC.sa (SqT.of upd_same)), four_B tC.th tS.1.th td (small7 (ns := []) (by decide) (fun i hi => by cases hi)).1.th, fun GD eD tD => ⟨_, rfl, ifF rfl ?_⟩⟩
      exact ⟨_, rfl, wdC.ext eD tD, kC.trans (KX.ext eD)⟩
    · obtain ⟨o10, rfl, wdG, kG⟩ := h
      refine ⟨_, rfl, _, rfl, _, rfl, st, 9, rfl, wdG.sa, by decide, by decide, fun r1 GA r10 r11 mvA => ?_⟩
      have wdA := wdG.mv mvA
      have kA := kG.trans (KX.mv mvA)
      have hv1 := List.getElem?_eq_getElem (show r1.toNat < vs.length by omega)
      generalize vs[r1.toNat] = v1 at hv1
      refine ⟨L12, _, r1, v1, rfl, rfl, SqL.of (kA.lst nL12 at12), atI_at r10 hv1, _, rfl, _, rfl, st, 9, rfl, wdA.sa, by decide, by decide, fun r2 GB r20 r21 mvB => ?_⟩
      have wdB := wdA.mv mvB
      have kB := kA.trans (KX.mv mvB)
      have hv2 := List.getElem?_eq_getElem (show r2.toNat < vs.length by omega)
      generalize vs[r2.toNat] = v2 at hv2
      obtain ⟨d1, hd1, hdv1⟩ := dpAll_get' all12 hv1
      obtain ⟨d2, hd2, hdv2⟩ := dpAll_get' all12 hv2
      refine ⟨L12, _, r2, v2, rfl, rfl, SqL.of (kB.lst nL12 at12), atI_at r20 hv2, _, rfl, ?_⟩
      refine ⟨vb, v1, v2, .ref sa', db, d1, d2, _, rfl, one wdB (kB.dp hv12) (kB.dp hdv1) (kB.dp hdv2) (kB.dp hs12), four_B tB (ok12 d1 (List.mem_of_getElem? hd1)) (ok12 d2 (List.mem_of_getElem? hd2)) tS.1.th, fun GC eC tC' => ⟨_, rfl, ifF rfl ?_⟩⟩
      exact ⟨_, _, _, _, _, _, _, _, rfl, wdB.ext eC tC'⟩
  · obtain ⟨o3, o4, o5, o6, o7, o8, o9, o10, rfl, wd⟩ := h
    exact ⟨_, _, _, _, _, _, _, _, _, _, rfl, wd.scr, wd.tb⟩
end
/-- a def of the text that stands under its name -/
structure Std0 (K : PySem.W.Frag) (mg : Str → Option Value) (x : Str) (st : Stmt) (f : Addr) (fd : FuncData) : Prop where
  fn : Fun K x x st f fd
  nm : mg x = some (.ref f)
structure Std (K : PySem.W.Frag) (mg : Str → Option Value) (x : Str) (st : Stmt) (ps : List Str) (f : Addr) (fd : FuncData) : Prop where
  fn : Fun K x x st f fd
  nm : mg x = some (.ref f)
  bi : Binds K fd ps []
theorem Std.cal {P : Program} {w : World} {K : PySem.W.Frag} {mg : Str → Option Value} {base : Heap} {x : Str} {st : Stmt} {ps : List Str} {f : Addr} {fd : FuncData} {k j : Nat} {sp : Sp} (D : Std K mg x st ps f fd) (F : FnOk P w K mg base CX0 k f fd ps sp) (h : k ≤ j := by omega) : Cal P w K mg base x j ps sp :=
  ⟨f, fd, F.mono h, D.nm, D.fn.kp, D.bi⟩
theorem Std.calX {P : Program} {w : World} {K : PySem.W.Frag} {mg : Str → Option Value} {base : Heap} {x : Str} {st : Stmt} {ps : List Str} {f : Addr} {fd : FuncData} {k j : Nat} {sp : Sp} (D : Std K mg x st ps f fd) (F : FnOk P w K mg base (L2.CX P w) k f fd ps sp) (h : k ≤ j := by omega) : CalX P w K mg base x j ps sp :=
  ⟨f, fd, F.mono h, D.nm, D.fn.kp, D.bi⟩
theorem exm_mk {K : PySem.W.Frag} {C S : Addr} (h1 : PySem.W.subIn K (.ref S) (.type "BaseException") = some true) (h2 : PySem.W.isClsIn K S = true) (h3 : PySem.W.typeIn K (.ref S) = some (.type "type")) (h4 : PySem.W.subIn K (.ref C) (.ref S) = some true) : PySem.W.exmOne K (.ref C) (.ref S) = some true := by
  have h2 : (PySem.W.clsIn K S).isSome = true := h2
  unfold PySem.W.exmOne
  rw [if_pos (by rw [h1]; rfl)]
  show (if ((PySem.W.clsIn K S).isSome && PySem.W.typeIn K (.ref S) == some (.type "type")) = true then PySem.W.subIn K (.ref C) (.ref S) else none) = _
  rw [if_pos (by rw [h2, h3]; rfl), h4]
section
open PySem.Spec PyProof.Rows LamX
def tbOf (PA PB PC PE PR : Addr) (h : PR ∉ [PA, PB, PC, PE]) : TbP := ⟨[PA, PB, PC, PE], [(PR, ("_law_right" : Str) ++ ".<locals>." ++ "<lambda>")], fun p hp => by rw [List.mem_singleton.mp hp]; exact h⟩
theorem all_cals {P : Program} {w : World} {K : PySem.W.Frag} {mg : Str → Option Value} {base : Heap} {PA PB PC PE PR cA cB cC cE cR CS CG CP : Addr} (T : Free mg) (hStr : mg "str" = none) (hAll : mg "all" = none) (hAny : mg "any" = none) (hSet : mg "set" = none) (hSo : mg "sorted" = none) (hEn : mg "enumerate" = none) (hVe : mg "ValueError" = none) (hGe : mg "GiveError" = some (.ref CS)) (sys : SysB base)
    (XG : Exn K mg "NoChart" CG) (XP : Exn K mg "NoPoints" CP) (KG : Kin K mg CG 0) (KP : Kin K mg CP 1) (mG : PySem.W.exmOne K (.ref CG) (.ref CS) = some true) (mP : PySem.W.exmOne K (.ref CP) (.ref CS) = some true) (ap : PR ∉ [PA, PB, PC, PE])
    {f0 : Addr} {d0 : FuncData} (D0 : Std K mg "is_whole" sWhole ["thing"] f0 d0) {f1 : Addr} {d1 : FuncData} (D1 : Std K mg "is_within" sWithin ["thing", "least", "most"] f1 d1) {f2 : Addr} {d2 : FuncData} (D2 : Std K mg "are_points" sPoints ["thing", "many"] f2 d2) {f3 : Addr} {d3 : FuncData} (D3 : Std K mg "is_chart" sIsChart ["thing"] f3 d3) {f4 : Addr} {d4 : FuncData} (D4 : Std K mg "check_chart" sCheckCh ["chart"] f4 d4) {f5 : Addr} {d5 : FuncData} (D5 : Std K mg "check_case" sCheckCase ["chart", "starts", "goals"] f5 d5) {f6 : Addr} {d6 : FuncData} (D6 : Std K mg "is_walk" sIsWalk ["chart", "thing"] f6 d6) {f7 : Addr} {d7 : FuncData} (D7 : Std K mg "is_way" sIsWay ["chart", "starts", "goals", "thing"] f7 d7) {f8 : Addr} {d8 : FuncData} (D8 : Std K mg "is_bar" sIsBar ["chart", "starts", "goals", "thing"] f8 d8) {f9 : Addr} {d9 : FuncData} (D9 : Std K mg "befores_of" sBefores ["chart"] f9 d9) {f10 : Addr} {d10 : FuncData} (D10 : Std K mg "distances" sDist ["links", "origins", "least", "most"] f10 d10) {f11 : Addr} {d11 : FuncData} (D11 : Std K mg "nearest" sNear ["points", "far"] f11 d11) {f12 : Addr} {d12 : FuncData} (D12 : Std K mg "shortest" sShort ["chart", "far", "point"] f12 d12) {f13 : Addr} {d13 : FuncData} (D13 : Std K mg "paper" sPaper ["chart", "starts", "goals"] f13 d13) {f14 : Addr} {d14 : FuncData} (D14 : Std K mg "least_ranks" sRanks ["chart"] f14 d14) {f15 : Addr} {d15 : FuncData} (D15 : Std K mg "least_ring" sLring ["chart"] f15 d15) {f16 : Addr} {d16 : FuncData} (D16 : Std K mg "rounds" sRounds ["chart"] f16 d16) {f17 : Addr} {d17 : FuncData} (D17 : Std K mg "is_ring" sIsRing ["chart", "thing"] f17 d17) {f18 : Addr} {d18 : FuncData} (D18 : Std K mg "are_ranks" sAreRanks ["chart", "thing"] f18 d18) {f19 : Addr} {d19 : FuncData} (D19 : Std K mg "_law_cell_at" sCell ["_law_script", "_law_k"] f19 d19) {f20 : Addr} {d20 : FuncData} (D20 : Std K mg "_law_state" sState ["_law_script", "_law_k"] f20 d20) {f21 : Addr} {d21 : FuncData} (D21 : Std K mg "_law_choice" sChoice ["_law_state_here", "_law_many"] f21 d21) {f22 : Addr} {d22 : FuncData} (D22 : Std0 K mg "_law_marks" sMarks f22 d22) {f23 : Addr} {d23 : FuncData} (D23 : Std0 K mg "_law_word" sWord f23 d23) {f24 : Addr} {d24 : FuncData} (D24 : Std K mg "_law_said" sSaid ["_law_call"] f24 d24) {f25 : Addr} {d25 : FuncData} (D25 : Std K mg "_law_whole" sLWhole ["_law_thing"] f25 d25) {f26 : Addr} {d26 : FuncData} (D26 : Std K mg "_law_odd" sOdd ["_law_state_here"] f26 d26) {f27 : Addr} {d27 : FuncData} (D27 : Std K mg "_law_bent" sBent ["_law_state_here", "_law_thing"] f27 d27) {f28 : Addr} {d28 : FuncData} (D28 : Std K mg "_law_chart" sChart ["_law_state_here", "_law_most"] f28 d28) {f29 : Addr} {d29 : FuncData} (D29 : Std K mg "_law_some" sSomeP ["_law_state_here", "_law_many"] f29 d29) {f30 : Addr} {d30 : FuncData} (D30 : Std K mg "_law_are_points" sLPoints ["_law_many", "_law_thing"] f30 d30) {f31 : Addr} {d31 : FuncData} (D31 : Std K mg "_law_is_chart" sLChart ["_law_thing"] f31 d31) {f32 : Addr} {d32 : FuncData} (D32 : Std K mg "_law_right" sRight ["_law_chart_here", "_law_starts", "_law_goals", "_law_thing"] f32 d32)
    (bM : ∀ (s : Shared) (u : Value), BindsTo s d22 ⟨[u], []⟩ [("_law_e", u)]) (bW : ∀ (s : Shared) (u : Value), BindsTo s d23 ⟨[u], []⟩ [("_law_e", u)])
    (cdA : d3.code = .ref cA) (cdB : d6.code = .ref cB) (cdC : d8.code = .ref cC) (cdE : d18.code = .ref cE) (cdR : d32.code = .ref cR) (TA : LamX.TabB base mg cA PA) (TB : LamX.TabB base mg cB PB) (TC : LamX.TabB base mg cC PC) (TE' : LamX.TabB base mg cE PE) (TR : LamX.TabB base mg cR PR) : Law04 P w K mg base (tbOf PA PB PC PE PR ap) 13 := by
  have mA : PA ∈ (tbOf PA PB PC PE PR ap).g := List.mem_cons_self
  have mB : PB ∈ (tbOf PA PB PC PE PR ap).g := List.mem_cons_of_mem _ List.mem_cons_self
  have mC : PC ∈ (tbOf PA PB PC PE PR ap).g := List.mem_cons_of_mem _ (List.mem_cons_of_mem _ List.mem_cons_self)
  have mE : PE ∈ (tbOf PA PB PC PE PR ap).g := List.mem_cons_of_mem _ (List.mem_cons_of_mem _ (List.mem_cons_of_mem _ List.mem_cons_self))
  have mR : (PR, ("_law_right" : Str) ++ ".<locals>." ++ "<lambda>") ∈ (tbOf PA PB PC PE PR ap).t := List.mem_cons_self
  have uR : ∀ p ∈ (tbOf PA PB PC PE PR ap).t, p.1 = PR → p.2 = ("_law_right" : Str) ++ ".<locals>." ++ "<lambda>" := fun p hp _ => by rw [List.mem_singleton.mp (show p ∈ [(PR, ("_law_right" : Str) ++ ".<locals>." ++ "<lambda>")] from hp)]
  generalize tbOf PA PB PC PE PR ap = PT at mA mB mC mE mR uR
  have cW := D0.cal (j := 1) (ok_whole (P := P) (w := w) (base := base) (k := 0) D0.fn T)
  have cWi := D1.cal (j := 2) (ok_within D1.fn cW)
  have cPo := D2.cal (j := 3) (ok_points D2.fn T cWi)
  have cIs := D3.cal (j := 5) (ok_isChart (PT := PT) D3.fn cdA TA mA T hAll cPo)
  have oCk := ok_checkCh (k := 5) D4.fn cIs
  have bCk := bad_checkCh (k := 5) D4.fn XG cIs
  have cCk := D4.cal (j := 6) (oCk)
  have xCk := D4.calX (j := 6) (FnOk.or (FnOk.lift oCk) bCk)
  have bCkx := D4.calX (j := 6) (bCk)
  have cCa := D5.cal (j := 7) (ok_checkCase (k := 6) D5.fn T cCk (cPo.mono (by omega)))
  have bCa := D5.calX (j := 7) (bad_checkCase (k := 6) D5.fn XP T xCk (cPo.mono (by omega)))
  have cWa := D6.cal (j := 6) (ok_isWalk (k := 2) (PT := PT) D6.fn cdB TB mB T hAll cWi)
  have xWy := D7.calX (j := 9) (FnOk.or (FnOk.lift (ok_isWay (k := 7) D7.fn cCa (cWa.mono (by omega)))) (bad_isWay (k := 7) D7.fn bCa))
  have xBa := D8.calX (j := 9) (FnOk.or (FnOk.lift (ok_isBar (k := 6) D8.fn cdC TC mC T hAll hAny cCa (cPo.mono (by omega)))) (bad_isBar (k := 7) D8.fn bCa))
  have cBe := D9.cal (j := 1) (ok_bef (P := P) (w := w) (base := base) (k := 0) D9.fn hEn)
  have cDT := D10.cal (j := 7) (ok_distT (P := P) (w := w) (base := base) (k := 6) D10.fn T)
  have cDL := D10.cal (j := 7) (ok_distL (P := P) (w := w) (base := base) (k := 6) D10.fn T)
  have cN : ∀ (k : Nat) (S : Int → Prop) (E : Int → Int → Prop), Cal P w K mg base "nearest" (k + 1) ["points", "far"] (spNear K S E) := fun k S E => D11.cal (ok_near (k := k) D11.fn)
  have cS := D12.cal (j := 7) (ok_short (k := 6) D12.fn T (cN 5))
  have xPa := D13.calX (j := 9) (FnOk.or (FnOk.lift (ok_paper (k := 7) D13.fn T hSo cCa (cBe.mono (by omega)) cDT cDL (cN 6) cS)) (bad_paper (k := 7) D13.fn bCa))
  have cDi := D10.cal (j := 1) (ok_distR (P := P) (w := w) (base := base) (k := 0) D10.fn T)
  have cNe := D11.cal (j := 1) (ok_nearTo (P := P) (w := w) (base := base) (mg := mg) (k := 0) D11.fn)
  have cSh := D12.cal (j := 2) (ok_shortC (k := 1) D12.fn T cNe)
  have cRk := D14.cal (j := 6) (ok_ranks (k := 1) D14.fn T cBe)
  have cLg := D15.cal (j := 6) (ok_lring (k := 2) D15.fn T (cBe.mono (by omega)) (cDi.mono (by omega)) (cNe.mono (by omega)) cSh)
  have xRo := D16.calX (j := 9) (FnOk.or (FnOk.lift (ok_rounds (k := 6) (PT := PT) D16.fn cCk cRk cLg)) (bad_rounds (k := 6) D16.fn bCkx))
  have xIr := D17.calX (j := 9) (FnOk.or (FnOk.lift (ok_isRing (k := 6) D17.fn T hSet cCk cWa)) (bad_isRing (k := 6) D17.fn bCkx))
  have xAr := D18.calX (j := 9) (FnOk.or (FnOk.lift (ok_areRanks (k := 5) D18.fn cdE TE' mE T hAll cCk (cW.mono (by omega)))) (bad_areRanks (k := 6) D18.fn bCkx))
  have cCh := D21.cal (j := 1) (ok_choice (P := P) (w := w) (base := base) (mg := mg) (k := 0) D21.fn)
  have cCe := D19.cal (j := 1) (ok_cell (P := P) (w := w) (base := base) (k := 0) D19.fn T)
  have cLw := D25.cal (j := 1) (ok_lwhole (P := P) (w := w) (base := base) (k := 0) D25.fn T)
  have cOd := D26.cal (j := 2) (ok_odd D26.fn T cCh)
  have cLp := D30.cal (j := 2) (ok_lpoints (k := 1) D30.fn T hSet hSo cLw)
  have cLc := D31.cal (j := 3) (ok_lchart (k := 2) D31.fn T cLp)
  have hM0 : HotOk P w K mg base 1 f22 CG (RMarks 0) := ok_marks (k := 0) D22.fn bM T KG
  have hM1 : HotOk P w K mg base 1 f22 CP (RMarks 1) := ok_marks (k := 0) D22.fn bM T KP
  have Z : SaidF P w K mg base CS CG CP f23 f24 d24 9 := ⟨⟨hGe, D23.nm, D23.fn.kp, (ok_word (k := 1) D23.fn bW T hVe KG (.inl rfl) D22.nm D22.fn.kp hM0).mono (by omega), (ok_word (k := 1) D23.fn bW T hVe KP (.inr rfl) D22.nm D22.fn.kp hM1).mono (by omega), mG, mP⟩, D24.fn, D24.bi, D24.nm⟩
  have N : Rights P w K mg base PT CS CG CP f23 f24 d24 9 := ⟨cLc.mono (by omega), cLp.mono (by omega), Z, xWy, xBa, xPa, xIr, xAr, xRo⟩
  have oR := ok_right D32.fn cdR T sys TR mR uR N
  exact {
    cSt := D20.cal (ok_state D20.fn T cCe)
    cC := cCh.mono (by omega)
    cCh := D28.cal (ok_chart D28.fn T cCh)
    cS := D29.cal (ok_someP D29.fn T cCh)
    cO := cOd.mono (by omega)
    cB := D27.cal (all_bent (k := 2) (c := c01) (wd := 16) (by decide) (by decide) D27.fn D27.nm D27.bi T hStr (cCh.mono (by omega)) (cLw.mono (by omega)) cOd 5)
    cR := ⟨_, _, oR.mono (by omega), D32.nm, D32.fn.kp, D32.bi⟩ }
/-- a def with its code's table -/
def Coded (K : PySem.W.Frag) (mg : Str → Option Value) (x : Str) (st : Stmt) (c Pt : Addr) : Prop := ∃ (f : Addr) (fd : FuncData) (oT : Obj) (vT : Array Value), mg x = some (.ref f) ∧ Fun K x x st f fd ∧ fd.code = .ref c ∧ K.lookup c = some oT ∧ oT.data = .fields vT ∧ vT[11]? = some (.ref Pt) ∧ K.lookup Pt = none
/-- what the top leaves -/
def Left04 (K : PySem.W.Frag) (mg : Str → Option Value) (fa : Addr) : Prop := ∃ (fd : FuncData) (cA PA cB PB cC PC cE PE cR PR : Addr), Fun K "law" "law" sLaw fa fd ∧ (∀ (s : Shared) (v : Value), BindsTo s fd ⟨[v], []⟩ [("_law_script", v)]) ∧ Free mg ∧
  Coded K mg "is_chart" sIsChart cA PA ∧ Coded K mg "is_walk" sIsWalk cB PB ∧ Coded K mg "is_bar" sIsBar cC PC ∧ Coded K mg "are_ranks" sAreRanks cE PE ∧ Coded K mg "_law_right" sRight cR PR ∧ ∃ ap : PR ∉ [PA, PB, PC, PE],
  ∀ (P : Program) (w : World) (base : Heap), SysB base → LamX.TabB base mg cA PA → LamX.TabB base mg cB PB → LamX.TabB base mg cC PC → LamX.TabB base mg cE PE → LamX.TabB base mg cR PR → Law04 P w K mg base (tbOf PA PB PC PE PR ap) 13
set_option maxHeartbeats 8000000 in
theorem all_mk {K : PySem.W.Frag} {h : Heap} {mg : Str → Option Value} {fa : Addr} (X : K.In h) (G : h.Ns mainGlobals mg) (hfa : mg "law" = some (.ref fa))
    {f0 : Addr} {od0 an0 : Option Addr} {sl0 : Array (Option Value)} {oc0 kV0 dc0 pm0 ct0 : Value} {cd0 : Value}
    (a0 : PySem.W.nsIn K mainGlobals "is_whole" = some (some (.ref f0))) (l0 : K.lookup f0 = some ⟨oc0, od0, .func (PySem.W.fnOf "is_whole" "is_whole" (defArgs sWhole) (defBody sWhole) (defScope sWhole) .none kV0 dc0 pm0 an0 cd0 ct0), sl0⟩) (c0 : PySem.W.codeIn K cd0 "is_whole" = true) (k0 : PySem.W.keepIn K (.ref f0) = true)
    {f1 : Addr} {od1 an1 : Option Addr} {sl1 : Array (Option Value)} {oc1 kV1 dc1 pm1 ct1 : Value} {cd1 : Value}
    (a1 : PySem.W.nsIn K mainGlobals "is_within" = some (some (.ref f1))) (l1 : K.lookup f1 = some ⟨oc1, od1, .func (PySem.W.fnOf "is_within" "is_within" (defArgs sWithin) (defBody sWithin) (defScope sWithin) .none kV1 dc1 pm1 an1 cd1 ct1), sl1⟩) (c1 : PySem.W.codeIn K cd1 "is_within" = true) (k1 : PySem.W.keepIn K (.ref f1) = true)
    {f2 : Addr} {od2 an2 : Option Addr} {sl2 : Array (Option Value)} {oc2 kV2 dc2 pm2 ct2 : Value} {cd2 : Value}
    (a2 : PySem.W.nsIn K mainGlobals "are_points" = some (some (.ref f2))) (l2 : K.lookup f2 = some ⟨oc2, od2, .func (PySem.W.fnOf "are_points" "are_points" (defArgs sPoints) (defBody sPoints) (defScope sPoints) .none kV2 dc2 pm2 an2 cd2 ct2), sl2⟩) (c2 : PySem.W.codeIn K cd2 "are_points" = true) (k2 : PySem.W.keepIn K (.ref f2) = true)
    {f3 : Addr} {od3 an3 : Option Addr} {sl3 : Array (Option Value)} {oc3 kV3 dc3 pm3 ct3 : Value} {cc3 : Addr}
    (a3 : PySem.W.nsIn K mainGlobals "is_chart" = some (some (.ref f3))) (l3 : K.lookup f3 = some ⟨oc3, od3, .func (PySem.W.fnOf "is_chart" "is_chart" (defArgs sIsChart) (defBody sIsChart) (defScope sIsChart) .none kV3 dc3 pm3 an3 (.ref cc3) ct3), sl3⟩) (c3 : PySem.W.codeIn K (.ref cc3) "is_chart" = true) (k3 : PySem.W.keepIn K (.ref f3) = true)
    {f4 : Addr} {od4 an4 : Option Addr} {sl4 : Array (Option Value)} {oc4 kV4 dc4 pm4 ct4 : Value} {cd4 : Value}
    (a4 : PySem.W.nsIn K mainGlobals "check_chart" = some (some (.ref f4))) (l4 : K.lookup f4 = some ⟨oc4, od4, .func (PySem.W.fnOf "check_chart" "check_chart" (defArgs sCheckCh) (defBody sCheckCh) (defScope sCheckCh) .none kV4 dc4 pm4 an4 cd4 ct4), sl4⟩) (c4 : PySem.W.codeIn K cd4 "check_chart" = true) (k4 : PySem.W.keepIn K (.ref f4) = true)
    {f5 : Addr} {od5 an5 : Option Addr} {sl5 : Array (Option Value)} {oc5 kV5 dc5 pm5 ct5 : Value} {cd5 : Value}
    (a5 : PySem.W.nsIn K mainGlobals "check_case" = some (some (.ref f5))) (l5 : K.lookup f5 = some ⟨oc5, od5, .func (PySem.W.fnOf "check_case" "check_case" (defArgs sCheckCase) (defBody sCheckCase) (defScope sCheckCase) .none kV5 dc5 pm5 an5 cd5 ct5), sl5⟩) (c5 : PySem.W.codeIn K cd5 "check_case" = true) (k5 : PySem.W.keepIn K (.ref f5) = true)
    {f6 : Addr} {od6 an6 : Option Addr} {sl6 : Array (Option Value)} {oc6 kV6 dc6 pm6 ct6 : Value} {cc6 : Addr}
    (a6 : PySem.W.nsIn K mainGlobals "is_walk" = some (some (.ref f6))) (l6 : K.lookup f6 = some ⟨oc6, od6, .func (PySem.W.fnOf "is_walk" "is_walk" (defArgs sIsWalk) (defBody sIsWalk) (defScope sIsWalk) .none kV6 dc6 pm6 an6 (.ref cc6) ct6), sl6⟩) (c6 : PySem.W.codeIn K (.ref cc6) "is_walk" = true) (k6 : PySem.W.keepIn K (.ref f6) = true)
    {f7 : Addr} {od7 an7 : Option Addr} {sl7 : Array (Option Value)} {oc7 kV7 dc7 pm7 ct7 : Value} {cd7 : Value}
    (a7 : PySem.W.nsIn K mainGlobals "is_way" = some (some (.ref f7))) (l7 : K.lookup f7 = some ⟨oc7, od7, .func (PySem.W.fnOf "is_way" "is_way" (defArgs sIsWay) (defBody sIsWay) (defScope sIsWay) .none kV7 dc7 pm7 an7 cd7 ct7), sl7⟩) (c7 : PySem.W.codeIn K cd7 "is_way" = true) (k7 : PySem.W.keepIn K (.ref f7) = true)
    {f8 : Addr} {od8 an8 : Option Addr} {sl8 : Array (Option Value)} {oc8 kV8 dc8 pm8 ct8 : Value} {cc8 : Addr}
    (a8 : PySem.W.nsIn K mainGlobals "is_bar" = some (some (.ref f8))) (l8 : K.lookup f8 = some ⟨oc8, od8, .func (PySem.W.fnOf "is_bar" "is_bar" (defArgs sIsBar) (defBody sIsBar) (defScope sIsBar) .none kV8 dc8 pm8 an8 (.ref cc8) ct8), sl8⟩) (c8 : PySem.W.codeIn K (.ref cc8) "is_bar" = true) (k8 : PySem.W.keepIn K (.ref f8) = true)
    {f9 : Addr} {od9 an9 : Option Addr} {sl9 : Array (Option Value)} {oc9 kV9 dc9 pm9 ct9 : Value} {cd9 : Value}
    (a9 : PySem.W.nsIn K mainGlobals "befores_of" = some (some (.ref f9))) (l9 : K.lookup f9 = some ⟨oc9, od9, .func (PySem.W.fnOf "befores_of" "befores_of" (defArgs sBefores) (defBody sBefores) (defScope sBefores) .none kV9 dc9 pm9 an9 cd9 ct9), sl9⟩) (c9 : PySem.W.codeIn K cd9 "befores_of" = true) (k9 : PySem.W.keepIn K (.ref f9) = true)
    {f10 : Addr} {od10 an10 : Option Addr} {sl10 : Array (Option Value)} {oc10 kV10 dc10 pm10 ct10 : Value} {cd10 : Value}
    (a10 : PySem.W.nsIn K mainGlobals "distances" = some (some (.ref f10))) (l10 : K.lookup f10 = some ⟨oc10, od10, .func (PySem.W.fnOf "distances" "distances" (defArgs sDist) (defBody sDist) (defScope sDist) .none kV10 dc10 pm10 an10 cd10 ct10), sl10⟩) (c10 : PySem.W.codeIn K cd10 "distances" = true) (k10 : PySem.W.keepIn K (.ref f10) = true)
    {f11 : Addr} {od11 an11 : Option Addr} {sl11 : Array (Option Value)} {oc11 kV11 dc11 pm11 ct11 : Value} {cd11 : Value}
    (a11 : PySem.W.nsIn K mainGlobals "nearest" = some (some (.ref f11))) (l11 : K.lookup f11 = some ⟨oc11, od11, .func (PySem.W.fnOf "nearest" "nearest" (defArgs sNear) (defBody sNear) (defScope sNear) .none kV11 dc11 pm11 an11 cd11 ct11), sl11⟩) (c11 : PySem.W.codeIn K cd11 "nearest" = true) (k11 : PySem.W.keepIn K (.ref f11) = true)
    {f12 : Addr} {od12 an12 : Option Addr} {sl12 : Array (Option Value)} {oc12 kV12 dc12 pm12 ct12 : Value} {cd12 : Value}
    (a12 : PySem.W.nsIn K mainGlobals "shortest" = some (some (.ref f12))) (l12 : K.lookup f12 = some ⟨oc12, od12, .func (PySem.W.fnOf "shortest" "shortest" (defArgs sShort) (defBody sShort) (defScope sShort) .none kV12 dc12 pm12 an12 cd12 ct12), sl12⟩) (c12 : PySem.W.codeIn K cd12 "shortest" = true) (k12 : PySem.W.keepIn K (.ref f12) = true)
    {f13 : Addr} {od13 an13 : Option Addr} {sl13 : Array (Option Value)} {oc13 kV13 dc13 pm13 ct13 : Value} {cd13 : Value}
    (a13 : PySem.W.nsIn K mainGlobals "paper" = some (some (.ref f13))) (l13 : K.lookup f13 = some ⟨oc13, od13, .func (PySem.W.fnOf "paper" "paper" (defArgs sPaper) (defBody sPaper) (defScope sPaper) .none kV13 dc13 pm13 an13 cd13 ct13), sl13⟩) (c13 : PySem.W.codeIn K cd13 "paper" = true) (k13 : PySem.W.keepIn K (.ref f13) = true)
    {f14 : Addr} {od14 an14 : Option Addr} {sl14 : Array (Option Value)} {oc14 kV14 dc14 pm14 ct14 : Value} {cd14 : Value}
    (a14 : PySem.W.nsIn K mainGlobals "least_ranks" = some (some (.ref f14))) (l14 : K.lookup f14 = some ⟨oc14, od14, .func (PySem.W.fnOf "least_ranks" "least_ranks" (defArgs sRanks) (defBody sRanks) (defScope sRanks) .none kV14 dc14 pm14 an14 cd14 ct14), sl14⟩) (c14 : PySem.W.codeIn K cd14 "least_ranks" = true) (k14 : PySem.W.keepIn K (.ref f14) = true)
    {f15 : Addr} {od15 an15 : Option Addr} {sl15 : Array (Option Value)} {oc15 kV15 dc15 pm15 ct15 : Value} {cd15 : Value}
    (a15 : PySem.W.nsIn K mainGlobals "least_ring" = some (some (.ref f15))) (l15 : K.lookup f15 = some ⟨oc15, od15, .func (PySem.W.fnOf "least_ring" "least_ring" (defArgs sLring) (defBody sLring) (defScope sLring) .none kV15 dc15 pm15 an15 cd15 ct15), sl15⟩) (c15 : PySem.W.codeIn K cd15 "least_ring" = true) (k15 : PySem.W.keepIn K (.ref f15) = true)
    {f16 : Addr} {od16 an16 : Option Addr} {sl16 : Array (Option Value)} {oc16 kV16 dc16 pm16 ct16 : Value} {cd16 : Value}
    (a16 : PySem.W.nsIn K mainGlobals "rounds" = some (some (.ref f16))) (l16 : K.lookup f16 = some ⟨oc16, od16, .func (PySem.W.fnOf "rounds" "rounds" (defArgs sRounds) (defBody sRounds) (defScope sRounds) .none kV16 dc16 pm16 an16 cd16 ct16), sl16⟩) (c16 : PySem.W.codeIn K cd16 "rounds" = true) (k16 : PySem.W.keepIn K (.ref f16) = true)
    {f17 : Addr} {od17 an17 : Option Addr} {sl17 : Array (Option Value)} {oc17 kV17 dc17 pm17 ct17 : Value} {cd17 : Value}
    (a17 : PySem.W.nsIn K mainGlobals "is_ring" = some (some (.ref f17))) (l17 : K.lookup f17 = some ⟨oc17, od17, .func (PySem.W.fnOf "is_ring" "is_ring" (defArgs sIsRing) (defBody sIsRing) (defScope sIsRing) .none kV17 dc17 pm17 an17 cd17 ct17), sl17⟩) (c17 : PySem.W.codeIn K cd17 "is_ring" = true) (k17 : PySem.W.keepIn K (.ref f17) = true)
    {f18 : Addr} {od18 an18 : Option Addr} {sl18 : Array (Option Value)} {oc18 kV18 dc18 pm18 ct18 : Value} {cc18 : Addr}
    (a18 : PySem.W.nsIn K mainGlobals "are_ranks" = some (some (.ref f18))) (l18 : K.lookup f18 = some ⟨oc18, od18, .func (PySem.W.fnOf "are_ranks" "are_ranks" (defArgs sAreRanks) (defBody sAreRanks) (defScope sAreRanks) .none kV18 dc18 pm18 an18 (.ref cc18) ct18), sl18⟩) (c18 : PySem.W.codeIn K (.ref cc18) "are_ranks" = true) (k18 : PySem.W.keepIn K (.ref f18) = true)
    {f19 : Addr} {od19 an19 : Option Addr} {sl19 : Array (Option Value)} {oc19 kV19 dc19 pm19 ct19 : Value} {cd19 : Value}
    (a19 : PySem.W.nsIn K mainGlobals "_law_cell_at" = some (some (.ref f19))) (l19 : K.lookup f19 = some ⟨oc19, od19, .func (PySem.W.fnOf "_law_cell_at" "_law_cell_at" (defArgs sCell) (defBody sCell) (defScope sCell) .none kV19 dc19 pm19 an19 cd19 ct19), sl19⟩) (c19 : PySem.W.codeIn K cd19 "_law_cell_at" = true) (k19 : PySem.W.keepIn K (.ref f19) = true)
    {f20 : Addr} {od20 an20 : Option Addr} {sl20 : Array (Option Value)} {oc20 kV20 dc20 pm20 ct20 : Value} {cd20 : Value}
    (a20 : PySem.W.nsIn K mainGlobals "_law_state" = some (some (.ref f20))) (l20 : K.lookup f20 = some ⟨oc20, od20, .func (PySem.W.fnOf "_law_state" "_law_state" (defArgs sState) (defBody sState) (defScope sState) .none kV20 dc20 pm20 an20 cd20 ct20), sl20⟩) (c20 : PySem.W.codeIn K cd20 "_law_state" = true) (k20 : PySem.W.keepIn K (.ref f20) = true)
    {f21 : Addr} {od21 an21 : Option Addr} {sl21 : Array (Option Value)} {oc21 kV21 dc21 pm21 ct21 : Value} {cd21 : Value}
    (a21 : PySem.W.nsIn K mainGlobals "_law_choice" = some (some (.ref f21))) (l21 : K.lookup f21 = some ⟨oc21, od21, .func (PySem.W.fnOf "_law_choice" "_law_choice" (defArgs sChoice) (defBody sChoice) (defScope sChoice) .none kV21 dc21 pm21 an21 cd21 ct21), sl21⟩) (c21 : PySem.W.codeIn K cd21 "_law_choice" = true) (k21 : PySem.W.keepIn K (.ref f21) = true)
    {f22 : Addr} {od22 an22 : Option Addr} {sl22 : Array (Option Value)} {oc22 kV22 dc22 pm22 ct22 : Value} {cd22 : Value}
    (a22 : PySem.W.nsIn K mainGlobals "_law_marks" = some (some (.ref f22))) (l22 : K.lookup f22 = some ⟨oc22, od22, .func (PySem.W.fnOf "_law_marks" "_law_marks" (defArgs sMarks) (defBody sMarks) (defScope sMarks) .none kV22 dc22 pm22 an22 cd22 ct22), sl22⟩) (c22 : PySem.W.codeIn K cd22 "_law_marks" = true) (k22 : PySem.W.keepIn K (.ref f22) = true)
    {f23 : Addr} {od23 an23 : Option Addr} {sl23 : Array (Option Value)} {oc23 kV23 dc23 pm23 ct23 : Value} {cd23 : Value}
    (a23 : PySem.W.nsIn K mainGlobals "_law_word" = some (some (.ref f23))) (l23 : K.lookup f23 = some ⟨oc23, od23, .func (PySem.W.fnOf "_law_word" "_law_word" (defArgs sWord) (defBody sWord) (defScope sWord) .none kV23 dc23 pm23 an23 cd23 ct23), sl23⟩) (c23 : PySem.W.codeIn K cd23 "_law_word" = true) (k23 : PySem.W.keepIn K (.ref f23) = true)
    {f24 : Addr} {od24 an24 : Option Addr} {sl24 : Array (Option Value)} {oc24 kV24 dc24 pm24 ct24 : Value} {cd24 : Value}
    (a24 : PySem.W.nsIn K mainGlobals "_law_said" = some (some (.ref f24))) (l24 : K.lookup f24 = some ⟨oc24, od24, .func (PySem.W.fnOf "_law_said" "_law_said" (defArgs sSaid) (defBody sSaid) (defScope sSaid) .none kV24 dc24 pm24 an24 cd24 ct24), sl24⟩) (c24 : PySem.W.codeIn K cd24 "_law_said" = true) (k24 : PySem.W.keepIn K (.ref f24) = true)
    {f25 : Addr} {od25 an25 : Option Addr} {sl25 : Array (Option Value)} {oc25 kV25 dc25 pm25 ct25 : Value} {cd25 : Value}
    (a25 : PySem.W.nsIn K mainGlobals "_law_whole" = some (some (.ref f25))) (l25 : K.lookup f25 = some ⟨oc25, od25, .func (PySem.W.fnOf "_law_whole" "_law_whole" (defArgs sLWhole) (defBody sLWhole) (defScope sLWhole) .none kV25 dc25 pm25 an25 cd25 ct25), sl25⟩) (c25 : PySem.W.codeIn K cd25 "_law_whole" = true) (k25 : PySem.W.keepIn K (.ref f25) = true)
    {f26 : Addr} {od26 an26 : Option Addr} {sl26 : Array (Option Value)} {oc26 kV26 dc26 pm26 ct26 : Value} {cd26 : Value}
    (a26 : PySem.W.nsIn K mainGlobals "_law_odd" = some (some (.ref f26))) (l26 : K.lookup f26 = some ⟨oc26, od26, .func (PySem.W.fnOf "_law_odd" "_law_odd" (defArgs sOdd) (defBody sOdd) (defScope sOdd) .none kV26 dc26 pm26 an26 cd26 ct26), sl26⟩) (c26 : PySem.W.codeIn K cd26 "_law_odd" = true) (k26 : PySem.W.keepIn K (.ref f26) = true)
    {f27 : Addr} {od27 an27 : Option Addr} {sl27 : Array (Option Value)} {oc27 kV27 dc27 pm27 ct27 : Value} {cd27 : Value}
    (a27 : PySem.W.nsIn K mainGlobals "_law_bent" = some (some (.ref f27))) (l27 : K.lookup f27 = some ⟨oc27, od27, .func (PySem.W.fnOf "_law_bent" "_law_bent" (defArgs sBent) (defBody sBent) (defScope sBent) .none kV27 dc27 pm27 an27 cd27 ct27), sl27⟩) (c27 : PySem.W.codeIn K cd27 "_law_bent" = true) (k27 : PySem.W.keepIn K (.ref f27) = true)
    {f28 : Addr} {od28 an28 : Option Addr} {sl28 : Array (Option Value)} {oc28 kV28 dc28 pm28 ct28 : Value} {cd28 : Value}
    (a28 : PySem.W.nsIn K mainGlobals "_law_chart" = some (some (.ref f28))) (l28 : K.lookup f28 = some ⟨oc28, od28, .func (PySem.W.fnOf "_law_chart" "_law_chart" (defArgs sChart) (defBody sChart) (defScope sChart) .none kV28 dc28 pm28 an28 cd28 ct28), sl28⟩) (c28 : PySem.W.codeIn K cd28 "_law_chart" = true) (k28 : PySem.W.keepIn K (.ref f28) = true)
    {f29 : Addr} {od29 an29 : Option Addr} {sl29 : Array (Option Value)} {oc29 kV29 dc29 pm29 ct29 : Value} {cd29 : Value}
    (a29 : PySem.W.nsIn K mainGlobals "_law_some" = some (some (.ref f29))) (l29 : K.lookup f29 = some ⟨oc29, od29, .func (PySem.W.fnOf "_law_some" "_law_some" (defArgs sSomeP) (defBody sSomeP) (defScope sSomeP) .none kV29 dc29 pm29 an29 cd29 ct29), sl29⟩) (c29 : PySem.W.codeIn K cd29 "_law_some" = true) (k29 : PySem.W.keepIn K (.ref f29) = true)
    {f30 : Addr} {od30 an30 : Option Addr} {sl30 : Array (Option Value)} {oc30 kV30 dc30 pm30 ct30 : Value} {cd30 : Value}
    (a30 : PySem.W.nsIn K mainGlobals "_law_are_points" = some (some (.ref f30))) (l30 : K.lookup f30 = some ⟨oc30, od30, .func (PySem.W.fnOf "_law_are_points" "_law_are_points" (defArgs sLPoints) (defBody sLPoints) (defScope sLPoints) .none kV30 dc30 pm30 an30 cd30 ct30), sl30⟩) (c30 : PySem.W.codeIn K cd30 "_law_are_points" = true) (k30 : PySem.W.keepIn K (.ref f30) = true)
    {f31 : Addr} {od31 an31 : Option Addr} {sl31 : Array (Option Value)} {oc31 kV31 dc31 pm31 ct31 : Value} {cd31 : Value}
    (a31 : PySem.W.nsIn K mainGlobals "_law_is_chart" = some (some (.ref f31))) (l31 : K.lookup f31 = some ⟨oc31, od31, .func (PySem.W.fnOf "_law_is_chart" "_law_is_chart" (defArgs sLChart) (defBody sLChart) (defScope sLChart) .none kV31 dc31 pm31 an31 cd31 ct31), sl31⟩) (c31 : PySem.W.codeIn K cd31 "_law_is_chart" = true) (k31 : PySem.W.keepIn K (.ref f31) = true)
    {f32 : Addr} {od32 an32 : Option Addr} {sl32 : Array (Option Value)} {oc32 kV32 dc32 pm32 ct32 : Value} {cc32 : Addr}
    (a32 : PySem.W.nsIn K mainGlobals "_law_right" = some (some (.ref f32))) (l32 : K.lookup f32 = some ⟨oc32, od32, .func (PySem.W.fnOf "_law_right" "_law_right" (defArgs sRight) (defBody sRight) (defScope sRight) .none kV32 dc32 pm32 an32 (.ref cc32) ct32), sl32⟩) (c32 : PySem.W.codeIn K (.ref cc32) "_law_right" = true) (k32 : PySem.W.keepIn K (.ref f32) = true)
    {f33 : Addr} {od33 an33 : Option Addr} {sl33 : Array (Option Value)} {oc33 kV33 dc33 pm33 ct33 : Value} {cd33 : Value}
    (a33 : PySem.W.nsIn K mainGlobals "law" = some (some (.ref f33))) (l33 : K.lookup f33 = some ⟨oc33, od33, .func (PySem.W.fnOf "law" "law" (defArgs sLaw) (defBody sLaw) (defScope sLaw) .none kV33 dc33 pm33 an33 cd33 ct33), sl33⟩) (c33 : PySem.W.codeIn K cd33 "law" = true) (k33 : PySem.W.keepIn K (.ref f33) = true)
    (z0 : PySem.W.nsIn K mainGlobals "isinstance" = some none)
    (z1 : PySem.W.nsIn K mainGlobals "int" = some none)
    (z2 : PySem.W.nsIn K mainGlobals "bool" = some none)
    (z3 : PySem.W.nsIn K mainGlobals "tuple" = some none)
    (z4 : PySem.W.nsIn K mainGlobals "len" = some none)
    (z5 : PySem.W.nsIn K mainGlobals "range" = some none)
    (z6 : PySem.W.nsIn K mainGlobals "min" = some none)
    (z7 : PySem.W.nsIn K mainGlobals "max" = some none)
    (z8 : PySem.W.nsIn K mainGlobals "sum" = some none)
    (z9 : PySem.W.nsIn K mainGlobals "list" = some none)
    (z10 : PySem.W.nsIn K mainGlobals "repr" = some none)
    (z11 : PySem.W.nsIn K mainGlobals "str" = some none)
    (z12 : PySem.W.nsIn K mainGlobals "all" = some none)
    (z13 : PySem.W.nsIn K mainGlobals "any" = some none)
    (z14 : PySem.W.nsIn K mainGlobals "set" = some none)
    (z15 : PySem.W.nsIn K mainGlobals "sorted" = some none)
    (z16 : PySem.W.nsIn K mainGlobals "enumerate" = some none)
    (z17 : PySem.W.nsIn K mainGlobals "ValueError" = some none)
    {C0 : Addr} {C1 : Addr} {C2 : Addr} {C3 : Addr} {C4 : Addr} {C5 : Addr} {C6 : Addr} {C7 : Addr} {C8 : Addr} {C9 : Addr} {C10 : Addr} {C11 : Addr} {C12 : Addr} {C13 : Addr} {C14 : Addr} {C15 : Addr} {C16 : Addr} {C17 : Addr} {C18 : Addr} (x0 : PySem.W.nsIn K mainGlobals "NoChart" = some (some (.ref C0))) (x1 : PySem.W.nsIn K mainGlobals "NoPoints" = some (some (.ref C1))) (x2 : PySem.W.nsIn K mainGlobals "NoGraph" = some (some (.ref C2))) (x3 : PySem.W.nsIn K mainGlobals "NoPlace" = some (some (.ref C3))) (x4 : PySem.W.nsIn K mainGlobals "NoNet" = some (some (.ref C4))) (x5 : PySem.W.nsIn K mainGlobals "NoActor" = some (some (.ref C5))) (x6 : PySem.W.nsIn K mainGlobals "NoWeaving" = some (some (.ref C6))) (x7 : PySem.W.nsIn K mainGlobals "NoName" = some (some (.ref C7))) (x8 : PySem.W.nsIn K mainGlobals "NoChannel" = some (some (.ref C8))) (x9 : PySem.W.nsIn K mainGlobals "NoMost" = some (some (.ref C9))) (x10 : PySem.W.nsIn K mainGlobals "NoCode" = some (some (.ref C10))) (x11 : PySem.W.nsIn K mainGlobals "NoRow" = some (some (.ref C11))) (x12 : PySem.W.nsIn K mainGlobals "NoAddress" = some (some (.ref C12))) (x13 : PySem.W.nsIn K mainGlobals "NoDeed" = some (some (.ref C13))) (x14 : PySem.W.nsIn K mainGlobals "NotFull" = some (some (.ref C14))) (x15 : PySem.W.nsIn K mainGlobals "NotStill" = some (some (.ref C15))) (x16 : PySem.W.nsIn K mainGlobals "NoLine" = some (some (.ref C16))) (x17 : PySem.W.nsIn K mainGlobals "NoText" = some (some (.ref C17))) (x18 : PySem.W.nsIn K mainGlobals "Unsafe" = some (some (.ref C18)))
    {CS : Addr} (xs : PySem.W.nsIn K mainGlobals "GiveError" = some (some (.ref CS))) (og : PySem.W.specialIn K (.builtin "object.__class__") "__get__" = some (some (.builtin "getset_descriptor.__get__"))) (ot : PySem.W.takesIn K (.builtin "object.__class__") = some true) (sb : PySem.W.subIn K (.ref CS) (.type "BaseException") = some true) (si : PySem.W.isClsIn K CS = true) (stt : PySem.W.typeIn K (.ref CS) = some (.type "type"))
     (qG : PySem.W.excIn K C0 [.type "ValueError", .type "Exception", .type "BaseException", .type "object"] "ValueError.__new__" = true) (eGk : PySem.W.keepIn K (.ref C0) = true) (eGs : PySem.W.subIn K (.ref C0) (.type "BaseException") = some true) (eGt : PySem.W.typeIn K (.ref C0) = some (.type "type")) (eGg : PySem.W.findIn K (.ref C0) "__getattribute__" = some (some (.builtin "BaseException.__getattribute__"))) (eGh : PySem.W.findIn K (.ref C0) "__getattr__" = some none) (eGd : PySem.W.hasDictIn K C0 = true) (eGa : PySem.W.findIn K (.ref C0) "__class__" = some (some (.builtin "object.__class__"))) (eGm : PySem.W.mroIn K C0 (.type "object") = some true) (eGv : PySem.W.kitOne K (.ref C0) (.type "ValueError") = some true) (eGx : PySem.W.subIn K (.ref C0) (.ref CS) = some true)
     (qP : PySem.W.excIn K C1 [.type "ValueError", .type "Exception", .type "BaseException", .type "object"] "ValueError.__new__" = true) (ePk : PySem.W.keepIn K (.ref C1) = true) (ePs : PySem.W.subIn K (.ref C1) (.type "BaseException") = some true) (ePt : PySem.W.typeIn K (.ref C1) = some (.type "type")) (ePg : PySem.W.findIn K (.ref C1) "__getattribute__" = some (some (.builtin "BaseException.__getattribute__"))) (ePh : PySem.W.findIn K (.ref C1) "__getattr__" = some none) (ePd : PySem.W.hasDictIn K C1 = true) (ePa : PySem.W.findIn K (.ref C1) "__class__" = some (some (.builtin "object.__class__"))) (ePm : PySem.W.mroIn K C1 (.type "object") = some true) (ePv : PySem.W.kitOne K (.ref C1) (.type "ValueError") = some true) (ePx : PySem.W.subIn K (.ref C1) (.ref CS) = some true)
     (kitG0 : PySem.W.kitOne K (.ref C0) (.ref C0) = some true) (kitG1 : PySem.W.kitOne K (.ref C0) (.ref C1) = some false) (kitG2 : PySem.W.kitOne K (.ref C0) (.ref C2) = some false) (kitG3 : PySem.W.kitOne K (.ref C0) (.ref C3) = some false) (kitG4 : PySem.W.kitOne K (.ref C0) (.ref C4) = some false) (kitG5 : PySem.W.kitOne K (.ref C0) (.ref C5) = some false) (kitG6 : PySem.W.kitOne K (.ref C0) (.ref C6) = some false) (kitG7 : PySem.W.kitOne K (.ref C0) (.ref C7) = some false) (kitG8 : PySem.W.kitOne K (.ref C0) (.ref C8) = some false) (kitG9 : PySem.W.kitOne K (.ref C0) (.ref C9) = some false) (kitG10 : PySem.W.kitOne K (.ref C0) (.ref C10) = some false) (kitG11 : PySem.W.kitOne K (.ref C0) (.ref C11) = some false) (kitG12 : PySem.W.kitOne K (.ref C0) (.ref C12) = some false) (kitG13 : PySem.W.kitOne K (.ref C0) (.ref C13) = some false) (kitG14 : PySem.W.kitOne K (.ref C0) (.ref C14) = some false) (kitG15 : PySem.W.kitOne K (.ref C0) (.ref C15) = some false) (kitG16 : PySem.W.kitOne K (.ref C0) (.ref C16) = some false) (kitG17 : PySem.W.kitOne K (.ref C0) (.ref C17) = some false) (kitG18 : PySem.W.kitOne K (.ref C0) (.ref C18) = some false)
     (kitP0 : PySem.W.kitOne K (.ref C1) (.ref C0) = some false) (kitP1 : PySem.W.kitOne K (.ref C1) (.ref C1) = some true) (kitP2 : PySem.W.kitOne K (.ref C1) (.ref C2) = some false) (kitP3 : PySem.W.kitOne K (.ref C1) (.ref C3) = some false) (kitP4 : PySem.W.kitOne K (.ref C1) (.ref C4) = some false) (kitP5 : PySem.W.kitOne K (.ref C1) (.ref C5) = some false) (kitP6 : PySem.W.kitOne K (.ref C1) (.ref C6) = some false) (kitP7 : PySem.W.kitOne K (.ref C1) (.ref C7) = some false) (kitP8 : PySem.W.kitOne K (.ref C1) (.ref C8) = some false) (kitP9 : PySem.W.kitOne K (.ref C1) (.ref C9) = some false) (kitP10 : PySem.W.kitOne K (.ref C1) (.ref C10) = some false) (kitP11 : PySem.W.kitOne K (.ref C1) (.ref C11) = some false) (kitP12 : PySem.W.kitOne K (.ref C1) (.ref C12) = some false) (kitP13 : PySem.W.kitOne K (.ref C1) (.ref C13) = some false) (kitP14 : PySem.W.kitOne K (.ref C1) (.ref C14) = some false) (kitP15 : PySem.W.kitOne K (.ref C1) (.ref C15) = some false) (kitP16 : PySem.W.kitOne K (.ref C1) (.ref C16) = some false) (kitP17 : PySem.W.kitOne K (.ref C1) (.ref C17) = some false) (kitP18 : PySem.W.kitOne K (.ref C1) (.ref C18) = some false)
    {oTA : Option Addr} {vTA : Array Value} {sTA : Array (Option Value)} {PA : Addr} (lkA : K.lookup cc3 = some ⟨.type "code", oTA, .fields vTA, sTA⟩) (pA : vTA[11]? = some (.ref PA)) (noA : K.lookup PA = none)
    {oTB : Option Addr} {vTB : Array Value} {sTB : Array (Option Value)} {PB : Addr} (lkB : K.lookup cc6 = some ⟨.type "code", oTB, .fields vTB, sTB⟩) (pB : vTB[11]? = some (.ref PB)) (noB : K.lookup PB = none)
    {oTC : Option Addr} {vTC : Array Value} {sTC : Array (Option Value)} {PC : Addr} (lkC : K.lookup cc8 = some ⟨.type "code", oTC, .fields vTC, sTC⟩) (pC : vTC[11]? = some (.ref PC)) (noC : K.lookup PC = none)
    {oTE : Option Addr} {vTE : Array Value} {sTE : Array (Option Value)} {PE : Addr} (lkE : K.lookup cc18 = some ⟨.type "code", oTE, .fields vTE, sTE⟩) (pE : vTE[11]? = some (.ref PE)) (noE : K.lookup PE = none)
    {oTR : Option Addr} {vTR : Array Value} {sTR : Array (Option Value)} {PR : Addr} (lkR : K.lookup cc32 = some ⟨.type "code", oTR, .fields vTR, sTR⟩) (pR : vTR[11]? = some (.ref PR)) (noR : K.lookup PR = none)
     (apA : PR ≠ PA) (apB : PR ≠ PB) (apC : PR ≠ PC) (apE : PR ≠ PE) :
    Left04 K mg fa := by
  have e := hfa.symm.trans (PySem.W.mg_of X G a33)
  cases e
  have T : Free mg := ⟨PySem.W.mg_none_of X G z0, PySem.W.mg_none_of X G z1, PySem.W.mg_none_of X G z2, PySem.W.mg_none_of X G z3, PySem.W.mg_none_of X G z4, PySem.W.mg_none_of X G z5, PySem.W.mg_none_of X G z6, PySem.W.mg_none_of X G z7, PySem.W.mg_none_of X G z8, PySem.W.mg_none_of X G z9, PySem.W.mg_none_of X G z10⟩
  have XG : Exn K mg "NoChart" C0 := ⟨qG, PySem.W.mg_of X G x0, eGk, eGs, eGt⟩
  have XP : Exn K mg "NoPoints" C1 := ⟨qP, PySem.W.mg_of X G x1, ePk, ePs, ePt⟩
  have KG : Kin K mg C0 0 := by
    refine ⟨⟨eGg, eGh, eGs, eGd, eGa, og, ot, eGm⟩, fun i x e => ?_, eGv⟩
    match i, e with
    | 0, e => cases e; exact ⟨_, PySem.W.mg_of X G x0, kitG0⟩
    | 1, e => cases e; exact ⟨_, PySem.W.mg_of X G x1, kitG1⟩
    | 2, e => cases e; exact ⟨_, PySem.W.mg_of X G x2, kitG2⟩
    | 3, e => cases e; exact ⟨_, PySem.W.mg_of X G x3, kitG3⟩
    | 4, e => cases e; exact ⟨_, PySem.W.mg_of X G x4, kitG4⟩
    | 5, e => cases e; exact ⟨_, PySem.W.mg_of X G x5, kitG5⟩
    | 6, e => cases e; exact ⟨_, PySem.W.mg_of X G x6, kitG6⟩
    | 7, e => cases e; exact ⟨_, PySem.W.mg_of X G x7, kitG7⟩
    | 8, e => cases e; exact ⟨_, PySem.W.mg_of X G x8, kitG8⟩
    | 9, e => cases e; exact ⟨_, PySem.W.mg_of X G x9, kitG9⟩
    | 10, e => cases e; exact ⟨_, PySem.W.mg_of X G x10, kitG10⟩
    | 11, e => cases e; exact ⟨_, PySem.W.mg_of X G x11, kitG11⟩
    | 12, e => cases e; exact ⟨_, PySem.W.mg_of X G x12, kitG12⟩
    | 13, e => cases e; exact ⟨_, PySem.W.mg_of X G x13, kitG13⟩
    | 14, e => cases e; exact ⟨_, PySem.W.mg_of X G x14, kitG14⟩
    | 15, e => cases e; exact ⟨_, PySem.W.mg_of X G x15, kitG15⟩
    | 16, e => cases e; exact ⟨_, PySem.W.mg_of X G x16, kitG16⟩
    | 17, e => cases e; exact ⟨_, PySem.W.mg_of X G x17, kitG17⟩
    | 18, e => cases e; exact ⟨_, PySem.W.mg_of X G x18, kitG18⟩
    | n + 19, e => exact absurd e (by simp [names19])
  have KP : Kin K mg C1 1 := by
    refine ⟨⟨ePg, ePh, ePs, ePd, ePa, og, ot, ePm⟩, fun i x e => ?_, ePv⟩
    match i, e with
    | 0, e => cases e; exact ⟨_, PySem.W.mg_of X G x0, kitP0⟩
    | 1, e => cases e; exact ⟨_, PySem.W.mg_of X G x1, kitP1⟩
    | 2, e => cases e; exact ⟨_, PySem.W.mg_of X G x2, kitP2⟩
    | 3, e => cases e; exact ⟨_, PySem.W.mg_of X G x3, kitP3⟩
    | 4, e => cases e; exact ⟨_, PySem.W.mg_of X G x4, kitP4⟩
    | 5, e => cases e; exact ⟨_, PySem.W.mg_of X G x5, kitP5⟩
    | 6, e => cases e; exact ⟨_, PySem.W.mg_of X G x6, kitP6⟩
    | 7, e => cases e; exact ⟨_, PySem.W.mg_of X G x7, kitP7⟩
    | 8, e => cases e; exact ⟨_, PySem.W.mg_of X G x8, kitP8⟩
    | 9, e => cases e; exact ⟨_, PySem.W.mg_of X G x9, kitP9⟩
    | 10, e => cases e; exact ⟨_, PySem.W.mg_of X G x10, kitP10⟩
    | 11, e => cases e; exact ⟨_, PySem.W.mg_of X G x11, kitP11⟩
    | 12, e => cases e; exact ⟨_, PySem.W.mg_of X G x12, kitP12⟩
    | 13, e => cases e; exact ⟨_, PySem.W.mg_of X G x13, kitP13⟩
    | 14, e => cases e; exact ⟨_, PySem.W.mg_of X G x14, kitP14⟩
    | 15, e => cases e; exact ⟨_, PySem.W.mg_of X G x15, kitP15⟩
    | 16, e => cases e; exact ⟨_, PySem.W.mg_of X G x16, kitP16⟩
    | 17, e => cases e; exact ⟨_, PySem.W.mg_of X G x17, kitP17⟩
    | 18, e => cases e; exact ⟨_, PySem.W.mg_of X G x18, kitP18⟩
    | n + 19, e => exact absurd e (by simp [names19])
  have F0 := fun_mk (st := sWhole) l0 c0 k0
  have S0 : Std K mg "is_whole" sWhole ["thing"] f0 _ := ⟨F0, PySem.W.mg_of X G a0, F0.binds (ps := ["thing"]) fun _ _ _ _ _ _ us hl => match us, hl with | [_], _ => rfl⟩
  have F1 := fun_mk (st := sWithin) l1 c1 k1
  have S1 : Std K mg "is_within" sWithin ["thing", "least", "most"] f1 _ := ⟨F1, PySem.W.mg_of X G a1, F1.binds (ps := ["thing", "least", "most"]) fun _ _ _ _ _ _ us hl => match us, hl with | [_, _, _], _ => rfl⟩
  have F2 := fun_mk (st := sPoints) l2 c2 k2
  have S2 : Std K mg "are_points" sPoints ["thing", "many"] f2 _ := ⟨F2, PySem.W.mg_of X G a2, F2.binds (ps := ["thing", "many"]) fun _ _ _ _ _ _ us hl => match us, hl with | [_, _], _ => rfl⟩
  have F3 := fun_mk (st := sIsChart) l3 c3 k3
  have S3 : Std K mg "is_chart" sIsChart ["thing"] f3 _ := ⟨F3, PySem.W.mg_of X G a3, F3.binds (ps := ["thing"]) fun _ _ _ _ _ _ us hl => match us, hl with | [_], _ => rfl⟩
  have F4 := fun_mk (st := sCheckCh) l4 c4 k4
  have S4 : Std K mg "check_chart" sCheckCh ["chart"] f4 _ := ⟨F4, PySem.W.mg_of X G a4, F4.binds (ps := ["chart"]) fun _ _ _ _ _ _ us hl => match us, hl with | [_], _ => rfl⟩
  have F5 := fun_mk (st := sCheckCase) l5 c5 k5
  have S5 : Std K mg "check_case" sCheckCase ["chart", "starts", "goals"] f5 _ := ⟨F5, PySem.W.mg_of X G a5, F5.binds (ps := ["chart", "starts", "goals"]) fun _ _ _ _ _ _ us hl => match us, hl with | [_, _, _], _ => rfl⟩
  have F6 := fun_mk (st := sIsWalk) l6 c6 k6
  have S6 : Std K mg "is_walk" sIsWalk ["chart", "thing"] f6 _ := ⟨F6, PySem.W.mg_of X G a6, F6.binds (ps := ["chart", "thing"]) fun _ _ _ _ _ _ us hl => match us, hl with | [_, _], _ => rfl⟩
  have F7 := fun_mk (st := sIsWay) l7 c7 k7
  have S7 : Std K mg "is_way" sIsWay ["chart", "starts", "goals", "thing"] f7 _ := ⟨F7, PySem.W.mg_of X G a7, F7.binds (ps := ["chart", "starts", "goals", "thing"]) fun _ _ _ _ _ _ us hl => match us, hl with | [_, _, _, _], _ => rfl⟩
  have F8 := fun_mk (st := sIsBar) l8 c8 k8
  have S8 : Std K mg "is_bar" sIsBar ["chart", "starts", "goals", "thing"] f8 _ := ⟨F8, PySem.W.mg_of X G a8, F8.binds (ps := ["chart", "starts", "goals", "thing"]) fun _ _ _ _ _ _ us hl => match us, hl with | [_, _, _, _], _ => rfl⟩
  have F9 := fun_mk (st := sBefores) l9 c9 k9
  have S9 : Std K mg "befores_of" sBefores ["chart"] f9 _ := ⟨F9, PySem.W.mg_of X G a9, F9.binds (ps := ["chart"]) fun _ _ _ _ _ _ us hl => match us, hl with | [_], _ => rfl⟩
  have F10 := fun_mk (st := sDist) l10 c10 k10
  have S10 : Std K mg "distances" sDist ["links", "origins", "least", "most"] f10 _ := ⟨F10, PySem.W.mg_of X G a10, F10.binds (ps := ["links", "origins", "least", "most"]) fun _ _ _ _ _ _ us hl => match us, hl with | [_, _, _, _], _ => rfl⟩
  have F11 := fun_mk (st := sNear) l11 c11 k11
  have S11 : Std K mg "nearest" sNear ["points", "far"] f11 _ := ⟨F11, PySem.W.mg_of X G a11, F11.binds (ps := ["points", "far"]) fun _ _ _ _ _ _ us hl => match us, hl with | [_, _], _ => rfl⟩
  have F12 := fun_mk (st := sShort) l12 c12 k12
  have S12 : Std K mg "shortest" sShort ["chart", "far", "point"] f12 _ := ⟨F12, PySem.W.mg_of X G a12, F12.binds (ps := ["chart", "far", "point"]) fun _ _ _ _ _ _ us hl => match us, hl with | [_, _, _], _ => rfl⟩
  have F13 := fun_mk (st := sPaper) l13 c13 k13
  have S13 : Std K mg "paper" sPaper ["chart", "starts", "goals"] f13 _ := ⟨F13, PySem.W.mg_of X G a13, F13.binds (ps := ["chart", "starts", "goals"]) fun _ _ _ _ _ _ us hl => match us, hl with | [_, _, _], _ => rfl⟩
  have F14 := fun_mk (st := sRanks) l14 c14 k14
  have S14 : Std K mg "least_ranks" sRanks ["chart"] f14 _ := ⟨F14, PySem.W.mg_of X G a14, F14.binds (ps := ["chart"]) fun _ _ _ _ _ _ us hl => match us, hl with | [_], _ => rfl⟩
  have F15 := fun_mk (st := sLring) l15 c15 k15
  have S15 : Std K mg "least_ring" sLring ["chart"] f15 _ := ⟨F15, PySem.W.mg_of X G a15, F15.binds (ps := ["chart"]) fun _ _ _ _ _ _ us hl => match us, hl with | [_], _ => rfl⟩
  have F16 := fun_mk (st := sRounds) l16 c16 k16
  have S16 : Std K mg "rounds" sRounds ["chart"] f16 _ := ⟨F16, PySem.W.mg_of X G a16, F16.binds (ps := ["chart"]) fun _ _ _ _ _ _ us hl => match us, hl with | [_], _ => rfl⟩
  have F17 := fun_mk (st := sIsRing) l17 c17 k17
  have S17 : Std K mg "is_ring" sIsRing ["chart", "thing"] f17 _ := ⟨F17, PySem.W.mg_of X G a17, F17.binds (ps := ["chart", "thing"]) fun _ _ _ _ _ _ us hl => match us, hl with | [_, _], _ => rfl⟩
  have F18 := fun_mk (st := sAreRanks) l18 c18 k18
  have S18 : Std K mg "are_ranks" sAreRanks ["chart", "thing"] f18 _ := ⟨F18, PySem.W.mg_of X G a18, F18.binds (ps := ["chart", "thing"]) fun _ _ _ _ _ _ us hl => match us, hl with | [_, _], _ => rfl⟩
  have F19 := fun_mk (st := sCell) l19 c19 k19
  have S19 : Std K mg "_law_cell_at" sCell ["_law_script", "_law_k"] f19 _ := ⟨F19, PySem.W.mg_of X G a19, F19.binds (ps := ["_law_script", "_law_k"]) fun _ _ _ _ _ _ us hl => match us, hl with | [_, _], _ => rfl⟩
  have F20 := fun_mk (st := sState) l20 c20 k20
  have S20 : Std K mg "_law_state" sState ["_law_script", "_law_k"] f20 _ := ⟨F20, PySem.W.mg_of X G a20, F20.binds (ps := ["_law_script", "_law_k"]) fun _ _ _ _ _ _ us hl => match us, hl with | [_, _], _ => rfl⟩
  have F21 := fun_mk (st := sChoice) l21 c21 k21
  have S21 : Std K mg "_law_choice" sChoice ["_law_state_here", "_law_many"] f21 _ := ⟨F21, PySem.W.mg_of X G a21, F21.binds (ps := ["_law_state_here", "_law_many"]) fun _ _ _ _ _ _ us hl => match us, hl with | [_, _], _ => rfl⟩
  have F22 := fun_mk (st := sMarks) l22 c22 k22
  have S22 : Std0 K mg "_law_marks" sMarks f22 _ := ⟨F22, PySem.W.mg_of X G a22⟩
  have F23 := fun_mk (st := sWord) l23 c23 k23
  have S23 : Std0 K mg "_law_word" sWord f23 _ := ⟨F23, PySem.W.mg_of X G a23⟩
  have F24 := fun_mk (st := sSaid) l24 c24 k24
  have S24 : Std K mg "_law_said" sSaid ["_law_call"] f24 _ := ⟨F24, PySem.W.mg_of X G a24, F24.binds (ps := ["_law_call"]) fun _ _ _ _ _ _ us hl => match us, hl with | [_], _ => rfl⟩
  have F25 := fun_mk (st := sLWhole) l25 c25 k25
  have S25 : Std K mg "_law_whole" sLWhole ["_law_thing"] f25 _ := ⟨F25, PySem.W.mg_of X G a25, F25.binds (ps := ["_law_thing"]) fun _ _ _ _ _ _ us hl => match us, hl with | [_], _ => rfl⟩
  have F26 := fun_mk (st := sOdd) l26 c26 k26
  have S26 : Std K mg "_law_odd" sOdd ["_law_state_here"] f26 _ := ⟨F26, PySem.W.mg_of X G a26, F26.binds (ps := ["_law_state_here"]) fun _ _ _ _ _ _ us hl => match us, hl with | [_], _ => rfl⟩
  have F27 := fun_mk (st := sBent) l27 c27 k27
  have S27 : Std K mg "_law_bent" sBent ["_law_state_here", "_law_thing"] f27 _ := ⟨F27, PySem.W.mg_of X G a27, F27.binds (ps := ["_law_state_here", "_law_thing"]) fun _ _ _ _ _ _ us hl => match us, hl with | [_, _], _ => rfl⟩
  have F28 := fun_mk (st := sChart) l28 c28 k28
  have S28 : Std K mg "_law_chart" sChart ["_law_state_here", "_law_most"] f28 _ := ⟨F28, PySem.W.mg_of X G a28, F28.binds (ps := ["_law_state_here", "_law_most"]) fun _ _ _ _ _ _ us hl => match us, hl with | [_, _], _ => rfl⟩
  have F29 := fun_mk (st := sSomeP) l29 c29 k29
  have S29 : Std K mg "_law_some" sSomeP ["_law_state_here", "_law_many"] f29 _ := ⟨F29, PySem.W.mg_of X G a29, F29.binds (ps := ["_law_state_here", "_law_many"]) fun _ _ _ _ _ _ us hl => match us, hl with | [_, _], _ => rfl⟩
  have F30 := fun_mk (st := sLPoints) l30 c30 k30
  have S30 : Std K mg "_law_are_points" sLPoints ["_law_many", "_law_thing"] f30 _ := ⟨F30, PySem.W.mg_of X G a30, F30.binds (ps := ["_law_many", "_law_thing"]) fun _ _ _ _ _ _ us hl => match us, hl with | [_, _], _ => rfl⟩
  have F31 := fun_mk (st := sLChart) l31 c31 k31
  have S31 : Std K mg "_law_is_chart" sLChart ["_law_thing"] f31 _ := ⟨F31, PySem.W.mg_of X G a31, F31.binds (ps := ["_law_thing"]) fun _ _ _ _ _ _ us hl => match us, hl with | [_], _ => rfl⟩
  have F32 := fun_mk (st := sRight) l32 c32 k32
  have S32 : Std K mg "_law_right" sRight ["_law_chart_here", "_law_starts", "_law_goals", "_law_thing"] f32 _ := ⟨F32, PySem.W.mg_of X G a32, F32.binds (ps := ["_law_chart_here", "_law_starts", "_law_goals", "_law_thing"]) fun _ _ _ _ _ _ us hl => match us, hl with | [_, _, _, _], _ => rfl⟩
  have F33 := fun_mk (st := sLaw) l33 c33 k33
  have ap : PR ∉ [PA, PB, PC, PE] := fun z => by
    simp only [List.mem_cons, List.not_mem_nil, or_false] at z
    rcases z with z | z | z | z
    · exact apA z
    · exact apB z
    · exact apC z
    · exact apE z
  exact ⟨_, _, _, _, _, _, _, _, _, _, _, F33, fun s v => .of_eq rfl, T, ⟨_, _, _, _, PySem.W.mg_of X G a3, F3, rfl, lkA, rfl, pA, noA⟩, ⟨_, _, _, _, PySem.W.mg_of X G a6, F6, rfl, lkB, rfl, pB, noB⟩, ⟨_, _, _, _, PySem.W.mg_of X G a8, F8, rfl, lkC, rfl, pC, noC⟩, ⟨_, _, _, _, PySem.W.mg_of X G a18, F18, rfl, lkE, rfl, pE, noE⟩, ⟨_, _, _, _, PySem.W.mg_of X G a32, F32, rfl, lkR, rfl, pR, noR⟩, ap, fun P w base sys TA TB TC TE TR =>
    all_cals T (PySem.W.mg_none_of X G z11) (PySem.W.mg_none_of X G z12) (PySem.W.mg_none_of X G z13) (PySem.W.mg_none_of X G z14) (PySem.W.mg_none_of X G z15) (PySem.W.mg_none_of X G z16) (PySem.W.mg_none_of X G z17) (PySem.W.mg_of X G xs) sys XG XP KG KP (exm_mk sb si stt eGx) (exm_mk sb si stt ePx) ap S0 S1 S2 S3 S4 S5 S6 S7 S8 S9 S10 S11 S12 S13 S14 S15 S16 S17 S18 S19 S20 S21 S22 S23 S24 S25 S26 S27 S28 S29 S30 S31 S32 (fun s v => .of_eq rfl) (fun s v => .of_eq rfl) rfl rfl rfl rfl rfl TA TB TC TE TR⟩
theorem tab_of {q : Program} {loose : List Str} {mean : ExcName → Option Value} {mg mb : Str → Option Value} {h : Heap} (T : Top q loose mean mg mb h) {x : Str} (hx : (recsOf q).any (fun d => d.name == x) = true) {K : PySem.W.Frag} (KX : K.In h) {st : Stmt} {f c Pt : Addr} {fd : FuncData} (F : Fun K x x st f fd) (hm : mg x = some (.ref f)) (hc : fd.code = .ref c)
    {oT : Obj} {vT : Array Value} (lk : K.lookup c = some oT) (hd : oT.data = .fields vT) (hp : vT[11]? = some (.ref Pt)) : h.get? Pt = some { cls := .none, data := .fields #[] } ∧ PySem.W.CodeHd h c Pt := by
  obtain ⟨d, hdm, e⟩ := List.any_eq_true.mp hx
  have e : d.name = x := eq_of_beq e
  obtain ⟨a, o, fd', c', P', m1, g1, d1, c1, isC, tab⟩ := T.tab d hdm
  rw [e, hm] at m1
  cases m1
  obtain ⟨oc, od, kV, doc, pm, an, cdv, ct, osl, rfl, found, code⟩ := F.ex
  have g2 := KX _ _ found
  rw [g1] at g2
  cases g2
  cases d1
  have hc : cdv = .ref c := hc
  have c1 : cdv = .ref c' := c1
  rw [hc] at c1
  cases c1
  obtain ⟨⟨o2, vs2, e1, e2, e3, e4⟩, e5⟩ := id tab
  have g3 := KX _ _ lk
  rw [e1] at g3
  cases g3
  rw [e3] at hd
  cases hd
  rw [e4] at hp
  cases hp
  exact ⟨e5, PySem.W.CodeHd.of isC tab⟩
theorem walk {l : PySem.W.OpenLaw} {q : Program} {loose : List Str} {XP : (Str → Option Value) → Heap → Prop} {YP : World → Heap → Prop} {d : DefRec} {K : Params → PySem.W.Frag} (hn : l.most = some 63) (hdf : d.params.defaults = []) (hnm : d.name = "law") (hi : importsNone q = true) (hA : (recsOf q).any (fun d => d.name == ("is_chart" : Str)) = true) (hB : (recsOf q).any (fun d => d.name == ("is_walk" : Str)) = true) (hC : (recsOf q).any (fun d => d.name == ("is_bar" : Str)) = true) (hE : (recsOf q).any (fun d => d.name == ("are_ranks" : Str)) = true) (hR : (recsOf q).any (fun d => d.name == ("_law_right" : Str)) = true)
    (hY : ∀ (w : World) (h : Heap), YP w h → (K w.params).In h)
    (F : ∀ (w : World) (mg : Str → Option Value) (fa : Addr) (h : Heap), (K w.params).In h → h.Ns mainGlobals mg → mg d.name = some (.ref fa) → Left04 (K w.params) mg fa) :
    PySem.W.WalkO q loose XP YP l.row.toRowW d [] (fun f vs => PySem.call f vs) := by
  refine Att.attach_call hn hdf fun w s0 s1 mg mb fa o pm cd doc a vs ns G Y ho hd hcd hmg hobj hints hlen hg => ?_
  have KX := hY w _ Y
  obtain ⟨fd, cA, PA, cB, PB, cC, PC, cE, PE, cR, PR, FL, bd, T, ⟨_, _, _, _, m1, F1, code1, lk1, d1, p1, n1⟩, ⟨_, _, _, _, m2, F2, code2, lk2, d2, p2, n2⟩, ⟨_, _, _, _, m3, F3, code3, lk3, d3, p3, n3⟩, ⟨_, _, _, _, m4, F4, code4, lk4, d4, p4, n4⟩, ⟨_, _, _, _, m5, F5, code5, lk5, d5, p5, n5⟩, ap, cals⟩ := F w mg fa _ KX G.T.g hmg
  obtain ⟨t1, u1⟩ := tab_of G.T hA KX F1 m1 code1 lk1 d1 p1
  obtain ⟨t2, u2⟩ := tab_of G.T hB KX F2 m2 code2 lk2 d2 p2
  obtain ⟨t3, u3⟩ := tab_of G.T hC KX F3 m3 code3 lk3 d3 p3
  obtain ⟨t4, u4⟩ := tab_of G.T hE KX F4 m4 code4 lk4 d4 p4
  obtain ⟨t5, u5⟩ := tab_of G.T hR KX F5 m5 code5 lk5 d5 p5
  obtain ⟨mm, sy, _⟩ := (G.T.seer hi).mods
  have five : ∀ {Pr : Addr × Addr → Prop}, Pr (cA, PA) → Pr (cB, PB) → Pr (cC, PC) → Pr (cE, PE) → Pr (cR, PR) → ∀ p ∈ [(cA, PA), (cB, PB), (cC, PC), (cE, PE), (cR, PR)], Pr p := fun h1 h2 h3 h4 h5 p hp => by
    simp only [List.mem_cons, List.not_mem_nil, or_false] at hp
    rcases hp with rfl | rfl | rfl | rfl | rfl
    · exact h1
    · exact h2
    · exact h3
    · exact h4
    · exact h5
  refine law_endT (k := 13) (cs := [(cA, PA), (cB, PB), (cC, PC), (cE, PE), (cR, PR)]) KX G.T.g G.T.b G.T.builtins G.T.nolimit hg ⟨five t1 t2 t3 t4 t5, five n1 n2 n3 n4 n5, five u1 u2 u3 u4 u5, ⟨mm, sy⟩, G.T.bmain⟩ hobj hints (small (by omega)) ⟨rfl, by decide, by decide⟩ FL scLaw bd fun base _ _ sb TB H cdv hc tabs scr hr => ?_
  have tA := TB _ List.mem_cons_self
  have tB := TB _ (List.mem_cons_of_mem _ List.mem_cons_self)
  have tC := TB _ (List.mem_cons_of_mem _ (List.mem_cons_of_mem _ List.mem_cons_self))
  have tE := TB _ (List.mem_cons_of_mem _ (List.mem_cons_of_mem _ (List.mem_cons_of_mem _ List.mem_cons_self)))
  have tR := TB _ (List.mem_cons_of_mem _ (List.mem_cons_of_mem _ (List.mem_cons_of_mem _ (List.mem_cons_of_mem _ List.mem_cons_self))))
  refine law_body (k := 13) T scr hlen ⟨fun p hp => ?_, fun p hp => ?_⟩ hr (cals l.prog w base sb tA tB tC tE tR)
  · have hp : p ∈ [PA, PB, PC, PE] := hp
    simp only [List.mem_cons, List.not_mem_nil, or_false] at hp
    rcases hp with rfl | rfl | rfl | rfl
    · exact ⟨#[], tabs _ List.mem_cons_self, trivial⟩
    · exact ⟨#[], tabs _ (List.mem_cons_of_mem _ List.mem_cons_self), trivial⟩
    · exact ⟨#[], tabs _ (List.mem_cons_of_mem _ (List.mem_cons_of_mem _ List.mem_cons_self)), trivial⟩
    · exact ⟨#[], tabs _ (List.mem_cons_of_mem _ (List.mem_cons_of_mem _ (List.mem_cons_of_mem _ List.mem_cons_self))), trivial⟩
  · rw [List.mem_singleton.mp (show p ∈ [(PR, ("_law_right" : Str) ++ ".<locals>." ++ "<lambda>")] from hp)]
    exact TabS.nil (tabs _ (List.mem_cons_of_mem _ (List.mem_cons_of_mem _ (List.mem_cons_of_mem _ (List.mem_cons_of_mem _ List.mem_cons_self)))))
end
end Gw
open PySem PySem.W PyProof.Rows
set_option maxRecDepth 100000 in
set_option maxHeartbeats 0 in
theorem PySem.Challenge.cw_giveway_k04_charts_refused_holds : PySem.Challenge.rw_giveway_k04_charts_refused.Holds := by
  w_on; o_law; k_head; (case hw => w_witness2)
  k_fill
  refine Gw.walk (l := PySem.Challenge.rw_giveway_k04_charts_refused) rfl rfl rfl (by decide +kernel) (by decide +kernel) (by decide +kernel) (by decide +kernel) (by decide +kernel) (by decide +kernel) (fun w h Y => PySem.W.km_in_of Y) ?F
  case F =>
    intro w mg fa h KX G hmg
    refine' Gw.all_mk KX G hmg ?a0 ?l0 ?c0 ?k0 ?a1 ?l1 ?c1 ?k1 ?a2 ?l2 ?c2 ?k2 ?a3 ?l3 ?c3 ?k3 ?a4 ?l4 ?c4 ?k4 ?a5 ?l5 ?c5 ?k5 ?a6 ?l6 ?c6 ?k6 ?a7 ?l7 ?c7 ?k7 ?a8 ?l8 ?c8 ?k8 ?a9 ?l9 ?c9 ?k9 ?a10 ?l10 ?c10 ?k10 ?a11 ?l11 ?c11 ?k11 ?a12 ?l12 ?c12 ?k12 ?a13 ?l13 ?c13 ?k13 ?a14 ?l14 ?c14 ?k14 ?a15 ?l15 ?c15 ?k15 ?a16 ?l16 ?c16 ?k16 ?a17 ?l17 ?c17 ?k17 ?a18 ?l18 ?c18 ?k18 ?a19 ?l19 ?c19 ?k19 ?a20 ?l20 ?c20 ?k20 ?a21 ?l21 ?c21 ?k21 ?a22 ?l22 ?c22 ?k22 ?a23 ?l23 ?c23 ?k23 ?a24 ?l24 ?c24 ?k24 ?a25 ?l25 ?c25 ?k25 ?a26 ?l26 ?c26 ?k26 ?a27 ?l27 ?c27 ?k27 ?a28 ?l28 ?c28 ?k28 ?a29 ?l29 ?c29 ?k29 ?a30 ?l30 ?c30 ?k30 ?a31 ?l31 ?c31 ?k31 ?a32 ?l32 ?c32 ?k32 ?a33 ?l33 ?c33 ?k33 ?z0 ?z1 ?z2 ?z3 ?z4 ?z5 ?z6 ?z7 ?z8 ?z9 ?z10 ?z11 ?z12 ?z13 ?z14 ?z15 ?z16 ?z17 ?x0 ?x1 ?x2 ?x3 ?x4 ?x5 ?x6 ?x7 ?x8 ?x9 ?x10 ?x11 ?x12 ?x13 ?x14 ?x15 ?x16 ?x17 ?x18 ?xs ?og ?ot ?sb ?si ?stt ?qG ?eGk ?eGs ?eGt ?eGg ?eGh ?eGd ?eGa ?eGm ?eGv ?eGx ?qP ?ePk ?ePs ?ePt ?ePg ?ePh ?ePd ?ePa ?ePm ?ePv ?ePx ?kitG0 ?kitG1 ?kitG2 ?kitG3 ?kitG4 ?kitG5 ?kitG6 ?kitG7 ?kitG8 ?kitG9 ?kitG10 ?kitG11 ?kitG12 ?kitG13 ?kitG14 ?kitG15 ?kitG16 ?kitG17 ?kitG18 ?kitP0 ?kitP1 ?kitP2 ?kitP3 ?kitP4 ?kitP5 ?kitP6 ?kitP7 ?kitP8 ?kitP9 ?kitP10 ?kitP11 ?kitP12 ?kitP13 ?kitP14 ?kitP15 ?kitP16 ?kitP17 ?kitP18 ?lkA ?pA ?noA ?lkB ?pB ?noB ?lkC ?pC ?noC ?lkE ?pE ?noE ?lkR ?pR ?noR ?apA ?apB ?apC ?apE
    (case a0 => k_is)
    (case l0 => k_is)
    (case c0 => k_is)
    (case k0 => k_is)
    (case a1 => k_is)
    (case l1 => k_is)
    (case c1 => k_is)
    (case k1 => k_is)
    (case a2 => k_is)
    (case l2 => k_is)
    (case c2 => k_is)
    (case k2 => k_is)
    (case a3 => k_is)
    (case l3 => k_is)
    (case c3 => k_is)
    (case k3 => k_is)
    (case a4 => k_is)
    (case l4 => k_is)
    (case c4 => k_is)
    (case k4 => k_is)
    (case a5 => k_is)
    (case l5 => k_is)
    (case c5 => k_is)
    (case k5 => k_is)
    (case a6 => k_is)
    (case l6 => k_is)
    (case c6 => k_is)
    (case k6 => k_is)
    (case a7 => k_is)
    (case l7 => k_is)
    (case c7 => k_is)
    (case k7 => k_is)
    (case a8 => k_is)
    (case l8 => k_is)
    (case c8 => k_is)
    (case k8 => k_is)
    (case a9 => k_is)
    (case l9 => k_is)
    (case c9 => k_is)
    (case k9 => k_is)
    (case a10 => k_is)
    (case l10 => k_is)
    (case c10 => k_is)
    (case k10 => k_is)
    (case a11 => k_is)
    (case l11 => k_is)
    (case c11 => k_is)
    (case k11 => k_is)
    (case a12 => k_is)
    (case l12 => k_is)
    (case c12 => k_is)
    (case k12 => k_is)
    (case a13 => k_is)
    (case l13 => k_is)
    (case c13 => k_is)
    (case k13 => k_is)
    (case a14 => k_is)
    (case l14 => k_is)
    (case c14 => k_is)
    (case k14 => k_is)
    (case a15 => k_is)
    (case l15 => k_is)
    (case c15 => k_is)
    (case k15 => k_is)
    (case a16 => k_is)
    (case l16 => k_is)
    (case c16 => k_is)
    (case k16 => k_is)
    (case a17 => k_is)
    (case l17 => k_is)
    (case c17 => k_is)
    (case k17 => k_is)
    (case a18 => k_is)
    (case l18 => k_is)
    (case c18 => k_is)
    (case k18 => k_is)
    (case a19 => k_is)
    (case l19 => k_is)
    (case c19 => k_is)
    (case k19 => k_is)
    (case a20 => k_is)
    (case l20 => k_is)
    (case c20 => k_is)
    (case k20 => k_is)
    (case a21 => k_is)
    (case l21 => k_is)
    (case c21 => k_is)
    (case k21 => k_is)
    (case a22 => k_is)
    (case l22 => k_is)
    (case c22 => k_is)
    (case k22 => k_is)
    (case a23 => k_is)
    (case l23 => k_is)
    (case c23 => k_is)
    (case k23 => k_is)
    (case a24 => k_is)
    (case l24 => k_is)
    (case c24 => k_is)
    (case k24 => k_is)
    (case a25 => k_is)
    (case l25 => k_is)
    (case c25 => k_is)
    (case k25 => k_is)
    (case a26 => k_is)
    (case l26 => k_is)
    (case c26 => k_is)
    (case k26 => k_is)
    (case a27 => k_is)
    (case l27 => k_is)
    (case c27 => k_is)
    (case k27 => k_is)
    (case a28 => k_is)
    (case l28 => k_is)
    (case c28 => k_is)
    (case k28 => k_is)
    (case a29 => k_is)
    (case l29 => k_is)
    (case c29 => k_is)
    (case k29 => k_is)
    (case a30 => k_is)
    (case l30 => k_is)
    (case c30 => k_is)
    (case k30 => k_is)
    (case a31 => k_is)
    (case l31 => k_is)
    (case c31 => k_is)
    (case k31 => k_is)
    (case a32 => k_is)
    (case l32 => k_is)
    (case c32 => k_is)
    (case k32 => k_is)
    (case a33 => k_is)
    (case l33 => k_is)
    (case c33 => k_is)
    (case k33 => k_is)
    (case z0 => k_is)
    (case z1 => k_is)
    (case z2 => k_is)
    (case z3 => k_is)
    (case z4 => k_is)
    (case z5 => k_is)
    (case z6 => k_is)
    (case z7 => k_is)
    (case z8 => k_is)
    (case z9 => k_is)
    (case z10 => k_is)
    (case z11 => k_is)
    (case z12 => k_is)
    (case z13 => k_is)
    (case z14 => k_is)
    (case z15 => k_is)
    (case z16 => k_is)
    (case z17 => k_is)
    (case x0 => k_is)
    (case x1 => k_is)
    (case x2 => k_is)
    (case x3 => k_is)
    (case x4 => k_is)
    (case x5 => k_is)
    (case x6 => k_is)
    (case x7 => k_is)
    (case x8 => k_is)
    (case x9 => k_is)
    (case x10 => k_is)
    (case x11 => k_is)
    (case x12 => k_is)
    (case x13 => k_is)
    (case x14 => k_is)
    (case x15 => k_is)
    (case x16 => k_is)
    (case x17 => k_is)
    (case x18 => k_is)
    (case xs => k_is)
    (case og => k_is)
    (case ot => k_is)
    (case sb => k_is)
    (case si => k_is)
    (case stt => k_is)
    (case qG => k_exc)
    (case eGk => k_is)
    (case eGs => k_is)
    (case eGt => k_is)
    (case eGg => k_is)
    (case eGh => k_is)
    (case eGd => k_is)
    (case eGa => k_is)
    (case eGm => k_is)
    (case eGv => kit_is)
    (case eGx => k_is)
    (case qP => k_exc)
    (case ePk => k_is)
    (case ePs => k_is)
    (case ePt => k_is)
    (case ePg => k_is)
    (case ePh => k_is)
    (case ePd => k_is)
    (case ePa => k_is)
    (case ePm => k_is)
    (case ePv => kit_is)
    (case ePx => k_is)
    (case kitG0 => kit_is)
    (case kitG1 => kit_is)
    (case kitG2 => kit_is)
    (case kitG3 => kit_is)
    (case kitG4 => kit_is)
    (case kitG5 => kit_is)
    (case kitG6 => kit_is)
    (case kitG7 => kit_is)
    (case kitG8 => kit_is)
    (case kitG9 => kit_is)
    (case kitG10 => kit_is)
    (case kitG11 => kit_is)
    (case kitG12 => kit_is)
    (case kitG13 => kit_is)
    (case kitG14 => kit_is)
    (case kitG15 => kit_is)
    (case kitG16 => kit_is)
    (case kitG17 => kit_is)
    (case kitG18 => kit_is)
    (case kitP0 => kit_is)
    (case kitP1 => kit_is)
    (case kitP2 => kit_is)
    (case kitP3 => kit_is)
    (case kitP4 => kit_is)
    (case kitP5 => kit_is)
    (case kitP6 => kit_is)
    (case kitP7 => kit_is)
    (case kitP8 => kit_is)
    (case kitP9 => kit_is)
    (case kitP10 => kit_is)
    (case kitP11 => kit_is)
    (case kitP12 => kit_is)
    (case kitP13 => kit_is)
    (case kitP14 => kit_is)
    (case kitP15 => kit_is)
    (case kitP16 => kit_is)
    (case kitP17 => kit_is)
    (case kitP18 => kit_is)
    (case lkA => k_is)
    (case pA => rfl)
    (case noA => first | rfl | k_is)
    (case lkB => k_is)
    (case pB => rfl)
    (case noB => first | rfl | k_is)
    (case lkC => k_is)
    (case pC => rfl)
    (case noC => first | rfl | k_is)
    (case lkE => k_is)
    (case pE => rfl)
    (case noE => first | rfl | k_is)
    (case lkR => k_is)
    (case pR => rfl)
    (case noR => first | rfl | k_is)
    (case apA => decide)
    (case apB => decide)
    (case apC => decide)
    (case apE => decide)
