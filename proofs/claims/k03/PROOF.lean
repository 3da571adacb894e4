import PyProof.Rows.All
import Wide.All
import OpenK.AllK
import Wide.FinOn
import HandS.ForMost
import HandS.IsInst
import HandS.Defaults
import HandS.Conv
import HandS.TupAny
import KE.DataMinMax
import HandS.ForExc
import HandS.Lambda
import HandS.ExcIs
import HandS.Dict
import HandS.EndTab
import PyProof.FactsAll.dict
import HandS.GenList
import HandS.AnyAll
import HandS.RaiseMore
import HandS.List
import HandS.SetFor
import HandS.Strs
import HandS.Iter
import KE.GoesMore
import HandS.DictComp
import HandS.TupSets
import KE.DatumOrd
import HandS.Walk
import HandS.SortKw
import HandS.Ends
import KE.RegKIsAll
import PySem.Challenge.RW_giveway_k03_the_told_paper
set_option Elab.async false
set_option linter.all false
set_option maxRecDepth 100000
namespace Gw
open PySem L2
def top (i : Nat) : Stmt := PySem.Challenge.pw_giveway_k03_the_told_paper.main.body.getD i (.Pass ⟨0, 0, 0, 0⟩)
abbrev sWhole : Stmt := top 5
abbrev sWithin : Stmt := top 6
abbrev sPoints : Stmt := top 8
abbrev sIsChart : Stmt := top 9
abbrev sCheckCh : Stmt := top 10
abbrev sCheckCase : Stmt := top 11
abbrev sBefores : Stmt := top 12
abbrev sDist : Stmt := top 13
abbrev sNear : Stmt := top 14
abbrev sShort : Stmt := top 15
abbrev sPaper : Stmt := top 16
abbrev sCell : Stmt := top 18
abbrev sState : Stmt := top 19
abbrev sChoice : Stmt := top 20
abbrev sChart : Stmt := top 21
abbrev sSomeP : Stmt := top 22
abbrev sLayers : Stmt := top 23
abbrev sBest : Stmt := top 24
abbrev sLaw : Stmt := top 25
/-! data, dicts of whole numbers among it -/
def dictK (ms : List (Int × Int)) : List (Key × V) := ms.map fun m => (Sum.inl m.1, V.int m.2)
def dictD (ms : List (Int × Int)) : List (PyData × PyData) := ms.map fun m => (PyData.int m.1, PyData.int m.2)
mutual
inductive Dp (K : PySem.W.Frag) (Hh : Hp) : V → PyData → Prop
  | non : Dp K Hh .non .none
  | bl (t : Bool) : Dp K Hh (.bl t) (.bool t)
  | int (n : Int) : Dp K Hh (.int n) (.int n)
  | str (t : Str) : Dp K Hh (.str t) (.str t)
  | lst {r : Addr} {us : List V} {es : List PyData} (at_ : SqL K Hh r us) (each : DpAll K Hh us es) : Dp K Hh (.ref r) (.list es)
  | tup {r : Addr} {us : List V} {es : List PyData} (at_ : SqT K Hh r us) (each : DpAll K Hh us es) : Dp K Hh (.ref r) (.tuple es)
  | dct {r : Addr} {ms : List (Int × Int)} (at_ : Hh r = some (.dK (dictK ms))) : Dp K Hh (.ref r) (.dict (dictD ms))
inductive DpAll (K : PySem.W.Frag) (Hh : Hp) : List V → List PyData → Prop
  | nil : DpAll K Hh [] []
  | cons {u : V} {us : List V} {e : PyData} {es : List PyData} (one : Dp K Hh u e) (more : DpAll K Hh us es) : DpAll K Hh (u :: us) (e :: es)
end
/-! no list is in it -/
mutual
def noL : PyData → Bool
  | .list _ => false
  | .tuple es => noLs es
  | _ => true
def noLs : List PyData → Bool
  | [] => true
  | e :: es => noL e && noLs es
end
theorem reads_dict {Pg : Program} {wd : World} {h : Heap} : ∀ (ms : List (Int × Int)) (vs : List (Key × Value)) (es : List DictEntry), KV (dictK ms) vs → Pairs (mixKind Pg wd) es vs →
    ReadsAll h (es.map fun e => e.key) ((dictD ms).map fun p => p.1) [] ∧ ReadsAll h (es.map fun e => e.val) ((dictD ms).map fun p => p.2) []
  | [], vs, es, kv, pr => by
    cases kv
    cases pr
    exact ⟨.nil, .nil⟩
  | m :: ms, vs, es, kv, pr => by
    cases kv with
    | cons h1 h2 =>
      cases pr with
      | cons p1 p2 p3 =>
        obtain ⟨q1, q2⟩ := reads_dict (h := h) ms _ _ h2 p3
        obtain ⟨e1, e2⟩ := h1
        rw [← e1] at p1
        have p1 : keyIs (Sum.inl m.1) _ = true := p1
        rcases keyIs_shape p1 with ⟨i, t, z1, z2⟩ | ⟨x, t, z1, z2⟩
        · cases z1
          obtain ⟨t2, e2⟩ := e2
          refine ⟨?_, ?_⟩
          · refine (show ReadsAll h (_ :: _) (PyData.int m.1 :: _) ([] ++ []) from ?_)
            dsimp only
            rw [z2]
            exact .cons (.int _ _) q1
          · refine (show ReadsAll h (_ :: _) (PyData.int m.2 :: _) ([] ++ []) from ?_)
            dsimp only
            rw [p2, e2]
            exact .cons (.int _ _) q2
        · cases z1
section
variable {X : Cx} {pins : List (Addr × Obj)} {σ : L2.St} {H : Hp} {s : Shared}
theorem dct_reads (I : Inv X pins σ H s) {r : Addr} {ms : List (Int × Int)} (h : H r = some (.dK (dictK ms))) : ∃ o es n, s.heap.get? r = some o ∧ o.ExactDict ∧ o.data = .dict es n ∧ r ≠ sysModules ∧ Reads s.heap (.ref r) (.dict (dictD ms)) (r :: [] ++ []) := by
  obtain ⟨_, ns, vs, kv, o, es, ep, g, ex, dd, _, pr, _⟩ := I.hok r _ h
  obtain ⟨q1, q2⟩ := reads_dict ms vs es.toList kv pr
  exact ⟨o, es, ep, g, ex, dd, beq_eq_false_iff_ne.mp ns, .dict g ex.1 dd q1 q2⟩
mutual
theorem Dp.rd (I : Inv X pins σ H s) : ∀ (d : PyData) (v : V) (u : Value), Dp X.K H v d → RelV v u → ∃ as, Reads s.heap u d as ∧ (noL d = true → sysModules ∉ as)
  | .none, v, u, h, r => by cases h; cases r; exact ⟨_, .none, fun _ z => nomatch z⟩
  | .bool b, v, u, h, r => by cases h; cases r; exact ⟨_, .bool b, fun _ z => nomatch z⟩
  | .int i, v, u, h, r => by cases h; obtain ⟨t, rfl⟩ := r; exact ⟨_, .int i t, fun _ z => nomatch z⟩
  | .str x, v, u, h, r => by cases h; obtain ⟨t, rfl⟩ := r; exact ⟨_, .str x t, fun _ z => nomatch z⟩
  | .list es, v, u, h, r => by
    cases h with
    | lst at_ each =>
      cases r
      obtain ⟨its, rv, ⟨o, n, ho, hc, _, hd⟩, _⟩ := I.list at_
      obtain ⟨as, hr, _⟩ := Dp.rds I es _ its each rv
      exact ⟨_, .list ho hc hd hr, fun z => by simp [noL] at z⟩
  | .tuple es, v, u, h, r => by
    cases h with
    | tup at_ each =>
      cases r
      obtain ⟨its, rv, ⟨o, ho, hc, n, hd⟩, _⟩ := I.tuple at_
      obtain ⟨as, hr, hn⟩ := Dp.rds I es _ its each rv
      exact ⟨_, .tuple ho hc hd hr, fun z => hn (by simpa only [noL] using z)⟩
  | .dict kvs, v, u, h, r => by
    cases h with
    | dct at_ =>
      cases r
      obtain ⟨_, _, _, _, _, _, ns, rd⟩ := dct_reads I at_
      exact ⟨_, rd, fun _ z => by
        have z : sysModules ∈ [_] := z
        exact ns (List.mem_singleton.mp z).symm⟩
theorem Dp.rds (I : Inv X pins σ H s) : ∀ (ds : List PyData) (vs : List V) (us : List Value), DpAll X.K H vs ds → Vals vs us → ∃ as, ReadsAll s.heap us ds as ∧ (noLs ds = true → sysModules ∉ as)
  | [], vs, us, h, r => by cases h; cases r; exact ⟨_, .nil, fun _ z => nomatch z⟩
  | d :: ds, vs, us, h, r => by
    cases h with
    | cons one more =>
      cases r with
      | cons r1 r2 =>
        obtain ⟨as, q1, n1⟩ := Dp.rd I d _ _ one r1
        obtain ⟨bs, q2, n2⟩ := Dp.rds I ds _ _ more r2
        refine ⟨_, .cons q1 q2, fun z => ?_⟩
        have z' : noL d = true ∧ noLs ds = true := by simpa [noLs] using z
        intro hm
        rcases List.mem_append.mp hm with hm | hm
        · exact n1 z'.1 hm
        · exact n2 z'.2 hm
end
end
/-! a dict against a text -/
section
open PySem.SeqAt
theorem dict_declines (l : Addr) (es : Array DictEntry) (n : Nat) (b : Str) (u : Tok) :
    Meets (Builtin.«dict.__eq__» ⟨[.ref l, .str b u], []⟩) (fun _ R s => s.heap.get? l = some { cls := .type "dict", data := .dict es n } ∧ R (.ok (.ret .notImplemented)) s) :=
  .of_wp fun prog w A R s h => by obtain ⟨hp, g, d, tk, os⟩ := s; obtain ⟨hl, h⟩ := h; have f1 := F.sub_str_dict; wp_walk using AutoSeq1.wpAny_loadPart' hl; exact ⟨_, rfl, h⟩
theorem str_declines_dict (b : Str) (u : Tok) (l : Addr) (es : Array DictEntry) (n : Nat) :
    Meets (Builtin.«str.__eq__» ⟨[.str b u, .ref l], []⟩) (fun _ R s => s.heap.get? l = some { cls := .type "dict", data := .dict es n } ∧ R (.ok (.ret .notImplemented)) s) :=
  .of_wp fun prog w A R s h => by obtain ⟨hp, g, d, tk, os⟩ := s; obtain ⟨hl, h⟩ := h; wp_walk using AutoSeq1.wpAny_loadPart' hl, wpAny_load hl; exact ⟨_, rfl, h⟩
theorem rc_dict_str {A : Around} {s : Shared} {l : Addr} {es : Array DictEntry} {n : Nat} (b : Str) (u : Tok) (ho : s.heap.get? l = some { cls := .type "dict", data := .dict es n }) (hu : A.units < cLine) : RcAt A s (.ref l) (.str b u) false := fun prog w E Q h =>
  rc_eq_decline_or (k := false) ⟨_, ho, rfl⟩ (typeIs_str s b u) (by decide) F.sub_str_dict F.slot_dict_eq F.slot_str_eq_refl
    (fun _ hq => call_meets F.slot_dict_eq ⟨_, ho, rfl⟩ F.entry_dict_eq (F.args_dict_eq_2 _ _) (dict_declines l es n b u) ⟨ho, hq⟩)
    (fun _ hq => call_meets F.slot_str_eq_refl (typeIs_str s b u) F.entry_str_eq (F.args_str_eq_2 _ _) (str_declines_dict b u l es n) ⟨ho, hq⟩)
    (fun _ hq => wpAny_of_eq (rfl : isSame (.ref l) (.str b u) = pure false) hq) (.inr hu) h
end
def OkL (_ : PyData) : Prop := True
def OkR (e : PyData) : Prop := ∃ t, e = .str t
theorem okL_mem {ds : List PyData} {d : PyData} (h : OkL (.tuple ds)) (hm : d ∈ ds) : OkL d := trivial
theorem okR_tie : OkR (.str "tie") := ⟨_, rfl⟩
/-- whatever it is against a text -/
def rEqT (K : PySem.W.Frag) : R2 := fun x y H Q => ∃ d e, Dp K H x d ∧ Dp K H y e ∧ OkL d ∧ OkR e ∧ Q (.bl (PyData.eqv d e)) H
theorem op_eqT {X : Cx} (hu : X.A.units + 64 < cLine) : OpR X (compareOp .Eq) (rEqT X.K) := by
  intro pins s σ H x y v u Q I rx ry h
  obtain ⟨d, e, hd, he, _, ⟨t, rfl⟩, q⟩ := h
  cases he
  obtain ⟨tk, rfl⟩ := ry
  have fin : ∀ b, PyData.eqv d (.str t) = b → SeqAt.RcAt X.A s v (.str t tk) b → wpAny (model X.prog X.w) X.A (compareOp .Eq v (.str t tk)) (EP X pins σ Q) X.xe s := fun b e rc => by
    refine rc X.prog X.w _ _ ⟨.bl b, H, I, rfl, ?_⟩
    rw [← e]
    exact q
  have hu' : X.A.units < cLine := by omega
  cases hd with
  | non => cases rx; exact fin false (by simp [PyData.eqv]) (SeqAt.RcAt.none_str _ _)
  | bl b => cases rx; exact fin false (by simp [PyData.eqv]) (SeqAt.RcAt.bool_str _ _ _)
  | int i => obtain ⟨k, rfl⟩ := rx; exact fin false (by simp [PyData.eqv]) (SeqAt.RcAt.int_str _ _ _ _)
  | str z => obtain ⟨k, rfl⟩ := rx; exact fin (z == t) (by simp [PyData.eqv]) (SeqAt.RcAt.str_str _ _ _ _)
  | lst at_ each =>
    cases rx
    obtain ⟨its, rv, ⟨o, n, ho, hc, _, hd⟩, _⟩ := I.list at_
    exact fin false (by simp [PyData.eqv]) (SeqAt.RcAt.list_str _ _ ⟨o, ho, hc, n, hd⟩ hu')
  | tup at_ each =>
    cases rx
    obtain ⟨its, rv, ⟨o, ho, hc, n, hd⟩, _⟩ := I.tuple at_
    exact fin false (by simp [PyData.eqv]) (SeqAt.RcAt.tuple_str _ _ ⟨o, ho, hc, n, hd⟩ hu')
  | dct at_ =>
    cases rx
    obtain ⟨⟨oc, od, oda, osl⟩, es, n, g, ⟨e1, e2, e3⟩, e4, _, _⟩ := dct_reads I at_
    dsimp only at e1 e2 e3 e4
    subst e1 e2 e3 e4
    exact fin false (by simp [PyData.eqv]) (rc_dict_str _ _ g hu')
/-- data without dicts against such -/
def rNeD (K : PySem.W.Frag) : R2 := fun x y Hh Q => ∃ d e, Dp K Hh x d ∧ Dp K Hh y e ∧ SeqAt.shaped d = true ∧ SeqAt.shaped e = true ∧ Q (.bl (!PyData.eqv d e)) Hh
theorem op_neD {X : Cx} (hu : X.A.units + 64 < cLine) : OpR X (compareOp .NotEq) (rNeD X.K) := by
  intro pins s σ Hh x y v u Q I rx ry h
  obtain ⟨d, e, hd, he, sd, se, q⟩ := h
  obtain ⟨as, r1, _⟩ := Dp.rd I d x v hd rx
  obtain ⟨bs, r2, _⟩ := Dp.rd I e y u he ry
  exact SeqAt.compareNe_shaped r1 r2 sd se hu ⟨.bl _, Hh, I, rfl, q⟩
/-! repr -/
theorem call_reprD {X : Cx} (hg : X.A.guards = some []) (hu : X.A.units + 80 < cLine) : CallR X (.builtin "repr") (fun xs H Q => ∃ (a : Addr) (d : PyData), xs = [.ref a] ∧ Dp X.K H (.ref a) d ∧ d.showable = true ∧ (d.hasDict = true → noL d = true) ∧ d.depth ≤ 64 ∧ d.shown.length ≤ sizeLine ∧ Q (.str d.shown) H) := by
  intro pins s σ H xs us Q I r h
  obtain ⟨a, d, rfl, hd, h1, h2, h3, h4, q⟩ := h
  obtain ⟨u, rfl, ru⟩ := vals1 r
  cases ru
  obtain ⟨as, hr, hn⟩ := Dp.rd I d (.ref a) (.ref a) hd rfl
  exact repr_of_reads' hr h1 (fun z => hn (h2 z)) hg (by omega) (fun _ _ e => e) (fun h' u tk hk => ⟨.str d.shown, H, I.kept hk, ⟨u, rfl⟩, q⟩) h4
/-- the names that the module leaves to the built-ins -/
structure Free (mg : Str → Option Value) : Prop where
  isi : mg "isinstance" = none
  int : mg "int" = none
  bool : mg "bool" = none
  tuple : mg "tuple" = none
  len : mg "len" = none
  range : mg "range" = none
  min : mg "min" = none
  max : mg "max" = none
  sum : mg "sum" = none
  list : mg "list" = none
  repr : mg "repr" = none
/-- a def that stands under its name and keeps a promise -/
def Cal (P : Program) (w : World) (K : PySem.W.Frag) (mg : Str → Option Value) (base : Heap) (x : Str) (k : Nat) (ps : List Str) (sp : Sp) : Prop :=
  ∃ (f : Addr) (fd : FuncData), FnOk P w K mg base CX0 k f fd ps sp ∧ mg x = some (.ref f) ∧ PySem.W.keepIn K (.ref f) = true ∧ Binds K fd ps []
theorem Cal.mono {P : Program} {w : World} {K : PySem.W.Frag} {mg : Str → Option Value} {base : Heap} {x : Str} {j k : Nat} {ps : List Str} {sp : Sp} (C : Cal P w K mg base x j ps sp) (h : j ≤ k) : Cal P w K mg base x k ps sp := by
  obtain ⟨f, fd, F, r⟩ := C
  exact ⟨f, fd, F.mono h, r⟩
theorem pe_cal {X : Cx} {x : Str} {p pos : Pos} {e : Expr} {es : List Expr} {t : TA} {k : Nat} {ps : List Str} {sp : Sp} (C : Cal X.prog X.w X.K X.mg X.base x k ps sp) (hr : Room k X.A) (hg : Gl X x) (ha : PA X (e :: es) t)
    (hdb : (x == ("__debug__" : Str)) = false := by decide) (he : starEach (e :: es) X.env = (false, eval e X.env) :: starEach es X.env := by rfl) (hpl : ((backTo pos (starEach es X.env)).any fun x => x.fst) = false := by rfl) :
    PE X (.Call (.Name x p) (e :: es) [] pos) (tCall sp [] E0 t) := by
  obtain ⟨f, fd, F, hm, hk, hb⟩ := C
  exact pe_call F hr hg hm hk hb .nil pass0 ha hdb he hpl
/-! the kinds of data -/
def kindD : PyData → String
  | .none => "NoneType"
  | .bool _ => "bool"
  | .int _ => "int"
  | .str _ => "str"
  | .list _ => "list"
  | .tuple _ => "tuple"
  | .dict _ => "dict"
theorem ty_lst {K : PySem.W.Frag} {H : Hp} {a : Addr} {xs : List V} (h : SqL K H a xs) : TyX K H (.ref a) (.type "list") := by
  rcases h with (h | ⟨o, h⟩) | ⟨o, its, n, hk, hc, _⟩
  · exact .base (.lst h)
  · exact .base (.frz h)
  · exact .kList hk hc
theorem ty_tup {K : PySem.W.Frag} {H : Hp} {a : Addr} {xs : List V} (h : SqT K H a xs) : TyX K H (.ref a) (.type "tuple") := by
  rcases h with (h | ⟨o, h⟩) | ⟨o, its, n, hk, hc, _⟩
  · exact .base (.tup h)
  · exact .fTuple h
  · exact .kTuple hk hc
theorem ty_of {K : PySem.W.Frag} {H : Hp} {x : V} {d : PyData} (h : Dp K H x d) : TyX K H x (.type (kindD d)) := by
  cases h with
  | non => exact .base .non
  | bl b => exact .base (.bl b)
  | int i => exact .base (.int i)
  | str s => exact .base (.str s)
  | lst h _ => exact ty_lst h
  | dct h => exact .base (.dK h)
  | tup h _ => exact ty_tup h
def intD : PyData → Bool
  | .int _ => true
  | .bool _ => true
  | _ => false
def boolD : PyData → Bool
  | .bool _ => true
  | _ => false
def tupleD : PyData → Bool
  | .tuple _ => true
  | _ => false
theorem kit_int {K : PySem.W.Frag} (d : PyData) : PySem.W.kitOne K (.type (kindD d)) (.type "int") = some (intD d) := by
  cases d with
  | none => exact kit_ty (show kitB "NoneType" "int" = some false by decide +kernel)
  | bool _ => exact kit_ty (show kitB "bool" "int" = some true by decide +kernel)
  | int _ => exact kit_ty (show kitB "int" "int" = some true by decide +kernel)
  | str _ => exact kit_ty (show kitB "str" "int" = some false by decide +kernel)
  | list _ => exact kit_ty (show kitB "list" "int" = some false by decide +kernel)
  | tuple _ => exact kit_ty (show kitB "tuple" "int" = some false by decide +kernel)
  | dict _ => exact kit_ty (show kitB "dict" "int" = some false by decide +kernel)
theorem kit_bool {K : PySem.W.Frag} (d : PyData) : PySem.W.kitOne K (.type (kindD d)) (.type "bool") = some (boolD d) := by
  cases d with
  | none => exact kit_ty (show kitB "NoneType" "bool" = some false by decide +kernel)
  | bool _ => exact kit_ty (show kitB "bool" "bool" = some true by decide +kernel)
  | int _ => exact kit_ty (show kitB "int" "bool" = some false by decide +kernel)
  | str _ => exact kit_ty (show kitB "str" "bool" = some false by decide +kernel)
  | list _ => exact kit_ty (show kitB "list" "bool" = some false by decide +kernel)
  | tuple _ => exact kit_ty (show kitB "tuple" "bool" = some false by decide +kernel)
  | dict _ => exact kit_ty (show kitB "dict" "bool" = some false by decide +kernel)
theorem kit_tuple {K : PySem.W.Frag} (d : PyData) : PySem.W.kitOne K (.type (kindD d)) (.type "tuple") = some (tupleD d) := by
  cases d with
  | none => exact kit_ty (show kitB "NoneType" "tuple" = some false by decide +kernel)
  | bool _ => exact kit_ty (show kitB "bool" "tuple" = some false by decide +kernel)
  | int _ => exact kit_ty (show kitB "int" "tuple" = some false by decide +kernel)
  | str _ => exact kit_ty (show kitB "str" "tuple" = some false by decide +kernel)
  | list _ => exact kit_ty (show kitB "list" "tuple" = some false by decide +kernel)
  | tuple _ => exact kit_ty (show kitB "tuple" "tuple" = some true by decide +kernel)
  | dict _ => exact kit_ty (show kitB "dict" "tuple" = some false by decide +kernel)
theorem ifT {c : Bool} {A B : Prop} (e : c = true) (h : A) : if c = true then A else B := by rw [if_pos e]; exact h
theorem ifF {c : Bool} {A B : Prop} (e : c = false) (h : B) : if c = true then A else B := by rw [if_neg (by rw [e]; decide)]; exact h
def wholeD : PyData → Bool
  | .int _ => true
  | _ => false
def withinD (lo hi : Int) : PyData → Bool
  | .int i => decide (lo ≤ i) && decide (i ≤ hi)
  | _ => false
def tupD (lo hi : Int) : PyData → Bool
  | .tuple xs => decide (lo ≤ (xs.length : Int)) && decide ((xs.length : Int) ≤ hi)
  | _ => false
theorem dpAll_len {K : PySem.W.Frag} {H : Hp} : ∀ {xs : List V} {ds : List PyData}, DpAll K H xs ds → xs.length = ds.length
  | _, _, .nil => rfl
  | _, _, .cons _ t => by rw [List.length_cons, List.length_cons, dpAll_len t]
theorem dpAll_get {K : PySem.W.Frag} {H : Hp} : ∀ {xs : List V} {ds : List PyData} {i : Nat} {d : PyData}, DpAll K H xs ds → ds[i]? = some d → ∃ x, xs[i]? = some x ∧ Dp K H x d
  | _, _, 0, _, .cons h _, e => by cases e; exact ⟨_, rfl, h⟩
  | _, _, i + 1, _, .cons _ t, e => dpAll_get (i := i) t e
  | _, _, _, _, .nil, e => by cases e
theorem dpAll_get' {K : PySem.W.Frag} {H : Hp} : ∀ {xs : List V} {ds : List PyData} {i : Nat} {x : V}, DpAll K H xs ds → xs[i]? = some x → ∃ d, ds[i]? = some d ∧ Dp K H x d
  | _, _, 0, _, .cons h _, e => by cases e; exact ⟨_, rfl, h⟩
  | _, _, i + 1, _, .cons _ t, e => dpAll_get' (i := i) t e
  | _, _, _, _, .nil, e => by cases e
section
variable {P : Program} {w : World} {K : PySem.W.Frag} {mg : Str → Option Value} {base : Heap} {f : Addr} {fd : FuncData}
def spWhole (K : PySem.W.Frag) : Sp := fun vs H Q _ => ∃ (x : V) (d : PyData), vs = [x] ∧ Dp K H x d ∧ Q (.bl (wholeD d)) H
theorem scWhole : FnScope ["thing"] ["thing"] (defScope sWhole) := ⟨rfl, rfl, rfl, by decide +kernel, rfl, by decide +kernel, by decide +kernel⟩
theorem ok_whole {k : Nat} (F : Fun K "is_whole" "is_whole" sWhole f fd) (T : Free mg) : FnOk P w K mg base CX0 (k + 1) f fd ["thing"] (spWhole K) := by
  refine F.ok scWhole (fun vs H Q E h => ?_) (fun cdv A outer s H vs Q E hr h => ?_)
  · obtain ⟨x, d, rfl, _⟩ := h
    rfl
  obtain ⟨x, d, rfl, hx, q⟩ := h
  refine ⟨_, pss_one (ps_ret (pe_and (pe_callB call_isi rfl T.isi (by decide +kernel) (pa_cons (pv 0) (pa_cons (pe_bltn (v := .ty "int") rfl T.int (by decide +kernel) rfl) pa_nil)))
    (pe_one (pe_not (pe_callB call_isi rfl T.isi (by decide +kernel) (pa_cons (pv 0) (pa_cons (pe_bltn (v := .ty "bool") rfl T.bool (by decide +kernel) rfl) pa_nil))))))), ?_⟩
  have ht := ty_of hx
  refine ⟨_, rfl, x, _, _, _, _, rfl, .ty "int", ht, kit_int d, _, rfl, ?_⟩
  cases d with
  | int i => exact ifT rfl ⟨_, rfl, _, _, _, _, _, rfl, .ty "bool", ht, kit_bool _, _, rfl, q⟩
  | bool b => exact ifT rfl ⟨_, rfl, _, _, _, _, _, rfl, .ty "bool", ht, kit_bool _, _, rfl, q⟩
  | none => exact ifF rfl q
  | str _ => exact ifF rfl q
  | list _ => exact ifF rfl q
  | tuple _ => exact ifF rfl q
  | dict _ => exact ifF rfl q
/-! is_within -/
def spWithin (K : PySem.W.Frag) : Sp := fun vs H Q _ => ∃ (x : V) (d : PyData) (lo hi : Int), vs = [x, .int lo, .int hi] ∧ Dp K H x d ∧ Q (.bl (withinD lo hi d)) H
theorem scWithin : FnScope ["thing", "least", "most"] ["thing", "least", "most"] (defScope sWithin) := ⟨rfl, rfl, rfl, by decide +kernel, rfl, by decide +kernel, by decide +kernel⟩
theorem ok_within {k : Nat} (F : Fun K "is_within" "is_within" sWithin f fd) (cW : Cal P w K mg base "is_whole" k ["thing"] (spWhole K)) : FnOk P w K mg base CX0 (k + 1) f fd ["thing", "least", "most"] (spWithin K) := by
  refine F.ok scWithin (fun vs H Q E h => ?_) (fun cdv A outer s H vs Q E hr h => ?_)
  · obtain ⟨x, d, lo, hi, rfl, _⟩ := h
    rfl
  obtain ⟨x, d, lo, hi, rfl, hx, q⟩ := h
  refine ⟨_, pss_one (ps_ret (pe_and (pe_cal cW hr rfl (pa_cons (pv 0) pa_nil)) (pe_one (pe_chain op_le op_le (pv 1) (pv 0) (pv 2))))), ?_⟩
  refine ⟨_, rfl, x, d, rfl, hx, _, rfl, ?_⟩
  cases d with
  | int i =>
    cases hx
    refine ifT rfl ⟨_, rfl, _, rfl, _, _, rfl, rfl, _, rfl, ?_⟩
    have e : withinD lo hi (.int i) = (decide (lo ≤ i) && decide (i ≤ hi)) := rfl
    rw [e] at q
    by_cases c : lo ≤ i
    · refine ifT (decide_eq_true c) ⟨_, rfl, _, _, rfl, rfl, ?_⟩
      rw [decide_eq_true c, Bool.true_and] at q
      exact q
    · refine ifF (decide_eq_false c) ?_
      rw [decide_eq_false c, Bool.false_and] at q
      exact q
  | bool b => exact ifF rfl q
  | none => exact ifF rfl q
  | str _ => exact ifF rfl q
  | list _ => exact ifF rfl q
  | tuple _ => exact ifF rfl q
  | dict _ => exact ifF rfl q
/-! is_tuple -/
end
theorem atI_at {α : Type} {xs : List α} {i : Int} {v : α} (h0 : 0 ≤ i) (h : xs[i.toNat]? = some v) : atI xs i = some v := by
  have q := atI_nat h
  rw [show ((i.toNat : Nat) : Int) = i by omega] at q
  exact q
/-! heaps: what stands, but for the state's list -/
def StOk (x y z : Int) : Prop := 0 ≤ x ∧ 0 ≤ y ∧ y < 4294967296
def StAt (H : Hp) (st : Addr) : Prop := ∃ x y z, H st = some (.lst [.int x, .int y, .int z]) ∧ StOk x y z
def Kp (st : Addr) (H H' : Hp) : Prop := ∀ b u, b ≠ st → H b = some u → H' b = some u
structure Mv (st : Addr) (H H' : Hp) : Prop where
  kp : Kp st H H'
  sa : StAt H' st
/-- what is no list stands -/
def KT (H H' : Hp) : Prop := ∀ b u, H b = some u → (∀ l, u ≠ .lst l) → H' b = some u
theorem Kp.refl (st : Addr) (H : Hp) : Kp st H H := fun _ _ _ h => h
theorem Kp.trans {st : Addr} {H H1 H2 : Hp} (a : Kp st H H1) (b : Kp st H1 H2) : Kp st H H2 := fun c u n h => b c u n (a c u n h)
theorem Kp.of_same {st : Addr} {H H' : Hp} (a : Same H H') : Kp st H H' := fun c u _ h => a c u h
theorem KT.refl (H : Hp) : KT H H := fun _ _ h _ => h
theorem KT.trans {H H1 H2 : Hp} (a : KT H H1) (b : KT H1 H2) : KT H H2 := fun c u h n => b c u (a c u h n) n
theorem KT.of_same {H H' : Hp} (a : Same H H') : KT H H' := fun c u h _ => a c u h
theorem Kp.kt {st : Addr} {H H' : Hp} (k : Kp st H H') (s : StAt H st) : KT H H' := fun b u h n => k b u (fun e => by
  obtain ⟨x, y, z, hs, _⟩ := s
  rw [e, hs] at h
  cases h
  exact n _ rfl) h
theorem KT.upd {H : Hp} {p : Addr} {l l' : List V} (h : H p = some (.lst l)) : KT H (upd H p (.lst l')) := fun b u hb n => by
  by_cases e : b = p
  · subst e
    rw [h] at hb
    cases hb
    exact absurd rfl (n l)
  · rw [upd_ne e]
    exact hb
theorem same_new {H : Hp} {p : Addr} (h : H p = none) (o : HO) : Same H (upd H p o) := fun b u q => by rw [upd_ne (ne_of_none q h)]; exact q
theorem Kp.upd {st : Addr} {H0 H : Hp} {p : Addr} {o : HO} (k : Kp st H0 H) (h : H0 p = none) : Kp st H0 (upd H p o) := fun b u n hb => by
  rw [upd_ne (ne_of_none hb h)]
  exact k b u n hb
theorem Kp.free {st : Addr} {H H' : Hp} (k : Kp st H H') {p : Addr} (n : p ≠ st) (h : H' p = none) : H p = none := by
  cases e : H p with
  | none => rfl
  | some u =>
    rw [k p u n e] at h
    cases h
theorem StAt.some {H : Hp} {st : Addr} (s : StAt H st) : ∃ l, H st = some (.lst l) := by
  obtain ⟨x, y, z, h, _⟩ := s
  exact ⟨_, h⟩
theorem StAt.ne {H : Hp} {st p : Addr} (s : StAt H st) (h : H p = none) : p ≠ st := fun e => by
  obtain ⟨l, hs⟩ := s.some
  rw [e, hs] at h
  cases h
theorem StAt.same {H H' : Hp} {st : Addr} (s : StAt H st) (k : Same H H') : StAt H' st := by
  obtain ⟨x, y, z, h, ok⟩ := s
  exact ⟨x, y, z, k _ _ h, ok⟩
theorem StAt.upd {H : Hp} {st p : Addr} {o : HO} (s : StAt H st) (n : p ≠ st) : StAt (upd H p o) st := by
  obtain ⟨x, y, z, h, ok⟩ := s
  exact ⟨x, y, z, by rw [upd_ne n.symm]; exact h, ok⟩
/-! data that is tuples, ints and texts alone -/
mutual
def tupOnly : PyData → Bool
  | .int _ | .str _ => true
  | .tuple xs => tupOnlyAll xs
  | _ => false
def tupOnlyAll : List PyData → Bool
  | [] => true
  | x :: r => tupOnly x && tupOnlyAll r
end
theorem sqT_kt {K : PySem.W.Frag} {H H' : Hp} {a : Addr} {xs : List V} (k : KT H H') (h : SqT K H a xs) : SqT K H' a xs := by
  rcases h with (h | ⟨o, h⟩) | h
  · exact .inl (.inl (k _ _ h (fun l z => by cases z)))
  · exact .inl (.inr ⟨o, k _ _ h (fun l z => by cases z)⟩)
  · exact .inr h
mutual
theorem dp_kt {K : PySem.W.Frag} {H H' : Hp} (k : KT H H') : ∀ (d : PyData) (v : V), tupOnly d = true → Dp K H v d → Dp K H' v d
  | .int i, v, _, h => by cases h; exact .int i
  | .str x, v, _, h => by cases h; exact .str x
  | .tuple ds, v, t, h => by
    cases h with
    | tup hs ha => exact .tup (sqT_kt k hs) (dpAll_kt k ds _ (by simpa only [tupOnly] using t) ha)
  | .none, v, t, h => by simp [tupOnly] at t
  | .bool _, v, t, h => by simp [tupOnly] at t
  | .list _, v, t, h => by simp [tupOnly] at t
  | .dict _, v, t, h => by simp [tupOnly] at t
theorem dpAll_kt {K : PySem.W.Frag} {H H' : Hp} (k : KT H H') : ∀ (ds : List PyData) (vs : List V), tupOnlyAll ds = true → DpAll K H vs ds → DpAll K H' vs ds
  | [], vs, _, h => by cases h; exact .nil
  | d :: ds, vs, t, h => by
    simp only [tupOnlyAll, Bool.and_eq_true] at t
    cases h with
    | cons h1 h2 => exact .cons (dp_kt k d _ t.1 h1) (dpAll_kt k ds _ t.2 h2)
end
theorem dpAll_snoc {K : PySem.W.Frag} {H : Hp} {v : V} {d : PyData} (h : Dp K H v d) : ∀ {vs : List V} {ds : List PyData}, DpAll K H vs ds → DpAll K H (vs ++ [v]) (ds ++ [d])
  | _, _, .nil => .cons h .nil
  | _, _, .cons a t => .cons a (dpAll_snoc h t)
theorem dpAll_append {K : PySem.W.Frag} {H : Hp} {ws : List V} {es : List PyData} (h : DpAll K H ws es) : ∀ {vs : List V} {ds : List PyData}, DpAll K H vs ds → DpAll K H (vs ++ ws) (ds ++ es)
  | _, _, .nil => h
  | _, _, .cons a t => .cons a (dpAll_append h t)
theorem tupOnly_snoc : ∀ {ds : List PyData} {d : PyData}, tupOnlyAll ds = true → tupOnly d = true → tupOnlyAll (ds ++ [d]) = true
  | [], d, _, h => by simp [tupOnlyAll, h]
  | x :: r, d, t, h => by
    simp only [tupOnlyAll, Bool.and_eq_true, List.cons_append] at *
    exact ⟨t.1, tupOnly_snoc t.2 h⟩
theorem small {n : Nat} (h : n ≤ 1000) : n ≤ sizeLine := Nat.le_of_lt (small1000 h)
section
variable {P : Program} {w : World} {K : PySem.W.Frag} {mg : Str → Option Value} {base : Heap} {f : Addr} {fd : FuncData}
/-! _law_cell_at -/
def spCell (K : PySem.W.Frag) : Sp := fun vs H Q _ => ∃ (a : Addr) (ns : List Int) (i : Int), vs = [.ref a, .int i] ∧ SqL K H a (ns.map V.int) ∧ 0 ≤ i ∧ ∀ n : Int, Q (.int n) H
theorem scCell : FnScope ["_law_script", "_law_k"] ["_law_script", "_law_k"] (defScope sCell) := ⟨rfl, rfl, rfl, by decide +kernel, rfl, by decide +kernel, by decide +kernel⟩
theorem ok_cell {k : Nat} (F : Fun K "_law_cell_at" "_law_cell_at" sCell f fd) (T : Free mg) : FnOk P w K mg base CX0 (k + 1) f fd ["_law_script", "_law_k"] (spCell K) := by
  refine F.ok scCell (fun vs H Q E h => ?_) (fun cdv A outer s H vs Q E hr h => ?_)
  · obtain ⟨a, ns, i, rfl, _⟩ := h
    rfl
  obtain ⟨a, ns, i, rfl, hs, h0, q⟩ := h
  refine ⟨_, pss_cons (ps_if (pt_cmpR op_lt (pv 1) (pe_callB call_len_seq rfl T.len PySem.boot_len (pa_cons (pv 0) pa_nil)) (nomark _)) (pss_one (ps_ret (pe_ix ix_list (pv 0) (pv 1) (fun _ _ => rfl)))) pss_nil) (pss_one (ps_ret pe_int)), ?_⟩
  refine ⟨_, rfl, _, rfl, a, _, rfl, .inl hs, _, _, rfl, rfl, _, rfl, ?_⟩
  refine ite2 (fun c => ?_) (fun c => q 0)
  have c : i < (((ns.map V.int).length : Nat) : Int) := of_decide_eq_true c
  have hk : i.toNat < ns.length := by rw [List.length_map] at c; omega
  exact ⟨_, rfl, _, rfl, a, _, i, .int ns[i.toNat], rfl, rfl, hs, atI_at h0 (by rw [List.getElem?_map, List.getElem?_eq_getElem hk] <;> rfl), q _⟩
/-! _law_state -/
def spState (K : PySem.W.Frag) : Sp := fun vs H Q _ => ∃ (a : Addr) (ns : List Int) (i : Int), vs = [.ref a, .int i] ∧ SqL K H a (ns.map V.int) ∧ 0 ≤ i ∧ ∀ p x y z, H p = none → StOk x y z → Q (.ref p) (upd H p (.lst [.int x, .int y, .int z]))
theorem scState : FnScope ["_law_script", "_law_k", "_law_cell"] ["_law_script", "_law_k"] (defScope sState) := ⟨rfl, rfl, rfl, by decide +kernel, rfl, by decide +kernel, by decide +kernel⟩
theorem ok_state {k : Nat} (F : Fun K "_law_state" "_law_state" sState f fd) (T : Free mg) (cC : Cal P w K mg base "_law_cell_at" k ["_law_script", "_law_k"] (spCell K)) : FnOk P w K mg base CX0 (k + 1) f fd ["_law_script", "_law_k"] (spState K) := by
  refine F.ok scState (fun vs H Q E h => ?_) (fun cdv A outer s H vs Q E hr h => ?_)
  · obtain ⟨a, ns, i, rfl, _⟩ := h
    rfl
  obtain ⟨a, ns, i, rfl, hs, h0, q⟩ := h
  refine ⟨_, pss_cons (ps_set (i := 2) scState.nd rfl (.inl rfl) (pe_cal cC hr rfl (pa_cons (pv 0) (pa_cons (pv 1) pa_nil))))
    (pss_one (ps_ret (pe_lst (pa_cons (pe_callB (call_max2 rfl) rfl T.max (by decide +kernel) (pa_cons pe_int (pa_cons (pe_op op_sub (pv 2) (pe_op op_pow pe_int pe_int)) pa_nil)))
      (pa_cons (pe_op op_add (pe_op op_mod (pv 2) pe_int) pe_int) (pa_cons pe_int pa_nil)))))), ?_⟩
  refine ⟨_, rfl, _, rfl, a, ns, i, rfl, hs, h0, fun n => ?_⟩
  refine ⟨_, rfl, _, _, rfl, rfl, ⟨by decide, by decide, by decide⟩, _, _, rfl, rfl, _, _, rfl, ?_⟩
  refine ⟨_, rfl, _, _, rfl, rfl, (by show (0 : Int) < 2147483629; decide), _, _, rfl, rfl, small (by show 3 ≤ 1000; decide), fun p hp => ?_⟩
  refine q p _ _ _ hp ⟨?_, ?_, ?_⟩
  · split <;> omega
  · have := Int.emod_nonneg n (show (2147483629 : Int) ≠ 0 by decide)
    omega
  · have := Int.emod_lt_of_pos n (show (0 : Int) < 2147483629 by decide)
    omega
/-! _law_choice -/
def spChoice : Sp := fun vs H Q _ => ∃ (st : Addr) (many : Int), vs = [.ref st, .int many] ∧ StAt H st ∧ 0 < many ∧ many < 1000000 ∧ ∀ r H', 0 ≤ r → r < many → Mv st H H' → Q (.int r) H'
theorem scChoice : FnScope ["_law_state_here", "_law_many", "_law_found", "_law_mixed"] ["_law_state_here", "_law_many"] (defScope sChoice) := ⟨rfl, rfl, rfl, by decide +kernel, rfl, by decide +kernel, by decide +kernel⟩
theorem mv_upd {H : Hp} {st : Addr} {x y z : Int} (ok : StOk x y z) : Mv st H (upd H st (.lst [.int x, .int y, .int z])) :=
  ⟨fun b u n h => by rw [upd_ne n]; exact h, ⟨x, y, z, upd_same, ok⟩⟩
theorem ok_choice {k : Nat} (F : Fun K "_law_choice" "_law_choice" sChoice f fd) : FnOk P w K mg base CX0 (k + 1) f fd ["_law_state_here", "_law_many"] spChoice := by
  refine F.ok scChoice (fun vs H Q E h => ?_) (fun cdv A outer s H vs Q E hr h => ?_)
  · obtain ⟨st, many, rfl, _⟩ := h
    rfl
  obtain ⟨st, many, rfl, ⟨x, y, z, hst, hx, hy, hy2⟩, h0, hm, q⟩ := h
  refine ⟨_, pss_cons (ps_if (pt_cmpR op_gt (pe_ix ix_list (pv 0) pe_int (fun _ _ => rfl)) pe_int (nomark _))
      (pss_cons (ps_set (i := 2) scChoice.nd rfl (.inl rfl) (pe_op op_mod (pe_ix ix_list (pv 0) pe_int (fun _ _ => rfl)) (pv 1)))
      (pss_cons (ps_asg (pe_op op_fdiv (pe_ix ix_list (pv 0) pe_int (fun _ _ => rfl)) (pv 1)) (pg_sub (pv 0) pe_int set_list))
      (pss_one (ps_ret (pv 2))))) pss_nil)
    (pss_cons (ps_asg (pe_op op_add (pe_ix ix_list (pv 0) pe_int (fun _ _ => rfl)) pe_int) (pg_sub (pv 0) pe_int set_list))
    (pss_cons (ps_asg (pe_op op_mod (pe_op op_add (pe_op op_add (pe_op op_mul (pe_ix ix_list (pv 0) pe_int (fun _ _ => rfl)) pe_int) pe_int) (pe_ix ix_list (pv 0) pe_int (fun _ _ => rfl))) pe_int) (pg_sub (pv 0) pe_int set_list))
    (pss_cons (ps_set (i := 3) scChoice.nd rfl (.inl rfl) (pe_op op_mod (pe_op op_add (pe_op op_add (pe_op op_mul (pe_ix ix_list (pv 0) pe_int (fun _ _ => rfl)) (pe_ix ix_list (pv 0) pe_int (fun _ _ => rfl))) (pe_op op_mul pe_int (pe_ix ix_list (pv 0) pe_int (fun _ _ => rfl)))) pe_int) pe_int))
    (pss_cons (ps_set (i := 3) scChoice.nd rfl (.inl rfl) (pe_op op_mod (pe_op op_add (pe_op op_mul (pv 3) (pv 3)) (pe_op op_mul pe_int (pv 3))) pe_int))
    (pss_one (ps_ret (pe_op op_mod (pe_op op_fdiv (pv 3) pe_int) (pv 1)))))))), ?_⟩
  have rd : ∀ {H : Hp} {x y z : Int}, H st = some (.lst [.int x, .int y, .int z]) → SqL K H st [.int x, .int y, .int z] := fun h => SqL.of h
  refine ⟨_, rfl, st, _, 0, _, rfl, rfl, rd hst, rfl, _, _, rfl, rfl, _, rfl, ?_⟩
  refine ite2 (fun c => ?_) (fun c => ?_)
  · refine ⟨_, rfl, st, _, 0, _, rfl, rfl, rd hst, rfl, _, rfl, _, _, rfl, rfl, h0, ?_⟩
    refine ⟨_, rfl, st, _, 0, _, rfl, rfl, rd hst, rfl, _, rfl, _, _, rfl, rfl, ⟨h0, by omega⟩, ?_⟩
    refine ⟨_, rfl, st, _, 0, 0, rfl, rfl, hst, rfl, ?_⟩
    refine ⟨_, rfl, q _ _ (Int.emod_nonneg x (by omega)) (Int.emod_lt_of_pos x h0) (mv_upd (x := x / many) (y := y) (z := z) ⟨Int.ediv_nonneg hx (by omega), hy, hy2⟩)⟩
  · refine ⟨_, rfl, st, _, 2, _, rfl, rfl, rd hst, rfl, _, _, rfl, rfl, ?_⟩
    refine ⟨_, rfl, st, _, 2, 2, rfl, rfl, hst, rfl, ?_⟩
    refine ⟨_, rfl, st, _, 1, _, rfl, rfl, rd upd_same, rfl, _, _, rfl, rfl, .inl ⟨by omega, by omega⟩, _, _, rfl, rfl, _, rfl, st, _, 2, _, rfl, rfl, rd upd_same, rfl, _, _, rfl, rfl, _, _, rfl, rfl, (by show (0 : Int) < 2147483647; decide), ?_⟩
    refine ⟨_, rfl, st, _, 1, 1, rfl, rfl, upd_same, rfl, ?_⟩
    rw [upd_upd]
    have b1 := Int.emod_nonneg (y * 48271 + 29 + (z + 1)) (show (2147483647 : Int) ≠ 0 by decide)
    have b2 := Int.emod_lt_of_pos (y * 48271 + 29 + (z + 1)) (show (0 : Int) < 2147483647 by decide)
    generalize hv : (y * 48271 + 29 + (z + 1)) % 2147483647 = v at b1 b2
    show tSeq _ _ _ _ (upd H st (.lst [.int x, .int ((y * 48271 + 29 + (z + 1)) % 2147483647), .int (z + 1)]))
    rw [hv]
    refine ⟨_, rfl, st, _, 1, _, rfl, rfl, rd upd_same, rfl, _, rfl, st, _, 1, _, rfl, rfl, rd upd_same, rfl, _, _, rfl, rfl, .inl ⟨by omega, by omega⟩, _, rfl, st, _, 1, _, rfl, rfl, rd upd_same, rfl, _, _, rfl, rfl, .inl ⟨by decide, by decide⟩, _, _, rfl, rfl, _, _, rfl, rfl, _, _, rfl, rfl, (by show (0 : Int) < 2147483629; decide), ?_⟩
    have c1 := Int.emod_nonneg (v * v + 39373 * v + 7) (show (2147483629 : Int) ≠ 0 by decide)
    have c2 := Int.emod_lt_of_pos (v * v + 39373 * v + 7) (show (0 : Int) < 2147483629 by decide)
    refine ⟨_, rfl, _, rfl, _, _, rfl, rfl, .inl ⟨by omega, by omega⟩, _, rfl, _, _, rfl, rfl, .inl ⟨by decide, by decide⟩, _, _, rfl, rfl, _, _, rfl, rfl, (by show (0 : Int) < 2147483587; decide), ?_⟩
    refine ⟨_, rfl, _, _, rfl, rfl, ⟨by decide, by decide⟩, _, rfl, _, _, rfl, rfl, h0, ?_⟩
    exact q _ _ (Int.emod_nonneg _ (by omega)) (Int.emod_lt_of_pos _ h0) (mv_upd ⟨hx, b1, by omega⟩)
end
section
open PySem.Spec PyProof.Rows LamX
theorem okC {P : Program} {w : World} {K : PySem.W.Frag} {mg : Str → Option Value} {base : Heap} {x qual : Str} {st : Stmt} {f c : Addr} {fd : FuncData} {N ps : List Str} {k : Nat} {sp : Sp} (F : Fun K x qual st f fd) (hc : fd.code = .ref c) (S : FnScope N ps (defScope st)) (len : ∀ vs H Q E, sp vs H Q E → vs.length = ps.length)
    (hbody : ∀ (A : Around) (outer : List Env) (s : Shared) (H : Hp) (vs : List V) (Q : VK) (E : XK), Room k (A.deeper (envOfC qual (defScope st) s.heap.objs.size f (.ref c))) → sp vs H Q E →
      ∃ t, PSs (cxOf CX0 P w K mg base N qual (defScope st) f (.ref c) A outer s H E).nox (defBody st) t ∧ t { nx := fun _ H' => Q .non H', rt := Q } (L2.start N vs) H) : FnOk P w K mg base CX0 (k + 1) f fd ps sp := by
  obtain ⟨oc, od, kV, doc, pm, an, cdv, ct, osl, rfl, lk, hcd⟩ := F.ex
  obtain rfl : cdv = .ref c := hc
  refine fn_of lk hcd S len fun A outer s H vs Q E hr hsp => ?_
  obtain ⟨t, h, q⟩ := hbody A outer s H vs Q E hr hsp
  exact ⟨t, h.nox, q⟩
mutual
theorem dp_ext {K : PySem.W.Frag} {H H' : Hp} (e : ExtN H H') : ∀ (d : PyData) (v : V), Dp K H v d → Dp K H' v d
  | .none, v, h => by cases h; exact .non
  | .bool b, v, h => by cases h; exact .bl b
  | .int i, v, h => by cases h; exact .int i
  | .str x, v, h => by cases h; exact .str x
  | .list es, v, h => by
    cases h with
    | lst at_ each =>
      refine .lst ?_ (dp_exts e es _ each)
      rcases at_ with (z | ⟨o, z⟩) | z
      · exact .inl (.inl (e _ _ z fun ps q => by cases q))
      · exact .inl (.inr ⟨o, e _ _ z fun ps q => by cases q⟩)
      · exact .inr z
  | .tuple es, v, h => by
    cases h with
    | tup at_ each =>
      refine .tup ?_ (dp_exts e es _ each)
      rcases at_ with (z | ⟨o, z⟩) | z
      · exact .inl (.inl (e _ _ z fun ps q => by cases q))
      · exact .inl (.inr ⟨o, e _ _ z fun ps q => by cases q⟩)
      · exact .inr z
  | .dict kvs, v, h => by
    cases h with
    | dct at_ => exact .dct (e _ _ at_ fun ps q => by cases q)
theorem dp_exts {K : PySem.W.Frag} {H H' : Hp} (e : ExtN H H') : ∀ (ds : List PyData) (vs : List V), DpAll K H vs ds → DpAll K H' vs ds
  | [], vs, h => by cases h; exact .nil
  | d :: ds, vs, h => by
    cases h with
    | cons one more => exact .cons (dp_ext e d _ one) (dp_exts e ds _ more)
end
theorem tabs_upd {T : List (Addr × Str)} {H : Hp} {fa : Addr} {l l' : List V} (t : Tabs T H) (h : H fa = some (.lst l)) : Tabs T (upd H fa (.lst l')) := by
  intro p hp
  obtain ⟨ps, h1, h2, h3⟩ := t p hp
  refine ⟨ps, ?_, h2, fun pos cv hc => ?_⟩
  · rw [upd_ne (show p.1 ≠ fa from fun z => by rw [z, h] at h1; cases h1)]
    exact h1
  · obtain ⟨c, e1, e2⟩ := h3 pos cv hc
    refine ⟨c, e1, ?_⟩
    rw [upd_ne (show c ≠ fa from fun z => by rw [z, h] at e2; cases e2)]
    exact e2
theorem ext_upd {H0 H : Hp} {fa : Addr} {o : HO} (e : ExtN H0 H) (h : ∀ u, H0 fa = some u → ∃ ps, u = .tbl ps) : ExtN H0 (upd H fa o) := fun b u hb n => by
  have nb : b ≠ fa := fun z => by
    rw [z] at hb
    obtain ⟨ps, q⟩ := h u hb
    exact n ps q
  rw [upd_ne nb]
  exact e b u hb n
theorem ext_lst {H H' : Hp} {p : Addr} {l : List V} (e : ExtN H H') (h : H p = some (.lst l)) : H' p = some (.lst l) := e _ _ h fun ps q => by cases q
theorem ext_same {H H' : Hp} (s : Same H H') : ExtN H H' := fun b o h _ => s b o h
end
/-! all(.. for ..) and any(.. for ..), whatever is walked, the element may call defs -/
section
open PySem.Spec PyProof.Rows
/-- the generator expression's own frame, woken from the frames of X -/
def gxCx (X : Cx) (A : Around) (s : Shared) (H : Hp) (ce : Env) (fp : List Addr) (pn : List (Addr × Obj)) : Cx where
  prog := X.prog
  w := X.w
  K := X.K
  mg := X.mg
  base := X.base
  A := A
  N := X.N
  s_0 := s
  H_0 := H
  env := ce
  outer := X.stack
  stack := ce :: X.stack
  ex := fp
  fn := fun _ => false
  calm := true
  pn := pn
  xe := fun _ _ => False
theorem inv_sh {X : Cx} {pins : List (Addr × Obj)} {σ : L2.St} {H : Hp} {s s' : Shared} (I : Inv X pins σ H s) (h1 : s'.heap = s.heap) (h2 : s'.os = s.os) (h3 : AllBare s'.gens) : Inv X pins σ H s' :=
  ⟨I.ok, h2.trans I.os, h3, by rw [h1]; exact I.base, by rw [h1]; exact I.loc, by rw [h1]; exact I.cell, I.free, I.freeC, by rw [h1]; exact I.pin, by rw [h1]; exact I.hok, I.len⟩
section
variable {X : Cx} {pins : List (Addr × Obj)} {σ : L2.St} {H : Hp} {s : Shared}
theorem gx_start {A : Around} {scope : Scope} {own : List (Str × Nat)} {fp : List Addr} {code : Value} {a : Addr} {go : Obj} {h5 : Heap} {g5 : Array GenState} {t5 : Nat} {m0 : Str → Option Value}
    (I : Inv X pins σ H s) (hN : X.N.Nodup) (ok : BlkOk X.N X.env.scope scope own) (nocell : ∀ y ∈ scope.names, y.2 ≠ .cell) (hA : A.handled = none)
    (hfr : A.frames = some (genEnv scope (cloFrom X.env.cells scope.names []) s.heap.objs.size code builtinsNs X.env :: X.stack)) (hfp : ∀ b ∈ fp, FpOk X pins H b ∧ b < s.heap.objs.size)
    (hns : h5.Ns s.heap.objs.size m0) (kp : ∀ b o, s.heap.get? b = some o → h5.get? b = some o) (hgo : h5.get? a = some go) (ha : s.heap.objs.size < a) (hgd : ∀ v, go.data ≠ .cell v) (hg : AllBare g5) :
    Inv (gxCx X A s H (genEnv scope (cloFrom X.env.cells scope.names []) s.heap.objs.size code builtinsNs X.env) fp [(a, go)]) [] (wipe σ (own.map (·.2))) H { s with heap := h5, gens := g5, toks := t5 } := by
  have cm : ∀ {y c}, (cloFrom X.env.cells scope.names []).lookup y = some c → X.env.cells.lookup y = some c := fun {y c} e => by
    rcases cloFrom_mem (PySem.mem_of_lookup e) with hm | ⟨h1, h2⟩
    · cases hm
    · have hy : ∃ c1, X.env.cells.lookup y = some c1 := by
        rcases ok.free _ h1 rfl with k | k
        · exact I.ok.has _ (.inl k)
        · exact I.ok.has _ (.inr k)
      obtain ⟨c1, hc⟩ := hy
      have e2 : c = c1 := by
        rw [h2, hc] <;> rfl
      rw [e2]
      exact hc
  have look : ∀ {y}, scope.names.lookup y = some .free → ∃ c, (cloFrom X.env.cells scope.names []).lookup y = some c := fun {y} hl =>
    mem_lookup (cloFrom_has (cells := X.env.cells) (acc := []) (PySem.mem_of_lookup hl : (y, NameKind.free) ∈ scope.names))
  have cellK : ∀ {c : Addr} {v : Option Value}, s.heap.IsCell c v → h5.IsCell c v := fun {c v} ⟨o, ho, hd⟩ => ⟨o, kp _ _ ho, hd⟩
  refine ⟨⟨I.ok.mod, ok.kind, I.ok.glob, rfl, Nat.le_refl _, fun y z c e1 e2 => I.ok.inj y z c (cm e1) (cm e2), fun y hy => ?_, fun y c z _ => ?_, fun _ => hA, hfr, .inr ⟨rfl, rfl⟩, fun b hb => ⟨?_, fun y c e => ?_⟩, I.bs, Nat.le_trans I.ok.bsz I.sz, fun b o e hb => ?_, fun b hb z => ?_, I.stack, I.stkFree⟩,
    rfl, hg, Un.kept kp, ⟨m0, hns, fun i y v e1 e2 e3 => ?_⟩, fun y c e => ?_, I.hok.fresh (Nat.le_refl _), fun y c e => I.freeC y c (cm e), fun p hp => ?_, I.hok.kept kp, ?_⟩
  · have hy : scope.names.lookup y = some .cell ∨ scope.names.lookup y = some .free := hy
    rcases hy with hy | hy
    · exact absurd rfl (nocell _ (PySem.mem_of_lookup hy))
    · exact look hy
  · have z : false = true := z
    cases z
  · exact Nat.ne_of_lt (hfp b hb).2
  · exact (hfp b hb).1.2.2.2.2.1 y c (cm e)
  · rcases (hfp b hb).1.2.2.2.1 with z | z
    · exact I.ok.noex b o e z
    · have h1 : b < X.base.objs.size := Heap.lt_size e
      exact absurd (Nat.lt_of_lt_of_le h1 (Nat.le_trans I.ok.bsz z)) (Nat.lt_irrefl _)
  · rcases List.mem_cons.mp (I.stkSub b z) with z | z
    · exact (hfp b hb).1.2.1 z
    · exact (hfp b hb).1.2.2.1 z
  · obtain ⟨e2, nv⟩ := wipe_some e2
    have e3 : Vis scope y := e3
    rcases e3 with k | k | k
    · rcases ok.own _ (PySem.mem_of_lookup k) (.inl rfl) with z | z
      · obtain ⟨p, hp, ep⟩ := List.mem_map.mp z
        have e4 := ok.ix p hp
        rw [show p.1 = y from ep] at e4
        exact absurd (List.mem_map.mpr ⟨p, hp, nodup_ix hN e4 e1⟩) nv
      · exact absurd (List.mem_of_getElem? e1) z
    · exact absurd rfl (nocell _ (PySem.mem_of_lookup k))
    · obtain ⟨m, hn, hl⟩ := I.loc
      have hvis : Vis X.env.scope y := (ok.free _ (PySem.mem_of_lookup k) rfl).elim (fun k => .inr (.inl k)) (fun k => .inr (.inr k))
      obtain ⟨u, r, q⟩ := hl i y v e1 e2 hvis
      obtain ⟨c2, h2⟩ := look k
      refine ⟨u, r, .inr ⟨.inr k, c2, h2, ?_⟩⟩
      have c1 := cm h2
      rcases q with ⟨k', _⟩ | ⟨_, c3, e', z⟩
      · have k' : X.env.scope.names.lookup y = some .local := k'
        rcases ok.free _ (PySem.mem_of_lookup k) rfl with k2 | k2 <;> rw [show X.env.scope.names.lookup y = _ from k2] at k' <;> cases k'
      · rw [c1] at e'
        cases e'
        exact cellK z
  · obtain ⟨u, z⟩ := I.cell y c (cm e)
    exact ⟨u, cellK z⟩
  · have hp : p ∈ [(a, go)] ++ [] := hp
    rw [List.append_nil] at hp
    rw [List.mem_singleton.mp hp]
    refine ⟨hgo, I.hok.fresh (Nat.le_of_lt ha), Nat.ne_of_gt ha, fun z => ?_, hgd⟩
    rcases List.mem_cons.mp (I.stkSub a z) with z | z
    · have h1 := I.lt
      rw [z] at ha
      exact absurd (Nat.lt_trans ha h1) (Nat.lt_irrefl _)
    · exact I.nofs (Nat.le_of_lt ha) z
  · rw [wipe_length]
    exact I.len
end
/-- what stands where the generator ends, and where it hands out a truth -/
def GxE (Z : Cx) (σ0 : L2.St) (Qe : Hp → Prop) : Nat → Shared → Shared → Prop := fun _ _ s1 => ∃ H, Inv Z [] σ0 H s1 ∧ Qe H
def GxY (Z : Cx) (e : Bool) (Qn : Hp → Prop) : Protocol := fun _ _ v s kap => ∃ (c : Bool) (H : Hp) (σ' : L2.St), v = .bool c ∧ Inv Z [] σ' H s ∧ (c = e → ∀ s' : Shared, s'.heap = s.heap → s'.os = s.os → AllBare s'.gens → kap (.send .none) s') ∧ (c ≠ e → Qn H)
abbrev gxTurn (J : It) (g : TG) (tt : TT) (te : TE) (vs : List Nat) (σ0 : L2.St) (e : Bool) (Qe Qn : Hp → Prop) (W : Nat → Nat → Hp → Prop) : Prop :=
  ∀ i m H, W i m H → (J.stop i H ∧ Qe H) ∨ (J.go i H ∧ ∃ Nx : Hp → Prop, (∀ H', Nx H' → ∃ m', m' < m ∧ W (i + 1) m' H') ∧ ∀ x H', J.yld i H x H' → g x σ0 H' fun σ2 H2 => wipe σ2 vs = σ0 ∧ tt σ2 H2 fun b H3 =>
    if b = true then te σ2 H3 fun y H4 => ∃ c, y = .bl c ∧ (c = e → Nx H4) ∧ (c ≠ e → Qn H4) else Nx H3)
section
variable {X : Cx} {A0 : Around} {s1 : Shared} {H1 : Hp} {ce : Env} {fp : List Addr} {pn : List (Addr × Obj)} {elt tg iter : Expr} {ifs : List Expr} {scope : Scope} {gpos : Pos} {it : Addr} {tn : Nat → Heap → Prop} {J : It} {g : TG} {tt : TT} {te : TE} {vs : List Nat} {σ0 : L2.St} {e : Bool} {Qe Qn : Hp → Prop} {W : Nat → Nat → Hp → Prop}
abbrev gxCode (elt tg iter : Expr) (ifs : List Expr) (scope : Scope) (gpos : Pos) (it : Addr) (ce : Env) : Code := .compLoop (.GeneratorExp elt [⟨tg, iter, ifs, 0⟩] scope gpos) 0 (.ref it) .none ce
abbrev gxZ (X : Cx) (A0 : Around) (s1 : Shared) (H1 : Hp) (ce : Env) (fp : List Addr) (pn : List (Addr × Obj)) (elt tg iter : Expr) (ifs : List Expr) (scope : Scope) (gpos : Pos) (it : Addr) : Cx := gxCx X (A0.over (gxCode elt tg iter ifs scope gpos it ce) []) s1 H1 ce fp pn
theorem gx_fp {Z : Cx} (hZ : Z = gxZ X A0 s1 H1 ce fp pn elt tg iter ifs scope gpos it) (hpn : ∀ p ∈ pn, p.1 ∉ fp) {σ' : L2.St} {H' : Hp} {s' : Shared} (I : Inv Z [] σ' H' s') (hn : ∀ b ∈ fp, H' b = none) : ∀ b ∈ fp, FpOk Z [] H' b := by
  subst hZ
  intro b hb
  refine ⟨hn b hb, (I.ok.exf b hb).1, I.ok.exfs b hb, .inl hb, fun x c e => (I.ok.exf b hb).2 x c e, fun p hp z => ?_⟩
  have hp : p ∈ pn := by
    rcases List.mem_append.mp hp with hp | hp
    · exact hp
    · cases hp
  exact hpn p hp (by rw [z]; exact hb)
theorem seg_gx {Z : Cx} (hZ : Z = gxZ X A0 s1 H1 ce fp pn elt tg iter ifs scope gpos it) (hpn : ∀ p ∈ pn, p.1 ∉ fp) (hco : ce.scope.isCoroutine = false) (T : Turn X.prog X.w X.K tg J fp it tn) (pg : PG Z tg g) (pt : PTs Z ifs tt) (pe : PE Z elt te) (turn : gxTurn J g tt te vs σ0 e Qe Qn W) :
    ∀ (m i n : Nat) (s₀ s : Shared) (H : Hp), m < n → W i m H → Inv Z [] σ0 H s → tn i s.heap → (∀ b ∈ fp, H b = none) →
      Seg (model X.prog X.w) A0 (fun n s₀ r s1 => r = .ok .next ∧ GxE Z σ0 Qe n s₀ s1) (GxY Z e Qn) n s₀ (gxCode elt tg iter ifs scope gpos it ce) ((model X.prog X.w).den (gxCode elt tg iter ifs scope gpos it ce)) [] s := by
  intro m
  induction m using Nat.strongRecOn with
  | ind m ih =>
    intro i n s₀ s H hmn w0 I st nf
    have fpo := gx_fp hZ hpn I nf
    show Seg _ A0 _ _ _ s₀ _ ((compTurn (.GeneratorExp elt [⟨tg, iter, ifs, 0⟩] scope gpos) 0 (.ref it) .none ce).onRaise (leaving ce)) [] s
    rw [compTurn_gen, Sem.onRaise_eq_wrap]
    refine seg_bind_wrap (wpAny_standAt ?_)
    rcases turn i m H w0 with ⟨stop, qe⟩ | ⟨go, Nx, hNx, step⟩
    · have td := T.done Z (by rw [hZ]; rfl) (by rw [hZ]; rfl) (by rw [hZ]; rfl) (by rw [hZ]; rfl) i [] s σ0 H (fun _ _ => False) I fpo st stop
      have hA : Z.A = A0.over (gxCode elt tg iter ifs scope gpos it ce) [] := by rw [hZ]; rfl
      rw [hA] at td
      refine seg_bind_wrap (wpAny_mono td (fun r s2 hr => ?_) fun _ _ z => z.elim)
      obtain ⟨rfl, I2⟩ := hr
      exact seg_end (.ok .next) ⟨rfl, H, I2, qe⟩
    · have hA : Z.A = A0.over (gxCode elt tg iter ifs scope gpos it ce) [] := by rw [hZ]; rfl
      have hE : Z.env = ce := by rw [hZ]; rfl
      have hPr : Z.prog = X.prog := by rw [hZ]; rfl
      have hWd : Z.w = X.w := by rw [hZ]; rfl
      have hXe : Z.xe = fun _ _ => False := by rw [hZ]; rfl
      have ti := T.item Z hPr hWd (by rw [hZ]; rfl) (by rw [hZ]; rfl) i [] s σ0 H (fun _ _ => False) I fpo st go
      rw [hA] at ti
      refine seg_bind_wrap (wpAny_mono ti (fun r s2 hr => ?_) fun _ _ z => z.elim)
      obtain ⟨u, rfl, ti⟩ := hr
      refine seg_bind_wrap (wpAny_mono ti (fun _ s7 h7 => ?_) fun _ _ z => z.elim)
      obtain ⟨x, H7, I7, r7, y7, st7, n7⟩ := h7
      have I7' := I7.pinned (gx_fp hZ hpn I7 n7) (T.obj _ _ st7)
      have ta := pg.run _ s7 _ H7 x u _ I7' r7 (step x H7 y7)
      rw [hPr, hWd, hA, hE, hXe] at ta
      refine seg_bind_wrap (wpAny_mono ta (fun _ s8 h8 => ?_) fun _ _ z => z.elim)
      obtain ⟨σ8, H8, I8, hw8, q8⟩ := h8
      have tt' := pt.run _ s8 σ8 H8 _ I8 q8
      rw [hPr, hWd, hA, hE, hXe] at tt'
      refine seg_bind_wrap (wpAny_mono tt' (fun b s9 h9 => ?_) fun _ _ z => z.elim)
      obtain ⟨H9, I9, q9⟩ := h9
      -- what stands at the next turn
      have next : ∀ {sn s' : Shared} {H' : Hp}, Inv Z ([] ++ pinsAt fp s7.heap) σ8 H' sn → s'.heap = sn.heap → s'.os = sn.os → AllBare s'.gens → Inv Z [] σ0 H' s' ∧ tn (i + 1) s'.heap ∧ ∀ b ∈ fp, H' b = none := fun {sn s' H'} I' e1 e2 e3 => by
        have pin' : ∀ b ∈ fp, ∀ o, s7.heap.get? b = some o → sn.heap.get? b = some o ∧ H' b = none := fun b hb o eo =>
          let z := I'.pin (b, o) (List.mem_append_right _ (List.mem_append_right _ (mem_pinsAt hb eo)))
          ⟨z.1, z.2.1⟩
        have hl : σ0.length = σ8.length := by rw [← hw8, wipe_length]
        have I'' : Inv Z [] σ0 H' sn := (I'.unpinned (pins := [])).weak hl fun j v ev => by
          rw [← hw8] at ev
          exact (wipe_some ev).1
        refine ⟨inv_sh I'' e1 e2 e3, ?_, fun b hb => ?_⟩
        · rw [e1]
          exact T.keep _ _ _ st7 fun b hb o eo => (pin' b hb o eo).1
        · obtain ⟨o, eo, _⟩ := T.obj _ _ st7 b hb
          exact (pin' b hb o eo).2
      cases b with
      | false =>
        simp only [Bool.false_eq_true, if_false] at q9 ⊢
        obtain ⟨m', hm, w'⟩ := hNx _ q9
        obtain ⟨J1, J2, J3⟩ := next I9 rfl rfl I9.bare
        exact seg_again rfl (ih m' hm (i + 1) n s₀ s9 H9 (by omega) w' J1 J2 J3)
      | true =>
        simp only [if_true] at q9 ⊢
        have out : ∀ v, yieldOut ce v = yieldValue v := fun v => by simp only [yieldOut, hco, Bool.false_eq_true, if_false]
        simp only [out]
        rw [Sem.bind_eq_wrap', Sem.bind_eq_wrap']; rw [Sem.wrap_wrap, Sem.wrap_wrap]
        have tel := pe.run _ s9 σ8 H9 _ I9 q9
        rw [hPr, hWd, hA, hE, hXe] at tel
        refine seg_wrap (wpAny_mono tel (fun y s10 h10 => ?_) fun _ _ z => z.elim)
        obtain ⟨yv, H10, I10, r10, cb, rfl, qn, qx⟩ := h10
        obtain rfl : y = Value.bool cb := r10
        obtain ⟨n', rfl⟩ : ∃ n', n = n' + 1 := ⟨n - 1, by omega⟩
        refine seg_at (seg_yield rfl rfl rfl ⟨cb, H10, σ8, rfl, I10.unpinned, fun hc s' e1 e2 e3 => ?_, qx⟩)
        obtain ⟨m', hm, w'⟩ := hNx _ (qn hc)
        obtain ⟨J1, J2, J3⟩ := next I10 e1 e2 e3
        exact seg_again rfl (ih m' hm (i + 1) n' s' s' H10 (by omega) w' J1 J2 J3)
/-- its begin -/
theorem seg_gx0 {Z : Cx} (hZ : Z = gxZ X A0 s1 H1 ce fp pn elt tg iter ifs scope gpos it) (hpn : ∀ p ∈ pn, p.1 ∉ fp) (hco : ce.scope.isCoroutine = false) (T : Turn X.prog X.w X.K tg J fp it tn) (pg : PG Z tg g) (pt : PTs Z ifs tt) (pe : PE Z elt te) (turn : gxTurn J g tt te vs σ0 e Qe Qn W)
    {m n : Nat} {s₀ s : Shared} {H : Hp} (hmn : m < n) (w0 : W 0 m H) (I : Inv Z [] σ0 H s) (st : tn 0 s.heap) (nf : ∀ b ∈ fp, H b = none) :
    Seg (model X.prog X.w) A0 (fun n s₀ r s1 => r = .ok .next ∧ GxE Z σ0 Qe n s₀ s1) (GxY Z e Qn) n s₀ (.compStart (.GeneratorExp elt [⟨tg, iter, ifs, 0⟩] scope gpos) 0 (.ref it) .none ce) ((model X.prog X.w).den (.compStart (.GeneratorExp elt [⟨tg, iter, ifs, 0⟩] scope gpos) 0 (.ref it) .none ce)) [] s := by
  have loop := seg_gx hZ hpn hco T pg pt pe turn m 0 n s₀ s H hmn w0 I st nf
  show Seg _ A0 _ _ _ s₀ _ ((compStart (.GeneratorExp elt [⟨tg, iter, ifs, 0⟩] scope gpos) 0 (.ref it) .none ce).onRaise (leaving ce)) [] s
  unfold compStart
  rw [Sem.onRaise_eq_wrap]
  show Seg _ A0 _ _ _ s₀ _ ((ask >>= _).wrap _ _ _ _) [] s
  refine seg_bind_wrap (wpAny_askSetting ?_)
  split
  · exact seg_again rfl loop
  · refine seg_bind_wrap (wpAny_rule ?_)
    show Seg _ A0 _ _ _ s₀ _ ((standAt iter.pos >>= _).wrap _ _ _ _) [] s
    exact seg_bind_wrap (wpAny_standAt (seg_bind_wrap (T.self _ 0 s _ _ st (seg_again rfl loop))))
end
theorem un_kept {fs ex : List Addr} {H H' : Hp} {h h1 h2 : Heap} (u : Un fs ex H H' h h1) (k : ∀ b o, h1.get? b = some o → h2.get? b = some o) : Un fs ex H H' h h2 := u.trans (Un.kept k)
/-- all, over it -/
theorem gx_all {Z : Cx} {A : Around} {a : Addr} {g : Nat} {σ0 : L2.St} {Qe Qn : Hp → Prop} {R : Result → Shared → Prop} (hh : A.handled = none) (hd : A.depth < recursionLimit) (isG : ∀ {σ' : L2.St} {H' : Hp} {s' : Shared}, Inv Z [] σ' H' s' → s'.heap.IsGen a g)
    (hE : ∀ (s' : Shared) (H' : Hp), s'.os = Z.s_0.os → AllBare s'.gens → Un Z.fs Z.ex Z.H_0 H' Z.s_0.heap s'.heap → HOk Z.prog Z.w H' s'.heap → Qe H' → R (.ok (.ret (.bool true))) s')
    (hN : ∀ (s' : Shared) (H' : Hp), s'.os = Z.s_0.os → AllBare s'.gens → Un Z.fs Z.ex Z.H_0 H' Z.s_0.heap s'.heap → HOk Z.prog Z.w H' s'.heap → Qn H' → R (.ok (.ret (.bool false))) s') :
    ∀ (m : Nat) (s : Shared), s.heap.IsGen a g → s.heap.NoLimit → (∃ gs, s.gens[g]? = some gs ∧ gs.Goes (model Z.prog Z.w) A.in1.in1 (fun n s₀ r s1 => r = .ok .next ∧ GxE Z σ0 Qe n s₀ s1) (GxY Z true Qn) m (.send .none) (s.setGen g .running)) →
      codeAny (model Z.prog Z.w) A (.builtin "all.loop" ⟨[.ref a], []⟩) R s := by
  intro m
  induction m with
  | zero =>
    intro s hg hl ⟨gs, hgs, goes⟩
    refine codeAny_builtin F.entry_all_loop ?_
    rw [Around.under_plainId F.plain_all_loop _]
    show wpAny _ A.in1 (pyNext (.ref a) >>= _) _ _ s
    refine wpAny_bind (wpAny_pyNext_genexpQ (A := A.in1) hh hl hd hg hgs goes (fun v s1 gs' hbare hv => ?_) (fun s1 hp h' hk => ?_))
    · obtain ⟨c, H', σ', rfl, I, more, last⟩ := hv
      have b1 := allBare_setGen (g := g) I.bare hbare
      refine wpAny_bind (wpAny_holding (wpAny_truthy_bool (wpAny_bind (wpAny_letGo ?_))))
      cases c with
      | true => exact False.elim (more rfl s1 rfl rfl I.bare)
      | false =>
        simp only [Bool.false_eq_true, if_false]
        exact wpAny_bind (wpAny_rule (wpAny_pure (hN _ H' I.os b1 I.base I.hok (last (by decide)))))
    · obtain ⟨H', I, q⟩ := hp
      exact wpAny_bind (wpAny_rule (wpAny_pure (hE _ H' I.os (allBare_setGen I.bare rfl) (un_kept I.base hk) (I.hok.kept hk) q)))
  | succ m ih =>
    intro s hg hl ⟨gs, hgs, goes⟩
    have hgl : g < s.gens.size := (Array.getElem?_eq_some_iff.mp hgs).1
    refine codeAny_builtin F.entry_all_loop ?_
    rw [Around.under_plainId F.plain_all_loop _]
    show wpAny _ A.in1 (pyNext (.ref a) >>= _) _ _ s
    refine wpAny_bind (GenW.wpAny_gsz (n := g + 1) hgl (wpAny_pyNext_genexpQ (A := A.in1) hh hl hd hg hgs goes (fun v s1 gs' hbare hv => ?_) (fun s1 hp h' hk => ?_)))
    · intro hsz
      obtain ⟨c, H', σ', rfl, I, more, last⟩ := hv
      have b1 := allBare_setGen (g := g) I.bare hbare
      refine wpAny_bind (wpAny_holding (wpAny_truthy_bool (wpAny_bind (wpAny_letGo ?_))))
      cases c with
      | true =>
        simp only [if_true]
        have hsz1 : g < s1.gens.size := by
          have q : (s1.setGen g gs').gens.size = s1.gens.size := GenW.setGen_size _ _ _
          have hsz' : g + 1 ≤ (s1.setGen g gs').gens.size := hsz
          omega
        refine wpAny_pure ⟨plainId_quiet F.plain_all_loop _, ih (s1.setGen g gs') (isG (s' := s1) I) I.nolimit ⟨gs', setGen_at hsz1, ?_⟩⟩
        exact more rfl _ rfl rfl (allBare_setGen (s := s1.setGen g gs') b1 rfl)
      | false =>
        simp only [Bool.false_eq_true, if_false]
        exact wpAny_bind (wpAny_rule (wpAny_pure (hN _ H' I.os b1 I.base I.hok (last (by decide)))))
    · intro hsz
      obtain ⟨H', I, q⟩ := hp
      exact wpAny_bind (wpAny_rule (wpAny_pure (hE _ H' I.os (allBare_setGen I.bare rfl) (un_kept I.base hk) (I.hok.kept hk) q)))
/-- any, over it -/
theorem gx_any {Z : Cx} {A : Around} {a : Addr} {g : Nat} {σ0 : L2.St} {Qe Qn : Hp → Prop} {R : Result → Shared → Prop} (hh : A.handled = none) (hd : A.depth < recursionLimit) (isG : ∀ {σ' : L2.St} {H' : Hp} {s' : Shared}, Inv Z [] σ' H' s' → s'.heap.IsGen a g)
    (hE : ∀ (s' : Shared) (H' : Hp), s'.os = Z.s_0.os → AllBare s'.gens → Un Z.fs Z.ex Z.H_0 H' Z.s_0.heap s'.heap → HOk Z.prog Z.w H' s'.heap → Qe H' → R (.ok (.ret (.bool false))) s')
    (hN : ∀ (s' : Shared) (H' : Hp), s'.os = Z.s_0.os → AllBare s'.gens → Un Z.fs Z.ex Z.H_0 H' Z.s_0.heap s'.heap → HOk Z.prog Z.w H' s'.heap → Qn H' → R (.ok (.ret (.bool true))) s') :
    ∀ (m : Nat) (s : Shared), s.heap.IsGen a g → s.heap.NoLimit → (∃ gs, s.gens[g]? = some gs ∧ gs.Goes (model Z.prog Z.w) A.in1.in1 (fun n s₀ r s1 => r = .ok .next ∧ GxE Z σ0 Qe n s₀ s1) (GxY Z false Qn) m (.send .none) (s.setGen g .running)) →
      codeAny (model Z.prog Z.w) A (.builtin "any.loop" ⟨[.ref a], []⟩) R s := by
  intro m
  induction m with
  | zero =>
    intro s hg hl ⟨gs, hgs, goes⟩
    refine codeAny_builtin F.entry_any_loop ?_
    rw [Around.under_plainId F.plain_any_loop _]
    show wpAny _ A.in1 (pyNext (.ref a) >>= _) _ _ s
    refine wpAny_bind (wpAny_pyNext_genexpQ (A := A.in1) hh hl hd hg hgs goes (fun v s1 gs' hbare hv => ?_) (fun s1 hp h' hk => ?_))
    · obtain ⟨c, H', σ', rfl, I, more, last⟩ := hv
      have b1 := allBare_setGen (g := g) I.bare hbare
      refine wpAny_bind (wpAny_holding (wpAny_truthy_bool (wpAny_bind (wpAny_letGo ?_))))
      cases c with
      | false => exact False.elim (more rfl s1 rfl rfl I.bare)
      | true =>
        simp only [if_true]
        exact wpAny_bind (wpAny_rule (wpAny_pure (hN _ H' I.os b1 I.base I.hok (last (by decide)))))
    · obtain ⟨H', I, q⟩ := hp
      exact wpAny_bind (wpAny_rule (wpAny_pure (hE _ H' I.os (allBare_setGen I.bare rfl) (un_kept I.base hk) (I.hok.kept hk) q)))
  | succ m ih =>
    intro s hg hl ⟨gs, hgs, goes⟩
    have hgl : g < s.gens.size := (Array.getElem?_eq_some_iff.mp hgs).1
    refine codeAny_builtin F.entry_any_loop ?_
    rw [Around.under_plainId F.plain_any_loop _]
    show wpAny _ A.in1 (pyNext (.ref a) >>= _) _ _ s
    refine wpAny_bind (GenW.wpAny_gsz (n := g + 1) hgl (wpAny_pyNext_genexpQ (A := A.in1) hh hl hd hg hgs goes (fun v s1 gs' hbare hv => ?_) (fun s1 hp h' hk => ?_)))
    · intro hsz
      obtain ⟨c, H', σ', rfl, I, more, last⟩ := hv
      have b1 := allBare_setGen (g := g) I.bare hbare
      refine wpAny_bind (wpAny_holding (wpAny_truthy_bool (wpAny_bind (wpAny_letGo ?_))))
      cases c with
      | false =>
        simp only [Bool.false_eq_true, if_false]
        have hsz1 : g < s1.gens.size := by
          have q : (s1.setGen g gs').gens.size = s1.gens.size := GenW.setGen_size _ _ _
          have hsz' : g + 1 ≤ (s1.setGen g gs').gens.size := hsz
          omega
        refine wpAny_pure ⟨plainId_quiet F.plain_any_loop _, ih (s1.setGen g gs') (isG (s' := s1) I) I.nolimit ⟨gs', setGen_at hsz1, ?_⟩⟩
        exact more rfl _ rfl rfl (allBare_setGen (s := s1.setGen g gs') b1 rfl)
      | true =>
        simp only [if_true]
        exact wpAny_bind (wpAny_rule (wpAny_pure (hN _ H' I.os b1 I.base I.hok (last (by decide)))))
    · intro hsz
      obtain ⟨H', I, q⟩ := hp
      exact wpAny_bind (wpAny_rule (wpAny_pure (hE _ H' I.os (allBare_setGen I.bare rfl) (un_kept I.base hk) (I.hok.kept hk) q)))
/-- the generator stands ready to be walked -/
def GxReady (X : Cx) (pins : List (Addr × Obj)) (σ : L2.St) (e : Bool) (Qe Qn : Hp → Prop) (a : Addr) (s5 : Shared) : Prop :=
  ∃ (g m : Nat) (Z : Cx) (σ0 : L2.St), Z.prog = X.prog ∧ Z.w = X.w ∧ s5.heap.IsGen a g ∧ s5.heap.NoLimit ∧ (∀ {σ' : L2.St} {H' : Hp} {s' : Shared}, Inv Z [] σ' H' s' → s'.heap.IsGen a g) ∧
    (∃ gs, s5.gens[g]? = some gs ∧ gs.Goes (model Z.prog Z.w) X.A.in1.in1 (fun n s₀ r s1 => r = .ok .next ∧ GxE Z σ0 Qe n s₀ s1) (GxY Z e Qn) m (.send .none) (s5.setGen g .running)) ∧
    ∀ (s' : Shared) (H' : Hp), s'.os = Z.s_0.os → AllBare s'.gens → Un Z.fs Z.ex Z.H_0 H' Z.s_0.heap s'.heap → HOk Z.prog Z.w H' s'.heap → Inv X pins σ H' s'
theorem gx_room {A : Around} {k : Nat} {elt tg iter : Expr} {ifs : List Expr} {scope : Scope} {gpos : Pos} {it : Addr} {ce : Env} (r : Room (k + 1) A) : Room k (A.in1.in1.over (gxCode elt tg iter ifs scope gpos it ce) []) :=
  ⟨r.hd, by have := r.dp; show A.depth + 1 + 3 * k + 5 < _; omega, by have := r.un; show A.units + 1 + 1 + 3 + 16 * k + 200 < _; omega⟩
theorem gx_frames {A : Around} {st : List Env} {elt tg iter : Expr} {ifs : List Expr} {scope : Scope} {gpos : Pos} {it : Addr} {ce : Env} (h : A.frames = some st) : (A.in1.in1.over (gxCode elt tg iter ifs scope gpos it ce) []).frames = some (ce :: st) := by
  obtain ⟨hd, d, fr, gs, u⟩ := A
  obtain rfl : fr = some st := h
  rfl
abbrev tQuant (P : Addr) (wi : TI) (g : TG) (tt : TT) (te : TE) (vs : List Nat) (e : Bool) : TE := fun σ H Q => wi σ H fun J H1 => GxR.TabG H1 P ∧ ∀ H2, GxR.Tabbed P H1 H2 → ∃ W : Nat → Nat → Hp → Prop, (∃ m, W 0 m H2) ∧ gxTurn J g tt te vs (wipe σ vs) e (fun H => Q (.bl e) H) (fun H => Q (.bl (!e)) H) W
theorem gx_eval {X : Cx} {pins : List (Addr × Obj)} {σ : L2.St} {H : Hp} {s : Shared} {c P : Addr} {elt tg iter : Expr} {ifs : List Expr} {scope : Scope} {own : List (Str × Nat)} {gpos : Pos} {wi : TI} {g : TG} {tt : TT} {te : TE} {e : Bool} {k : Nat} {Q : VK} {Q' : Value → Shared → Prop}
    (hN : X.N.Nodup) (hr : Room (k + 1) X.A) (TB : LamX.TabB X.base X.mg c P) (hcode : X.env.code = .ref c) (ok : BlkOk X.N X.env.scope scope own) (nocell : ∀ y ∈ scope.names, y.2 ≠ .cell) (hco : scope.isCoroutine = false) (dot : scope.names.lookup (".0" : Str) = some NameKind.local)
    (hi : PI X tg iter wi)
    (hg : ∀ (A : Around) (s : Shared) (H : Hp) (cl : List (Str × Addr)) (C : Addr) (code : Value) (bi : Addr) (fp : List Addr) (pn : List (Addr × Obj)), Room k A → PG (gxCx X A s H (genEnv scope cl C code bi X.env) fp pn) tg g)
    (ht : ∀ (A : Around) (s : Shared) (H : Hp) (cl : List (Str × Addr)) (C : Addr) (code : Value) (bi : Addr) (fp : List Addr) (pn : List (Addr × Obj)), Room k A → PTs (gxCx X A s H (genEnv scope cl C code bi X.env) fp pn) ifs tt)
    (he : ∀ (A : Around) (s : Shared) (H : Hp) (cl : List (Str × Addr)) (C : Addr) (code : Value) (bi : Addr) (fp : List Addr) (pn : List (Addr × Obj)), Room k A → PE (gxCx X A s H (genEnv scope cl C code bi X.env) fp pn) elt te)
    (hs : ∀ v, genFold iter X.env v = pure v) (I : Inv X pins σ H s) (h : tQuant P wi g tt te (own.map (·.2)) e σ H Q)
    (hQ : ∀ a s5, GxReady X pins σ e (fun H => Q (.bl e) H) (fun H => Q (.bl (!e)) H) a s5 → Q' (.ref a) s5) :
    wpAny (model X.prog X.w) X.A (eval (.GeneratorExp elt [⟨tg, iter, ifs, 0⟩] scope gpos) X.env) Q' X.xe s := by
  have hfree : ∀ y ∈ scope.names, y.2 = .free → ∃ c, X.env.cells.lookup y.1 = some c := fun y hy ey => by
    rcases ok.free y hy ey with z | z
    · exact I.ok.has _ (.inl z)
    · exact I.ok.has _ (.inr z)
  refine wpAny_GeneratorExp_make hco (closure_ok hfree) nocell dot ok.kind hr.depth ?_ hs
  refine thn (hi.run pins s σ H _ I h) fun xv s1 hx => thn hx fun itv s2 h2 => ?_
  obtain ⟨it, fp, tn, J, H2, rfl, I2, T, st2, f2, ⟨ps, hP, tro⟩, q⟩ := h2
  refine ⟨I2.nolimit, ?_⟩
  have hPs : s2.heap.get? P = some { cls := .none, data := .fields ps } := I2.hok P _ hP
  have cd : PySem.W.CodeHd s2.heap c P := TB.code.keeps fun b u z => I2.bk b u z
  have szf : ∀ b ∈ fp, b < s2.heap.objs.size := fun b hb => by
    obtain ⟨o, eo, _⟩ := T.obj _ _ st2 b hb
    exact Heap.lt_size eo
  -- behind the code object
  have cont : ∀ (code : Value) (h3 : Heap) (tk : Nat) (ps' : Array Value), Heap.ExtBut P s2.heap h3 → s2.heap.objs.size ≤ h3.objs.size → h3.get? P = some { cls := .none, data := .fields ps' } → (∃ more, ps' = ps ++ more) → TriplesOk ps'.toList →
      wpAny (model X.prog X.w) X.A (builtinsFor X.env.globals X.env.builtins) (fun bi s4 => ∀ h', h'.Ns s4.heap.objs.size (fun y => if y = ".0" then some (.ref it) else none) → Heap.SameBut s4.heap.objs.size (s4.heap.push { cls := .type "frame", data := .dict #[] }) h' →
        Q' (.ref h'.objs.size) { s4 with
          gens := s4.gens.push (.fresh (.compStart (.GeneratorExp elt [⟨tg, iter, ifs, 0⟩] scope gpos) 0 (.ref it) .none (genEnv scope (cloFrom X.env.cells scope.names []) s4.heap.objs.size code bi X.env)))
          toks := s4.toks + 1 + 1 + 1
          heap := h'.push { cls := .type "generator", data := .fields #[.int s4.gens.size 0, .str "<genexpr>" (s4.toks + 1), .str (X.env.qual ++ "<genexpr>") (s4.toks + 1 + 1)] } }) X.xe { s2 with heap := h3, toks := tk } := by
    intro code h3 tk ps' hx hsz hP3 ⟨more, em⟩ tro'
    obtain ⟨bm, ob, e1, e2, e3, e4, e5, e6, e7, e8⟩ := TB.bm
    have keep3 : ∀ b u, b ≠ P → s2.heap.get? b = some u → h3.get? b = some u := fun b u hb z => hx b u hb z
    refine wpAny_builtinsFor (m := X.mg) (by rw [I2.ok.glob]; exact (I2.mod.glob.keeps I2.bk).extBut hx TB.gP) e1 e2 (keep3 _ _ e4 (I2.bk _ _ e5)) e6 e7 e8 ?_
    intro h' hns hsame
    have J4 := GxR.inv_tab (more := more) (h' := h3) (g' := s2.gens) (d' := s2.drawn) (t' := tk) I2 hP keep3 (by rw [← em]; exact hP3) I2.bare
    have tabbed : GxR.Tabbed P H2 (upd H2 P (.tbl (ps ++ more))) := ⟨⟨ps ++ more, upd_same, by rw [← em]; exact tro'⟩, fun b hb => upd_ne hb⟩
    obtain ⟨W, ⟨m0, w0⟩, turn⟩ := q _ tabbed
    have hsz' : h'.objs.size = h3.objs.size + 1 := by rw [hsame.1, Heap.size_push]
    have kp5 : ∀ (go : Obj) b o, h3.get? b = some o → (h'.push go).get? b = some o := fun go b o eo => Heap.get?_push_of_some _ (hsame.extBut b o (Nat.ne_of_lt (Heap.lt_size eo)) (Heap.get?_push_of_some _ eo))
    have fpP : ∀ b ∈ fp, b ≠ P := fun b hb z => by
      have := (f2 b hb).1
      rw [z, hP] at this
      cases this
    have nf : ∀ b ∈ fp, upd H2 P (.tbl (ps ++ more)) b = none := fun b hb => by rw [upd_ne (fpP b hb)]; exact (f2 b hb).1
    have f3 : ∀ b ∈ fp, FpOk X pins (upd H2 P (.tbl (ps ++ more))) b ∧ b < h3.objs.size := fun b hb => ⟨⟨nf b hb, (f2 b hb).2⟩, Nat.lt_of_lt_of_le (szf b hb) hsz⟩
    refine hQ _ _ ?_
    show GxReady X pins σ e _ _ h'.objs.size { s2 with
      gens := s2.gens.push (.fresh (.compStart (.GeneratorExp elt [⟨tg, iter, ifs, 0⟩] scope gpos) 0 (.ref it) .none (genEnv scope (cloFrom X.env.cells scope.names []) h3.objs.size code builtinsNs X.env)))
      toks := tk + 1 + 1 + 1
      heap := h'.push { cls := .type "generator", data := .fields #[.int s2.gens.size 0, .str "<genexpr>" (tk + 1), .str (X.env.qual ++ "<genexpr>") (tk + 1 + 1)] } }
    generalize hgo : ({ cls := .type "generator", data := .fields #[.int s2.gens.size 0, .str "<genexpr>" (tk + 1), .str (X.env.qual ++ "<genexpr>") (tk + 1 + 1)] } : Obj) = go
    have goC : go.cls = .type "generator" := by rw [← hgo]
    have goD : go.data = .fields #[.int s2.gens.size 0, .str "<genexpr>" (tk + 1), .str (X.env.qual ++ "<genexpr>") (tk + 1 + 1)] := by rw [← hgo]
    have goS : go.slots = #[] := by rw [← hgo]
    have at5 : (h'.push go).get? h'.objs.size = some go := by rw [← hgo]; exact Heap.get?_push_size _ rfl
    have isG : ∀ h : Heap, h.get? h'.objs.size = some go → h.IsGen h'.objs.size s2.gens.size := fun h eo => ⟨go, _, _, eo, goC, goD, goS⟩
    generalize hst : GenState.fresh (.compStart (.GeneratorExp elt [⟨tg, iter, ifs, 0⟩] scope gpos) 0 (.ref it) .none (genEnv scope (cloFrom X.env.cells scope.names []) h3.objs.size code builtinsNs X.env)) = fr
    have bare5 : AllBare (s2.gens.push fr) := I2.bare.push (by rw [← hst]; rfl)
    have rm := gx_room (elt := elt) (tg := tg) (iter := iter) (ifs := ifs) (scope := scope) (gpos := gpos) (it := it) (ce := genEnv scope (cloFrom X.env.cells scope.names []) h3.objs.size code builtinsNs X.env) hr
    obtain ⟨ce, hce⟩ : ∃ ce, ce = genEnv scope (cloFrom X.env.cells scope.names []) h3.objs.size code builtinsNs X.env := ⟨_, rfl⟩
    obtain ⟨s4, hs4⟩ : ∃ s4 : Shared, s4 = { s2 with heap := h3, gens := s2.gens, drawn := s2.drawn, toks := tk } := ⟨_, rfl⟩
    obtain ⟨H4, hH4⟩ : ∃ H4, H4 = upd H2 P (.tbl (ps ++ more)) := ⟨_, rfl⟩
    obtain ⟨Z, hZ⟩ : ∃ Z, Z = gxZ X X.A.in1.in1 s4 H4 ce fp [(h'.objs.size, go)] elt tg iter ifs scope gpos it := ⟨_, rfl⟩
    have J4' : Inv X pins σ H4 s4 := by rw [hs4, hH4]; exact J4
    have Z0 : Inv Z [] (wipe σ (own.map (·.2))) H4 { s2 with heap := h'.push go, gens := s2.gens.push fr, toks := tk + 1 + 1 + 1 } := by
      rw [hZ, hs4, hH4, hce]
      exact gx_start (A := X.A.in1.in1.over (gxCode elt tg iter ifs scope gpos it (genEnv scope (cloFrom X.env.cells scope.names []) h3.objs.size code builtinsNs X.env)) []) (a := h'.objs.size) (go := go) (h5 := h'.push go) (g5 := s2.gens.push fr) (t5 := tk + 1 + 1 + 1) (code := code) J4 hN ok nocell rm.hd (gx_frames J4.ok.frames) f3 (hns.push _) (kp5 go) at5 (by show h3.objs.size < _; omega) (fun v z => by rw [goD] at z; cases z) bare5
    rw [← hH4] at w0
    refine ⟨s2.gens.size, m0 + 1, Z, wipe σ (own.map (·.2)), by rw [hZ]; rfl, by rw [hZ]; rfl, isG _ at5, Z0.nolimit, fun {σ' H' s'} IZ => ?_, ⟨fr, Array.getElem?_push_size .., ?_⟩, fun s' H' os bare un hok => ?_⟩
    · refine isG _ (IZ.pin (h'.objs.size, go) (List.mem_append_left _ ?_)).1
      rw [hZ]
      exact List.mem_cons_self
    · rw [← hst, show Z.prog = X.prog by rw [hZ]; rfl, show Z.w = X.w by rw [hZ]; rfl, ← hce]
      refine ⟨rfl, seg_gx0 (H := H4) hZ (fun p hp z => ?_) (by rw [hce]; exact hco) T (by rw [hZ, hce]; exact hg _ _ _ _ _ _ _ _ _ rm) (by rw [hZ, hce]; exact ht _ _ _ _ _ _ _ _ _ rm) (by rw [hZ, hce]; exact he _ _ _ _ _ _ _ _ _ rm) turn (Nat.lt_succ_self _) w0 (inv_sh Z0 rfl rfl (allBare_setGen (by show AllBare (s2.gens.push _); rw [hce, hst]; exact bare5) rfl)) ?_ fun b hb => by rw [hH4]; exact nf b hb⟩
      · rw [List.mem_singleton.mp hp] at z
        have z1 := (f3 _ z).2
        have z2 : h'.objs.size < h3.objs.size := z1
        omega
      · exact T.keep _ _ _ st2 fun b hb o eo => kp5 go b o (keep3 b o (fpP b hb) eo)
    · refine J4'.call' (ch := fp) ?_ ?_ ?_ bare fun b hb => ?_
      · rw [os, hZ]
        rfl
      · rw [hZ] at un
        exact un
      · rw [hZ] at hok
        exact hok
      · have z := (f3 b hb).1
        exact ⟨z.2.2.2.1, z.2.1, z.2.2.2.2.1, z.2.2.2.2.2⟩
  cases hf : codeAmong gpos ps.toList with
  | none =>
    refine wpAny_genexprCodeX hcode (cd.code hPs tro) (cd.tab hPs) hf fun c' h' tk hx hge hlt hco' _ htab' _ => ?_
    obtain ⟨o1, us, y1, y2, y3, y4, y5, y6, y7, y8, _, _, _, _, _, _, _, _, _, htr, _⟩ := hco'
    exact cont _ h' tk _ hx (Nat.le_trans hge (Nat.le_of_lt hlt)) htab'.2 ⟨_, rfl⟩ htr
  | some cv =>
    refine wpAny_genexprCode_hit hcode (cd.code hPs tro) hf ?_
    exact cont cv s2.heap s2.toks ps (Heap.ExtBut.refl _ _) (Nat.le_refl _) hPs ⟨#[], by simp⟩ tro
end
section
variable {X : Cx} {c P : Addr} {elt tg iter : Expr} {ifs : List Expr} {scope : Scope} {own : List (Str × Nat)} {p pos gpos : Pos} {wi : TI} {g : TG} {tt : TT} {te : TE} {k : Nat}
theorem pe_allG (hN : X.N.Nodup) (hr : Room (k + 1) X.A) (hg : Gl X "all") (hm : X.mg "all" = none) (hb : bootBuiltins "all" = some (.builtin "all")) (TB : LamX.TabB X.base X.mg c P) (hcode : X.env.code = .ref c) (ok : BlkOk X.N X.env.scope scope own) (nocell : ∀ y ∈ scope.names, y.2 ≠ .cell) (hco : scope.isCoroutine = false) (dot : scope.names.lookup (".0" : Str) = some NameKind.local)
    (hi : PI X tg iter wi)
    (pg : ∀ (A : Around) (s : Shared) (H : Hp) (cl : List (Str × Addr)) (C : Addr) (code : Value) (bi : Addr) (fp : List Addr) (pn : List (Addr × Obj)), Room k A → PG (gxCx X A s H (genEnv scope cl C code bi X.env) fp pn) tg g)
    (pt : ∀ (A : Around) (s : Shared) (H : Hp) (cl : List (Str × Addr)) (C : Addr) (code : Value) (bi : Addr) (fp : List Addr) (pn : List (Addr × Obj)), Room k A → PTs (gxCx X A s H (genEnv scope cl C code bi X.env) fp pn) ifs tt)
    (pe : ∀ (A : Around) (s : Shared) (H : Hp) (cl : List (Str × Addr)) (C : Addr) (code : Value) (bi : Addr) (fp : List Addr) (pn : List (Addr × Obj)), Room k A → PE (gxCx X A s H (genEnv scope cl C code bi X.env) fp pn) elt te)
    (hs : ∀ v, genFold iter X.env v = pure v)
    (he : starEach [.GeneratorExp elt [⟨tg, iter, ifs, 0⟩] scope gpos] X.env = (false, eval (.GeneratorExp elt [⟨tg, iter, ifs, 0⟩] scope gpos) X.env) :: starEach [] X.env := by rfl) :
    PE X (.Call (.Name "all" p) [.GeneratorExp elt [⟨tg, iter, ifs, 0⟩] scope gpos] [] pos) (tQuant P wi g tt te (own.map (·.2)) true) := by
  refine ⟨fun pins s σ H Q I h => ?_⟩
  refine wpAny_Call_Name_kw (ld_blt I hg hm hb ?_)
  refine PyProof.Rows.callWith_builtin1 ?_ he (by rfl)
  rw [he]
  show wpAny _ _ (spliced ((false, eval (.GeneratorExp elt [⟨tg, iter, ifs, 0⟩] scope gpos) X.env) :: backTo pos (starEach [] X.env))) _ _ s
  refine Calls.spliced_cons (gx_eval hN hr TB hcode ok nocell hco dot hi pg pt pe hs I h fun a s5 hR => ?_)
  obtain ⟨gi, m, Z, σ0, e1, e2, isG, nl, isG', goes, back⟩ := hR
  refine Calls.spliced_nil ?_
  refine call_function_tree F.kind_all F.plain_all F.entry_all (F.args_all1 _) ?_
  unfold Builtin.«all»
  refine wpAny_bind ?_
  show wpAny _ _ (pure (Value.ref a)) _ _ s5
  refine wpAny_pure (wpAny_bind (wpAny_pyIter_gen isG (wpAny_pure ⟨plainId_quiet F.plain_all_loop _, ?_⟩)))
  rw [← e1, ← e2]
  exact gx_all hr.hd (by have := hr.dp; omega) isG' (fun s' H' o1 o2 o3 o4 q => ⟨.bl true, H', back s' H' o1 o2 o3 o4, rfl, q⟩) (fun s' H' o1 o2 o3 o4 q => ⟨.bl false, H', back s' H' o1 o2 o3 o4, rfl, q⟩) m s5 isG nl goes
theorem pe_anyG (hN : X.N.Nodup) (hr : Room (k + 1) X.A) (hg : Gl X "any") (hm : X.mg "any" = none) (hb : bootBuiltins "any" = some (.builtin "any")) (TB : LamX.TabB X.base X.mg c P) (hcode : X.env.code = .ref c) (ok : BlkOk X.N X.env.scope scope own) (nocell : ∀ y ∈ scope.names, y.2 ≠ .cell) (hco : scope.isCoroutine = false) (dot : scope.names.lookup (".0" : Str) = some NameKind.local)
    (hi : PI X tg iter wi)
    (pg : ∀ (A : Around) (s : Shared) (H : Hp) (cl : List (Str × Addr)) (C : Addr) (code : Value) (bi : Addr) (fp : List Addr) (pn : List (Addr × Obj)), Room k A → PG (gxCx X A s H (genEnv scope cl C code bi X.env) fp pn) tg g)
    (pt : ∀ (A : Around) (s : Shared) (H : Hp) (cl : List (Str × Addr)) (C : Addr) (code : Value) (bi : Addr) (fp : List Addr) (pn : List (Addr × Obj)), Room k A → PTs (gxCx X A s H (genEnv scope cl C code bi X.env) fp pn) ifs tt)
    (pe : ∀ (A : Around) (s : Shared) (H : Hp) (cl : List (Str × Addr)) (C : Addr) (code : Value) (bi : Addr) (fp : List Addr) (pn : List (Addr × Obj)), Room k A → PE (gxCx X A s H (genEnv scope cl C code bi X.env) fp pn) elt te)
    (hs : ∀ v, genFold iter X.env v = pure v)
    (he : starEach [.GeneratorExp elt [⟨tg, iter, ifs, 0⟩] scope gpos] X.env = (false, eval (.GeneratorExp elt [⟨tg, iter, ifs, 0⟩] scope gpos) X.env) :: starEach [] X.env := by rfl) :
    PE X (.Call (.Name "any" p) [.GeneratorExp elt [⟨tg, iter, ifs, 0⟩] scope gpos] [] pos) (tQuant P wi g tt te (own.map (·.2)) false) := by
  refine ⟨fun pins s σ H Q I h => ?_⟩
  refine wpAny_Call_Name_kw (ld_blt I hg hm hb ?_)
  refine PyProof.Rows.callWith_builtin1 ?_ he (by rfl)
  rw [he]
  show wpAny _ _ (spliced ((false, eval (.GeneratorExp elt [⟨tg, iter, ifs, 0⟩] scope gpos) X.env) :: backTo pos (starEach [] X.env))) _ _ s
  refine Calls.spliced_cons (gx_eval hN hr TB hcode ok nocell hco dot hi pg pt pe hs I h fun a s5 hR => ?_)
  obtain ⟨gi, m, Z, σ0, e1, e2, isG, nl, isG', goes, back⟩ := hR
  refine Calls.spliced_nil ?_
  refine call_function_tree F.kind_any F.plain_any F.entry_any (F.args_any1 _) ?_
  unfold Builtin.«any»
  refine wpAny_bind ?_
  show wpAny _ _ (pure (Value.ref a)) _ _ s5
  refine wpAny_pure (wpAny_bind (wpAny_pyIter_gen isG (wpAny_pure ⟨plainId_quiet F.plain_any_loop _, ?_⟩)))
  rw [← e1, ← e2]
  exact gx_any hr.hd (by have := hr.dp; omega) isG' (fun s' H' o1 o2 o3 o4 q => ⟨.bl false, H', back s' H' o1 o2 o3 o4, rfl, q⟩) (fun s' H' o1 o2 o3 o4 q => ⟨.bl true, H', back s' H' o1 o2 o3 o4, rfl, q⟩) m s5 isG nl goes
end
/-! charts -/
def ptsFrom (many : Int) : Int → List PyData → Bool
  | _, [] => true
  | least, .int i :: r => withinD least (many - 1) (.int i) && ptsFrom many (i + 1) r
  | _, _ :: _ => false
def pointsD (many : Int) : PyData → Bool
  | .tuple ds => ptsFrom many 0 ds
  | _ => false
def chartD : PyData → Bool
  | .tuple ds => ds.all (pointsD ds.length)
  | _ => false
def TabsG (PT : List Addr) (H : Hp) : Prop := ∀ P ∈ PT, GxR.TabG H P
theorem TabsG.same {PT : List Addr} {H H' : Hp} (t : TabsG PT H) (s : Same H H') : TabsG PT H' := fun P hP => by
  obtain ⟨ps, h, ok⟩ := t P hP
  exact ⟨ps, s _ _ h, ok⟩
theorem tabbed_ext {P : Addr} {H H' : Hp} (t : GxR.TabG H P) (b : GxR.Tabbed P H H') : LamX.ExtN H H' := fun c o h n => by
  by_cases e : c = P
  · subst e
    obtain ⟨ps, h', _⟩ := t
    rw [h] at h'
    cases h'
    exact absurd rfl (n ps)
  · rw [b.2 c e]
    exact h
theorem TabsG.tabbed {PT : List Addr} {P : Addr} {H H' : Hp} (t : TabsG PT H) (b : GxR.Tabbed P H H') : TabsG PT H' := fun Q hQ => by
  by_cases e : Q = P
  · rw [e]
    exact b.1
  · obtain ⟨ps, h, ok⟩ := t Q hQ
    exact ⟨ps, by rw [b.2 Q e]; exact h, ok⟩
/-- a generator over a tuple that the element leaves as it is -/
theorem gx_tup {K : PySem.W.Frag} {a : Addr} {xs : List V} {g : TG} {tt : TT} {te : TE} {vs : List Nat} {σ0 : L2.St} {e : Bool} {Qe Qn : Hp → Prop} {H : Hp} (Pv : Nat → Hp → Prop) (h0 : Pv 0 H) (hl : ∀ i H, i ≤ xs.length → Pv i H → SqT K H a xs)
    (hs : ∀ i x H, xs[i]? = some x → Pv i H → g x σ0 H fun σ2 H2 => wipe σ2 vs = σ0 ∧ tt σ2 H2 fun b H3 => if b = true then te σ2 H3 fun y H4 => ∃ c, y = .bl c ∧ (c = e → Pv (i + 1) H4) ∧ (c ≠ e → Qn H4) else Pv (i + 1) H3) (hd : ∀ H, Pv xs.length H → Qe H) :
    ∃ W : Nat → Nat → Hp → Prop, (∃ m, W 0 m H) ∧ gxTurn (Itt K a) g tt te vs σ0 e Qe Qn W := by
  refine ⟨fun i m H => m = xs.length - i ∧ i ≤ xs.length ∧ Pv i H, ⟨xs.length, by simp, Nat.zero_le _, h0⟩, ?_⟩
  rintro i m H ⟨rfl, hi, p⟩
  have q := hl i H hi p
  by_cases hlt : i < xs.length
  · refine .inr ⟨⟨xs, xs[i], q, by simp [hlt]⟩, Pv (i + 1), fun H' p' => ⟨xs.length - (i + 1), by omega, rfl, hlt, p'⟩, fun x H' y => ?_⟩
    obtain ⟨e, y⟩ := y
    subst e
    exact hs i x _ (y xs q) p
  · have e : i = xs.length := by omega
    subst e
    exact .inl ⟨⟨xs, q, Nat.le_refl _⟩, hd H p⟩
theorem sqT_ext {K : PySem.W.Frag} {H H' : Hp} (e : LamX.ExtN H H') {a : Addr} {xs : List V} (h : SqT K H a xs) : SqT K H' a xs := by
  rcases h with (z | ⟨o, z⟩) | z
  · exact .inl (.inl (e _ _ z fun ps q => by cases q))
  · exact .inl (.inr ⟨o, e _ _ z fun ps q => by cases q⟩)
  · exact .inr z
theorem yesG {σ : L2.St} {H : Hp} {R : Bool → Hp → Prop} (h : R true H) : tYes σ H R := h
theorem all_take {α : Type} {p : α → Bool} {l : List α} {i : Nat} {x : α} (h : l[i]? = some x) : (l.take (i + 1)).all p = ((l.take i).all p && p x) := by
  have hi : i < l.length := by
    obtain ⟨q, _⟩ := List.getElem?_eq_some_iff.mp h
    exact q
  rw [List.take_add_one, h]
  simp [List.all_append]
theorem pts_drop {many least : Int} {ds : List PyData} {i : Nat} {d : PyData} (h : ds[i]? = some d) : ds.drop i = d :: ds.drop (i + 1) := by
  obtain ⟨q, e⟩ := List.getElem?_eq_some_iff.mp h
  rw [List.drop_eq_getElem_cons q, e]
section
variable {P : Program} {w : World} {K : PySem.W.Frag} {mg : Str → Option Value} {base : Heap} {f : Addr} {fd : FuncData}
def spPoints (K : PySem.W.Frag) : Sp := fun vs H Q _ => ∃ (x : V) (d : PyData) (many : Int), vs = [x, .int many] ∧ Dp K H x d ∧ Q (.bl (pointsD many d)) H
theorem scPoints : FnScope ["thing", "many", "least", "point"] ["thing", "many"] (defScope sPoints) := ⟨rfl, rfl, rfl, by decide +kernel, rfl, by decide +kernel, by decide +kernel⟩
theorem ok_points {k : Nat} (F : Fun K "are_points" "are_points" sPoints f fd) (T : Free mg) (cW : Cal P w K mg base "is_within" k ["thing", "least", "most"] (spWithin K)) : FnOk P w K mg base CX0 (k + 1) f fd ["thing", "many"] (spPoints K) := by
  refine F.ok scPoints (fun vs H Q E h => ?_) (fun cdv A outer s H vs Q E hr h => ?_)
  · obtain ⟨x, d, m, rfl, _⟩ := h
    rfl
  obtain ⟨x, d, m, rfl, hx, q⟩ := h
  refine ⟨_, pss_cons (ps_if (pt_not (pt_val (pe_callB call_isi rfl T.isi (by decide +kernel) (pa_cons (pv 0) (pa_cons (pe_bltn (v := .ty "tuple") rfl T.tuple (by decide +kernel) rfl) pa_nil))))) (pss_one (ps_ret pe_bl)) pss_nil)
    (pss_cons (ps_set (i := 2) scPoints.nd rfl (.inl rfl) pe_int)
    (pss_cons (ps_for PassesOwn.never rfl (pi_tup (pv 0)) (pg_name (i := 3) scPoints.nd rfl (.inl rfl))
      (pss_cons (ps_if (pt_not (pt_val (pe_cal cW hr rfl (pa_cons (pv 3) (pa_cons (pv 2) (pa_cons (pe_op op_sub (pv 1) pe_int) pa_nil)))))) (pss_one (ps_ret pe_bl)) pss_nil)
      (pss_one (ps_set (i := 2) scPoints.nd rfl (.inl rfl) (pe_op op_add (pv 3) pe_int)))))
    (pss_one (ps_ret pe_bl)))), ?_⟩
  refine ⟨_, rfl, x, _, _, _, _, rfl, .ty "tuple", ty_of hx, kit_tuple d, _, rfl, ?_⟩
  cases ht : tupleD d with
  | false =>
    refine ifT rfl ?_
    have e : pointsD m d = false := by cases d <;> first | rfl | cases ht
    rw [e] at q
    exact q
  | true =>
    obtain ⟨ds, rfl⟩ : ∃ ds, d = .tuple ds := by
      cases d <;> first | exact ⟨_, rfl⟩ | cases ht
    refine ifF rfl ?_
    have q : Q (.bl (ptsFrom m 0 ds)) H := q
    cases hx with
    | @tup a xs _ ht ha =>
      have lx := dpAll_len ha
      refine ⟨_, rfl, a, rfl, ⟨xs, ht⟩, ?_⟩
      refine for_tup (xs := xs) (fun i σ H' => ∃ (least : Int) (o3 : Option V), ptsFrom m 0 ds = ptsFrom m least (ds.drop i) ∧ σ = [some (.ref a), some (.int m), some (.int least), o3] ∧ H' = H)
        ⟨0, none, rfl, rfl, rfl⟩ (fun i σ H' _ h => by obtain ⟨_, _, _, _, rfl⟩ := h; exact ht) (fun i x σ H' hxi h => ?_) (fun σ H' h => ?_)
      · obtain ⟨least, o3, hp, rfl, rfl⟩ := h
        obtain ⟨d, hd, hdx⟩ := dpAll_get' ha hxi
        rw [pts_drop (many := 0) (least := 0) hd] at hp
        refine ⟨_, rfl, _, rfl, _, rfl, _, _, rfl, rfl, x, d, least, m - 1, rfl, hdx, _, rfl, ?_⟩
        cases hw : withinD least (m - 1) d with
        | false =>
          refine ifT rfl ?_
          have e : ptsFrom m 0 ds = false := by
            rw [hp]
            cases d <;> first | rfl | (unfold ptsFrom; rw [hw]; rfl)
          rw [e] at q
          exact q
        | true =>
          refine ifF rfl ?_
          cases d with
          | int n =>
            cases hdx
            refine ⟨_, rfl, _, _, rfl, rfl, n + 1, _, ?_, rfl, rfl⟩
            rw [hp]
            show (withinD least (m - 1) (.int n) && _) = _
            rw [hw, Bool.true_and]
          | none => cases hw
          | bool _ => cases hw
          | str _ => cases hw
          | list _ => cases hw
          | tuple _ => cases hw
          | dict _ => cases hw
      · obtain ⟨least, o3, hp, rfl, rfl⟩ := h
        rw [lx, List.drop_length] at hp
        rw [hp] at q
        exact q
abbrev rLen (K : PySem.W.Frag) : List V → Hp → VK → Prop := fun xs H Q => ∃ p ys, xs = [.ref p] ∧ (SqL K H p ys ∨ SqT K H p ys) ∧ Q (.int ys.length) H
def spIsChart (K : PySem.W.Frag) (PT : List Addr) : Sp := fun vs H Q _ => ∃ (x : V) (d : PyData), vs = [x] ∧ Dp K H x d ∧ TabsG PT H ∧ ∀ H', LamX.ExtN H H' → TabsG PT H' → Q (.bl (chartD d)) H'
theorem scIsChart : FnScope ["thing", "nexts"] ["thing"] (defScope sIsChart) := ⟨rfl, rfl, rfl, by decide +kernel, rfl, by decide +kernel, by decide +kernel⟩
theorem ok_isChart {k : Nat} {c Pc : Addr} {PT : List Addr} (F : Fun K "is_chart" "is_chart" sIsChart f fd) (hc : fd.code = .ref c) (TB : LamX.TabB base mg c Pc) (hPT : Pc ∈ PT) (T : Free mg) (hA : mg "all" = none) (cP : Cal P w K mg base "are_points" k ["thing", "many"] (spPoints K)) : FnOk P w K mg base CX0 (k + 2) f fd ["thing"] (spIsChart K PT) := by
  refine okC F hc scIsChart (fun vs H Q E h => ?_) (fun A outer s H vs Q E hr h => ?_)
  · obtain ⟨x, d, rfl, _⟩ := h
    rfl
  obtain ⟨x, d, rfl, hx, tb, q⟩ := h
  refine ⟨_, pss_one (ps_ret (pe_and (pe_callB call_isi rfl T.isi (by decide +kernel) (pa_cons (pv 0) (pa_cons (pe_bltn (v := .ty "tuple") rfl T.tuple (by decide +kernel) rfl) pa_nil)))
    (pe_one (pe_allG (own := [("nexts", 1)]) (wi := iTup K (tVar 0)) (g := gName 1) (tt := tYes) (te := tCall (spPoints K) [] E0 (tCons (tVar 1) (tCons (tCB (rLen K) (tCons (tVar 0) tNil)) tNil))) scIsChart.nd hr rfl hA (by decide +kernel) TB rfl
      (blkOk_by (own := [("nexts", 1)]) (N := ["thing", "nexts"]) (sc := defScope sIsChart) (by decide +kernel)) (by decide +kernel) rfl rfl (pi_tup (pv 0))
      (fun _ _ _ _ _ _ _ _ _ _ => pg_name (i := 1) scIsChart.nd rfl (Or.inl rfl)) (fun _ _ _ _ _ _ _ _ _ _ => pts_nil)
      (fun _ _ _ _ _ _ _ _ _ hr' => pe_cal cP hr' rfl (pa_cons (pv 1) (pa_cons (pe_callB call_len_seq rfl T.len PySem.boot_len (pa_cons (pv 0) pa_nil)) pa_nil))) (fun _ => rfl))))), ?_⟩
  refine ⟨_, rfl, x, _, _, _, _, rfl, .ty "tuple", ty_of hx, kit_tuple d, _, rfl, ?_⟩
  cases ht : tupleD d with
  | false =>
    have e : chartD d = false := by cases d <;> first | rfl | cases ht
    rw [e] at q
    exact ifF rfl (q H (LamX.ExtN.refl _) tb)
  | true =>
    obtain ⟨ds, rfl⟩ : ∃ ds, d = .tuple ds := by
      cases d <;> first | exact ⟨_, rfl⟩ | cases ht
    have q : ∀ H', LamX.ExtN H H' → TabsG PT H' → Q (.bl (ds.all (pointsD ds.length))) H' := q
    cases hx with
    | @tup a xs _ at_ each =>
      have lx := dpAll_len each
      refine ifT rfl ⟨_, rfl, a, rfl, ⟨xs, at_⟩, tb Pc hPT, fun H2 b2 => ?_⟩
      have e2 := tabbed_ext (tb Pc hPT) b2
      refine gx_tup (xs := xs) (fun i H' => LamX.ExtN H H' ∧ TabsG PT H' ∧ (ds.take i).all (pointsD ds.length) = true) ⟨e2, tb.tabbed b2, rfl⟩ (fun i H' _ h => ?_) (fun i y H' hy h => ?_) (fun H' h => ?_)
      · exact sqT_ext h.1 at_
      · obtain ⟨e3, t3, all3⟩ := h
        obtain ⟨d, hd, hdy⟩ := dpAll_get' each hy
        refine ⟨rfl, yesG ⟨_, rfl, _, rfl, a, xs, rfl, .inr (sqT_ext e3 at_), y, d, _, rfl, dp_ext e3 _ _ hdy, _, rfl, fun c => ⟨e3, t3, ?_⟩, fun c => ?_⟩⟩
        · rw [lx] at c
          rw [all_take hd, all3, c]
          rfl
        · rw [lx] at c
          have e : ds.all (pointsD ds.length) = false := by
            cases z : ds.all (pointsD ds.length) with
            | false => rfl
            | true => exact absurd (List.all_eq_true.mp z d (List.mem_of_getElem? hd)) c
          have r := q H' e3 t3
          rw [e] at r
          exact r
      · obtain ⟨e3, t3, all3⟩ := h
        rw [lx, List.take_length] at all3
        have r := q H' e3 t3
        rw [all3] at r
        exact r
end
/-! what is written down, laid anew -/
def dif (H H' : Hp) : Hp := fun b => match H b with
  | none => H' b
  | some _ => none
theorem dif_at {H H' : Hp} {p : Addr} {o : HO} (h : H p = none) (h' : H' p = some o) : dif H H' p = some o := by
  unfold dif
  rw [h]
  exact h'
theorem dif_some {H H' : Hp} {p : Addr} {o : HO} (h : dif H H' p = some o) : H p = none ∧ H' p = some o := by
  unfold dif at h
  cases e : H p with
  | none =>
    rw [e] at h
    exact ⟨rfl, h⟩
  | some u =>
    rw [e] at h
    cases h
theorem dif_l {H H1 H2 : Hp} (s : Same H1 H2) : Same (dif H H1) (dif H H2) := fun b o h => by
  obtain ⟨h1, h2⟩ := dif_some h
  exact dif_at h1 (s _ _ h2)
theorem dif_r {H H1 H2 : Hp} (s : Same H H1) : Same (dif H1 H2) (dif H H2) := fun b o h => by
  obtain ⟨h1, h2⟩ := dif_some h
  exact dif_at (s.free h1) h2
theorem dif_in {H H' : Hp} : Same (dif H H') H' := fun b o h => (dif_some h).2
theorem dp_same {K : PySem.W.Frag} {H H' : Hp} (s : Same H H') {d : PyData} {v : V} (h : Dp K H v d) : Dp K H' v d := dp_ext (ext_same s) d v h
theorem dps_same {K : PySem.W.Frag} {H H' : Hp} (s : Same H H') {ds : List PyData} {vs : List V} (h : DpAll K H vs ds) : DpAll K H' vs ds := dp_exts (ext_same s) ds vs h
def tLit (K : PySem.W.Frag) (d : PyData) : TE := fun _ H Q => ∀ v H', Same H H' → Dp K (dif H H') v d → Q v H'
def tLits (K : PySem.W.Frag) (ds : List PyData) : TA := fun _ H Q => ∀ vs H', Same H H' → DpAll K (dif H H') vs ds → Q vs H'
theorem pe_imp {X : Cx} {e : Expr} {t t' : TE} (h : PE X e t) (w : ∀ σ H Q, t' σ H Q → t σ H Q) : PE X e t' := ⟨fun pins s σ H Q I q => h.run pins s σ H Q I (w _ _ _ q)⟩
theorem pa_imp {X : Cx} {es : List Expr} {t t' : TA} (h : PA X es t) (w : ∀ σ H Q, t' σ H Q → t σ H Q) : PA X es t' := ⟨fun pos pins s σ H Q I q => h.run pos pins s σ H Q I (w _ _ _ q)⟩
section
variable {X : Cx}
theorem lits_nil : PA X [] (tLits X.K []) := pa_imp pa_nil fun σ H Q q => q [] H (Same.refl _) .nil
theorem lits_cons {e : Expr} {es : List Expr} {d : PyData} {ds : List PyData} (h : PE X e (tLit X.K d)) (hs : PA X es (tLits X.K ds)) (hst : starEach (e :: es) X.env = (false, eval e X.env) :: starEach es X.env := by rfl) : PA X (e :: es) (tLits X.K (d :: ds)) :=
  pa_imp (pa_cons h hs hst) fun σ H Q q v H1 s1 d1 vs H2 s2 d2 => q (v :: vs) H2 (s1.trans s2) (.cons (dp_same (dif_l s2) d1) (dps_same (dif_r s1) d2))
theorem lit_int {i : Int} {j : Nat} {pos : Pos} : PE X (.Constant (.int i) j pos) (tLit X.K (.int i)) := pe_imp pe_int fun σ H Q q => q _ H (Same.refl _) (.int _)
theorem lit_str {x : Str} {j : Nat} {pos : Pos} : PE X (.Constant (.str x) j pos) (tLit X.K (.str x)) := pe_imp pe_str fun σ H Q q => q _ H (Same.refl _) (.str _)
theorem lit_bl {b : Bool} {j : Nat} {pos : Pos} : PE X (.Constant (.bool b) j pos) (tLit X.K (.bool b)) := pe_imp pe_bl fun σ H Q q => q _ H (Same.refl _) (.bl _)
theorem lit_non {j : Nat} {pos : Pos} : PE X (.Constant .none j pos) (tLit X.K .none) := pe_imp pe_non fun σ H Q q => q _ H (Same.refl _) .non
theorem lit_neg {e : Expr} {i : Int} {pos : Pos} (h : PE X e (tC (.int i))) : PE X (.UnaryOp .USub e pos) (tLit X.K (.int (-i))) := pe_imp (pe_un un_neg h) fun σ H Q q => ⟨i, rfl, q _ H (Same.refl _) (.int _)⟩
theorem lit_tup {es : List Expr} {ds : List PyData} {x1 : Nat} {pos : Pos} (h : PA X es (tLits X.K ds)) (hl : ds.length ≤ 1000) : PE X (.Tuple es x1 pos) (tLit X.K (.tuple ds)) :=
  pe_imp (pe_tup h) fun σ H Q q vs H1 s1 d1 => ⟨small (by rw [dpAll_len d1]; exact hl), fun p hp => q _ _ (s1.trans (same_new hp _)) (.tup (SqT.of (dif_at (s1.free hp) upd_same)) (dps_same (dif_l (same_new hp _)) d1))⟩
theorem lit_lst {es : List Expr} {ds : List PyData} {pos : Pos} (h : PA X es (tLits X.K ds)) (hl : ds.length ≤ 1000) : PE X (.List es pos) (tLit X.K (.list ds)) :=
  pe_imp (pe_lst h) fun σ H Q q vs H1 s1 d1 => ⟨small (by rw [dpAll_len d1]; exact hl), fun p hp => q _ _ (s1.trans (same_new hp _)) (.lst (SqL.of (dif_at (s1.free hp) upd_same)) (dps_same (dif_l (same_new hp _)) d1))⟩
theorem lit_dict0 {pos : Pos} : PE X (.Dict [] [] pos) (tLit X.K (.dict (dictD []))) := pe_imp pe_dnewK fun σ H Q q p hp => q _ _ (same_new hp _) (.dct (ms := []) (dif_at hp upd_same))
theorem lit_dict1 {i k : Int} {j1 j2 : Nat} {p1 p2 pos : Pos} : PE X (.Dict [some (.Constant (.int i) j1 p1)] [.Constant (.int k) j2 p2] pos) (tLit X.K (.dict (dictD [(i, k)]))) :=
  pe_imp (pe_disp (pps_cons pe_int pe_int pps_nil) rfl rfl (by simp) (by show 1 ≤ 15; decide)) fun σ H Q q p hp => ⟨upd_same, [(Sum.inl i, V.int k)], rfl, by show 1 ≤ 15; decide, by
    rw [upd_upd]
    exact q _ _ (same_new hp _) (.dct (ms := [(i, k)]) (dif_at hp upd_same))⟩
end
section
variable {X : Cx}
theorem lit_big {j1 j2 : Nat} {p1 p2 pos : Pos} : PE X (.BinOp (.Constant (.int 10) j1 p1) .Pow (.Constant (.int 29) j2 p2) pos) (tLit X.K (.int (10 ^ 29))) := pe_imp (pe_op op_pow pe_int pe_int) fun σ H Q q => ⟨_, _, rfl, rfl, ⟨by decide, by decide, by decide⟩, q _ H (Same.refl _) (.int _)⟩
theorem lit_low {j0 j1 j2 : Nat} {p0 p1 p2 p3 pos : Pos} : PE X (.BinOp (.Constant (.int 0) j0 p0) .Sub (.BinOp (.Constant (.int 10) j1 p1) .Pow (.Constant (.int 29) j2 p2) p3) pos) (tLit X.K (.int (0 - 10 ^ 29))) := pe_imp (pe_op op_sub pe_int (pe_op op_pow pe_int pe_int)) fun σ H Q q => ⟨_, _, rfl, rfl, ⟨by decide, by decide, by decide⟩, _, _, rfl, rfl, q _ H (Same.refl _) (.int _)⟩
end
/-! odd things -/
def odd0 : List PyData := [.none, .bool true, .bool false, .int 0, .int 1, .int (-1), .int (10 ^ 29), .str "", .str "a", .str "G", .str "tie", .tuple [], .list [], .dict (dictD []), .tuple [.int 0], .list [.int 0], .tuple [.none]]
def odd1 : List PyData := [.tuple [.tuple []], .str "actor"]
def odd2 : List PyData := [.str "show", .dict (dictD [(0, 1)]), .tuple [.str "tie", .int 0], .tuple [.int 0, .int 1]]
/-- all but the state's list -/
def mn (st : Addr) (H : Hp) : Hp := fun b => if b = st then none else H b
theorem mn_at {st p : Addr} {H : Hp} {o : HO} (n : p ≠ st) (h : H p = some o) : mn st H p = some o := by
  unfold mn
  rw [if_neg n]
  exact h
theorem mn_some {st p : Addr} {H : Hp} {o : HO} (h : mn st H p = some o) : p ≠ st ∧ H p = some o := by
  unfold mn at h
  by_cases e : p = st
  · rw [if_pos e] at h
    cases h
  · rw [if_neg e] at h
    exact ⟨e, h⟩
theorem mn_kp {st : Addr} {H H' : Hp} (k : Kp st H H') : Same (mn st H) (mn st H') := fun b o h => by
  obtain ⟨n, h⟩ := mn_some h
  exact mn_at n (k b o n h)
theorem mn_in {st : Addr} {H : Hp} : Same (mn st H) H := fun b o h => (mn_some h).2
theorem mn_dif {st : Addr} {H H' : Hp} (s : ∃ l, H st = some l) : Same (dif H H') (mn st H') := fun b o h => by
  obtain ⟨h1, h2⟩ := dif_some h
  obtain ⟨l, hl⟩ := s
  exact mn_at (ne_of_none hl h1).symm h2
/-! a tuple against the empty one, a list against the empty one -/
section
variable {X : Cx}
def rNeE (K : PySem.W.Frag) : R2 := fun x y H Q => ∃ a b xs, x = .ref a ∧ y = .ref b ∧ SqT K H a xs ∧ SqT K H b [] ∧ Q (.bl (!xs.isEmpty)) H
theorem op_neE (hu : X.A.units + 64 < cLine) : OpR X (compareOp .NotEq) (rNeE X.K) := by
  intro pins s σ H x y v u Q I rx ry h
  obtain ⟨a, b, xs, rfl, rfl, ha, hb, q⟩ := h
  cases rx
  cases ry
  obtain ⟨its, r1, ⟨o1, g1, c1, n1, d1⟩, _⟩ := I.tuple ha
  obtain ⟨its2, r2, ⟨o2, g2, c2, n2, d2⟩, _⟩ := I.tuple hb
  cases r2
  refine SeqAt.RcNeAt.tuples (e := fun _ => true) ⟨o1, g1, c1, n1, d1⟩ ⟨o2, g2, c2, n2, d2⟩ (by omega) (fun j _ h2 => absurd h2 (by simp)) X.prog X.w _ _ ⟨.bl (!xs.isEmpty), H, I, ?_, q⟩
  have l := r1.length
  cases xs with
  | nil =>
    cases r1
    rfl
  | cons z zs =>
    cases r1 with
    | cons _ _ => rfl
def rNeLE (K : PySem.W.Frag) : R2 := fun x y H Q => ∃ a b xs, x = .ref a ∧ y = .ref b ∧ SqL K H a xs ∧ SqL K H b [] ∧ Q (.bl (!xs.isEmpty)) H
theorem op_neLE (hu : X.A.units + 64 < cLine) : OpR X (compareOp .NotEq) (rNeLE X.K) := by
  intro pins s σ H x y v u Q I rx ry h
  obtain ⟨a, b, xs, rfl, rfl, ha, hb, q⟩ := h
  cases rx
  cases ry
  obtain ⟨its, r1, ⟨o1, n1, g1, c1, _, d1⟩, _⟩ := I.list ha
  obtain ⟨its2, r2, ⟨o2, n2, g2, c2, _, d2⟩, _⟩ := I.list hb
  cases r2
  cases xs with
  | nil =>
    cases r1
    exact SeqAt.RcNeAt.lists (e := fun _ => true) ⟨o1, g1, c1, n1, d1⟩ ⟨o2, g2, c2, n2, d2⟩ rfl (by omega) (fun j _ h2 => absurd h2 (by simp)) X.prog X.w _ _ ⟨.bl false, H, I, rfl, q⟩
  | cons z zs =>
    cases r1 with
    | cons _ _ => exact SeqAt.RcNeAt.lists_lengths ⟨o1, g1, c1, n1, d1⟩ ⟨o2, g2, c2, n2, d2⟩ (by simp) (by omega) X.prog X.w _ _ ⟨.bl true, H, I, rfl, q⟩
end
/-! t[::-1] -/
section
open PySem.Spec PyProof.Rows
theorem fm_congr {α β : Type} {f g : α → Option β} : ∀ {l : List α}, (∀ k ∈ l, f k = g k) → l.filterMap f = l.filterMap g
  | [], _ => rfl
  | x :: r, h => by rw [List.filterMap_cons, List.filterMap_cons, h x List.mem_cons_self, fm_congr fun k hk => h k (List.mem_cons_of_mem _ hk)]
theorem rev_pick (xs : Array Value) : ((List.range xs.size).filterMap fun (k : Nat) => xs[(((xs.size : Int) - 1) + (k : Int) * (-1)).toNat]?) = xs.toList.reverse := by
  have e : ∀ k ∈ List.range xs.size, xs[(((xs.size : Int) - 1) + (k : Int) * (-1)).toNat]? = some (xs.toList.reverse.getD k .none) := fun k hk => by
    have hk : k < xs.size := List.mem_range.mp hk
    have e1 : (((xs.size : Int) - 1) + (k : Int) * (-1)).toNat = xs.size - 1 - k := by omega
    have h2 : k < xs.toList.reverse.length := by simpa using hk
    rw [e1, List.getD_eq_getElem?_getD, List.getElem?_eq_getElem h2, List.getElem_reverse, Array.getElem?_eq_getElem (by omega)]
    simp
  rw [fm_congr e]
  refine List.ext_getElem? fun i => ?_
  rw [show (fun k => some (xs.toList.reverse.getD k Value.none)) = (some ∘ fun k => xs.toList.reverse.getD k Value.none) from rfl, List.filterMap_eq_map, List.getElem?_map]
  by_cases hi : i < xs.size
  · have h2 : i < xs.toList.reverse.length := by simpa using hi
    rw [List.getElem?_range hi, List.getElem?_eq_getElem h2]
    simp [List.getD_eq_getElem?_getD, List.getElem?_eq_getElem h2]
  · rw [List.getElem?_eq_none (by simpa using hi), List.getElem?_eq_none (by simpa using hi)]
    rfl
variable {prog : Program} {w : World} {A : Around} {E : Value → Shared → Prop} {s : Shared}
theorem getItem_tuple_rev {t sl : Addr} {items : Array Value} {u : Tok} {Q : Value → Shared → Prop} (ht : IsTup s.heap t items) (hs : s.heap.IsSliceOf sl .none .none (.int (-1) u))
    (h : Q (.ref s.heap.objs.size) { s with heap := s.heap.push { cls := .type "tuple", data := .seq items.toList.reverse.toArray } })
    (hsz : items.size ≤ sizeLine) : wpAny (model prog w) A (getItem (.ref t) (.ref sl)) Q E s := by
  have htake : sizeOk (.seq items.toList.reverse.toArray) := by
    show items.toList.reverse.toArray.size ≤ sizeLine
    rw [List.size_toArray, List.length_reverse, Array.length_toList]
    exact hsz
  obtain ⟨so, so1, so2, so3⟩ := id hs
  have slot := PyProof.Rows.slot_tuple_getitem
  have tt := ht.typeIs
  unfold getItem; (try with_reducible refine wpAny_holding ?_); (first | refine wpAny_bind (wpAny_pure ?_) | skip); refine wpAny_bind (wpAny_sequenceKey tt (by decide) ?_)
  refine wpAny_bind (wpAny_callSpecial?_slot (name := Str.ofString "__getitem__") tt slot (wpAny_call_entry slot tt entry_tuple_getitem ?_ (args_tuple_getitem _ _)))
  show wpAny _ _ (Builtin.Tuple.tupleItemsOf (.ref t) >>= _) _ _ s; refine wpAny_bind (tupleItemsOf_ ht (wpAny_bind (wpAny_typeOf ⟨so, so1, so2⟩ ?_))); rw [if_pos (by decide)]
  have places : Builtin.Slice.slicePlaces ((items.size : Int) - 1) (-1) (-1) = items.size := by
    unfold Builtin.Slice.slicePlaces
    rw [if_neg (by decide)]
    by_cases c : (items.size : Int) - 1 > -1
    · rw [if_pos c]
      show (((items.size : Int) - 1 - -1 - 1) / 1 + 1).toNat = _
      rw [Int.ediv_one]
      omega
    · rw [if_neg c]
      omega
  have applied : ∀ {Q : Int × Int × Nat → Shared → Prop}, Q ((items.size : Int) - 1, -1, items.size) s → wpAny (model prog w) A.in1 (Builtin.Slice.sliceApplied (.ref sl) (pure (items.size : Int))) Q E s := fun {Q} h => by
    unfold Builtin.Slice.sliceApplied Builtin.Slice.sliceFields
    refine wpAny_bind (wpAny_bind (wpAny_field so1 so3 (x := .none) rfl (wpAny_bind (wpAny_field so1 so3 (x := .none) rfl (wpAny_bind (wpAny_field so1 so3 (x := .int (-1) u) rfl (wpAny_pure ?_)))))))
    refine wpAny_bind (slicePart_int ?_)
    show wpAny _ _ (if ((-1 : Int) == 0) = true then _ else _) _ _ s
    rw [if_neg (by decide)]
    refine wpAny_bind (slicePart_none (wpAny_bind (slicePart_none (wpAny_bind (wpAny_pure ?_)))))
    show wpAny _ _ (pure ((items.size : Int) - 1, (-1 : Int), Builtin.Slice.slicePlaces ((items.size : Int) - 1) (-1) (-1))) _ _ s
    rw [places]
    exact wpAny_pure h
  refine wpAny_bind (applied ?_)
  show wpAny _ _ (if ((items.size : Int) - 1 == 0 && (-1 : Int) == 1 && items.size == items.size) = true then _ else _) _ _ s
  rw [if_neg (by simp), rev_pick]
  refine wpAny_bind (m := Builtin.Tuple.tupleExact _) (wpAny_newObj_type (wpAny_pure ⟨_, rfl, wpAny_pure h⟩) htake)
end
section
open PySem.Spec PyProof.Rows
def tRev (K : PySem.W.Frag) (te : TE) : TE := fun σ H Q => te σ H fun x H1 => ∃ a xs, x = .ref a ∧ SqT K H1 a xs ∧ ∀ p, H1 p = none → Q (.ref p) (upd H1 p (.tup xs.reverse))
theorem pe_rev {X : Cx} {e : Expr} {te : TE} {j : Nat} {p1 p2 p3 pos : Pos} (he : PE X e te) : PE X (.Subscript e (.Slice none none (some (.UnaryOp .USub (.Constant (.int 1) j p1) p2)) p3) pos) (tRev X.K te) := by
  refine ⟨fun pins s σ H Q I h => ?_⟩
  refine Subscript_ (thn (he.run pins s σ H _ I h) fun v s1 ⟨x, H1, I1, r1, q1⟩ => ?_)
  obtain ⟨a, xs, rfl, hx, q⟩ := q1
  cases r1
  refine wpAny_Slice ?_
  rw [evalPart_none, evalPart_some]
  refine wpAny_pure (wpAny_pure ?_)
  refine thn ((pe_un (X := X) un_neg (pe_int (X := X) (i := 1) (j := j) (pos := p1))).run pins s1 σ H1 (fun v H' => v = .int (-1) ∧ H' = H1) I1 ⟨1, rfl, rfl, rfl⟩) fun u s2 ⟨z, H2, I2, r2, e1, e2⟩ => ?_
  subst e1 e2
  obtain ⟨t, rfl⟩ := r2
  have I4 : Inv X pins σ H2 { s2 with heap := s2.heap.push { cls := .type "slice", data := .fields #[.none, .none, .int (-1) t] } } := I2.kept (t' := s2.toks) fun b ob q => Heap.get?_push_of_some _ q
  obtain ⟨its, r, ht, hz⟩ := I4.tuple hx
  have hlen : its.toArray.size = xs.length := by rw [List.size_toArray]; exact r.length.symm
  refine tail_any (ops := [.ref a, .ref s2.heap.objs.size]) ht.typeIs PyProof.Rows.slot_tuple_getitem.lookup ?_ (by with_unfolding_all rfl)
  refine getItem_tuple_rev ht (Heap.IsSliceOf.new ..) ?_ (by rw [hlen]; exact hz)
  refine ⟨.ref _, _, I4.laid (t' := s2.toks) (o := .tup xs.reverse) (fun b ob q => Heap.get?_push_of_some _ q) (Nat.le_refl _) ?_, rfl, q _ (I4.hok.fresh (Nat.le_refl _))⟩
  exact ⟨by rw [List.length_reverse]; exact hz, _, r.reverse, IsTup.new _ _⟩
end
/-! tuples cut and put together, the tokens of the empty and the whole ones told alike -/
section
variable {K : PySem.W.Frag}
theorem catA_run {H : Hp} {a b : Addr} {xs ys : List V} {Q : VK} (ha : SqT K H a xs) (hb : SqT K H b ys) (hz : xs.length + ys.length ≤ 1000) (q : ∀ r H', Same H H' → SqT K H' r (xs ++ ys) → Q (.ref r) H') : rCatA K (.ref a) (.ref b) H Q := by
  refine ⟨a, b, xs, ys, rfl, rfl, ha, hb, small hz, fun e => ?_, fun _ e => ?_, fun _ _ p hp => q p _ (same_new hp _) (SqT.of upd_same)⟩
  · subst e
    exact q b H (Same.refl _) hb
  · subst e
    exact q a H (Same.refl _) (by rw [List.append_nil]; exact ha)
theorem slA_run {H : Hp} {a : Addr} {xs : List V} {lo hi : Option Int} {Q : VK} (ha : SqT K H a xs) (q : ∀ r H', Same H H' → SqT K H' r (cutV xs lo hi) → Q (.ref r) H') : rSlA K (.ref a) lo hi H Q := by
  refine ⟨a, xs, rfl, ha, fun wh => ?_, fun _ p hp => q p _ (same_new hp _) (SqT.of upd_same)⟩
  refine q a H (Same.refl _) ?_
  unfold cutV
  rw [wh.1, wh.2, Nat.sub_zero, List.drop_zero, List.take_length]
  exact ha
theorem cut_to {xs : List V} {b : Int} (h0 : 0 ≤ b) (h1 : b ≤ xs.length) : cutV xs none (some b) = xs.take b.toNat := by
  obtain ⟨n, rfl⟩ : ∃ n : Nat, b = n := ⟨b.toNat, by omega⟩
  unfold cutV
  rw [HT.sIx_none, HT.sIx_nat, List.drop_zero, Nat.sub_zero, Nat.min_eq_left (by omega)]
  rfl
theorem cut_from {xs : List V} {b : Int} (h0 : 0 ≤ b) (h1 : b ≤ xs.length) : cutV xs (some b) none = xs.drop b.toNat := by
  obtain ⟨n, rfl⟩ : ∃ n : Nat, b = n := ⟨b.toNat, by omega⟩
  unfold cutV
  rw [HT.sIx_none, HT.sIx_nat, Nat.min_eq_left (by omega)]
  have e : xs.length - n = (xs.drop n).length := by rw [List.length_drop]
  rw [e, List.take_length]
  rfl
theorem set_split {α : Type} : ∀ (xs : List α) (b : Nat) (v : α), b < xs.length → xs.take b ++ [v] ++ xs.drop (b + 1) = xs.set b v
  | x :: r, 0, v, _ => rfl
  | x :: r, b + 1, v, h => by
    have ih := set_split r b v (by simpa using h)
    simp only [List.take_succ_cons, List.cons_append, List.drop_succ_cons, List.set_cons_succ]
    rw [ih]
theorem dpAll_set {H : Hp} {v : V} {d : PyData} (h : Dp K H v d) : ∀ {xs : List V} {ds : List PyData} (i : Nat), DpAll K H xs ds → DpAll K H (xs.set i v) (ds.set i d)
  | _, _, _, .nil => .nil
  | _, _, 0, .cons _ t => .cons h t
  | _, _, i + 1, .cons a t => .cons a (dpAll_set h i t)
end
section
theorem depth_all {k : Nat} : ∀ {l : List PyData}, (∀ z ∈ l, z.depth ≤ k) → PyData.depthAll l ≤ k
  | [], _ => by simp only [PyData.depthAll]; exact Nat.zero_le _
  | u :: v, h => by
    have h1 := h u List.mem_cons_self
    have h2 := depth_all (l := v) fun z hz => h z (List.mem_cons_of_mem _ hz)
    simp only [PyData.depthAll]
    omega
theorem short_all {B : Nat} : ∀ {l : List PyData}, (∀ z ∈ l, z.leavesShort B = true) → PyData.leavesShortAll B l = true
  | [], _ => by simp only [PyData.leavesShortAll]
  | u :: v, h => by
    simp only [PyData.leavesShortAll, Bool.and_eq_true]
    exact ⟨h u List.mem_cons_self, short_all fun z hz => h z (List.mem_cons_of_mem _ hz)⟩
theorem show_all : ∀ {l : List PyData}, (∀ z ∈ l, z.showable = true) → PyData.showableAll l = true
  | [], _ => by simp only [PyData.showableAll]
  | u :: v, h => by
    simp only [PyData.showableAll, Bool.and_eq_true]
    exact ⟨h u List.mem_cons_self, show_all fun z hz => h z (List.mem_cons_of_mem _ hz)⟩
theorem bulk_app : ∀ (a b : List PyData), PyData.bulkAll (a ++ b) = PyData.bulkAll a + PyData.bulkAll b
  | [], b => by simp [PyData.bulkAll]
  | x :: a, b => by
    simp only [List.cons_append, PyData.bulkAll]
    rw [bulk_app a b]
    omega
theorem bulk_set : ∀ {l : List PyData} {i : Nat} {e e' : PyData}, l[i]? = some e → PyData.bulkAll (l.set i e') + e.bulk = PyData.bulkAll l + e'.bulk
  | x :: l, 0, e, e', h => by
    cases h
    simp only [List.set_cons_zero, PyData.bulkAll]
    omega
  | x :: l, i + 1, e, e', h => by
    have := bulk_set (l := l) (i := i) (e := e) (e' := e') h
    simp only [List.set_cons_succ, PyData.bulkAll]
    omega
theorem bulk_cut (l : List PyData) (i : Nat) : PyData.bulkAll (l.take i) + PyData.bulkAll (l.drop i) = PyData.bulkAll l := by
  rw [← bulk_app, List.take_append_drop]
theorem bulk_drop (l : List PyData) (i : Nat) : PyData.bulkAll (l.drop i) ≤ PyData.bulkAll l := by
  have := bulk_cut l i
  omega
theorem sqT_mn {K : PySem.W.Frag} {H : Hp} {st r : Addr} {xs : List V} (sa : StAt H st) (h : SqT K H r xs) : SqT K (mn st H) r xs := by
  obtain ⟨l, hl⟩ := sa.some
  rcases h with (h | ⟨o, h⟩) | h
  · exact .inl (.inl (mn_at (fun e => by rw [e, hl] at h; cases h) h))
  · exact .inl (.inr ⟨o, mn_at (fun e => by rw [e, hl] at h; cases h) h⟩)
  · exact .inr h
theorem sqT_same {K : PySem.W.Frag} {H H' : Hp} {r : Addr} {xs : List V} (s : Same H H') (h : SqT K H r xs) : SqT K H' r xs := sqT_kt (KT.of_same s) h
theorem dpAll_take {K : PySem.W.Frag} {H : Hp} : ∀ {vs : List V} {ds : List PyData} (i : Nat), DpAll K H vs ds → DpAll K H (vs.take i) (ds.take i)
  | _, _, 0, _ => by simp only [List.take_zero]; exact .nil
  | _, _, i + 1, .nil => .nil
  | _, _, i + 1, .cons a t => by simp only [List.take_succ_cons]; exact .cons a (dpAll_take i t)
theorem dpAll_drop {K : PySem.W.Frag} {H : Hp} : ∀ {vs : List V} {ds : List PyData} (i : Nat), DpAll K H vs ds → DpAll K H (vs.drop i) (ds.drop i)
  | _, _, 0, h => by simp only [List.drop_zero]; exact h
  | _, _, i + 1, .nil => .nil
  | _, _, i + 1, .cons a t => by simp only [List.drop_succ_cons]; exact dpAll_drop i t
theorem cut_from0 {xs : List V} {b : Int} (h0 : 0 ≤ b) : cutV xs (some b) none = xs.drop b.toNat := by
  by_cases h1 : b ≤ xs.length
  · exact cut_from h0 h1
  · obtain ⟨n, rfl⟩ : ∃ n : Nat, b = n := ⟨b.toNat, by omega⟩
    unfold cutV
    rw [HT.sIx_none, HT.sIx_nat, Nat.min_eq_right (by omega), Nat.sub_self, List.take_zero]
    exact (List.drop_eq_nil_of_le (by omega)).symm
theorem bulk_mem : ∀ {l : List PyData} {x : PyData}, x ∈ l → x.bulk + 1 ≤ PyData.bulkAll l
  | u :: v, x, h => by
    simp only [PyData.bulkAll]
    rcases List.mem_cons.mp h with rfl | h
    · omega
    · have := bulk_mem h
      omega
theorem noP {σ : L2.St} {H : Hp} {Q : Option Int → Hp → Prop} (h : Q none H) : tNoPart σ H Q := h
theorem pick_dp {K : PySem.W.Frag} {H : Hp} {vs : List V} {ds : List PyData} {r : Int} (h : DpAll K H vs ds) (r0 : 0 ≤ r) (r1 : r < ds.length) : ∃ v d, atI vs r = some v ∧ Dp K H v d ∧ d ∈ ds := by
  have hl := dpAll_len h
  have hr : r.toNat < vs.length := by omega
  obtain ⟨d, hd, hdp⟩ := dpAll_get' h (List.getElem?_eq_getElem hr)
  exact ⟨_, d, atI_at r0 (List.getElem?_eq_getElem hr), hdp, List.mem_of_getElem? hd⟩
theorem pss_imp {X : Cx} {sts : List Stmt} {t t' : TS} (h : PSs X sts t) (w : ∀ D σ H, t' D σ H → t D σ H) : PSs X sts t' := ⟨fun pins s σ H D I q => h.run pins s σ H D I (w _ _ _ q)⟩
def strD : PyData → Bool
  | .str _ => true
  | _ => false
theorem kit_str {K : PySem.W.Frag} (d : PyData) : PySem.W.kitOne K (.type (kindD d)) (.type "str") = some (strD d) := by
  cases d with
  | none => exact kit_ty (show kitB "NoneType" "str" = some false by decide +kernel)
  | bool _ => exact kit_ty (show kitB "bool" "str" = some false by decide +kernel)
  | int _ => exact kit_ty (show kitB "int" "str" = some false by decide +kernel)
  | str _ => exact kit_ty (show kitB "str" "str" = some true by decide +kernel)
  | list _ => exact kit_ty (show kitB "list" "str" = some false by decide +kernel)
  | tuple _ => exact kit_ty (show kitB "tuple" "str" = some false by decide +kernel)
  | dict _ => exact kit_ty (show kitB "dict" "str" = some false by decide +kernel)
end
theorem big {n : Nat} (h : n ≤ 1000000) : n ≤ sizeLine := Nat.le_trans h (by decide)
theorem Mv.trans {st : Addr} {H H1 H2 : Hp} (a : Mv st H H1) (b : Mv st H1 H2) : Mv st H H2 := ⟨a.kp.trans b.kp, b.sa⟩
theorem bulk_tup (l : List PyData) : (PyData.tuple l).bulk = PyData.bulkAll l := by simp only [PyData.bulk]
theorem bulk_lst (l : List PyData) : (PyData.list l).bulk = PyData.bulkAll l := by simp only [PyData.bulk]
theorem depth_tup (l : List PyData) : (PyData.tuple l).depth = 1 + PyData.depthAll l := by simp only [PyData.depth]; omega
theorem depth_lst (l : List PyData) : (PyData.list l).depth = 1 + PyData.depthAll l := by simp only [PyData.depth]; omega
/-! _law_chart -/
def ChOk (most : Int) (d : PyData) : Prop := ∃ rows : List (List Int), d = .tuple (rows.map fun ns => .tuple (ns.map .int)) ∧ (rows.length : Int) ≤ most ∧ ∀ ns ∈ rows, ns.length ≤ rows.length ∧ (∀ i ∈ ns, 0 ≤ i ∧ i < rows.length) ∧ ptsFrom rows.length 0 (ns.map .int) = true
theorem pts_snoc {many j : Int} : ∀ (ns : List Int) (least : Int), (∀ n ∈ ns, n < j) → least ≤ j → j < many → ptsFrom many least (ns.map .int) = true → ptsFrom many least ((ns ++ [j]).map .int) = true
  | [], least, _, h1, h2, _ => by
    show (withinD least (many - 1) (.int j) && true) = true
    simp only [withinD, Bool.and_true, Bool.and_eq_true, decide_eq_true_eq]
    omega
  | i :: r, least, hn, h1, h2, h => by
    have h : (withinD least (many - 1) (.int i) && ptsFrom many (i + 1) (r.map .int)) = true := h
    rw [Bool.and_eq_true] at h
    show (withinD least (many - 1) (.int i) && ptsFrom many (i + 1) ((r ++ [j]).map .int)) = true
    rw [h.1, pts_snoc r (i + 1) (fun n hm => hn n (List.mem_cons_of_mem _ hm)) (by have := hn i List.mem_cons_self; omega) h2 h.2]
    rfl
theorem kt_mn {H : Hp} {st : Addr} (sa : StAt H st) : KT H (mn st H) := fun b u h n => mn_at (fun e => by
  obtain ⟨l, hl⟩ := sa.some
  rw [e, hl] at h
  cases h
  exact n _ rfl) h
theorem tupO_ints : ∀ ns : List Int, tupOnlyAll (ns.map .int) = true
  | [] => rfl
  | n :: r => by
    show (tupOnly (.int n) && tupOnlyAll (r.map .int)) = true
    rw [tupO_ints r]
    rfl
def rowsD (rows : List (List Int)) : List PyData := rows.map fun ns => .tuple (ns.map .int)
theorem tupO_rows : ∀ rows : List (List Int), tupOnlyAll (rowsD rows) = true
  | [] => rfl
  | r :: rs => by
    show (tupOnly (.tuple (r.map .int)) && tupOnlyAll (rowsD rs)) = true
    rw [tupO_rows rs, show tupOnly (.tuple (r.map .int)) = tupOnlyAll (r.map .int) by simp only [tupOnly], tupO_ints]
    rfl
theorem dp_ints {K : PySem.W.Frag} {H : Hp} : ∀ ns : List Int, DpAll K H (ns.map V.int) (ns.map PyData.int)
  | [] => .nil
  | n :: r => .cons (.int n) (dp_ints r)
theorem rows_snoc (rows : List (List Int)) (ns : List Int) : rowsD (rows ++ [ns]) = rowsD rows ++ [.tuple (ns.map .int)] := by
  unfold rowsD
  rw [List.map_append]
  rfl
section
variable {P : Program} {w : World} {K : PySem.W.Frag} {mg : Str → Option Value} {base : Heap} {f : Addr} {fd : FuncData}
def spChartG (K : PySem.W.Frag) : Sp := fun vs H Q _ => ∃ (st : Addr) (most : Int), vs = [.ref st, .int most] ∧ StAt H st ∧ 0 ≤ most ∧ most ≤ 100 ∧ ∀ v d H', Mv st H H' → Dp K (mn st H') v d → ChOk most d → Q v H'
abbrev rTupOf (K : PySem.W.Frag) : List V → Hp → VK → Prop := fun xs H Q => ∃ p ys, xs = [.ref p] ∧ ((SqL K H p ys ∧ ∀ l, H l = none → Q (.ref l) (upd H l (.tup ys))) ∨ (SqT K H p ys ∧ Q (.ref p) H))
abbrev scP : Scope := { kind := .function, names := [(".0", .local), ("_law_point", .local), ("tuple", .globalImplicit), ("range", .globalImplicit), ("_law_many", .free), ("_law_share", .free), ("_law_state_here", .free)], isGenerator := false, isCoroutine := false }
theorem scChart : FnScope ["_law_state_here", "_law_most", "_law_many", "_law_share", "_law_to", "_law_point"] ["_law_state_here", "_law_most"] (defScope sChart) := ⟨rfl, rfl, rfl, by decide +kernel, rfl, by decide +kernel, by decide +kernel⟩
theorem ok_chart {k : Nat} (F : Fun K "_law_chart" "_law_chart" sChart f fd) (T : Free mg) (cC : Cal P w K mg base "_law_choice" k ["_law_state_here", "_law_many"] spChoice) : FnOk P w K mg base CX0 (k + 1) f fd ["_law_state_here", "_law_most"] (spChartG K) := by
  refine F.ok scChart (fun vs H Q E h => ?_) (fun cdv A outer s H vs Q E hr h => ?_)
  · obtain ⟨st, most, rfl, _⟩ := h
    rfl
  obtain ⟨st, most, rfl, sa, m0, m1, q⟩ := h
  refine ⟨_, pss_cons (ps_asg (pe_tup (pa_cons (pe_cal cC hr rfl (pa_cons (pv 0) (pa_cons (pe_op op_add (pv 1) pe_int) pa_nil))) (pa_cons (pe_ix ix_list (pe_lst (pa_cons pe_int (pa_cons pe_int (pa_cons pe_int (pa_cons pe_int pa_nil))))) (pe_cal cC hr rfl (pa_cons (pv 0) (pa_cons pe_int pa_nil))) (fun _ _ => rfl)) pa_nil)))
      (pg_tup rfl (pgs_cons (pg_name (i := 2) scChart.nd rfl (.inr rfl)) (pgs_cons (pg_name (i := 3) scChart.nd rfl (.inr rfl)) pgs_nil))))
    (pss_one (ps_ret (pe_callTy call_tuple_of rfl T.tuple (by decide +kernel) (pa_cons
      (pe_lc (own := [("_law_point", 5)]) (g := gName 5) (tt := tYes) (te := tCB (rTupOf K) (tCons (tLc (iRng1 (tCons (tVar 2) tNil)) (gName 4) (tTest (tOp (rI0 fun i j => .bl (decide (i < j))) (tCall spChoice [] E0 (tCons (tVar 0) (tCons (tC (.int 8)) tNil))) (tVar 3))) (tVar 4) [4]) tNil)) rfl scChart.nd (pi_range1 rfl T.range (pa_cons (pv 2) pa_nil))
        (blkOk_by (own := [("_law_point", 5)]) (N := ["_law_state_here", "_law_most", "_law_many", "_law_share", "_law_to", "_law_point"]) (sc := defScope sChart) (by decide +kernel))
        (fun _ _ _ _ _ => pg_name (i := 5) scChart.nd rfl (Or.inl rfl)) (fun _ _ _ _ _ => pts_nil)
        (fun _ _ _ _ _ => pe_callTy call_tuple_of rfl T.tuple (by decide +kernel) (pa_cons
          (pe_lc (own := [("_law_to", 4)]) (g := gName 4) (tt := tTest (tOp (rI0 fun i j => .bl (decide (i < j))) (tCall spChoice [] E0 (tCons (tVar 0) (tCons (tC (.int 8)) tNil))) (tVar 3))) (te := tVar 4) rfl scChart.nd (pi_range1 rfl T.range (pa_cons (pv 2) pa_nil))
            (blkOk_by (own := [("_law_to", 4)]) (N := ["_law_state_here", "_law_most", "_law_many", "_law_share", "_law_to", "_law_point"]) (sc := relS scP (defScope sChart)) (by decide +kernel))
            (fun _ _ _ _ _ => pg_name (i := 4) scChart.nd rfl (Or.inl rfl))
            (fun _ _ _ _ _ => pts_one (pt_cmpR op_lt (pe_cal cC hr rfl (pa_cons (pv 0) (pa_cons pe_int pa_nil))) (pv 3) (nomark _)))
            (fun _ _ _ _ _ => pv 4)) pa_nil))) pa_nil)))), ?_⟩
  refine ⟨_, rfl, _, rfl, _, _, rfl, rfl, st, _, rfl, sa, by omega, by omega, fun many H1 n0 n1 mv1 => ?_⟩
  refine ⟨small (by show 4 ≤ 1000; decide), fun p2 h2 => ⟨_, rfl, st, 4, rfl, mv1.sa.same (same_new h2 _), by decide, by decide, fun r H3 r0 r1 mv3 => ?_⟩⟩
  have np2 : p2 ≠ st := mv1.sa.ne h2
  obtain ⟨share, hat⟩ : ∃ e : Int, atI [V.int 1, .int 2, .int 4, .int 7] r = some (.int e) := by
    have hr4 : r.toNat < 4 := by omega
    obtain ⟨v, hv⟩ : ∃ v, ([V.int 1, .int 2, .int 4, .int 7])[r.toNat]? = some v := ⟨_, List.getElem?_eq_getElem hr4⟩
    have all : ∀ v ∈ [V.int 1, .int 2, .int 4, .int 7], ∃ k : Int, v = .int k := fun v hv => by
      simp only [List.mem_cons, List.not_mem_nil, or_false] at hv
      rcases hv with rfl | rfl | rfl | rfl <;> exact ⟨_, rfl⟩
    obtain ⟨e, rfl⟩ := all v (List.mem_of_getElem? hv)
    exact ⟨e, atI_at r0 hv⟩
  refine ⟨p2, _, r, _, rfl, rfl, SqL.of (mv3.kp _ _ np2 upd_same), hat, small (by show 2 ≤ 1000; decide), fun p4 h4 => ⟨p4, _, rfl, SqT.of upd_same, rfl, _, _, rfl, _, _, rfl, rfl, ?_⟩⟩
  have mv4 : Mv st H (upd H3 p4 (.tup [.int many, .int share])) := ⟨(mv1.kp.trans ((Kp.of_same (same_new h2 _)).trans mv3.kp)).trans (Kp.of_same (same_new h4 _)), mv3.sa.same (same_new h4 _)⟩
  generalize upd H3 p4 (.tup [.int many, .int share]) = H4 at mv4
  refine ⟨_, rfl, many, rfl, by omega, by omega, fun D hD => ?_⟩
  have nD : D ≠ st := mv4.sa.ne hD
  have hD0 : H D = none := mv4.kp.free nD hD
  refine lc_range (lo := 0) (n := many.toNat) (fun i H5 => Mv st H H5 ∧ ∃ (vs : List V) (rows : List (List Int)), H5 D = some (.lst vs) ∧ rows.length = i ∧ DpAll K H5 vs (rowsD rows) ∧ ∀ ns ∈ rows, ns.length ≤ many.toNat ∧ (∀ i ∈ ns, 0 ≤ i ∧ i < many) ∧ ptsFrom many 0 (ns.map .int) = true)
    ⟨⟨mv4.kp.upd hD0, mv4.sa.upd nD⟩, [], [], upd_same, rfl, .nil, fun ns h => by cases h⟩ (fun i H5 hi h => ?_) (fun H5 h => ?_)
  · obtain ⟨mv5, vs, rows, h5, lr, dr, ok⟩ := h
    refine ⟨rfl, yesG ⟨_, rfl, many, rfl, by omega, by omega, fun E hE => ?_⟩⟩
    have nE : E ≠ st := mv5.sa.ne hE
    have nED : E ≠ D := fun z => by rw [z, h5] at hE; cases hE
    have lrv := dpAll_len dr
    refine lc_range (lo := 0) (n := many.toNat) (fun j H6 => Kp st H5 H6 ∧ StAt H6 st ∧ ∃ ns : List Int, H6 E = some (.lst (ns.map V.int)) ∧ ns.length ≤ j ∧ (∀ i ∈ ns, 0 ≤ i ∧ i < (j : Int)) ∧ ptsFrom many 0 (ns.map .int) = true)
      ⟨(Kp.of_same (same_new hE _)), mv5.sa.upd nE, [], upd_same, Nat.le_refl _, (fun i h => by cases h), rfl⟩ (fun j H6 hj h => ?_) (fun H6 h => ?_)
    · obtain ⟨kp6, sa6, ns, h6, ln, bn, pn⟩ := h
      refine ⟨rfl, _, rfl, st, 8, rfl, sa6, by decide, by decide, fun r7 H7 _ _ mv7 => ⟨_, rfl, _, _, rfl, rfl, _, rfl, ?_⟩⟩
      have h7 : H7 E = some (.lst (ns.map V.int)) := mv7.kp _ _ nE h6
      have kp7 := kp6.trans mv7.kp
      refine ite2 (fun c => ⟨_, rfl, _, h7, Nat.lt_of_lt_of_le (show _ < 1000 by rw [List.length_map]; omega) (small (Nat.le_refl _)), ?_⟩) (fun c => ⟨kp7, mv7.sa, ns, h7, by omega, fun i hi => by have := bn i hi; omega, pn⟩)
      refine ⟨kp7.upd hE, mv7.sa.upd nE, ns ++ [0 + (j : Int)], ?_, by rw [List.length_append]; show _ + 1 ≤ _; omega, fun i hi => ?_, pts_snoc ns 0 (fun n hn => by have := bn n hn; omega) (by omega) (by omega) pn⟩
      · rw [upd_same, List.map_append]
        rfl
      · rcases List.mem_append.mp hi with hi | hi
        · have := bn i hi
          omega
        · rw [List.mem_singleton.mp hi]
          omega
    · obtain ⟨kp6, sa6, ns, h6, ln, bn, pn⟩ := h
      refine ⟨E, _, rfl, .inl ⟨SqL.of h6, fun l hl => ?_⟩⟩
      have h6D : H6 D = some (.lst vs) := kp6 _ _ nD h5
      have nl := same_new hl (.tup (ns.map V.int))
      have kt : KT H5 (upd H6 l (.tup (ns.map V.int))) := (kp6.kt mv5.sa).trans (KT.of_same nl)
      have nlD : l ≠ D := fun z => by rw [z, h6D] at hl; cases hl
      refine ⟨vs, nl _ _ h6D, Nat.lt_of_lt_of_le (show _ < 1000 by rw [lrv]; unfold rowsD; rw [List.length_map]; omega) (small (Nat.le_refl _)), ⟨(mv5.kp.trans (kp6.trans (Kp.of_same nl))).upd hD0, (sa6.same nl).upd nD⟩, vs ++ [.ref l], rows ++ [ns], upd_same, by rw [List.length_append, lr]; rfl, ?_, fun z hz => ?_⟩
      · have d1 := dpAll_kt (kt.trans (KT.upd (l' := vs ++ [.ref l]) (nl _ _ h6D))) _ _ (tupO_rows rows) dr
        rw [rows_snoc]
        refine dpAll_snoc (.tup (SqT.of ?_) (dp_ints ns)) d1
        rw [upd_ne nlD, upd_same]
      · rcases List.mem_append.mp hz with hz | hz
        · exact ok z hz
        · rw [List.mem_singleton.mp hz]
          exact ⟨ln, fun i hi => by have := bn i hi; omega, pn⟩
  · obtain ⟨mv5, vs, rows, h5, lr, dr, ok⟩ := h
    refine ⟨D, _, rfl, .inl ⟨SqL.of h5, fun l hl => ?_⟩⟩
    have nl := same_new hl (.tup vs)
    have sa6 := mv5.sa.same nl
    have lm : (rows.length : Int) = many := by omega
    refine q _ (.tuple (rowsD rows)) _ ⟨mv5.kp.trans (Kp.of_same nl), sa6⟩ (.tup (sqT_mn sa6 (SqT.of upd_same)) (dpAll_kt ((KT.of_same nl).trans (kt_mn sa6)) _ _ (tupO_rows rows) dr)) ⟨rows, rfl, by omega, fun ns hn => ?_⟩
    obtain ⟨a, b, c⟩ := ok ns hn
    rw [lm]
    exact ⟨by omega, b, c⟩
end
/-! _law_some: points of a chart -/
def PsOk (many : Int) (ns : List Int) : Prop := (ns.length : Int) ≤ many ∧ (∀ i ∈ ns, 0 ≤ i ∧ i < many) ∧ ptsFrom many 0 (ns.map .int) = true
section
variable {P : Program} {w : World} {K : PySem.W.Frag} {mg : Str → Option Value} {base : Heap} {f : Addr} {fd : FuncData}
def spSomeP (K : PySem.W.Frag) : Sp := fun vs H Q _ => ∃ (st : Addr) (many : Int), vs = [.ref st, .int many] ∧ StAt H st ∧ 0 ≤ many ∧ many ≤ 100 ∧ ∀ v ns H', Mv st H H' → Dp K (mn st H') v (.tuple (ns.map .int)) → PsOk many ns → Q v H'
theorem scSomeP : FnScope ["_law_state_here", "_law_many", "_law_share", "_law_point"] ["_law_state_here", "_law_many"] (defScope sSomeP) := ⟨rfl, rfl, rfl, by decide +kernel, rfl, by decide +kernel, by decide +kernel⟩
theorem ok_someP {k : Nat} (F : Fun K "_law_some" "_law_some" sSomeP f fd) (T : Free mg) (cC : Cal P w K mg base "_law_choice" k ["_law_state_here", "_law_many"] spChoice) : FnOk P w K mg base CX0 (k + 1) f fd ["_law_state_here", "_law_many"] (spSomeP K) := by
  refine F.ok scSomeP (fun vs H Q E h => ?_) (fun cdv A outer s H vs Q E hr h => ?_)
  · obtain ⟨st, many, rfl, _⟩ := h
    rfl
  obtain ⟨st, many, rfl, sa, m0, m1, q⟩ := h
  refine ⟨_, pss_cons (ps_set (i := 2) scSomeP.nd rfl (.inr rfl) (pe_ix ix_list (pe_lst (pa_cons pe_int (pa_cons pe_int (pa_cons pe_int pa_nil)))) (pe_cal cC hr rfl (pa_cons (pv 0) (pa_cons pe_int pa_nil))) (fun _ _ => rfl)))
    (pss_one (ps_ret (pe_callTy call_tuple_of rfl T.tuple (by decide +kernel) (pa_cons
      (pe_lc (own := [("_law_point", 3)]) (g := gName 3) (tt := tTest (tOp (rI0 fun i j => .bl (decide (i < j))) (tCall spChoice [] E0 (tCons (tVar 0) (tCons (tC (.int 4)) tNil))) (tVar 2))) (te := tVar 3) rfl scSomeP.nd (pi_range1 rfl T.range (pa_cons (pv 1) pa_nil))
        (blkOk_by (own := [("_law_point", 3)]) (N := ["_law_state_here", "_law_many", "_law_share", "_law_point"]) (sc := defScope sSomeP) (by decide +kernel))
        (fun _ _ _ _ _ => pg_name (i := 3) scSomeP.nd rfl (Or.inl rfl))
        (fun _ _ _ _ _ => pts_one (pt_cmpR op_lt (pe_cal cC hr rfl (pa_cons (pv 0) (pa_cons pe_int pa_nil))) (pv 2) (nomark _)))
        (fun _ _ _ _ _ => pv 3)) pa_nil)))), ?_⟩
  refine ⟨small (by show 3 ≤ 1000; decide), fun p2 h2 => ⟨_, rfl, st, 3, rfl, sa.same (same_new h2 _), by decide, by decide, fun r H3 r0 r1 mv3 => ?_⟩⟩
  have np2 : p2 ≠ st := sa.ne h2
  obtain ⟨share, hat⟩ : ∃ e : Int, atI [V.int 1, .int 2, .int 3] r = some (.int e) := by
    obtain ⟨v, hv⟩ : ∃ v, ([V.int 1, .int 2, .int 3])[r.toNat]? = some v := ⟨_, List.getElem?_eq_getElem (show r.toNat < 3 by omega)⟩
    have all : ∀ v ∈ [V.int 1, .int 2, .int 3], ∃ k : Int, v = .int k := fun v hv => by
      simp only [List.mem_cons, List.not_mem_nil, or_false] at hv
      rcases hv with rfl | rfl | rfl <;> exact ⟨_, rfl⟩
    obtain ⟨e, rfl⟩ := all v (List.mem_of_getElem? hv)
    exact ⟨e, atI_at r0 hv⟩
  refine ⟨p2, _, r, _, rfl, rfl, SqL.of (mv3.kp _ _ np2 upd_same), hat, ?_⟩
  have mvA : Mv st H H3 := ⟨(Kp.of_same (same_new h2 _)).trans mv3.kp, mv3.sa⟩
  refine ⟨_, rfl, many, rfl, by omega, by omega, fun D hD => ?_⟩
  have nD : D ≠ st := mvA.sa.ne hD
  have hD0 : H D = none := mvA.kp.free nD hD
  refine lc_range (lo := 0) (n := many.toNat) (fun j H6 => Mv st H H6 ∧ ∃ ns : List Int, H6 D = some (.lst (ns.map V.int)) ∧ ns.length ≤ j ∧ (∀ i ∈ ns, 0 ≤ i ∧ i < (j : Int)) ∧ ptsFrom many 0 (ns.map .int) = true)
    ⟨⟨mvA.kp.upd hD0, mvA.sa.upd nD⟩, [], upd_same, Nat.le_refl _, (fun i h => by cases h), rfl⟩ (fun j H6 hj h => ?_) (fun H6 h => ?_)
  · obtain ⟨mv6, ns, h6, ln, bn, pn⟩ := h
    refine ⟨rfl, _, rfl, st, 4, rfl, mv6.sa, by decide, by decide, fun r7 H7 _ _ mv7 => ⟨_, rfl, _, _, rfl, rfl, _, rfl, ?_⟩⟩
    have h7 : H7 D = some (.lst (ns.map V.int)) := mv7.kp _ _ nD h6
    have mvB := mv6.trans mv7
    refine ite2 (fun c => ⟨_, rfl, _, h7, Nat.lt_of_lt_of_le (show _ < 1000 by rw [List.length_map]; omega) (small (Nat.le_refl _)), ?_⟩) (fun c => ⟨mvB, ns, h7, by omega, fun i hi => by have := bn i hi; omega, pn⟩)
    refine ⟨⟨mvB.kp.upd hD0, mvB.sa.upd nD⟩, ns ++ [0 + (j : Int)], ?_, by rw [List.length_append]; show _ + 1 ≤ _; omega, fun i hi => ?_, pts_snoc ns 0 (fun n hn => by have := bn n hn; omega) (by omega) (by omega) pn⟩
    · rw [upd_same, List.map_append]
      rfl
    · rcases List.mem_append.mp hi with hi | hi
      · have := bn i hi
        omega
      · rw [List.mem_singleton.mp hi]
        omega
  · obtain ⟨mv6, ns, h6, ln, bn, pn⟩ := h
    refine ⟨D, _, rfl, .inl ⟨SqL.of h6, fun l hl => ?_⟩⟩
    have nl := same_new hl (.tup (ns.map V.int))
    have sa7 := mv6.sa.same nl
    exact q _ ns _ ⟨mv6.kp.trans (Kp.of_same nl), sa7⟩ (.tup (sqT_mn sa7 (SqT.of upd_same)) (dp_ints ns)) ⟨by omega, fun i hi => by have := bn i hi; omega, pn⟩
/-! check_chart, check_case, where nothing is raised -/
def spCheckCh (K : PySem.W.Frag) (PT : List Addr) : Sp := fun vs H Q _ => ∃ (x : V) (d : PyData), vs = [x] ∧ Dp K H x d ∧ chartD d = true ∧ TabsG PT H ∧ ∀ H', LamX.ExtN H H' → TabsG PT H' → Q .non H'
theorem scCheckCh : FnScope ["chart"] ["chart"] (defScope sCheckCh) := ⟨rfl, rfl, rfl, by decide +kernel, rfl, by decide +kernel, by decide +kernel⟩
theorem ok_checkCh {k : Nat} {PT : List Addr} (F : Fun K "check_chart" "check_chart" sCheckCh f fd) (cI : Cal P w K mg base "is_chart" k ["thing"] (spIsChart K PT)) : FnOk P w K mg base CX0 (k + 1) f fd ["chart"] (spCheckCh K PT) := by
  refine F.ok scCheckCh (fun vs H Q E h => ?_) (fun cdv A outer s H vs Q E hr h => ?_)
  · obtain ⟨x, d, rfl, _⟩ := h
    rfl
  obtain ⟨x, d, rfl, hx, hc, tb, q⟩ := h
  refine ⟨_, pss_one (ps_if (pt_not (pt_val (pe_cal cI hr rfl (pa_cons (pv 0) pa_nil)))) pss_never pss_nil), ?_⟩
  refine ⟨_, rfl, x, d, rfl, hx, tb, fun H' e t => ⟨_, rfl, ?_⟩⟩
  rw [hc]
  exact ifF rfl (q H' e t)
def spCheckCase (K : PySem.W.Frag) (PT : List Addr) : Sp := fun vs H Q _ => ∃ (x y z : V) (ds : List PyData) (e g : PyData), vs = [x, y, z] ∧ Dp K H x (.tuple ds) ∧ Dp K H y e ∧ Dp K H z g ∧ chartD (.tuple ds) = true ∧ pointsD ds.length e = true ∧ pointsD ds.length g = true ∧ TabsG PT H ∧ ∀ H', LamX.ExtN H H' → TabsG PT H' → Q .non H'
theorem scCheckCase : FnScope ["chart", "starts", "goals"] ["chart", "starts", "goals"] (defScope sCheckCase) := ⟨rfl, rfl, rfl, by decide +kernel, rfl, by decide +kernel, by decide +kernel⟩
theorem ok_checkCase {k : Nat} {PT : List Addr} (F : Fun K "check_case" "check_case" sCheckCase f fd) (T : Free mg) (cH : Cal P w K mg base "check_chart" k ["chart"] (spCheckCh K PT)) (cP : Cal P w K mg base "are_points" k ["thing", "many"] (spPoints K)) : FnOk P w K mg base CX0 (k + 1) f fd ["chart", "starts", "goals"] (spCheckCase K PT) := by
  refine F.ok scCheckCase (fun vs H Q E h => ?_) (fun cdv A outer s H vs Q E hr h => ?_)
  · obtain ⟨x, y, z, ds, e, g, rfl, _⟩ := h
    rfl
  obtain ⟨x, y, z, ds, e, g, rfl, hx, hy, hz, hc, he, hg, tb, q⟩ := h
  refine ⟨_, pss_cons (ps_expr (pe_cal cH hr rfl (pa_cons (pv 0) pa_nil)))
    (pss_cons (ps_if (pt_not (pt_val (pe_cal cP hr rfl (pa_cons (pv 1) (pa_cons (pe_callB call_len_seq rfl T.len PySem.boot_len (pa_cons (pv 0) pa_nil)) pa_nil))))) pss_never pss_nil)
    (pss_one (ps_if (pt_not (pt_val (pe_cal cP hr rfl (pa_cons (pv 2) (pa_cons (pe_callB call_len_seq rfl T.len PySem.boot_len (pa_cons (pv 0) pa_nil)) pa_nil))))) pss_never pss_nil))), ?_⟩
  refine ⟨_, rfl, x, _, rfl, hx, hc, tb, fun H1 e1 t1 => ?_⟩
  have hx1 := dp_ext e1 _ _ hx
  have hy1 := dp_ext e1 _ _ hy
  have hz1 := dp_ext e1 _ _ hz
  cases hx1 with
  | @tup a xs _ at_ each =>
    have lx := dpAll_len each
    refine ⟨_, rfl, _, rfl, a, xs, rfl, .inr at_, y, e, _, rfl, hy1, _, rfl, ?_⟩
    rw [lx, he]
    refine ifF rfl ⟨_, rfl, _, rfl, a, xs, rfl, .inr at_, z, g, _, rfl, hz1, _, rfl, ?_⟩
    rw [lx, hg]
    exact ifF rfl (q H1 e1 t1)
end
/-! set(t), t a tuple of ints -/
section
open PySem.Spec PyProof.Rows
variable {X : Cx}
def rSetTI (K : PySem.W.Frag) (w : World) : List V → Hp → VK → Prop := fun xs H Q => ∃ (a : Addr) (ns : List Int), xs = [.ref a] ∧ SqT K H a (ns.map V.int) ∧ ns.length < 60 ∧ ∀ (p : Addr) (c : Nat), c ≤ ns.length → H p = none → Q (.ref p) (upd H p (SetO w p (fun j => decide (j ∈ ns)) c))
theorem cr_setTI (hc : X.calm = true) : CallR X (.type "set") (rSetTI X.K X.w) := by
  intro pins s σ H vs us Q I r h
  obtain ⟨a, ns, rfl, ha, hl, q⟩ := h
  rw [Vals.ref1 r]
  obtain ⟨its, rv, ⟨o1, g1, c1, n1, d1⟩, hz⟩ := I.tuple ha
  refine call_set_tupI ns (I.ok.hd hc) ⟨o1, g1, c1, n1, d1⟩ (by simpa using intsAre_of rv) (by unfold scanBound; omega) fun h' tk c R hc' hk => ?_
  exact ⟨.ref _, _, I.laid (t' := tk) (o := SetO X.w s.heap.objs.size (fun j => decide (j ∈ ns)) c) hk (Nat.le_refl _) (setO_new R), rfl, q _ c hc' (I.hok.fresh (Nat.le_refl _))⟩
end
/-! _law_is_chart -/
theorem eqv_ints : ∀ (ns ms : List Int), PyData.eqv (.list (ns.map .int)) (.list (ms.map .int)) = decide (ns = ms)
  | [], [] => by simp [PyData.eqv, PyData.eqvAll]
  | [], m :: ms => by simp [PyData.eqv, PyData.eqvAll]
  | n :: ns, [] => by simp [PyData.eqv, PyData.eqvAll]
  | n :: ns, m :: ms => by
    have ih := eqv_ints ns ms
    simp only [PyData.eqv] at ih
    simp only [List.map_cons, PyData.eqv, PyData.eqvAll, ih, List.cons.injEq]
    by_cases h : n = m <;> simp [h]
theorem shaped_ints (ns : List Int) : SeqAt.shaped (.list (ns.map .int)) = true := by
  show ((PyData.list (ns.map .int)).canLay0 && decide ((PyData.list (ns.map .int)).depth ≤ 64)) = true
  have h1 : ∀ ns : List Int, PyData.canLayAll0 (ns.map .int) = true := fun ns => by
    induction ns with
    | nil => simp [PyData.canLayAll0]
    | cons n r ih => simp [PyData.canLayAll0, PyData.canLay0, ih]
  have h2 : PyData.depthAll (ns.map .int) ≤ 0 := depth_all fun z hz => by
    obtain ⟨n, _, rfl⟩ := List.mem_map.mp hz
    simp [PyData.depth]
  rw [Bool.and_eq_true]
  exact ⟨by simp only [PyData.canLay0]; exact h1 ns, decide_eq_true (by rw [depth_lst]; omega)⟩
/-- strictly increasing -/
theorem sorted_same {ns ms : List Int} (hs : ms.Pairwise (· < ·)) (hm : ∀ k, k ∈ ms ↔ decide (k ∈ ns) = true) : decide (ns = ms) = decide (ns.Pairwise (· < ·)) := by
  by_cases h : ns = ms
  · rw [decide_eq_true h, h, decide_eq_true hs]
  · rw [decide_eq_false h]
    refine (decide_eq_false fun hp => h ?_).symm
    have ex : ∀ k, k ∈ ns ↔ k ∈ ms := fun k => by rw [hm k, decide_eq_true_eq]
    clear h hm
    induction ns generalizing ms with
    | nil =>
      cases ms with
      | nil => rfl
      | cons m r => exact absurd ((ex m).mpr List.mem_cons_self) (by simp)
    | cons n r ih =>
      cases ms with
      | nil => exact absurd ((ex n).mp List.mem_cons_self) (by simp)
      | cons m t =>
        obtain ⟨a1, a2⟩ := List.pairwise_cons.mp hp
        obtain ⟨b1, b2⟩ := List.pairwise_cons.mp hs
        have e : n = m := by
          have h1 := (ex n).mp List.mem_cons_self
          have h2 := (ex m).mpr List.mem_cons_self
          rcases List.mem_cons.mp h1 with h1 | h1
          · exact h1
          · rcases List.mem_cons.mp h2 with h2 | h2
            · exact h2.symm
            · have := a1 m h2
              have := b1 n h1
              omega
        subst e
        rw [ih b2 a2 fun k => ⟨fun hk => ?_, fun hk => ?_⟩]
        · rcases List.mem_cons.mp ((ex k).mp (List.mem_cons_of_mem _ hk)) with z | z
          · have := a1 k hk
            omega
          · exact z
        · rcases List.mem_cons.mp ((ex k).mpr (List.mem_cons_of_mem _ hk)) with z | z
          · have := b1 k hk
            omega
          · exact z
/-- points, told as the law tells them -/
theorem pts_law {many : Int} : ∀ (ns : List Int) (least : Int), ptsFrom many least (ns.map .int) = true ↔ (ns.Pairwise (· < ·) ∧ ∀ n ∈ ns, least ≤ n ∧ n < many)
  | [], least => by simp [ptsFrom]
  | n :: r, least => by
    show (withinD least (many - 1) (.int n) && ptsFrom many (n + 1) (r.map .int)) = true ↔ _
    rw [Bool.and_eq_true, pts_law r (n + 1), List.pairwise_cons]
    simp only [withinD, Bool.and_eq_true, decide_eq_true_eq]
    constructor
    · rintro ⟨⟨h1, h2⟩, h3, h4⟩
      refine ⟨⟨fun a ha => by have := h4 a ha; omega, h3⟩, fun a ha => ?_⟩
      rcases List.mem_cons.mp ha with rfl | ha
      · omega
      · have := h4 a ha
        omega
    · rintro ⟨⟨h1, h2⟩, h3⟩
      have := h3 n List.mem_cons_self
      exact ⟨⟨by omega, by omega⟩, h2, fun a ha => by have := h1 a ha; have := h3 a (List.mem_cons_of_mem _ ha); omega⟩
theorem pts_not {many : Int} : ∀ (ds : List PyData) (least : Int), (∃ d ∈ ds, wholeD d = false) → ptsFrom many least ds = false
  | [], _, h => by obtain ⟨d, hd, _⟩ := h; cases hd
  | d :: r, least, h => by
    cases d with
    | int i =>
      show (withinD least (many - 1) (.int i) && ptsFrom many (i + 1) r) = false
      rw [pts_not r (i + 1) ?_, Bool.and_false]
      obtain ⟨d, hd, hw⟩ := h
      rcases List.mem_cons.mp hd with rfl | hd
      · cases hw
      · exact ⟨d, hd, hw⟩
    | none => rfl
    | bool _ => rfl
    | str _ => rfl
    | list _ => rfl
    | tuple _ => rfl
    | dict _ => rfl
theorem whole_ints : ∀ (ds : List PyData), (∀ d ∈ ds, wholeD d = true) → ∃ ns : List Int, ds = ns.map .int
  | [], _ => ⟨[], rfl⟩
  | d :: r, h => by
    obtain ⟨ns, e⟩ := whole_ints r fun z hz => h z (List.mem_cons_of_mem _ hz)
    have hw := h d List.mem_cons_self
    cases d with
    | int i => exact ⟨i :: ns, by rw [e]; rfl⟩
    | none => cases hw
    | bool _ => cases hw
    | str _ => cases hw
    | list _ => cases hw
    | tuple _ => cases hw
    | dict _ => cases hw
theorem ints_dp {K : PySem.W.Frag} {H : Hp} : ∀ (ns : List Int) (ys : List V), DpAll K H ys (ns.map .int) → ys = ns.map V.int
  | [], ys, h => by cases h; rfl
  | n :: r, ys, h => by
    cases h with
    | cons h1 h2 =>
      cases h1
      rw [ints_dp r _ h2]
      rfl
def chD (rows : List (List Int)) : PyData := .tuple (rows.map fun ns => .tuple (ns.map .int))
structure RwOk (rows : List (List Int)) : Prop where
  len : rows.length ≤ 30
  row : ∀ ns ∈ rows, ns.length ≤ rows.length ∧ ∀ i ∈ ns, 0 ≤ i ∧ i < (rows.length : Int)
def rowAt (rows : List (List Int)) (a : Int) : List Int := rows.getD a.toNat []
theorem ext_none {H0 H : Hp} {D : Addr} (e : LamX.ExtN H0 H) (h : H D = none) : ∀ u, H0 D = some u → ∃ ps, u = .tbl ps := fun u hu => by
  cases u with
  | tbl ps => exact ⟨ps, rfl⟩
  | _ => exact absurd ((e D _ hu fun ps z => by cases z).symm.trans h) (by simp)
theorem tabs_updD {PT : List Addr} {H : Hp} {D : Addr} {o : HO} (t : TabsG PT H) (h : ∀ ps, H D ≠ some (.tbl ps)) : TabsG PT (upd H D o) := fun P hP => by
  obtain ⟨ps, h1, ok⟩ := t P hP
  exact ⟨ps, by rw [upd_ne (fun z => h ps (by rw [← z]; exact h1))]; exact h1, ok⟩
theorem rowAt_nat {rows : List (List Int)} {i : Nat} {ns : List Int} (h : rows[i]? = some ns) : rowAt rows (i : Int) = ns := by
  unfold rowAt
  rw [show ((i : Int)).toNat = i by omega, List.getD_eq_getElem?_getD, h]
  rfl
theorem inV_ints (n : Int) (ns : List Int) : inV (.int n) (ns.map V.int) = decide (n ∈ ns) := by
  unfold inV
  induction ns with
  | nil => rfl
  | cons m r ih =>
    rw [List.map_cons, List.any_cons, ih]
    have e : eqV (.int m) (.int n) = decide (m = n) := by
      show (m == n) = decide (m = n)
      by_cases h : m = n <;> simp [h]
    rw [e, ← Bool.decide_or]
    congr 1
    apply propext
    rw [List.mem_cons]
    exact ⟨fun h => h.elim (fun z => .inl z.symm) .inr, fun h => h.elim (fun z => .inl z.symm) .inr⟩
theorem flat_ints (ns : List Int) : (ns.map V.int).all flatV = true := List.all_eq_true.mpr fun v hv => by
  obtain ⟨n, _, rfl⟩ := List.mem_map.mp hv
  rfl
theorem atI_last {α : Type} {xs : List α} {v : α} (h0 : 0 < xs.length) (h : xs[xs.length - 1]? = some v) : atI xs (-1) = some v := by
  unfold atI ixN
  rw [if_neg (by decide), if_pos (by omega)]
  show xs[_]? = _
  rw [show ((-1 : Int) + (xs.length : Int)).toNat = xs.length - 1 by omega]
  exact h
def toI : PyData → Int
  | .int i => i
  | _ => 0
section
variable {P : Program} {w : World} {K : PySem.W.Frag} {mg : Str → Option Value} {base : Heap} {f : Addr} {fd : FuncData}
theorem ch_row {H : Hp} {xs : List V} {rows : List (List Int)} {i : Nat} {ns : List Int} (each : DpAll K H xs (rows.map fun ns => .tuple (ns.map .int))) (h : rows[i]? = some ns) : ∃ b, xs[i]? = some (.ref b) ∧ SqT K H b (ns.map V.int) := by
  obtain ⟨x, hx, hd⟩ := dpAll_get each (show (rows.map fun ns => PyData.tuple (ns.map .int))[i]? = some (.tuple (ns.map .int)) by rw [List.getElem?_map, h]; rfl)
  cases hd with
  | @tup b ys _ at_ e =>
    rw [ints_dp ns ys e] at at_
    exact ⟨b, hx, at_⟩
theorem ints_at {H : Hp} {v : V} {ns : List Int} (h : Dp K H v (.tuple (ns.map .int))) : ∃ a, v = .ref a ∧ SqT K H a (ns.map V.int) := by
  cases h with
  | @tup a ys _ at_ e =>
    rw [ints_dp ns ys e] at at_
    exact ⟨a, rfl, at_⟩
theorem pts_ints {n : Int} {es : List PyData} (h : pointsD n (.tuple es) = true) : es = (es.map toI).map .int ∧ ∀ i ∈ es.map toI, 0 ≤ i ∧ i < n := by
  have h : ptsFrom n 0 es = true := h
  have hw : ∀ d ∈ es, wholeD d = true := fun d hd => by
    cases z : wholeD d with
    | true => rfl
    | false => rw [pts_not es 0 ⟨d, hd, z⟩] at h; cases h
  obtain ⟨ns, rfl⟩ := whole_ints es hw
  have e : (ns.map PyData.int).map toI = ns := by
    rw [List.map_map]
    exact List.map_id' _
  rw [e]
  exact ⟨rfl, fun i hi => ((pts_law ns 0).mp h).2 i hi⟩
end
section
variable {X : Cx}
def rEqE (K : PySem.W.Frag) : R2 := fun x y H Q => ∃ a b xs, x = .ref a ∧ y = .ref b ∧ SqT K H a xs ∧ SqT K H b [] ∧ Q (.bl xs.isEmpty) H
theorem op_eqE (hu : X.A.units + 64 < cLine) : OpR X (compareOp .Eq) (rEqE X.K) := by
  intro pins s σ H x y v u Q I rx ry h
  obtain ⟨a, b, xs, rfl, rfl, ha, hb, q⟩ := h
  cases rx
  cases ry
  obtain ⟨its, r1, ⟨o1, g1, c1, n1, d1⟩, _⟩ := I.tuple ha
  obtain ⟨its2, r2, ⟨o2, g2, c2, n2, d2⟩, _⟩ := I.tuple hb
  cases r2
  refine SeqAt.RcAt.tuples (e := fun _ => true) ⟨o1, g1, c1, n1, d1⟩ ⟨o2, g2, c2, n2, d2⟩ (by omega) (fun j _ h2 => absurd h2 (by simp)) X.prog X.w _ _ ⟨.bl xs.isEmpty, H, I, ?_, q⟩
  cases xs with
  | nil =>
    cases r1
    rfl
  | cons z zs =>
    cases r1 with
    | cons _ _ => rfl
end
theorem ne_nil {K : PySem.W.Frag} {te0 : TE} {a : Addr} {xs : List V} {j : Nat} {tt : TT} {σ : L2.St} {H : Hp} {R : Bool → Hp → Prop} (p : Nat → Bool) (h0 : ∀ Q : VK, Q (.ref a) H → te0 σ H Q) (at_ : SqT K H a xs) (hl : xs.length < 1000) (hj : j < σ.length)
    (hs : ∀ (i : Nat) (x : V) (H' : Hp) (R' : Bool → Hp → Prop), xs[i]? = some x → Same H H' → R' (p i) H' → tt (σ.set j (some x)) H' R')
    (hd : ∀ H', Same H H' → R (!(List.range xs.length).all fun i => !p i) H') : tTest (tOp (rNeLE K) (tLc (iTup K te0) (gName j) tt (tVar j) [j]) (tLst tNil)) σ H R := by
  refine h0 _ ⟨a, rfl, ⟨xs, at_⟩, fun D hD => ?_⟩
  have w1 : wipe σ [j] = σ.set j none := rfl
  have w2 : ∀ x, (wipe σ [j]).set j (some x) = σ.set j (some x) := fun x => by rw [w1, List.set_set]
  refine lc_tup (xs := xs) (fun i H' => Same H H' ∧ ∃ zs : List V, H' D = some (.lst zs) ∧ zs.length ≤ i ∧ zs.isEmpty = (List.range i).all fun i => !p i) ⟨same_new hD _, [], upd_same, Nat.le_refl _, rfl⟩ (fun i H' _ h => sqT_same h.1 at_) (fun i x H' hx h => ?_) (fun H' h => ?_)
  · obtain ⟨sm, zs, hz, lz, ez⟩ := h
    have hi := (List.getElem?_eq_some_iff.mp hx).1
    show wipe ((wipe σ [j]).set j (some x)) [j] = wipe σ [j] ∧ _
    rw [w2]
    refine ⟨by show (σ.set j (some x)).set j none = σ.set j none; rw [List.set_set], hs i x H' _ hx sm ?_⟩
    have er : (List.range (i + 1)).all (fun i => !p i) = ((List.range i).all (fun i => !p i) && !p i) := by
      rw [List.range_succ, List.all_append, List.all_cons, List.all_nil, Bool.and_true]
    cases hp : p i with
    | true =>
      refine ifT rfl ⟨x, by rw [List.getElem?_set_self hj], zs, hz, Nat.lt_of_lt_of_le (show zs.length < 1000 by omega) (small (Nat.le_refl _)), fun b' o hb' => by rw [upd_ne (ne_of_none hb' hD)]; exact sm b' o hb', zs ++ [x], upd_same, by rw [List.length_append]; show _ + 1 ≤ _; omega, ?_⟩
      rw [er, hp, Bool.not_true, Bool.and_false]
      cases zs <;> rfl
    | false => exact ifF rfl ⟨sm, zs, hz, by omega, by rw [er, hp, Bool.not_false, Bool.and_true]; exact ez⟩
  · obtain ⟨sm, zs, hz, lz, ez⟩ := h
    refine ⟨small (by show 0 ≤ 1000; decide), fun p3 h3 => ?_⟩
    have n3 := same_new h3 (.lst [])
    refine ⟨D, p3, zs, rfl, rfl, SqL.of (n3 _ _ hz), SqL.of upd_same, _, rfl, ?_⟩
    rw [ez]
    exact hd _ (sm.trans n3)
theorem range_all {α : Type} (l : List α) (f : Nat → Bool) (g : α → Bool) (h : ∀ i x, l[i]? = some x → f i = g x) : (List.range l.length).all f = l.all g := by
  cases z : l.all g with
  | true =>
    refine List.all_eq_true.mpr fun i hi => ?_
    have hi := List.mem_range.mp hi
    rw [h i _ (List.getElem?_eq_getElem hi)]
    exact List.all_eq_true.mp z _ (List.getElem_mem hi)
  | false =>
    obtain ⟨x, hx, hn⟩ := List.all_eq_false.mp z
    obtain ⟨i, hi⟩ := List.getElem?_of_mem hx
    refine List.all_eq_false.mpr ⟨i, List.mem_range.mpr (List.getElem?_eq_some_iff.mp hi).1, ?_⟩
    rw [h i x hi]
    exact hn
theorem ints_get {ns : List Int} {i : Nat} {v : V} (h : (ns.map V.int)[i]? = some v) : ∃ n, ns[i]? = some n ∧ v = .int n := by
  rw [List.getElem?_map] at h
  cases e : ns[i]? with
  | none => rw [e] at h; cases h
  | some n => rw [e] at h; exact ⟨n, rfl, (Option.some.inj h).symm⟩
theorem range_ints (ms : List Int) (p : Int → Bool) : ((List.range (ms.map V.int).length).all fun i => !p (ms.getD i 0)) = ms.all fun n => !p n := by
  rw [List.length_map]
  exact range_all ms _ _ fun i x hx => by rw [List.getD_eq_getElem?_getD, hx]; rfl
theorem nodup_len : ∀ (n : Nat) (l : List Int), l.Nodup → (∀ x ∈ l, 0 ≤ x ∧ x < (n : Int)) → l.length ≤ n
  | 0, l, _, h => by
    cases l with
    | nil => exact Nat.le_refl _
    | cons a r => have := h a List.mem_cons_self; omega
  | n + 1, l, nd, h => by
    by_cases hm : (n : Int) ∈ l
    · have ih := nodup_len n (l.erase (n : Int)) (nd.erase _) fun x hx => by
        obtain ⟨h1, h2⟩ := nd.mem_erase_iff.mp hx
        have := h x h2
        omega
      rw [List.length_erase_of_mem hm] at ih
      omega
    · have ih := nodup_len n l nd fun x hx => by
        have := h x hx
        have : x ≠ (n : Int) := fun e => hm (by rw [← e]; exact hx)
        omega
      omega
theorem lc_fil {K : PySem.W.Frag} {te0 : TE} {a : Addr} {row : List Int} {j : Nat} {tt : TT} {σ : L2.St} {H : Hp} {Q : VK} (p : Int → Bool) (h0 : ∀ Q : VK, Q (.ref a) H → te0 σ H Q) (at_ : SqT K H a (row.map V.int)) (hl : row.length < 1000) (hj : j < σ.length)
    (hs : ∀ (n : Int) (H' : Hp) (R' : Bool → Hp → Prop), n ∈ row → Same H H' → R' (p n) H' → tt (σ.set j (some (.int n))) H' R')
    (hd : ∀ D H', Same H H' → H' D = some (.lst ((row.filter p).map V.int)) → H D = none → Q (.ref D) H') : tLc (iTup K te0) (gName j) tt (tVar j) [j] σ H Q := by
  refine h0 _ ⟨a, rfl, ⟨_, at_⟩, fun D hD => ?_⟩
  have w1 : wipe σ [j] = σ.set j none := rfl
  have w2 : ∀ x, (wipe σ [j]).set j (some x) = σ.set j (some x) := fun x => by rw [w1, List.set_set]
  refine lc_tup (xs := row.map V.int) (fun i H' => Same H H' ∧ H' D = some (.lst (((row.take i).filter p).map V.int))) ⟨same_new hD _, upd_same⟩ (fun i H' _ h => sqT_same h.1 at_) (fun i x H' hx h => ?_) (fun H' h => ?_)
  · obtain ⟨sm, hz⟩ := h
    obtain ⟨n, hn, rfl⟩ := ints_get hx
    have et : row.take (i + 1) = row.take i ++ [n] := by rw [List.take_add_one, hn]; rfl
    show wipe ((wipe σ [j]).set j (some (V.int n))) [j] = wipe σ [j] ∧ _
    rw [w2]
    refine ⟨by show (σ.set j (some (V.int n))).set j none = σ.set j none; rw [List.set_set], hs n H' _ (List.mem_of_getElem? hn) sm ?_⟩
    cases hp : p n with
    | true =>
      refine ifT rfl ⟨_, by rw [List.getElem?_set_self hj], _, hz, Nat.lt_of_lt_of_le (show _ < 1000 from ?_) (small (Nat.le_refl _)), fun b' o hb' => by rw [upd_ne (ne_of_none hb' hD)]; exact sm b' o hb', ?_⟩
      · rw [List.length_map]
        exact Nat.lt_of_le_of_lt (Nat.le_trans (List.length_filter_le _ _) (by rw [List.length_take]; omega)) hl
      · rw [upd_same, et, List.filter_append, List.map_append, List.filter_cons_of_pos hp, List.filter_nil]
        rfl
    | false =>
      refine ifF rfl ⟨sm, ?_⟩
      rw [et, List.filter_append, List.filter_cons_of_neg (by rw [hp]; decide), List.filter_nil, List.append_nil]
      exact hz
  · obtain ⟨sm, hz⟩ := h
    rw [List.length_map, List.take_length] at hz
    exact hd D H' sm hz hD
/-! for i, x in enumerate(t), t a tuple -/
section
open PySem.Spec PyProof.Rows
abbrev tupIt (t : Addr) : Obj := { cls := .type "tuple_iterator", data := .fields #[.ref t, .int 0 0] }
abbrev enumO (it : Addr) : Obj := { cls := .type "enumerate", data := .fields #[.none, .bool false, .ref it, rawInt 0, .none, .none] }
set_option maxHeartbeats 1000000 in
theorem meets_enumT (t : Addr) (its : Array Value) :
    Meets (Builtin.«enumerate.__new__» ⟨[.type "enumerate", .ref t], []⟩) (fun _ R s => s.heap.IsTuple t its ∧ R (.ok (.ret (.ref (s.heap.push (tupIt t)).objs.size))) { s with heap := (s.heap.push (tupIt t)).push (enumO s.heap.objs.size) }) :=
  .of_wp fun prog w A R s h => by
    obtain ⟨hp, g, d, tk, os⟩ := s
    obtain ⟨h1, h⟩ := h
    have f1 := sub_enumerate
    have q1 : ∀ {A' : Around} {E : Value → Shared → Prop} {Q : Value → Shared → Prop}, Q (.ref hp.objs.size) ⟨hp.push (tupIt t), g, d, tk, os⟩ → wpAny (model prog w) A' (pyIter (.ref t)) Q E ⟨hp, g, d, tk, os⟩ := fun q => wpAny_pyIter_tuple h1 q
    wp_walk using q1
    refine wpAny_stack_any fun st => wpAny_pure ?_
    split
    · rename_i c _ _ _ _ _
      cases (c == Value.type "enumerate") <;> (wp_walk using q1; exact ⟨_, rfl, h⟩)
    · wp_walk using q1
      exact ⟨_, rfl, h⟩
theorem call_enumT {prog : Program} {w : World} {A : Around} {E : Value → Shared → Prop} {s : Shared} {t : Addr} {its : Array Value} {Q : Value → Shared → Prop} (hT : s.heap.IsTuple t its)
    (h : ∀ h', IsEnum h' (s.heap.objs.size + 1) s.heap.objs.size 0 .none → h'.IsTupleIter s.heap.objs.size t 0 → h'.objs.size = s.heap.objs.size + 2 → (∀ b o, s.heap.get? b = some o → h'.get? b = some o) → Q (.ref (s.heap.objs.size + 1)) { s with heap := h' }) :
    wpAny (model prog w) A (call (.type "enumerate") [.ref t]) Q E s := by
  refine callType_new F.called_enumerate (by decide) (F.typeCall_enumerate_1 _) (F.newCall_enumerate_1 _) (fun obj => F.args_object_init_2 obj _) F.entry_enumerate_new (meets_enumT t its) ⟨hT, ?_⟩
  have sz : (s.heap.push (tupIt t)).objs.size = s.heap.objs.size + 1 := Heap.size_push ..
  have atE : ((s.heap.push (tupIt t)).push (enumO s.heap.objs.size)).get? (s.heap.objs.size + 1) = some (enumO s.heap.objs.size) := by
    rw [← sz]
    exact Heap.get?_push_size _ rfl
  show _ ∧ _
  rw [sz]
  exact ⟨⟨_, atE, rfl⟩, h _ atE ⟨_, Heap.get?_push_of_some _ (Heap.get?_push_size _ rfl), rfl, rfl⟩ (by rw [Heap.size_push, sz]) fun b o x => Heap.get?_push_of_some _ (Heap.get?_push_of_some _ x)⟩
/-- each item in a new pair -/
def Ienum (K : PySem.W.Frag) (a : Addr) : It :=
  ⟨fun i H => ∃ (xs : List V) (x : V), SqT K H a xs ∧ xs[i]? = some x, fun i H v H' => ∃ T x, v = .ref T ∧ H T = none ∧ H' = upd H T (.tup [.int (i : Nat), x]) ∧ ∀ xs, SqT K H a xs → xs[i]? = some x, fun i H => ∃ xs : List V, SqT K H a xs ∧ xs.length = i⟩
theorem turn_enumT {P : Program} {w : World} {K : PySem.W.Frag} {elts : List Expr} {kk : Nat} {tpos : Pos} (a e it : Addr) (hae : a ≠ e) (hai : a ≠ it) :
    Turn P w K (.Tuple elts kk tpos) (Ienum K a) [e, it] e (fun i h => (∃ old, IsEnum h e it ((i : Nat) : Int) old) ∧ h.IsTupleIter it a i ∧ e ≠ it) where
  mem := by simp
  obj := fun i h st b hb => by
    obtain ⟨⟨old, he⟩, ⟨o, ho, hc, hd⟩, _⟩ := st
    rcases List.mem_cons.mp hb with z | z
    · rw [z]; exact ⟨_, he, fun v q => nomatch q⟩
    · rw [List.mem_singleton.mp z]; exact ⟨o, ho, fun v q => by rw [hd] at q; cases q⟩
  keep := fun i h h' ⟨⟨old, he⟩, hi, hne⟩ k => ⟨⟨old, k e (by simp) _ he⟩, hi.at fun o q => k it (by simp) o q, hne⟩
  item := by
    intro X hP hw hK hc i pins s σ H E I hf st hg
    subst hP hw hK
    obtain ⟨⟨old, he⟩, hit, hne⟩ := st
    obtain ⟨xs, x, hq, hx⟩ := hg
    obtain ⟨its, rv, p, hz⟩ := I.tuple hq
    obtain ⟨u, hu, ru⟩ := rv.get hx
    have isT : s.heap.IsTuple a its.toArray := let ⟨o1, g1, c1, n1, d1⟩ := p; ⟨o1, g1, c1, n1, d1⟩
    have le : e < s.heap.objs.size := Heap.lt_size he
    have li : it < s.heap.objs.size := by obtain ⟨_, q, _⟩ := hit; exact Heap.lt_size q
    have hlt : i < its.toArray.size := by
      rw [List.size_toArray]
      exact (List.getElem?_eq_some_iff.mp hu).1
    have D : Draws X.prog X.w X.A.in1 it [it, a] its.toArray.size (fun i v => its.toArray[i]? = some v) (fun i h => h.IsTupleIter it a i ∧ h.IsTuple a its.toArray) := Draws.tuple (by show X.A.handled = none; exact I.ok.hd hc) it a hai its.toArray
    refine wpAny_pyNext_enum_itemD D he ⟨hit, isT⟩ hlt hne (by simp only [List.mem_cons, List.mem_singleton, List.not_mem_nil, or_false, not_or]; exact ⟨hne, fun z => hae z.symm⟩) fun x' h' tk hx' out st' hT sz hk => ?_
    have ex : x' = u := by
      have z : its.toArray[i]? = some u := by simpa using hu
      rw [z] at hx'
      exact (Option.some.inj hx').symm
    subst ex
    refine ⟨_, rfl, wpAny_letOwnedTupleGo_enum (s := { s with heap := h', toks := tk + 1 }) out fun h'' he' sb => ?_⟩
    have at2 : h''.get? s.heap.objs.size = some { cls := .type "tuple", data := .seq #[.int i tk, x'] } := (sb.2 _ (Nat.ne_of_gt le)).trans hT
    have new : ObjOk X.prog X.w (upd H s.heap.objs.size (.tup [.int (i : Nat), x])) h'' s.heap.objs.size (.tup [.int (i : Nat), x]) := ⟨by show 2 ≤ sizeLine; decide, [.int i tk, x'], .cons ⟨_, rfl⟩ (.cons ru .nil), ⟨_, at2, rfl, _, rfl⟩⟩
    have I1 : Inv X pins σ (upd H s.heap.objs.size (.tup [.int (i : Nat), x])) { s with heap := h'', toks := tk + 1 } :=
      I.turnedNew (ch := [e, it]) (fun b ob hb q => (sb.2 b (fun z => hb (by simp [z]))).trans (hk b ob (fun z => hb (by simp [z])) (fun z => hb (by simp [z])) q)) hf (Nat.le_refl _) new
    refine ⟨.ref s.heap.objs.size, _, I1, rfl, ⟨_, x, rfl, I.hok.fresh (Nat.le_refl _), rfl, fun ys hy => ?_⟩, ⟨⟨x', ?_⟩, st'.1.at fun o q => (sb.2 it (Ne.symm hne)).trans q, hne⟩, fun b hb => ?_⟩
    · rw [I.tuple_inj hy hq]
      exact hx
    · rw [show ((i + 1 : Nat) : Int) = (i : Int) + 1 by omega]
      exact he'
    · have hb' : b < s.heap.objs.size := by
        rcases List.mem_cons.mp hb with z | z
        · rw [z]; exact le
        · rw [List.mem_singleton.mp z]; exact li
      rw [upd_ne (Nat.ne_of_lt hb')]
      exact (hf b hb).1
  done := by
    intro X hP hw hK hc i pins s σ H E I hf st hg
    subst hP hw hK
    obtain ⟨⟨old, he⟩, hit, hne⟩ := st
    obtain ⟨xs, hq, hx⟩ := hg
    obtain ⟨its, rv, p, hz⟩ := I.tuple hq
    have isT : s.heap.IsTuple a its.toArray := let ⟨o1, g1, c1, n1, d1⟩ := p; ⟨o1, g1, c1, n1, d1⟩
    obtain ⟨f0, f1, f2, f3, f4, f5⟩ := hf it (by simp)
    have D : Draws X.prog X.w X.A.in1 it [it, a] its.toArray.size (fun i v => its.toArray[i]? = some v) (fun i h => h.IsTupleIter it a i ∧ h.IsTuple a its.toArray) := Draws.tuple (by show X.A.handled = none; exact I.ok.hd hc) it a hai its.toArray
    have en : its.toArray.size = i := by rw [List.size_toArray, ← rv.length]; exact hx
    refine wpAny_pyNext_enum_endD D he ⟨by rw [en]; exact hit, isT⟩ fun h' eb => ⟨rfl, I.turned (t' := s.toks) (fun b o hb q => eb b o hb q) f0 f1 f3 f4 f5⟩
  self := fun A i s Q E ⟨⟨_, he⟩, _⟩ h => wpAny_pyIter_enum he h
def iEnumT (K : PySem.W.Frag) (ta : TA) : TI := fun σ H R => ta σ H fun vs H1 => ∃ a xs, vs = [.ref a] ∧ SqT K H1 a xs ∧ R (Ienum K a) H1
theorem pi_enumT {X : Cx} {e : Expr} {ta : TA} {p pos tpos : Pos} {elts : List Expr} {kk : Nat} (hg : Gl X "enumerate") (hm : X.mg "enumerate" = none) (ha : PA X [e] ta) (hs : starEach [e] X.env = [(false, eval e X.env)] := by rfl) :
    PI X (.Tuple elts kk tpos) (.Call (.Name "enumerate" p) [e] [] pos) (iEnumT X.K ta) := by
  refine ⟨fun pins s σ H R I h => ?_⟩
  refine Call_ (ld_blt I hg hm boot_enumerate (callWith_type1 (thn (ha.run pos pins s σ H _ I h) fun us s1 ⟨vs, H1, I1, r1, q1⟩ => ?_) hs rfl))
  obtain ⟨a, xs, rfl, hq, q⟩ := q1
  obtain ⟨u, rfl, ru⟩ := vals1 r1
  cases ru
  obtain ⟨its, rv, tp, hz⟩ := I1.tuple hq
  have lt : a < s1.heap.objs.size := tp.lt
  refine call_enumT (its := its.toArray) (let ⟨o1, g1, c1, n1, d1⟩ := tp; ⟨o1, g1, c1, n1, d1⟩) fun h' he hit sz hk => wpAny_pyIter_enum he ?_
  have I2 : Inv X pins σ H1 { s1 with heap := h' } := I1.kept (t' := s1.toks) hk
  refine ⟨s1.heap.objs.size + 1, [s1.heap.objs.size + 1, s1.heap.objs.size], _, _, H1, rfl, I2, turn_enumT a (s1.heap.objs.size + 1) s1.heap.objs.size (Nat.ne_of_lt (Nat.lt_succ_of_lt lt)) (Nat.ne_of_lt lt), ⟨⟨.none, he⟩, hit, Nat.succ_ne_self _⟩, fun b hb => ?_, q⟩
  have hle : s1.heap.objs.size ≤ b := by
    rcases List.mem_cons.mp hb with z | z
    · rw [z]; exact Nat.le_add_right _ _
    · rw [List.mem_singleton.mp z]; exact Nat.le_refl _
  exact I1.fpOk hle (I1.hok.fresh hle)
/-- a loop over it -/
theorem for_enumT {K : PySem.W.Frag} {a : Addr} {xs : List V} {g : TG} {tb : TS} {D : Ends} {σ : L2.St} {H : Hp} (Pv : Nat → L2.St → Hp → Prop) (h0 : Pv 0 σ H) (hl : ∀ i σ H, i ≤ xs.length → Pv i σ H → SqT K H a xs)
    (hs : ∀ i x T σ H, xs[i]? = some x → Pv i σ H → H T = none → g (.ref T) σ (upd H T (.tup [.int (i : Nat), x])) fun σ2 H2 => tb { D with nx := Pv (i + 1), ct := Pv (i + 1), bk := D.nx } σ2 H2) (hd : ∀ σ H, Pv xs.length σ H → D.nx σ H) :
    ∃ W : Nat → Nat → L2.St → Hp → Prop, (∃ m, W 0 m σ H) ∧ ∀ i m σ H, W i m σ H →
      ((Ienum K a).stop i H ∧ D.nx σ H) ∨ ((Ienum K a).go i H ∧ ∃ N : L2.St → Hp → Prop, (∀ σ' H', N σ' H' → ∃ m', m' < m ∧ W (i + 1) m' σ' H') ∧ ∀ x H', (Ienum K a).yld i H x H' → g x σ H' fun σ2 H2 => tb { D with nx := N, ct := N, bk := D.nx } σ2 H2) := by
  refine ⟨fun i m σ H => m = xs.length - i ∧ i ≤ xs.length ∧ Pv i σ H, ⟨xs.length, by simp, Nat.zero_le _, h0⟩, ?_⟩
  rintro i m σ H ⟨rfl, hi, p⟩
  have q := hl i σ H hi p
  by_cases hlt : i < xs.length
  · have hx := List.getElem?_eq_getElem hlt
    refine .inr ⟨⟨xs, _, q, hx⟩, Pv (i + 1), fun σ' H' p' => ⟨xs.length - (i + 1), by omega, rfl, hlt, p'⟩, fun v H' y => ?_⟩
    obtain ⟨T, x, rfl, hT, rfl, y⟩ := y
    exact hs i x T σ H (y xs q) p hT
  · have e : i = xs.length := by omega
    exact .inl ⟨⟨xs, q, e.symm⟩, hd σ H (by rw [← e]; exact p)⟩
end
/-! how far points are -/
def Rk (S : Int → Prop) (E : Int → Int → Prop) : Nat → Int → Prop
  | 0, p => S p
  | k + 1, p => ∃ q, Rk S E k q ∧ E q p
def Dk (S : Int → Prop) (E : Int → Int → Prop) (k : Nat) (p : Int) : Prop := Rk S E k p ∧ ∀ j, j < k → ¬ Rk S E j p
section
variable {S : Int → Prop} {E : Int → Int → Prop}
theorem Dk.pred {k : Nat} {p : Int} (h : Dk S E (k + 1) p) : ∃ q, Dk S E k q ∧ E q p := by
  obtain ⟨⟨q, hq, e⟩, no⟩ := h
  exact ⟨q, ⟨hq, fun j hj r => no (j + 1) (by omega) ⟨q, r, e⟩⟩, e⟩
theorem Rk.ex {k : Nat} {p : Int} (h : Rk S E k p) : ∃ j, j ≤ k ∧ Dk S E j p := by
  induction k using Nat.strongRecOn with
  | ind k ih =>
    by_cases c : ∃ j, j < k ∧ Rk S E j p
    · obtain ⟨j, hj, r⟩ := c
      obtain ⟨i, hi, d⟩ := ih j hj r
      exact ⟨i, by omega, d⟩
    · exact ⟨k, Nat.le_refl _, h, fun j hj r => c ⟨j, hj, r⟩⟩
theorem Dk.uniq {k j : Nat} {p : Int} (h : Dk S E k p) (h' : Dk S E j p) : k = j := by
  rcases Nat.lt_trichotomy k j with c | c | c
  · exact absurd h.1 (h'.2 k c)
  · exact c
  · exact absurd h'.1 (h.2 j c)
theorem Dk.chain {k : Nat} {p : Int} (h : Dk S E k p) : ∃ l : List Int, l.length = k + 1 ∧ l.Nodup ∧ ∀ x ∈ l, ∃ j, j ≤ k ∧ Dk S E j x := by
  induction k generalizing p with
  | zero => exact ⟨[p], rfl, by simp, fun x hx => ⟨0, Nat.le_refl _, by rw [List.mem_singleton.mp hx]; exact h⟩⟩
  | succ k ih =>
    obtain ⟨q, hq, _⟩ := h.pred
    obtain ⟨l, h1, h2, h3⟩ := ih hq
    refine ⟨p :: l, by rw [List.length_cons, h1], List.nodup_cons.mpr ⟨fun hp => ?_, h2⟩, fun x hx => ?_⟩
    · obtain ⟨j, hj, d⟩ := h3 p hp
      have := d.uniq h
      omega
    · rcases List.mem_cons.mp hx with rfl | hx
      · exact ⟨k + 1, Nat.le_refl _, h⟩
      · obtain ⟨j, hj, d⟩ := h3 x hx
        exact ⟨j, by omega, d⟩
theorem Dk.bound {n k : Nat} {p : Int} (hb : ∀ j q, Rk S E j q → 0 ≤ q ∧ q < (n : Int)) (h : Dk S E k p) : k < n := by
  obtain ⟨l, h1, h2, h3⟩ := h.chain
  have := nodup_len n l h2 fun x hx => by
    obtain ⟨j, _, d⟩ := h3 x hx
    exact hb j x d.1
  omega
theorem Dk.down {k s : Nat} {p : Int} (h : Dk S E k p) (hs : s ≤ k) : ∃ q, Dk S E s q := by
  induction k generalizing p with
  | zero => exact ⟨p, by rw [show s = 0 by omega]; exact h⟩
  | succ k ih =>
    by_cases c : s = k + 1
    · exact ⟨p, by rw [c]; exact h⟩
    · obtain ⟨q, hq, _⟩ := h.pred
      exact ih hq (by omega)
end
/-! ways -/
def chainP (rows : List (List Int)) : List Int → Prop
  | a :: b :: r => b ∈ rowAt rows a ∧ chainP rows (b :: r)
  | _ => True
def WayP (rows : List (List Int)) (ss gs ns : List Int) : Prop := (∃ s r, ns = s :: r ∧ s ∈ ss) ∧ (∃ r g, ns = r ++ [g] ∧ g ∈ gs) ∧ chainP rows ns
/-- of one length, by the first part in which they are unlike -/
def lexP : List Int → List Int → Prop
  | [], [] => True
  | a :: r, b :: s => a < b ∨ (a = b ∧ lexP r s)
  | _, _ => False
theorem lexP_anti : ∀ {a b : List Int}, lexP a b → lexP b a → a = b
  | [], [], _, _ => rfl
  | [], _ :: _, h, _ => h.elim
  | _ :: _, [], h, _ => h.elim
  | x :: r, y :: s, h1, h2 => by
    have h1 : x < y ∨ (x = y ∧ lexP r s) := h1
    have h2 : y < x ∨ (y = x ∧ lexP s r) := h2
    rcases h1 with h1 | ⟨e, h1⟩
    · rcases h2 with h2 | ⟨e, _⟩ <;> omega
    · rcases h2 with h2 | ⟨_, h2⟩
      · omega
      · rw [e, lexP_anti h1 h2]
/-- the way of the fewest points, of several the least -/
def LeastW (rows : List (List Int)) (ss gs ns : List Int) : Prop := WayP rows ss gs ns ∧ ∀ ms, WayP rows ss gs ms → ns.length < ms.length ∨ (ns.length = ms.length ∧ lexP ns ms)
theorem LeastW.uniq {rows : List (List Int)} {ss gs ns ms : List Int} (h : LeastW rows ss gs ns) (h' : LeastW rows ss gs ms) : ns = ms := by
  rcases h.2 ms h'.1 with a | ⟨a, l⟩
  · rcases h'.2 ns h.1 with b | ⟨b, _⟩ <;> omega
  · rcases h'.2 ns h.1 with b | ⟨_, l'⟩
    · omega
    · exact lexP_anti l l'
/-- back from the goals -/
abbrev backE (rows : List (List Int)) : Int → Int → Prop := fun q p => 0 ≤ p ∧ p < (rows.length : Int) ∧ q ∈ rowAt rows p
abbrev inP (l : List Int) : Int → Prop := fun p => p ∈ l
theorem way_far {rows : List (List Int)} {gs : List Int} (hr : ∀ a b, b ∈ rowAt rows a → 0 ≤ a → 0 ≤ b ∧ b < (rows.length : Int)) : ∀ (ms : List Int) (s : Int), 0 ≤ s ∧ s < (rows.length : Int) → chainP rows (s :: ms) → (∃ r g, s :: ms = r ++ [g] ∧ g ∈ gs) → Rk (inP gs) (backE rows) ms.length s
  | [], s, hs, _, ⟨r, g, e, hg⟩ => by
    have : s = g := by
      cases r with
      | nil => cases e; rfl
      | cons _ r => cases r <;> cases e
    rw [this]
    exact hg
  | m :: ms, s, hs, hc, ⟨r, g, e, hg⟩ => by
    have hc : m ∈ rowAt rows s ∧ chainP rows (m :: ms) := hc
    have ih := way_far hr ms m (hr s m hc.1 hs.1) hc.2 (by
      cases r with
      | nil => cases e
      | cons _ r =>
        rw [List.cons_append, List.cons.injEq] at e
        exact ⟨r, g, e.2, hg⟩)
    exact ⟨m, ih, hs.1, hs.2, hc.1⟩
/-- the path that goes to the least of the nearest -/
def Greedy (rows : List (List Int)) (gs : List Int) : Nat → List Int → Prop
  | 0, [p] => p ∈ gs
  | k + 1, p :: q :: r => Dk (inP gs) (backE rows) (k + 1) p ∧ q ∈ rowAt rows p ∧ (∀ x ∈ rowAt rows p, Dk (inP gs) (backE rows) k x → q ≤ x) ∧ Greedy rows gs k (q :: r)
  | _, _ => False
theorem Greedy.len {rows : List (List Int)} {gs : List Int} : ∀ {k : Nat} {ns : List Int}, Greedy rows gs k ns → ns.length = k + 1
  | 0, [p], _ => rfl
  | k + 1, p :: q :: r, h => by
    have ih : (q :: r).length = k + 1 := Greedy.len h.2.2.2
    rw [List.length_cons, ih]
  | 0, [], h => h.elim
  | 0, _ :: _ :: _, h => h.elim
  | _ + 1, [], h => h.elim
  | _ + 1, [_], h => h.elim
theorem Greedy.way {rows : List (List Int)} {gs : List Int} : ∀ {k : Nat} {ns : List Int}, Greedy rows gs k ns → chainP rows ns ∧ ∃ r g, ns = r ++ [g] ∧ g ∈ gs
  | 0, [p], h => ⟨trivial, [], p, rfl, h⟩
  | k + 1, p :: q :: r, h => by
    obtain ⟨c, r', g, e, hg⟩ := Greedy.way h.2.2.2
    exact ⟨⟨h.2.1, c⟩, p :: r', g, by rw [e]; rfl, hg⟩
  | 0, [], h => h.elim
  | 0, _ :: _ :: _, h => h.elim
  | _ + 1, [], h => h.elim
  | _ + 1, [_], h => h.elim
theorem Greedy.least {rows : List (List Int)} {gs : List Int} (hr : ∀ a b, b ∈ rowAt rows a → 0 ≤ a → 0 ≤ b ∧ b < (rows.length : Int)) : ∀ {k : Nat} {p : Int} {ns ms : List Int}, 0 ≤ p ∧ p < (rows.length : Int) → Greedy rows gs k (p :: ns) → chainP rows (p :: ms) → (∃ r g, p :: ms = r ++ [g] ∧ g ∈ gs) → ms.length = k → lexP (p :: ns) (p :: ms)
  | 0, p, [], ms, _, _, _, _, l => by
    cases ms with
    | nil => exact .inr ⟨rfl, trivial⟩
    | cons _ _ => cases l
  | 0, p, _ :: _, _, _, h, _, _, _ => h.elim
  | k + 1, p, [], _, _, h, _, _, _ => h.elim
  | k + 1, p, q :: r, ms, hp, h, hc, he, l => by
    cases ms with
    | nil => cases l
    | cons m ms =>
      have hc : m ∈ rowAt rows p ∧ chainP rows (m :: ms) := hc
      have hm := hr p m hc.1 hp.1
      have he' : ∃ r g, m :: ms = r ++ [g] ∧ g ∈ gs := by
        obtain ⟨r, g, e, hg⟩ := he
        cases r with
        | nil => cases e
        | cons _ r =>
          rw [List.cons_append, List.cons.injEq] at e
          exact ⟨r, g, e.2, hg⟩
      have lm : ms.length = k := by
        rw [List.length_cons] at l
        omega
      have far := way_far hr ms m hm hc.2 he'
      rw [lm] at far
      have dm : Dk (inP gs) (backE rows) k m := by
        obtain ⟨j, hj, d⟩ := far.ex
        by_cases c : j = k
        · rw [← c]; exact d
        · exact absurd (show Rk (inP gs) (backE rows) (j + 1) p from ⟨m, d.1, hp.1, hp.2, hc.1⟩) (h.1.2 (j + 1) (by omega))
      have qm := h.2.2.1 m hc.1 dm
      refine .inr ⟨rfl, ?_⟩
      by_cases e : q = m
      · subst e
        exact Greedy.least hr hm h.2.2.2 hc.2 he' lm
      · exact .inl (by omega)
theorem least_of {rows : List (List Int)} {ss gs : List Int} (hr : ∀ a b, b ∈ rowAt rows a → 0 ≤ a → 0 ≤ b ∧ b < (rows.length : Int)) (hss : ∀ s ∈ ss, 0 ≤ s ∧ s < (rows.length : Int)) {k : Nat} {s : Int} {ns : List Int} (hs : s ∈ ss) (hd : Dk (inP gs) (backE rows) k s) (hmin : ∀ q ∈ ss, ∀ j, Dk (inP gs) (backE rows) j q → k < j ∨ (k = j ∧ s ≤ q)) (hg : Greedy rows gs k (s :: ns)) : LeastW rows ss gs (s :: ns) := by
  obtain ⟨c, e⟩ := hg.way
  refine ⟨⟨⟨s, ns, rfl, hs⟩, e, c⟩, fun ms hm => ?_⟩
  obtain ⟨⟨q, r, rfl, hq⟩, he, hc⟩ := hm
  have far := way_far hr r q (hss q hq) hc he
  obtain ⟨j, hj, d⟩ := far.ex
  have lg := hg.len
  rcases hmin q hq j d with h | ⟨h, sq⟩
  · refine .inl ?_
    rw [lg, List.length_cons]
    omega
  · by_cases c2 : j = r.length
    · refine .inr ⟨by rw [lg, List.length_cons]; omega, ?_⟩
      by_cases e2 : s = q
      · subst e2
        exact Greedy.least hr (hss s hs) hg hc he (by omega)
      · exact .inl (by omega)
    · refine .inl ?_
      rw [lg, List.length_cons]
      omega
/-! befores_of -/
section
variable {P : Program} {w : World} {K : PySem.W.Frag} {mg : Str → Option Value} {base : Heap} {f : Addr} {fd : FuncData}
def BefAt (K : PySem.W.Frag) (H : Hp) (B : Addr) (rows : List (List Int)) : Prop := ∃ as : List Addr, SqL K H B (as.map V.ref) ∧ as.length = rows.length ∧ ∀ (i : Nat) a, as[i]? = some a → ∃ bs : List Int, SqL K H a (bs.map V.int) ∧ ∀ p, p ∈ bs ↔ backE rows (i : Int) p
def spBef (K : PySem.W.Frag) : Sp := fun vs H Q _ => ∃ (x : V) (rows : List (List Int)), vs = [x] ∧ Dp K H x (chD rows) ∧ RwOk rows ∧ ∀ B H', Same H H' → BefAt K H' B rows → Q (.ref B) H'
abbrev bfN : List Str := ["chart", "befores", "point", "nexts", "after"]
theorem scBef : FnScope bfN ["chart"] (defScope sBefores) := ⟨rfl, rfl, rfl, by decide +kernel, rfl, by decide +kernel, by decide +kernel⟩
theorem same_upd {H G : Hp} {a : Addr} {o : HO} (s : Same H G) (h : H a = none) : Same H (upd G a o) := fun b u hb => by rw [upd_ne (ne_of_none hb h)]; exact s b u hb
theorem ok_bef {k : Nat} (F : Fun K "befores_of" "befores_of" sBefores f fd) (hE : mg "enumerate" = none) : FnOk P w K mg base CX0 (k + 1) f fd ["chart"] (spBef K) := by
  refine F.ok scBef (fun vs H Q E h => ?_) (fun cdv A outer s H vs Q E hr h => ?_)
  · obtain ⟨x, rows, rfl, _⟩ := h
    rfl
  obtain ⟨x, rows, rfl, hx, hrw, q⟩ := h
  refine ⟨_, pss_cons (ps_setLc (i := 1) (own := [("nexts", 3)]) (g := gName 3) (tt := tYes) (te := tLst tNil) rfl scBef.nd rfl rfl rfl (pi_tup (pv 0))
      (blkOk_by (own := [("nexts", 3)]) (N := bfN) (sc := defScope sBefores) (by decide +kernel))
      (fun _ _ _ _ _ => pg_name (i := 3) scBef.nd rfl (Or.inl rfl)) (fun _ _ _ _ _ => pts_nil) (fun _ _ _ _ _ => pe_lst pa_nil))
    (pss_cons (ps_for PassesOwn.never rfl (pi_enumT rfl hE (pa_cons (pv 0) pa_nil)) (pg_tup rfl (pgs_cons (pg_name (i := 2) scBef.nd rfl (.inl rfl)) (pgs_cons (pg_name (i := 3) scBef.nd rfl (.inl rfl)) pgs_nil)))
      (pss_one (ps_for PassesOwn.never rfl (pi_tup (pv 3)) (pg_name (i := 4) scBef.nd rfl (.inl rfl))
        (pss_one (ps_expr (pe_bm PySem.F.plainAttrs_list PySem.F.slot_list_append PySem.F.type_list_append mt_append (pe_ix ix_list (pv 1) (pv 4) (fun _ _ => rfl)) (pa_cons (pv 2) pa_nil)))))))
    (pss_one (ps_ret (pv 1)))), ?_⟩
  cases hx with
  | @tup ca cs _ cat ceach =>
    have lc : cs.length = rows.length := by have := dpAll_len ceach; rw [List.length_map] at this; exact this
    have hlen := hrw.len
    refine ⟨_, rfl, ca, rfl, ⟨cs, cat⟩, fun D hD => ?_⟩
    refine lc_tup (xs := cs) (fun i G => Same H G ∧ ∃ as : List Addr, G D = some (.lst (as.map V.ref)) ∧ as.length = i ∧ as.Nodup ∧ ∀ a ∈ as, H a = none ∧ G a = some (.lst []) ∧ a ≠ D)
      ⟨same_new hD _, [], upd_same, rfl, List.nodup_nil, fun a ha => by cases ha⟩ (fun i G _ h => sqT_same h.1 cat) (fun i v G hv h => ?_) (fun G h => ?_)
    · obtain ⟨sm, as, hG, la, nd, has⟩ := h
      have hi : i < cs.length := (List.getElem?_eq_some_iff.mp hv).1
      refine ⟨rfl, yesG ⟨small (by show 0 ≤ 1000; decide), fun p hp => ⟨as.map V.ref, ?_, Nat.lt_of_lt_of_le (show _ < 1000 by rw [List.length_map]; omega) (small (Nat.le_refl _)), ?_⟩⟩⟩
      · rw [upd_ne (ne_of_none hG hp)]
        exact hG
      · have np : p ≠ D := fun e => by rw [e, hG] at hp; cases hp
        have hp0 : H p = none := by
          cases e : H p with
          | none => rfl
          | some u => rw [sm p u e] at hp; cases hp
        refine ⟨same_upd (same_upd sm hp0) hD, as ++ [p], by rw [upd_same, List.map_append]; rfl, by rw [List.length_append]; show _ + 1 = _; omega, List.nodup_append.mpr ⟨nd, by simp, fun a ha b hb e => ?_⟩, fun a ha => ?_⟩
        · rw [List.mem_singleton.mp hb] at e
          have := (has a ha).2.1
          rw [e, hp] at this
          cases this
        · rcases List.mem_append.mp ha with ha | ha
          · obtain ⟨h1, h2, h3⟩ := has a ha
            exact ⟨h1, by rw [upd_ne h3, upd_ne (ne_of_none h2 hp)]; exact h2, h3⟩
          · rw [List.mem_singleton.mp ha]
            exact ⟨hp0, by rw [upd_ne np, upd_same], np⟩
    · obtain ⟨sm, as, hG, la, nd, has⟩ := h
      refine ⟨_, rfl, ca, cs, rfl, sqT_same sm cat, ?_⟩
      refine for_enumT (xs := cs) (fun i σ G => ∃ o2 o3 o4, σ = [some (.ref ca), some (.ref D), o2, o3, o4] ∧ Same H G ∧ G D = some (.lst (as.map V.ref)) ∧ ∀ (m : Nat) a, as[m]? = some a → ∃ bs : List Int, G a = some (.lst (bs.map V.int)) ∧ bs.length ≤ i * 30 ∧ ∀ p, p ∈ bs ↔ (0 ≤ p ∧ p < (i : Int) ∧ (m : Int) ∈ rowAt rows p))
        ⟨_, _, _, rfl, sm, hG, fun m a ha => ⟨[], (has a (List.mem_of_getElem? ha)).2.1, Nat.zero_le _, fun p => ⟨fun z => (by cases z), fun z => (by omega)⟩⟩⟩ (fun i σ G _ h => by obtain ⟨_, _, _, _, s1, _⟩ := h; exact sqT_same s1 cat) (fun i v T0 σ G hv h hT => ?_) (fun σ G h => ?_)
      · obtain ⟨o2, o3, o4, rfl, s1, hG1, each1⟩ := h
        have hi : i < cs.length := (List.getElem?_eq_some_iff.mp hv).1
        have hr' := List.getElem?_eq_getElem (show i < rows.length by omega)
        generalize rows[i] = row at hr'
        obtain ⟨b, hb, bat⟩ := ch_row ceach hr'
        rw [hv] at hb
        cases hb
        have hrow := hrw.row row (List.mem_of_getElem? hr')
        have nT := same_new hT (.tup [.int (i : Nat), .ref b])
        have s2 := s1.trans nT
        refine ⟨T0, _, rfl, SqT.of upd_same, rfl, _, _, rfl, _, _, rfl, rfl, _, rfl, b, rfl, ⟨_, sqT_same s2 bat⟩, ?_⟩
        have hG2 := nT _ _ hG1
        have each2 : ∀ (m : Nat) a, as[m]? = some a → ∃ bs : List Int, (upd G T0 (.tup [.int (i : Nat), .ref b])) a = some (.lst (bs.map V.int)) ∧ bs.length ≤ i * 30 ∧ ∀ p, p ∈ bs ↔ (0 ≤ p ∧ p < (i : Int) ∧ (m : Int) ∈ rowAt rows p) := fun m a ha => by
          obtain ⟨bs, h1, h2⟩ := each1 m a ha
          exact ⟨bs, nT _ _ h1, h2⟩
        generalize upd G T0 (.tup [.int (i : Nat), .ref b]) = G2 at s2 hG2 each2
        have hra : rowAt rows (i : Int) = row := rowAt_nat hr'
        refine for_tup (xs := row.map V.int) (fun j σ G => ∃ o4, σ = [some (.ref ca), some (.ref D), some (.int (i : Nat)), some (.ref b), o4] ∧ Same H G ∧ G D = some (.lst (as.map V.ref)) ∧ ∀ (m : Nat) a, as[m]? = some a → ∃ bs : List Int, G a = some (.lst (bs.map V.int)) ∧ bs.length ≤ i * 30 + j ∧ ∀ p, p ∈ bs ↔ ((0 ≤ p ∧ p < (i : Int) ∧ (m : Int) ∈ rowAt rows p) ∨ (p = i ∧ (m : Int) ∈ row.take j)))
          ⟨_, rfl, s2, hG2, fun m a ha => ?_⟩ (fun j σ G _ h => by obtain ⟨_, _, s3, _⟩ := h; exact sqT_same s3 bat) (fun j v σ G hv h => ?_) (fun σ G h => ?_)
        · obtain ⟨bs, h1, h2, h3⟩ := each2 m a ha
          exact ⟨bs, h1, by omega, fun p => by rw [h3 p]; simp⟩
        · obtain ⟨o4', rfl, s3, hG3, each3⟩ := h
          obtain ⟨n, hn, rfl⟩ := ints_get hv
          have hj : j < row.length := (List.getElem?_eq_some_iff.mp hn).1
          have hnr := hrow.2 n (List.mem_of_getElem? hn)
          obtain ⟨a, ha⟩ : ∃ a, as[n.toNat]? = some a := ⟨_, List.getElem?_eq_getElem (by omega)⟩
          obtain ⟨bs, hbs, lbs, iff⟩ := each3 n.toNat a ha
          obtain ⟨ha0, _, haD⟩ := has a (List.mem_of_getElem? ha)
          refine ⟨_, rfl, _, rfl, D, _, n, .ref a, rfl, rfl, SqL.of hG3, atI_at hnr.1 (by rw [List.getElem?_map, ha]; rfl), .inl ⟨rfl, _, SqL.of hbs⟩, _, rfl, a, _, _, rfl, rfl, hbs, Nat.lt_of_lt_of_le (show _ < 2000 by rw [List.length_map]; omega) (Nat.le_trans (by decide) (big (Nat.le_refl _))), ?_⟩
          refine ⟨_, rfl, same_upd s3 ha0, by rw [upd_ne (Ne.symm haD)]; exact hG3, fun m c hc => ?_⟩
          have et : row.take (j + 1) = row.take j ++ [n] := by rw [List.take_add_one, hn]; rfl
          by_cases e : c = a
          · subst e
            have em : m = n.toNat := (List.getElem_inj (h₀ := (List.getElem?_eq_some_iff.mp hc).1) (h₁ := (List.getElem?_eq_some_iff.mp ha).1) nd).mp (by rw [(List.getElem?_eq_some_iff.mp hc).2, (List.getElem?_eq_some_iff.mp ha).2])
            subst em
            refine ⟨bs ++ [(i : Int)], by rw [upd_same, List.map_append]; rfl, by rw [List.length_append]; show _ + 1 ≤ _; omega, fun p => ?_⟩
            rw [List.mem_append, iff p, et, List.mem_append, List.mem_singleton, List.mem_singleton]
            constructor
            · rintro ((y | ⟨y1, y2⟩) | y)
              · exact .inl y
              · exact .inr ⟨y1, .inl y2⟩
              · exact .inr ⟨y, .inr (by omega)⟩
            · rintro (y | ⟨y1, y2 | y2⟩)
              · exact .inl (.inl y)
              · exact .inl (.inr ⟨y1, y2⟩)
              · exact .inr y1
          · obtain ⟨bs', h1, h2, h3⟩ := each3 m c hc
            refine ⟨bs', by rw [upd_ne e]; exact h1, by omega, fun p => ?_⟩
            rw [h3 p, et, List.mem_append, List.mem_singleton]
            constructor
            · rintro (y | ⟨y1, y2⟩)
              · exact .inl y
              · exact .inr ⟨y1, .inl y2⟩
            · rintro (y | ⟨y1, y2 | y2⟩)
              · exact .inl y
              · exact .inr ⟨y1, y2⟩
              · exfalso
                have em : m = n.toNat := by omega
                subst em
                rw [hc] at ha
                exact e (Option.some.inj ha)
        · obtain ⟨o4', rfl, s3, hG3, each3⟩ := h
          refine ⟨_, _, _, rfl, s3, hG3, fun m a ha => ?_⟩
          obtain ⟨bs, h1, h2, h3⟩ := each3 m a ha
          rw [List.length_map] at h2 h3
          refine ⟨bs, h1, by omega, fun p => ?_⟩
          rw [h3 p, List.take_length]
          constructor
          · rintro (⟨y1, y2, y3⟩ | ⟨y1, y2⟩)
            · exact ⟨y1, by omega, y3⟩
            · exact ⟨by omega, by omega, by rw [y1, hra]; exact y2⟩
          · rintro ⟨y1, y2, y3⟩
            by_cases e : p = i
            · exact .inr ⟨e, by rw [← hra, ← e]; exact y3⟩
            · exact .inl ⟨y1, by omega, y3⟩
      · obtain ⟨o2, o3, o4, rfl, s1, hG1, each1⟩ := h
        refine ⟨_, rfl, q D G s1 ⟨as, SqL.of hG1, by rw [la]; exact lc, fun i a ha => ?_⟩⟩
        obtain ⟨bs, h1, h2, h3⟩ := each1 i a ha
        rw [lc] at h3
        exact ⟨bs, SqL.of h1, h3⟩
end
/-! d = {k: v for ..}, the name stored where the comprehension ends -/
section
open PySem.Spec PyProof.Rows
variable {X : Cx}
theorem ps_setDc {i : Nat} {y : Str} {py : Pos} {kx vx tg iter : Expr} {ifs : List Expr} {sc : Scope} {own : List (Str × Nat)} {pos spos : Pos} {wi : TI} {g : TG} {tt : TT} {tk tv : TE} (hc : X.calm = true) (hN : X.N.Nodup) (hy : X.N[i]? = some y) (hyl : X.env.scope.names.lookup y = some .local)
    (hsw : swapsWith (.DictComp kx vx [⟨tg, iter, ifs, 0⟩] sc pos) (some (.Name y py)) spos.line X.env = pure true) (hi : PI X tg iter wi) (ok : BlkOk X.N X.env.scope sc own)
    (hg : ∀ (u : Shared) (G : Hp) (C : Addr) (cl : List (Str × Addr)) (fp : List Addr), PG (X.blk u G sc (compEnvC sc cl C X.env) fp) tg g) (ht : ∀ (u : Shared) (G : Hp) (C : Addr) (cl : List (Str × Addr)) (fp : List Addr), PTs (X.blk u G sc (compEnvC sc cl C X.env) fp) ifs tt)
    (hk : ∀ (u : Shared) (G : Hp) (C : Addr) (cl : List (Str × Addr)) (fp : List Addr), PE (X.blk u G sc (compEnvC sc cl C X.env) fp) kx tk) (he : ∀ (u : Shared) (G : Hp) (C : Addr) (cl : List (Str × Addr)) (fp : List Addr), PE (X.blk u G sc (compEnvC sc cl C X.env) fp) vx tv) (hs : ∀ x, foldedSetIterable iter X.env x = pure x := by intro _; rfl) :
    PS X (.Assign [.Name y py] (.DictComp kx vx [⟨tg, iter, ifs, 0⟩] sc pos) spos) (tAsg (tDc wi g tt tk tv (own.map (·.2))) (gName i)) := by
  refine ⟨fun pins u ρ G D I h => ?_⟩
  rw [exec_Assign_Name_used _ _ _ _ hsw]
  refine wpAny_bind (wpAny_standAt (wpAny_bind ?_))
  show wpAny _ X.A (do let _ ← comprehension (.DictComp kx vx [⟨tg, iter, ifs, 0⟩] sc pos) sc X.env (firstIterPos [⟨tg, iter, ifs, 0⟩] pos) newDict false (eval iter X.env) (some (assign (.Name y py) X.env))) _ _ u
  have h : tDc wi g tt tk tv (own.map (·.2)) ρ G (fun x G1 => gName i x ρ G1 D.nx) := h
  refine wpAny_bind (thn (dc_core (Qf := fun _ u' => SP X pins D .next u') hc hN I hi ok hg ht hk he hs h fun L C u' m G' I' q hn f => ?_) fun _ u' hq => wpAny_pure (wpAny_pure hq))
  show wpAny _ _ (assign (.Name y py) X.env (.ref L)) _ _ _
  refine wpAny_assign_Name (store_ok2 (v := V.ref L) I' hN hy (.inl hyl) rfl (fun u2 I2 ⟨a, sb, ha⟩ => ?_) (.inr hyl))
  have far : C ≠ a := ha.elim (fun z => by rw [z]; exact f.2.1) (fun z e => f.2.2.2.2.1 y a z e.symm)
  exact ⟨m, hn.sameBut sb far, fun h3 sb3 => ⟨_, G', I2.turned (t' := u2.toks) (fun b o hb e => (sb3.2 b hb).trans e) f.1 f.2.1 f.2.2.2.1 f.2.2.2.2.1 f.2.2.2.2.2, q⟩⟩
end
/-! distances -/
abbrev foreE (rows : List (List Int)) : Int → Int → Prop := fun q p => 0 ≤ q ∧ q < (rows.length : Int) ∧ p ∈ rowAt rows q
/-- a dict of points, with how far each is, as far as m -/
structure FarTo (S : Int → Prop) (E : Int → Int → Prop) (n m : Nat) (kvs : List (Key × V)) : Prop where
  snd : ∀ p v, valV kvs (Sum.inl p) = some v → ∃ k : Nat, k ≤ m ∧ v = .int k ∧ Dk S E k p
  all : ∀ p (k : Nat), k ≤ m → Dk S E k p → valV kvs (Sum.inl p) = some (.int k)
  keys : ∃ ks : List Int, kvs.map (·.1) = ks.map Sum.inl ∧ ks.Nodup ∧ ∀ p ∈ ks, 0 ≤ p ∧ p < (n : Int)
structure FarOk (S : Int → Prop) (E : Int → Int → Prop) (n : Nat) (kvs : List (Key × V)) : Prop where
  snd : ∀ p v, valV kvs (Sum.inl p) = some v → ∃ k : Nat, v = .int k ∧ Dk S E k p
  all : ∀ p (k : Nat), Dk S E k p → valV kvs (Sum.inl p) = some (.int k)
  keys : ∃ ks : List Int, kvs.map (·.1) = ks.map Sum.inl ∧ ks.Nodup ∧ ∀ p ∈ ks, 0 ≤ p ∧ p < (n : Int)
theorem key_len {n : Nat} {kvs : List (Key × V)} (h : ∃ ks : List Int, kvs.map (·.1) = ks.map Sum.inl ∧ ks.Nodup ∧ ∀ p ∈ ks, 0 ≤ p ∧ p < (n : Int)) : kvs.length ≤ n := by
  obtain ⟨ks, h1, h2, h3⟩ := h
  have l := congrArg List.length h1
  rw [List.length_map, List.length_map] at l
  rw [l]
  exact nodup_len n ks h2 h3
theorem FarTo.ok {S : Int → Prop} {E : Int → Int → Prop} {n m : Nat} {kvs : List (Key × V)} (h : FarTo S E n m kvs) (no : ∀ k p, Dk S E k p → k ≤ m) : FarOk S E n kvs :=
  ⟨fun p v e => by obtain ⟨k, _, h2, h3⟩ := h.snd p v e; exact ⟨k, h2, h3⟩, fun p k d => h.all p k (no k p d) d, h.keys⟩
theorem not_key {kvs : List (Key × V)} {ks : List Int} {p : Int} (h : kvs.map (·.1) = ks.map Sum.inl) (hv : valV kvs (Sum.inl p) = none) : p ∉ ks := fun hp => by
  have hm : (Sum.inl p : Key) ∈ kvs.map (·.1) := by rw [h]; exact List.mem_map.mpr ⟨p, hp, rfl⟩
  obtain ⟨kv, h1, h2⟩ := List.mem_map.mp hm
  have z : (kvs.any fun kv => decide (kv.1 = (Sum.inl p : Key))) = true := List.any_eq_true.mpr ⟨kv, h1, decide_eq_true h2⟩
  rw [valV_any, hv] at z
  cases z
/-- within a round: what was known, and the fresh ones -/
structure MidTo (S : Int → Prop) (E : Int → Int → Prop) (n st : Nat) (kvs : List (Key × V)) (fs : List Int) : Prop where
  snd : ∀ p v, valV kvs (Sum.inl p) = some v → (∃ k : Nat, k ≤ st ∧ v = .int k ∧ Dk S E k p) ∨ (v = .int (st + 1 : Nat) ∧ p ∈ fs)
  all : ∀ p (k : Nat), k ≤ st → Dk S E k p → valV kvs (Sum.inl p) = some (.int k)
  fsh : ∀ p ∈ fs, Dk S E (st + 1) p ∧ valV kvs (Sum.inl p) = some (.int (st + 1 : Nat))
  nd : fs.Nodup
  keys : ∃ ks : List Int, kvs.map (·.1) = ks.map Sum.inl ∧ ks.Nodup ∧ ∀ p ∈ ks, 0 ≤ p ∧ p < (n : Int)
section
variable {S : Int → Prop} {E : Int → Int → Prop} {n st : Nat} {kvs : List (Key × V)} {fs : List Int}
theorem FarTo.mid (h : FarTo S E n st kvs) : MidTo S E n st kvs [] :=
  ⟨fun p v e => .inl (h.snd p v e), h.all, (fun p hp => by cases hp), List.nodup_nil, h.keys⟩
theorem MidTo.add (h : MidTo S E n st kvs fs) {p q : Int} (hv : valV kvs (Sum.inl p) = none) (hq : Dk S E st q) (he : E q p) (hr : 0 ≤ p ∧ p < (n : Int)) : MidTo S E n st (putK kvs (Sum.inl p) (.int (st + 1 : Nat))) (fs ++ [p]) := by
  have new : Dk S E (st + 1) p := by
    refine ⟨⟨q, hq.1, he⟩, fun j hj r => ?_⟩
    obtain ⟨i, hi, d⟩ := r.ex
    have := h.all p i (by omega) d
    rw [hv] at this
    cases this
  refine ⟨fun r v e => ?_, fun r k hk d => ?_, fun r hr' => ?_, List.nodup_append.mpr ⟨h.nd, by simp, fun a ha b hb e => ?_⟩, ?_⟩
  · rw [valV_put] at e
    by_cases z : (Sum.inl r : Key) = Sum.inl p
    · rw [if_pos z] at e
      cases e
      exact .inr ⟨rfl, by rw [Sum.inl.inj z]; simp⟩
    · rw [if_neg z] at e
      rcases h.snd r v e with y | ⟨y1, y2⟩
      · exact .inl y
      · exact .inr ⟨y1, List.mem_append_left _ y2⟩
  · rw [valV_put, if_neg (fun z => by
      have := h.all r k hk d
      rw [Sum.inl.inj z, hv] at this
      cases this)]
    exact h.all r k hk d
  · rcases List.mem_append.mp hr' with hr' | hr'
    · obtain ⟨y1, y2⟩ := h.fsh r hr'
      refine ⟨y1, ?_⟩
      rw [valV_put, if_neg (fun z => by rw [Sum.inl.inj z, hv] at y2; cases y2)]
      exact y2
    · rw [List.mem_singleton.mp hr']
      exact ⟨new, by rw [valV_put, if_pos rfl]⟩
  · rw [List.mem_singleton.mp hb] at e
    have := (h.fsh a ha).2
    rw [e, hv] at this
    cases this
  · obtain ⟨ks, k1, k2, k3⟩ := h.keys
    refine ⟨ks ++ [p], by rw [putK_new _ hv, List.map_append, k1, List.map_append]; rfl, List.nodup_append.mpr ⟨k2, by simp, fun a ha b hb e => not_key k1 hv (by rw [← List.mem_singleton.mp hb, ← e]; exact ha)⟩, fun a ha => ?_⟩
    rcases List.mem_append.mp ha with ha | ha
    · exact k3 a ha
    · rw [List.mem_singleton.mp ha]
      exact hr
theorem MidTo.fin (h : MidTo S E n st kvs fs) (cov : ∀ q, Dk S E st q → ∀ p, E q p → (valV kvs (Sum.inl p)).isSome = true) : FarTo S E n (st + 1) kvs ∧ ∀ p, p ∈ fs ↔ Dk S E (st + 1) p := by
  have iff : ∀ p, p ∈ fs ↔ Dk S E (st + 1) p := fun p => ⟨fun hp => (h.fsh p hp).1, fun d => by
    obtain ⟨q, hq, e⟩ := d.pred
    obtain ⟨v, hv⟩ := Option.isSome_iff_exists.mp (cov q hq p e)
    rcases h.snd p v hv with ⟨k, hk, _, d'⟩ | ⟨_, y⟩
    · have := d'.uniq d
      omega
    · exact y⟩
  refine ⟨⟨fun p v e => ?_, fun p k hk d => ?_, h.keys⟩, iff⟩
  · rcases h.snd p v e with ⟨k, hk, y⟩ | ⟨y1, y2⟩
    · exact ⟨k, by omega, y⟩
    · exact ⟨st + 1, Nat.le_refl _, y1, (h.fsh p y2).1⟩
  · by_cases c : k ≤ st
    · exact h.all p k c d
    · have e : k = st + 1 := by omega
      subst e
      exact (h.fsh p ((iff p).mpr d)).2
end
theorem val0 (l : List Int) (p : Int) : valV (l.map fun p => ((Sum.inl p : Key), V.int 0)) (Sum.inl p) = if p ∈ l then some (.int 0) else none := by
  induction l with
  | nil => rfl
  | cons a r ih =>
    rw [List.map_cons]
    by_cases e : a = p
    · rw [valV_pos (by rw [e]), if_pos (by rw [e]; exact List.mem_cons_self)]
    · rw [valV_neg (fun z => e (Sum.inl.inj z)), ih]
      have : p ∈ a :: r ↔ p ∈ r := by rw [List.mem_cons]; exact ⟨fun h => h.resolve_left (fun z => e z.symm), .inr⟩
      simp only [this]
theorem none_same {H G : Hp} {a : Addr} (s : Same H G) (h : G a = none) : H a = none := by
  cases e : H a with
  | none => rfl
  | some u => rw [s a u e] at h; cases h
theorem sqL_same {K : PySem.W.Frag} {H H' : Hp} (s : Same H H') {a : Addr} {xs : List V} (h : SqL K H a xs) : SqL K H' a xs := by
  rcases h with (z | ⟨o, z⟩) | z
  · exact .inl (.inl (s _ _ z))
  · exact .inl (.inr ⟨o, s _ _ z⟩)
  · exact .inr z
section
variable {P : Program} {w : World} {K : PySem.W.Frag} {mg : Str → Option Value} {base : Heap} {f : Addr} {fd : FuncData}
abbrev diN : List Str := ["links", "origins", "least", "most", "far", "edge", "steps", "fresh", "point", "other"]
theorem scDist : FnScope diN ["links", "origins", "least", "most"] (defScope sDist) := ⟨rfl, rfl, rfl, by decide +kernel, rfl, by decide +kernel, by decide +kernel⟩
def spDistT (K : PySem.W.Frag) : Sp := fun vs H Q _ => ∃ (x y : V) (rows : List (List Int)) (os : List Int), vs = [x, y, .int 0, .int (rows.length : Nat)] ∧ Dp K H x (chD rows) ∧ RwOk rows ∧ Dp K H y (.tuple (os.map .int)) ∧ os.Nodup ∧ (∀ o ∈ os, 0 ≤ o ∧ o < (rows.length : Int)) ∧
  ∀ F kvs H', Same H H' → H' F = some (.dK kvs) → FarOk (inP os) (foreE rows) rows.length kvs → Q (.ref F) H'
set_option maxHeartbeats 1000000 in
theorem ok_distT {k : Nat} (F : Fun K "distances" "distances" sDist f fd) (T : Free mg) : FnOk P w K mg base CX0 (k + 1) f fd ["links", "origins", "least", "most"] (spDistT K) := by
  refine F.ok scDist (fun vs H Q E h => ?_) (fun cdv A outer s H vs Q E hr h => ?_)
  · obtain ⟨x, y, rows, os, rfl, _⟩ := h
    rfl
  refine ⟨_, pss_cons (ps_setDc (i := 4) (own := [("point", 8)]) (g := gName 8) (tt := tYes) (tk := tVar 8) (tv := tC (.int 0)) rfl scDist.nd rfl rfl rfl (pi_tup (pv 1))
      (blkOk_by (own := [("point", 8)]) (N := diN) (sc := defScope sDist) (by decide +kernel))
      (fun _ _ _ _ _ => pg_name (i := 8) scDist.nd rfl (Or.inl rfl)) (fun _ _ _ _ _ => pts_nil) (fun _ _ _ _ _ => pv 8) (fun _ _ _ _ _ => pe_int))
    (pss_cons (ps_set (i := 5) scDist.nd rfl (.inl rfl) (pe_callTy call_list_of rfl T.list (by decide +kernel) (pa_cons (pv 1) pa_nil)))
    (pss_cons (ps_set (i := 6) scDist.nd rfl (.inl rfl) pe_int)
    (pss_cons (ps_while PassesOwn.never (PW.pt (pw_and (pt_truth (pv 5) (fun _ => rfl)) (pw_and1 (pt_cmpR op_lt (pv 6) (pv 3) (nomark _)))))
      (pss_cons (ps_aug (i := 6) scDist.nd rfl (.inl rfl) pe_int ip_add (.inr rfl))
      (pss_cons (ps_set (i := 7) scDist.nd rfl (.inl rfl) (pe_lst pa_nil))
      (pss_cons (ps_for PassesOwn.never rfl (pi_list (pv 5)) (pg_name (i := 8) scDist.nd rfl (.inl rfl))
        (pss_one (ps_for PassesOwn.never rfl (pi_tup (pe_ix ix_tup (pv 0) (pv 8) (fun _ _ => rfl))) (pg_name (i := 9) scDist.nd rfl (.inl rfl))
          (pss_one (ps_if (PW.pt (pw_and (pt_cmpR op_ge (pv 9) (pv 2) (nomark _)) (pw_and1 (pt_cmp (pc_dnotin (Nat.lt_of_le_of_lt (Nat.add_le_add_left (by decide : 1 ≤ 64) _) hr.units) (pv 9) (pv 4))))))
            (pss_cons (ps_dput (Nat.lt_of_le_of_lt (Nat.add_le_add_left (by decide : 1 ≤ 64) _) hr.units) (pv 4) (pv 9) (pv 6) rfl)
            (pss_one (ps_expr (pe_bm PySem.F.plainAttrs_list PySem.F.slot_list_append PySem.F.type_list_append mt_append (pv 7) (pa_cons (pv 9) pa_nil))))) pss_nil)))))
      (pss_one (ps_set (i := 5) scDist.nd rfl (.inl rfl) (pv 7)))))))
    (pss_one (ps_ret (pv 4)))))), ?_⟩
  obtain ⟨x, y, rows, os, rfl, hx, hrw, hy, nd, hos, q⟩ := h
  cases hx with
  | @tup ca cs _ cat ceach =>
  have lc : cs.length = rows.length := by have := dpAll_len ceach; rw [List.length_map] at this; exact this
  have lk : ∀ {G : Hp} {pt : Int}, Same H G → 0 ≤ pt ∧ pt < (rows.length : Int) → ∃ (va : Addr) (l : List Int), atI cs pt = some (.ref va) ∧ SqT K G va (l.map V.int) ∧ ∀ p, p ∈ l ↔ foreE rows pt p := fun {G pt} sm hp => by
    have hr' := List.getElem?_eq_getElem (show pt.toNat < rows.length by omega)
    generalize rows[pt.toNat] = row at hr'
    obtain ⟨b, hb, bat⟩ := ch_row ceach hr'
    have hra : rowAt rows pt = row := by
      unfold rowAt
      rw [List.getD_eq_getElem?_getD, hr']
      rfl
    exact ⟨b, row, atI_at hp.1 hb, sqT_same sm bat, fun p => ⟨fun z => ⟨hp.1, hp.2, by rw [hra]; exact z⟩, fun z => by rw [← hra]; exact z.2.2⟩⟩
  have rng : ∀ q p, foreE rows q p → 0 ≤ p ∧ p < (rows.length : Int) := fun q p h => by
    have hr' := List.getElem?_eq_getElem (show q.toNat < rows.length by omega)
    have h2 := h.2.2
    unfold rowAt at h2
    rw [List.getD_eq_getElem?_getD, hr'] at h2
    exact (hrw.row _ (List.getElem_mem _)).2 p h2
  have lnk : ∀ {G : Hp}, Same H G → SqT K G ca cs := fun sm => sqT_same sm cat
  have hb : ∀ (j : Nat) (q : Int), Rk (inP os) (foreE rows) j q → 0 ≤ q ∧ q < (rows.length : Int) := fun j q h => by
    cases j with
    | zero => exact hos q h
    | succ j =>
      obtain ⟨r, _, e⟩ := h
      exact rng r q e
  obtain ⟨ya, rfl, yat⟩ := ints_at hy
  have los := nodup_len rows.length os nd hos
  have hlen := hrw.len
  refine ⟨_, rfl, ya, rfl, ⟨_, yat⟩, fun F hF => ?_⟩
  refine dc_tup (xs := os.map V.int) (fun i G => Same H G ∧ G F = some (.dK ((os.take i).map fun p => (Sum.inl p, V.int 0)))) ⟨same_new hF _, upd_same⟩ (fun i G _ h => sqT_same h.1 yat) (fun i v G hv h => ?_) (fun G h => ?_)
  · obtain ⟨sm, hG⟩ := h
    obtain ⟨n, hn, rfl⟩ := ints_get hv
    have hi : i < os.length := (List.getElem?_eq_some_iff.mp hn).1
    have et : os.take (i + 1) = os.take i ++ [n] := by rw [List.take_add_one, hn]; rfl
    have nin : n ∉ os.take i := fun hm => by
      have nd' := List.Nodup.sublist (List.take_sublist (i + 1) os) nd
      rw [et] at nd'
      exact (List.nodup_append.mp nd').2.2 n hm n (by simp) rfl
    have hnew : valV ((os.take i).map fun p => ((Sum.inl p : Key), V.int 0)) (Sum.inl n) = none := by rw [val0, if_neg nin]
    refine ⟨rfl, yesG ⟨_, rfl, _, Sum.inl n, rfl, hG, Nat.lt_of_lt_of_le (show _ < 1000 by rw [List.length_map, List.length_take]; omega) (small (Nat.le_refl _)), same_upd sm hF, ?_⟩⟩
    rw [upd_same, putK_new _ hnew, et, List.map_append]
    rfl
  obtain ⟨sm, hG⟩ := h
  rw [List.length_map, List.take_length] at hG
  refine ⟨_, rfl, ya, _, rfl, .inr (sqT_same sm yat), fun ed hed => ?_⟩
  have n1 := same_new hed (.lst (os.map V.int))
  have far0 : FarTo (inP os) (foreE rows) rows.length 0 (os.map fun p => (Sum.inl p, V.int 0)) := by
    refine ⟨fun p v e => ?_, fun p k hk d => ?_, os, by rw [List.map_map]; rfl, nd, hos⟩
    · rw [val0] at e
      by_cases z : p ∈ os
      · rw [if_pos z] at e
        cases e
        exact ⟨0, Nat.le_refl _, rfl, z, fun j hj => by omega⟩
      · rw [if_neg z] at e
        cases e
    · have e : k = 0 := by omega
      subst e
      rw [val0, if_pos (show p ∈ os from d.1)]
      rfl
  have fin : ∀ {G : Hp} {kvs : List (Key × V)} {st : Nat}, Same H G → G F = some (.dK kvs) → FarTo (inP os) (foreE rows) rows.length st kvs → (∀ k p, Dk (inP os) (foreE rows) k p → k ≤ st) → Q (.ref F) G := fun s1 h1 h2 h3 => q F _ _ s1 h1 (h2.ok h3)
  refine ⟨fun m σ G => ∃ (st : Nat) (ed : Addr) (es : List Int) (kvs : List (Key × V)) (o7 o8 o9 : Option V), m = rows.length - st ∧ σ = [some (.ref ca), some (.ref ya), some (.int 0), some (.int (rows.length : Nat)), some (.ref F), some (.ref ed), some (.int (st : Nat)), o7, o8, o9] ∧ Same H G ∧ G F = some (.dK kvs) ∧ G ed = some (.lst (es.map V.int)) ∧ FarTo (inP os) (foreE rows) rows.length st kvs ∧ es.Nodup ∧ ∀ p, p ∈ es ↔ Dk (inP os) (foreE rows) st p,
    ⟨_, 0, ed, os, _, _, _, _, rfl, rfl, sm.trans n1, n1 _ _ hG, upd_same, far0, nd, fun p => ⟨fun z => ⟨z, fun j hj => (by omega)⟩, fun d => d.1⟩⟩, ?_⟩
  clear far0 n1 hed hG sm
  rintro m σ G ⟨st, ed, es, kvs, o7, o8, o9, rfl, rfl, sm, hGF, hGe, far, nde, hes⟩
  refine ⟨_, rfl, _, .inl ⟨_, SqL.of hGe, rfl⟩, ?_⟩
  cases hcs : es with
  | nil =>
    refine ifF rfl (ifF rfl ⟨_, rfl, fin sm hGF far fun k p d => ?_⟩)
    by_cases c : k ≤ st
    · exact c
    · obtain ⟨r, hr'⟩ := d.down (s := st) (by omega)
      have := (hes r).mpr hr'
      rw [hcs] at this
      cases this
  | cons e0 er =>
    rw [← hcs]
    refine ifT (by rw [hcs]; rfl) ⟨_, rfl, _, rfl, _, _, rfl, rfl, _, rfl, ?_⟩
    by_cases c : st < rows.length
    · refine ifT (decide_eq_true (by omega)) ⟨fun σ' G' => ∃ m', m' < rows.length - st ∧ ∃ (st : Nat) (ed : Addr) (es : List Int) (kvs : List (Key × V)) (o7 o8 o9 : Option V), m' = rows.length - st ∧ σ' = [some (.ref ca), some (.ref ya), some (.int 0), some (.int (rows.length : Nat)), some (.ref F), some (.ref ed), some (.int (st : Nat)), o7, o8, o9] ∧ Same H G' ∧ G' F = some (.dK kvs) ∧ G' ed = some (.lst (es.map V.int)) ∧ FarTo (inP os) (foreE rows) rows.length st kvs ∧ es.Nodup ∧ ∀ p, p ∈ es ↔ Dk (inP os) (foreE rows) st p, fun σ' G' h => h, ?_⟩
      refine ⟨_, rfl, _, _, rfl, rfl, small (by show 0 ≤ 1000; decide), fun fr hfr => ?_⟩
      have n2 := same_new hfr (.lst [])
      have fr0 : H fr = none := none_same sm hfr
      have nF : F ≠ fr := ne_of_none hGF hfr
      have ne : ed ≠ fr := ne_of_none hGe hfr
      refine ⟨_, rfl, ed, rfl, ⟨_, SqL.of (n2 _ _ hGe)⟩, ?_⟩
      refine for_list (xs := es.map V.int) (fun i σ G => ∃ (o8 o9 : Option V) (kvs' : List (Key × V)) (fs : List Int), σ = [some (.ref ca), some (.ref ya), some (.int 0), some (.int (rows.length : Nat)), some (.ref F), some (.ref ed), some (.int (st + 1 : Nat)), some (.ref fr), o8, o9] ∧ Same H G ∧ G F = some (.dK kvs') ∧ G ed = some (.lst (es.map V.int)) ∧ G fr = some (.lst (fs.map V.int)) ∧ MidTo (inP os) (foreE rows) rows.length st kvs' fs ∧ ∀ q ∈ es.take i, ∀ p, (foreE rows) q p → (valV kvs' (Sum.inl p)).isSome = true)
        ⟨_, _, kvs, [], rfl, sm.trans n2, n2 _ _ hGF, n2 _ _ hGe, upd_same, far.mid, fun q hq => by simp at hq⟩ (fun i σ G _ h => by obtain ⟨_, _, _, _, _, _, _, h3, _⟩ := h; exact SqL.of h3) (fun i v σ G hv h => ?_) (fun σ G h => ?_)
      · obtain ⟨o8, o9, kvs', fs, rfl, s1, g1, g2, g3, mid, cov⟩ := h
        obtain ⟨pt, hpt, rfl⟩ := ints_get hv
        have dpt := (hes pt).mp (List.mem_of_getElem? hpt)
        have rpt := hb st pt dpt.1
        obtain ⟨va, l, h1, h2, h3⟩ := lk s1 rpt
        obtain ⟨_, l0, h10, h20, h30⟩ := lk (Same.refl H) rpt
        rw [h1] at h10
        cases h10
        have hl0 : ∀ {G2 : Hp}, Same H G2 → SqT K G2 va (l0.map V.int) := fun s2 => sqT_same s2 h20
        refine ⟨_, rfl, _, rfl, ca, cs, pt, _, rfl, rfl, lnk s1, h1, va, rfl, ⟨_, hl0 s1⟩, ?_⟩
        refine for_tup (xs := l0.map V.int) (fun j σ G => ∃ (o9 : Option V) (kvs' : List (Key × V)) (fs : List Int), σ = [some (.ref ca), some (.ref ya), some (.int 0), some (.int (rows.length : Nat)), some (.ref F), some (.ref ed), some (.int (st + 1 : Nat)), some (.ref fr), some (.int pt), o9] ∧ Same H G ∧ G F = some (.dK kvs') ∧ G ed = some (.lst (es.map V.int)) ∧ G fr = some (.lst (fs.map V.int)) ∧ MidTo (inP os) (foreE rows) rows.length st kvs' fs ∧ (∀ q ∈ es.take i, ∀ p, (foreE rows) q p → (valV kvs' (Sum.inl p)).isSome = true) ∧ ∀ p ∈ l0.take j, (valV kvs' (Sum.inl p)).isSome = true)
          ⟨_, kvs', fs, rfl, s1, g1, g2, g3, mid, cov, fun p hp => by simp at hp⟩ (fun j σ G _ h => by obtain ⟨_, _, _, _, s2, _⟩ := h; exact hl0 s2) (fun j v σ G hv h => ?_) (fun σ G h => ?_)
        · obtain ⟨o9, kvs2, fs2, rfl, s2, g4, g5, g6, mid2, cov2, cov3⟩ := h
          obtain ⟨n, hn, rfl⟩ := ints_get hv
          have en := (h30 n).mp (List.mem_of_getElem? hn)
          have rn := rng pt n en
          have et : l0.take (j + 1) = l0.take j ++ [n] := by rw [List.take_add_one, hn]; rfl
          have lk2 := key_len mid2.keys
          have lf2 : fs2.length ≤ rows.length := nodup_len _ fs2 mid2.nd fun p hp => hb _ p (mid2.fsh p hp).1.1
          refine ⟨_, rfl, _, rfl, _, _, rfl, rfl, _, rfl, ifT (decide_eq_true (by omega)) ⟨_, rfl, _, rfl, F, _, rfl, DGet.k (k := Sum.inl n) g4, _, rfl, ?_⟩⟩
          cases hval : valV kvs2 (Sum.inl n) with
          | some u =>
            refine ifF rfl ⟨_, kvs2, fs2, rfl, s2, g4, g5, g6, mid2, cov2, fun p hp => ?_⟩
            rw [et] at hp
            rcases List.mem_append.mp hp with hp | hp
            · exact cov3 p hp
            · rw [List.mem_singleton.mp hp, hval]
              rfl
          | none =>
            have nFf : F ≠ fr := nF
            refine ifT rfl ⟨_, rfl, _, rfl, _, rfl, F, _, rfl, DPut.k (k := Sum.inl n) g4 (Nat.lt_of_lt_of_le (show kvs2.length < 1000 by omega) (small (Nat.le_refl _))), ?_⟩
            have g6' : (upd G F (.dK (putK kvs2 (Sum.inl n) (.int (st + 1 : Nat))))) fr = some (.lst (fs2.map V.int)) := by rw [upd_ne (Ne.symm nF)]; exact g6
            refine ⟨_, rfl, .inl ⟨rfl, _, SqL.of g6'⟩, _, rfl, fr, _, _, rfl, rfl, g6', Nat.lt_of_lt_of_le (show _ < 1000 by rw [List.length_map]; omega) (small (Nat.le_refl _)), ?_⟩
            have more : ∀ p, (valV kvs2 (Sum.inl p)).isSome = true → (valV (putK kvs2 (Sum.inl n) (.int (st + 1 : Nat))) (Sum.inl p)).isSome = true := fun p hp => by
              rw [valV_put]
              split
              · rfl
              · exact hp
            refine ⟨_, _, fs2 ++ [n], rfl, same_upd (same_upd s2 hF) fr0, by rw [upd_ne nF, upd_same], by rw [upd_ne ne, upd_ne (ne_of g5 g4 (fun z => nomatch z))]; exact g5, by rw [upd_same, List.map_append]; rfl, mid2.add hval dpt en rn, fun q hq p e => more p (cov2 q hq p e), fun p hp => ?_⟩
            rw [et] at hp
            rcases List.mem_append.mp hp with hp | hp
            · exact more p (cov3 p hp)
            · rw [List.mem_singleton.mp hp, valV_put, if_pos rfl]
              rfl
        · obtain ⟨o9, kvs2, fs2, rfl, s2, g4, g5, g6, mid2, cov2, cov3⟩ := h
          rw [List.length_map, List.take_length] at cov3
          refine ⟨_, _, kvs2, fs2, rfl, s2, g4, g5, g6, mid2, fun q hq p e => ?_⟩
          rw [List.take_add_one, hpt] at hq
          rcases List.mem_append.mp hq with hq | hq
          · exact cov2 q hq p e
          · rw [show q = pt by simpa using hq] at e
            exact cov3 p ((h30 p).mpr e)
      · obtain ⟨o8, o9, kvs', fs, rfl, s1, g1, g2, g3, mid, cov⟩ := h
        rw [List.length_map, List.take_length] at cov
        obtain ⟨far', iff⟩ := mid.fin fun q hq p e => cov q ((hes q).mpr hq) p e
        exact ⟨_, rfl, rows.length - (st + 1), by omega, st + 1, fr, fs, kvs', _, _, _, rfl, rfl, s1, g1, g3, far', mid.nd, iff⟩
    · refine ifF (decide_eq_false (by omega)) ⟨_, rfl, fin sm hGF far fun k p d => ?_⟩
      have := d.bound hb
      omega
def spDistL (K : PySem.W.Frag) : Sp := fun vs H Q _ => ∃ (x y : V) (B : Addr) (rows : List (List Int)) (os : List Int), vs = [x, y, .int 0, .int (rows.length : Nat)] ∧ x = .ref B ∧ BefAt K H B rows ∧ RwOk rows ∧ Dp K H y (.tuple (os.map .int)) ∧ os.Nodup ∧ (∀ o ∈ os, 0 ≤ o ∧ o < (rows.length : Int)) ∧
  ∀ F kvs H', Same H H' → H' F = some (.dK kvs) → FarOk (inP os) (backE rows) rows.length kvs → Q (.ref F) H'
set_option maxHeartbeats 1000000 in
theorem ok_distL {k : Nat} (F : Fun K "distances" "distances" sDist f fd) (T : Free mg) : FnOk P w K mg base CX0 (k + 1) f fd ["links", "origins", "least", "most"] (spDistL K) := by
  refine F.ok scDist (fun vs H Q E h => ?_) (fun cdv A outer s H vs Q E hr h => ?_)
  · obtain ⟨x, y, B, rows, os, rfl, _⟩ := h
    rfl
  refine ⟨_, pss_cons (ps_setDc (i := 4) (own := [("point", 8)]) (g := gName 8) (tt := tYes) (tk := tVar 8) (tv := tC (.int 0)) rfl scDist.nd rfl rfl rfl (pi_tup (pv 1))
      (blkOk_by (own := [("point", 8)]) (N := diN) (sc := defScope sDist) (by decide +kernel))
      (fun _ _ _ _ _ => pg_name (i := 8) scDist.nd rfl (Or.inl rfl)) (fun _ _ _ _ _ => pts_nil) (fun _ _ _ _ _ => pv 8) (fun _ _ _ _ _ => pe_int))
    (pss_cons (ps_set (i := 5) scDist.nd rfl (.inl rfl) (pe_callTy call_list_of rfl T.list (by decide +kernel) (pa_cons (pv 1) pa_nil)))
    (pss_cons (ps_set (i := 6) scDist.nd rfl (.inl rfl) pe_int)
    (pss_cons (ps_while PassesOwn.never (PW.pt (pw_and (pt_truth (pv 5) (fun _ => rfl)) (pw_and1 (pt_cmpR op_lt (pv 6) (pv 3) (nomark _)))))
      (pss_cons (ps_aug (i := 6) scDist.nd rfl (.inl rfl) pe_int ip_add (.inr rfl))
      (pss_cons (ps_set (i := 7) scDist.nd rfl (.inl rfl) (pe_lst pa_nil))
      (pss_cons (ps_for PassesOwn.never rfl (pi_list (pv 5)) (pg_name (i := 8) scDist.nd rfl (.inl rfl))
        (pss_one (ps_for PassesOwn.never rfl (pi_list (pe_ix ix_list (pv 0) (pv 8) (fun _ _ => rfl))) (pg_name (i := 9) scDist.nd rfl (.inl rfl))
          (pss_one (ps_if (PW.pt (pw_and (pt_cmpR op_ge (pv 9) (pv 2) (nomark _)) (pw_and1 (pt_cmp (pc_dnotin (Nat.lt_of_le_of_lt (Nat.add_le_add_left (by decide : 1 ≤ 64) _) hr.units) (pv 9) (pv 4))))))
            (pss_cons (ps_dput (Nat.lt_of_le_of_lt (Nat.add_le_add_left (by decide : 1 ≤ 64) _) hr.units) (pv 4) (pv 9) (pv 6) rfl)
            (pss_one (ps_expr (pe_bm PySem.F.plainAttrs_list PySem.F.slot_list_append PySem.F.type_list_append mt_append (pv 7) (pa_cons (pv 9) pa_nil))))) pss_nil)))))
      (pss_one (ps_set (i := 5) scDist.nd rfl (.inl rfl) (pv 7)))))))
    (pss_one (ps_ret (pv 4)))))), ?_⟩
  obtain ⟨x, y, B, rows, os, rfl, rfl, hx, hrw, hy, nd, hos, q⟩ := h
  obtain ⟨as, hB, las, each⟩ := hx
  have lk : ∀ {G : Hp} {pt : Int}, Same H G → 0 ≤ pt ∧ pt < (rows.length : Int) → ∃ (va : Addr) (l : List Int), atI (as.map V.ref) pt = some (.ref va) ∧ SqL K G va (l.map V.int) ∧ ∀ p, p ∈ l ↔ backE rows pt p := fun {G pt} sm hp => by
    obtain ⟨a, ha⟩ : ∃ a, as[pt.toNat]? = some a := ⟨_, List.getElem?_eq_getElem (by omega)⟩
    obtain ⟨bs, h1, h2⟩ := each _ a ha
    rw [show ((pt.toNat : Nat) : Int) = pt by omega] at h2
    exact ⟨a, bs, atI_at hp.1 (by rw [List.getElem?_map, ha]; rfl), sqL_same sm h1, h2⟩
  have rng : ∀ q p, backE rows q p → 0 ≤ p ∧ p < (rows.length : Int) := fun q p h => ⟨h.1, h.2.1⟩
  have lnk : ∀ {G : Hp}, Same H G → SqL K G B (as.map V.ref) := fun sm => sqL_same sm hB
  have hb : ∀ (j : Nat) (q : Int), Rk (inP os) (backE rows) j q → 0 ≤ q ∧ q < (rows.length : Int) := fun j q h => by
    cases j with
    | zero => exact hos q h
    | succ j =>
      obtain ⟨r, _, e⟩ := h
      exact rng r q e
  obtain ⟨ya, rfl, yat⟩ := ints_at hy
  have los := nodup_len rows.length os nd hos
  have hlen := hrw.len
  refine ⟨_, rfl, ya, rfl, ⟨_, yat⟩, fun F hF => ?_⟩
  refine dc_tup (xs := os.map V.int) (fun i G => Same H G ∧ G F = some (.dK ((os.take i).map fun p => (Sum.inl p, V.int 0)))) ⟨same_new hF _, upd_same⟩ (fun i G _ h => sqT_same h.1 yat) (fun i v G hv h => ?_) (fun G h => ?_)
  · obtain ⟨sm, hG⟩ := h
    obtain ⟨n, hn, rfl⟩ := ints_get hv
    have hi : i < os.length := (List.getElem?_eq_some_iff.mp hn).1
    have et : os.take (i + 1) = os.take i ++ [n] := by rw [List.take_add_one, hn]; rfl
    have nin : n ∉ os.take i := fun hm => by
      have nd' := List.Nodup.sublist (List.take_sublist (i + 1) os) nd
      rw [et] at nd'
      exact (List.nodup_append.mp nd').2.2 n hm n (by simp) rfl
    have hnew : valV ((os.take i).map fun p => ((Sum.inl p : Key), V.int 0)) (Sum.inl n) = none := by rw [val0, if_neg nin]
    refine ⟨rfl, yesG ⟨_, rfl, _, Sum.inl n, rfl, hG, Nat.lt_of_lt_of_le (show _ < 1000 by rw [List.length_map, List.length_take]; omega) (small (Nat.le_refl _)), same_upd sm hF, ?_⟩⟩
    rw [upd_same, putK_new _ hnew, et, List.map_append]
    rfl
  obtain ⟨sm, hG⟩ := h
  rw [List.length_map, List.take_length] at hG
  refine ⟨_, rfl, ya, _, rfl, .inr (sqT_same sm yat), fun ed hed => ?_⟩
  have n1 := same_new hed (.lst (os.map V.int))
  have far0 : FarTo (inP os) (backE rows) rows.length 0 (os.map fun p => (Sum.inl p, V.int 0)) := by
    refine ⟨fun p v e => ?_, fun p k hk d => ?_, os, by rw [List.map_map]; rfl, nd, hos⟩
    · rw [val0] at e
      by_cases z : p ∈ os
      · rw [if_pos z] at e
        cases e
        exact ⟨0, Nat.le_refl _, rfl, z, fun j hj => by omega⟩
      · rw [if_neg z] at e
        cases e
    · have e : k = 0 := by omega
      subst e
      rw [val0, if_pos (show p ∈ os from d.1)]
      rfl
  have fin : ∀ {G : Hp} {kvs : List (Key × V)} {st : Nat}, Same H G → G F = some (.dK kvs) → FarTo (inP os) (backE rows) rows.length st kvs → (∀ k p, Dk (inP os) (backE rows) k p → k ≤ st) → Q (.ref F) G := fun s1 h1 h2 h3 => q F _ _ s1 h1 (h2.ok h3)
  refine ⟨fun m σ G => ∃ (st : Nat) (ed : Addr) (es : List Int) (kvs : List (Key × V)) (o7 o8 o9 : Option V), m = rows.length - st ∧ σ = [some (.ref B), some (.ref ya), some (.int 0), some (.int (rows.length : Nat)), some (.ref F), some (.ref ed), some (.int (st : Nat)), o7, o8, o9] ∧ Same H G ∧ G F = some (.dK kvs) ∧ G ed = some (.lst (es.map V.int)) ∧ FarTo (inP os) (backE rows) rows.length st kvs ∧ es.Nodup ∧ ∀ p, p ∈ es ↔ Dk (inP os) (backE rows) st p,
    ⟨_, 0, ed, os, _, _, _, _, rfl, rfl, sm.trans n1, n1 _ _ hG, upd_same, far0, nd, fun p => ⟨fun z => ⟨z, fun j hj => (by omega)⟩, fun d => d.1⟩⟩, ?_⟩
  clear far0 n1 hed hG sm
  rintro m σ G ⟨st, ed, es, kvs, o7, o8, o9, rfl, rfl, sm, hGF, hGe, far, nde, hes⟩
  refine ⟨_, rfl, _, .inl ⟨_, SqL.of hGe, rfl⟩, ?_⟩
  cases hcs : es with
  | nil =>
    refine ifF rfl (ifF rfl ⟨_, rfl, fin sm hGF far fun k p d => ?_⟩)
    by_cases c : k ≤ st
    · exact c
    · obtain ⟨r, hr'⟩ := d.down (s := st) (by omega)
      have := (hes r).mpr hr'
      rw [hcs] at this
      cases this
  | cons e0 er =>
    rw [← hcs]
    refine ifT (by rw [hcs]; rfl) ⟨_, rfl, _, rfl, _, _, rfl, rfl, _, rfl, ?_⟩
    by_cases c : st < rows.length
    · refine ifT (decide_eq_true (by omega)) ⟨fun σ' G' => ∃ m', m' < rows.length - st ∧ ∃ (st : Nat) (ed : Addr) (es : List Int) (kvs : List (Key × V)) (o7 o8 o9 : Option V), m' = rows.length - st ∧ σ' = [some (.ref B), some (.ref ya), some (.int 0), some (.int (rows.length : Nat)), some (.ref F), some (.ref ed), some (.int (st : Nat)), o7, o8, o9] ∧ Same H G' ∧ G' F = some (.dK kvs) ∧ G' ed = some (.lst (es.map V.int)) ∧ FarTo (inP os) (backE rows) rows.length st kvs ∧ es.Nodup ∧ ∀ p, p ∈ es ↔ Dk (inP os) (backE rows) st p, fun σ' G' h => h, ?_⟩
      refine ⟨_, rfl, _, _, rfl, rfl, small (by show 0 ≤ 1000; decide), fun fr hfr => ?_⟩
      have n2 := same_new hfr (.lst [])
      have fr0 : H fr = none := none_same sm hfr
      have nF : F ≠ fr := ne_of_none hGF hfr
      have ne : ed ≠ fr := ne_of_none hGe hfr
      refine ⟨_, rfl, ed, rfl, ⟨_, SqL.of (n2 _ _ hGe)⟩, ?_⟩
      refine for_list (xs := es.map V.int) (fun i σ G => ∃ (o8 o9 : Option V) (kvs' : List (Key × V)) (fs : List Int), σ = [some (.ref B), some (.ref ya), some (.int 0), some (.int (rows.length : Nat)), some (.ref F), some (.ref ed), some (.int (st + 1 : Nat)), some (.ref fr), o8, o9] ∧ Same H G ∧ G F = some (.dK kvs') ∧ G ed = some (.lst (es.map V.int)) ∧ G fr = some (.lst (fs.map V.int)) ∧ MidTo (inP os) (backE rows) rows.length st kvs' fs ∧ ∀ q ∈ es.take i, ∀ p, (backE rows) q p → (valV kvs' (Sum.inl p)).isSome = true)
        ⟨_, _, kvs, [], rfl, sm.trans n2, n2 _ _ hGF, n2 _ _ hGe, upd_same, far.mid, fun q hq => by simp at hq⟩ (fun i σ G _ h => by obtain ⟨_, _, _, _, _, _, _, h3, _⟩ := h; exact SqL.of h3) (fun i v σ G hv h => ?_) (fun σ G h => ?_)
      · obtain ⟨o8, o9, kvs', fs, rfl, s1, g1, g2, g3, mid, cov⟩ := h
        obtain ⟨pt, hpt, rfl⟩ := ints_get hv
        have dpt := (hes pt).mp (List.mem_of_getElem? hpt)
        have rpt := hb st pt dpt.1
        obtain ⟨va, l, h1, h2, h3⟩ := lk s1 rpt
        obtain ⟨_, l0, h10, h20, h30⟩ := lk (Same.refl H) rpt
        rw [h1] at h10
        cases h10
        have hl0 : ∀ {G2 : Hp}, Same H G2 → SqL K G2 va (l0.map V.int) := fun s2 => sqL_same s2 h20
        refine ⟨_, rfl, _, rfl, B, _, pt, _, rfl, rfl, lnk s1, h1, va, rfl, ⟨_, hl0 s1⟩, ?_⟩
        refine for_list (xs := l0.map V.int) (fun j σ G => ∃ (o9 : Option V) (kvs' : List (Key × V)) (fs : List Int), σ = [some (.ref B), some (.ref ya), some (.int 0), some (.int (rows.length : Nat)), some (.ref F), some (.ref ed), some (.int (st + 1 : Nat)), some (.ref fr), some (.int pt), o9] ∧ Same H G ∧ G F = some (.dK kvs') ∧ G ed = some (.lst (es.map V.int)) ∧ G fr = some (.lst (fs.map V.int)) ∧ MidTo (inP os) (backE rows) rows.length st kvs' fs ∧ (∀ q ∈ es.take i, ∀ p, (backE rows) q p → (valV kvs' (Sum.inl p)).isSome = true) ∧ ∀ p ∈ l0.take j, (valV kvs' (Sum.inl p)).isSome = true)
          ⟨_, kvs', fs, rfl, s1, g1, g2, g3, mid, cov, fun p hp => by simp at hp⟩ (fun j σ G _ h => by obtain ⟨_, _, _, _, s2, _⟩ := h; exact hl0 s2) (fun j v σ G hv h => ?_) (fun σ G h => ?_)
        · obtain ⟨o9, kvs2, fs2, rfl, s2, g4, g5, g6, mid2, cov2, cov3⟩ := h
          obtain ⟨n, hn, rfl⟩ := ints_get hv
          have en := (h30 n).mp (List.mem_of_getElem? hn)
          have rn := rng pt n en
          have et : l0.take (j + 1) = l0.take j ++ [n] := by rw [List.take_add_one, hn]; rfl
          have lk2 := key_len mid2.keys
          have lf2 : fs2.length ≤ rows.length := nodup_len _ fs2 mid2.nd fun p hp => hb _ p (mid2.fsh p hp).1.1
          refine ⟨_, rfl, _, rfl, _, _, rfl, rfl, _, rfl, ifT (decide_eq_true (by omega)) ⟨_, rfl, _, rfl, F, _, rfl, DGet.k (k := Sum.inl n) g4, _, rfl, ?_⟩⟩
          cases hval : valV kvs2 (Sum.inl n) with
          | some u =>
            refine ifF rfl ⟨_, kvs2, fs2, rfl, s2, g4, g5, g6, mid2, cov2, fun p hp => ?_⟩
            rw [et] at hp
            rcases List.mem_append.mp hp with hp | hp
            · exact cov3 p hp
            · rw [List.mem_singleton.mp hp, hval]
              rfl
          | none =>
            have nFf : F ≠ fr := nF
            refine ifT rfl ⟨_, rfl, _, rfl, _, rfl, F, _, rfl, DPut.k (k := Sum.inl n) g4 (Nat.lt_of_lt_of_le (show kvs2.length < 1000 by omega) (small (Nat.le_refl _))), ?_⟩
            have g6' : (upd G F (.dK (putK kvs2 (Sum.inl n) (.int (st + 1 : Nat))))) fr = some (.lst (fs2.map V.int)) := by rw [upd_ne (Ne.symm nF)]; exact g6
            refine ⟨_, rfl, .inl ⟨rfl, _, SqL.of g6'⟩, _, rfl, fr, _, _, rfl, rfl, g6', Nat.lt_of_lt_of_le (show _ < 1000 by rw [List.length_map]; omega) (small (Nat.le_refl _)), ?_⟩
            have more : ∀ p, (valV kvs2 (Sum.inl p)).isSome = true → (valV (putK kvs2 (Sum.inl n) (.int (st + 1 : Nat))) (Sum.inl p)).isSome = true := fun p hp => by
              rw [valV_put]
              split
              · rfl
              · exact hp
            refine ⟨_, _, fs2 ++ [n], rfl, same_upd (same_upd s2 hF) fr0, by rw [upd_ne nF, upd_same], by rw [upd_ne ne, upd_ne (ne_of g5 g4 (fun z => nomatch z))]; exact g5, by rw [upd_same, List.map_append]; rfl, mid2.add hval dpt en rn, fun q hq p e => more p (cov2 q hq p e), fun p hp => ?_⟩
            rw [et] at hp
            rcases List.mem_append.mp hp with hp | hp
            · exact more p (cov3 p hp)
            · rw [List.mem_singleton.mp hp, valV_put, if_pos rfl]
              rfl
        · obtain ⟨o9, kvs2, fs2, rfl, s2, g4, g5, g6, mid2, cov2, cov3⟩ := h
          rw [List.length_map, List.take_length] at cov3
          refine ⟨_, _, kvs2, fs2, rfl, s2, g4, g5, g6, mid2, fun q hq p e => ?_⟩
          rw [List.take_add_one, hpt] at hq
          rcases List.mem_append.mp hq with hq | hq
          · exact cov2 q hq p e
          · rw [show q = pt by simpa using hq] at e
            exact cov3 p ((h30 p).mpr e)
      · obtain ⟨o8, o9, kvs', fs, rfl, s1, g1, g2, g3, mid, cov⟩ := h
        rw [List.length_map, List.take_length] at cov
        obtain ⟨far', iff⟩ := mid.fin fun q hq p e => cov q ((hes q).mpr hq) p e
        exact ⟨_, rfl, rows.length - (st + 1), by omega, st + 1, fr, fs, kvs', _, _, _, rfl, rfl, s1, g1, g3, far', mid.nd, iff⟩
    · refine ifF (decide_eq_false (by omega)) ⟨_, rfl, fin sm hGF far fun k p d => ?_⟩
      have := d.bound hb
      omega
end
/-! nearest, shortest -/
def NearOk (S : Int → Prop) (E : Int → Int → Prop) (ps : List Int) (r : V) : Prop :=
  (r = .non ∧ ∀ p ∈ ps, ∀ k, ¬ Dk S E k p) ∨ ∃ (b : Int) (k : Nat), r = .int b ∧ b ∈ ps ∧ Dk S E k b ∧ ∀ q ∈ ps, ∀ j, Dk S E j q → k < j ∨ (k = j ∧ b ≤ q)
section
variable {P : Program} {w : World} {K : PySem.W.Frag} {mg : Str → Option Value} {base : Heap} {f : Addr} {fd : FuncData}
def spNear (K : PySem.W.Frag) (S : Int → Prop) (E : Int → Int → Prop) : Sp := fun vs H Q _ => ∃ (x : V) (ps : List Int) (F : Addr) (kvs : List (Key × V)) (n : Nat), vs = [x, .ref F] ∧ Dp K H x (.tuple (ps.map .int)) ∧ ps.Pairwise (· < ·) ∧ H F = some (.dK kvs) ∧ FarOk S E n kvs ∧ ∀ r, NearOk S E ps r → Q r H
theorem scNear : FnScope ["points", "far", "best", "point"] ["points", "far"] (defScope sNear) := ⟨rfl, rfl, rfl, by decide +kernel, rfl, by decide +kernel, by decide +kernel⟩
theorem ok_near {k : Nat} {S : Int → Prop} {E : Int → Int → Prop} (F : Fun K "nearest" "nearest" sNear f fd) : FnOk P w K mg base CX0 (k + 1) f fd ["points", "far"] (spNear K S E) := by
  refine F.ok scNear (fun vs H Q E' h => ?_) (fun cdv A outer s H vs Q E' hr h => ?_)
  · obtain ⟨x, ps, F, kvs, n, rfl, _⟩ := h
    rfl
  obtain ⟨x, ps, F, kvs, n, rfl, hx, srt, hF, far, q⟩ := h
  have hu : (A.deeper (PyProof.Rows.envOfC "nearest" (defScope sNear) s.heap.objs.size f cdv)).units + 1 < cLine := Nat.lt_of_le_of_lt (Nat.add_le_add_left (by decide : 1 ≤ 64) _) hr.units
  refine ⟨_, pss_cons (ps_set (i := 2) scNear.nd rfl (.inl rfl) pe_non)
    (pss_cons (ps_for PassesOwn.never rfl (pi_tup (pv 0)) (pg_name (i := 3) scNear.nd rfl (.inl rfl))
      (pss_one (ps_if (PW.pt (pw_and (pt_cmp (pc_din hu (pv 3) (pv 1))) (pw_and1 (PW.pt (pw_or (pt_cmpR op_isN (pv 2) pe_non (nomark _)) (pw_or1 (pt_cmpR op_lt (pe_dget hu (pv 1) (pv 3) (fun _ _ => rfl)) (pe_dget hu (pv 1) (pv 2) (fun _ _ => rfl)) (nomark _))))))))
        (pss_one (ps_set (i := 2) scNear.nd rfl (.inl rfl) (pv 3))) pss_nil)))
    (pss_one (ps_ret (pv 2)))), ?_⟩
  obtain ⟨a, rfl, at_⟩ := ints_at hx
  refine ⟨_, rfl, a, rfl, ⟨_, at_⟩, ?_⟩
  refine for_tup (xs := ps.map V.int) (fun i σ G => ∃ (r : V) (o3 : Option V), σ = [some (.ref a), some (.ref F), some r, o3] ∧ G = H ∧ NearOk S E (ps.take i) r) ⟨.non, _, rfl, rfl, .inl ⟨rfl, fun p hp => by simp at hp⟩⟩ (fun i σ G _ h => by obtain ⟨_, _, _, rfl, _⟩ := h; exact at_) (fun i v σ G hv h => ?_) (fun σ G h => ?_)
  · obtain ⟨r, o3, rfl, rfl, hn⟩ := h
    obtain ⟨p, hp, rfl⟩ := ints_get hv
    have et : ps.take (i + 1) = ps.take i ++ [p] := by rw [List.take_add_one, hp]; rfl
    have less : ∀ b ∈ ps.take i, b < p := fun b hb => by
      have := srt.sublist (List.take_sublist (i + 1) ps)
      rw [et] at this
      exact (List.pairwise_append.mp this).2.2 b hb p (by simp)
    refine ⟨_, rfl, _, rfl, F, _, rfl, DGet.k (k := Sum.inl p) hF, _, rfl, ?_⟩
    have split2 : ∀ {Pq : Int → Prop}, (∀ q ∈ ps.take i, Pq q) → Pq p → ∀ q ∈ ps.take (i + 1), Pq q := fun h1 h2 q hq => by
      rw [et] at hq
      rcases List.mem_append.mp hq with hq | hq
      · exact h1 q hq
      · rw [List.mem_singleton.mp hq]
        exact h2
    cases hval : valV kvs (Sum.inl p) with
    | none =>
      refine ifF rfl (ifF rfl ⟨r, _, rfl, rfl, ?_⟩)
      have no : ∀ k, ¬ Dk S E k p := fun k d => by
        have := far.all p k d
        rw [hval] at this
        cases this
      rcases hn with ⟨e, h1⟩ | ⟨b, k, e, h1, h2, h3⟩
      · exact .inl ⟨e, split2 h1 no⟩
      · exact .inr ⟨b, k, e, by rw [et]; exact List.mem_append_left _ h1, h2, split2 h3 fun j d => absurd d (no j)⟩
    | some u =>
      obtain ⟨kp, rfl, dp⟩ := far.snd p u hval
      have mp : p ∈ ps.take (i + 1) := by rw [et]; simp
      rcases hn with ⟨e, h1⟩ | ⟨b, k, e, h1, h2, h3⟩
      · subst e
        refine ifT rfl ⟨_, rfl, rfl, _, rfl, ifT rfl (ifT rfl ⟨_, rfl, _, _, rfl, rfl, .inr ⟨p, kp, rfl, mp, dp, split2 (fun q hq j d => absurd d (h1 q hq j)) fun j d => .inr ⟨dp.uniq d, Int.le_refl _⟩⟩⟩)⟩
      · subst e
        have vb := far.all b k h2
        refine ifT rfl ⟨_, rfl, rfl, _, rfl, ifF rfl ⟨_, rfl, _, rfl, F, _, rfl, (by have g := DGet.k (k := Sum.inl p) hF; rw [hval] at g; exact g), _, rfl, _, rfl, F, _, rfl, (by have g := DGet.k (k := Sum.inl b) hF; rw [vb] at g; exact g), _, _, rfl, rfl, _, rfl, ?_⟩⟩
        by_cases c : kp < k
        · refine ifT (decide_eq_true (by omega)) ⟨_, rfl, _, _, rfl, rfl, .inr ⟨p, kp, rfl, mp, dp, split2 (fun q hq j d => ?_) fun j d => .inr ⟨dp.uniq d, Int.le_refl _⟩⟩⟩
          rcases h3 q hq j d with y | ⟨y, _⟩ <;> exact .inl (by omega)
        · refine ifF (decide_eq_false (by omega)) ⟨_, _, rfl, rfl, .inr ⟨b, k, rfl, by rw [et]; exact List.mem_append_left _ h1, h2, split2 h3 fun j d => ?_⟩⟩
          have := dp.uniq d
          have := less b h1
          by_cases c2 : k = kp
          · exact .inr ⟨by omega, by omega⟩
          · exact .inl (by omega)
  · obtain ⟨r, o3, rfl, rfl, hn⟩ := h
    rw [List.length_map, List.take_length] at hn
    exact ⟨_, rfl, q r hn⟩
def spShort (K : PySem.W.Frag) : Sp := fun vs H Q _ => ∃ (x : V) (rows : List (List Int)) (gs : List Int) (F : Addr) (kvs : List (Key × V)) (p0 : Int) (k0 : Nat), vs = [x, .ref F, .int p0] ∧ Dp K H x (chD rows) ∧ RwOk rows ∧ (∀ ns ∈ rows, ns.Pairwise (· < ·)) ∧ H F = some (.dK kvs) ∧ FarOk (inP gs) (backE rows) rows.length kvs ∧ (∀ g ∈ gs, 0 ≤ g ∧ g < (rows.length : Int)) ∧ Dk (inP gs) (backE rows) k0 p0 ∧
  ∀ (a : Addr) (ns : List Int) (H' : Hp), Same H H' → SqT K H' a ((p0 :: ns).map V.int) → Greedy rows gs k0 (p0 :: ns) → Q (.ref a) H'
theorem scShort : FnScope ["chart", "far", "point", "walk"] ["chart", "far", "point"] (defScope sShort) := ⟨rfl, rfl, rfl, by decide +kernel, rfl, by decide +kernel, by decide +kernel⟩
theorem ok_short {k : Nat} (F : Fun K "shortest" "shortest" sShort f fd) (T : Free mg) (cN : ∀ S E, Cal P w K mg base "nearest" k ["points", "far"] (spNear K S E)) : FnOk P w K mg base CX0 (k + 1) f fd ["chart", "far", "point"] (spShort K) := by
  refine F.ok scShort (fun vs H Q E' h => ?_) (fun cdv A outer s H vs Q E' hr h => ?_)
  · obtain ⟨x, rows, gs, F, kvs, p0, k0, rfl, _⟩ := h
    rfl
  obtain ⟨x, rows, gs, F, kvs, p0, k0, rfl, hx, hrw, srt, hF, far, hgs, d0, q⟩ := h
  have hu : (A.deeper (PyProof.Rows.envOfC "shortest" (defScope sShort) s.heap.objs.size f cdv)).units + 1 < cLine := Nat.lt_of_le_of_lt (Nat.add_le_add_left (by decide : 1 ≤ 64) _) hr.units
  refine ⟨_, pss_cons (ps_set (i := 3) scShort.nd rfl (.inl rfl) (pe_lst (pa_cons (pv 2) pa_nil)))
    (pss_cons (ps_while PassesOwn.never (pt_cmpR op_gt (pe_dget hu (pv 1) (pv 2) (fun _ _ => rfl)) pe_int (nomark _))
      (pss_cons (ps_set (i := 2) scShort.nd rfl (.inl rfl) (pe_cal (cN (inP gs) (backE rows)) hr rfl (pa_cons (pe_ix ix_tup (pv 0) (pv 2) (fun _ _ => rfl)) (pa_cons (pv 1) pa_nil))))
      (pss_one (ps_expr (pe_bm PySem.F.plainAttrs_list PySem.F.slot_list_append PySem.F.type_list_append mt_append (pv 3) (pa_cons (pv 2) pa_nil))))))
    (pss_one (ps_ret (pe_callTy call_tuple_of rfl T.tuple (by decide +kernel) (pa_cons (pv 3) pa_nil))))), ?_⟩
  cases hx with
  | @tup ca cs _ cat ceach =>
  have hlen := hrw.len
  have hb : ∀ (j : Nat) (q : Int), Rk (inP gs) (backE rows) j q → 0 ≤ q ∧ q < (rows.length : Int) := fun j q h => by
    cases j with
    | zero => exact hgs q h
    | succ j =>
      obtain ⟨r, _, e⟩ := h
      exact ⟨e.1, e.2.1⟩
  have l0 := d0.bound hb
  refine ⟨_, rfl, small (by show 1 ≤ 1000; decide), fun wa hwa => ?_⟩
  have n1 := same_new hwa (.lst [.int p0])
  refine ⟨fun m σ G => ∃ (pt : Int) (k : Nat) (pre : List Int), m = k ∧ σ = [some (.ref ca), some (.ref F), some (.int pt), some (.ref wa)] ∧ Same H G ∧ G wa = some (.lst ((pre ++ [pt]).map V.int)) ∧ Dk (inP gs) (backE rows) k pt ∧ pre.length + k = k0 ∧ ∀ r, Greedy rows gs k (pt :: r) → ∃ t, p0 :: t = pre ++ pt :: r ∧ Greedy rows gs k0 (p0 :: t),
    ⟨_, p0, k0, [], rfl, rfl, n1, upd_same, d0, by simp, fun r h => ⟨r, rfl, h⟩⟩, ?_⟩
  rintro m σ G ⟨pt, _, pre, rfl, rfl, sm, hG, dk, lp, ext⟩
  have vp := far.all pt m dk
  have hFG := sm _ _ hF
  refine ⟨_, rfl, _, rfl, F, _, rfl, (by have g := DGet.k (k := Sum.inl pt) hFG; rw [vp] at g; exact g), _, _, rfl, rfl, _, rfl, ?_⟩
  cases m with
  | zero =>
    refine ifF rfl ⟨_, rfl, wa, _, rfl, .inl ⟨SqL.of hG, fun l hl => ?_⟩⟩
    obtain ⟨t, e, g⟩ := ext [] dk.1
    have nl := same_new hl (.tup ((pre ++ [pt]).map V.int))
    exact q l t _ (sm.trans nl) (by rw [e]; exact SqT.of upd_same) g
  | succ k =>
    refine ifT (decide_eq_true (by omega)) ⟨fun σ' G' => ∃ m', m' < k + 1 ∧ ∃ (pt : Int) (k : Nat) (pre : List Int), m' = k ∧ σ' = [some (.ref ca), some (.ref F), some (.int pt), some (.ref wa)] ∧ Same H G' ∧ G' wa = some (.lst ((pre ++ [pt]).map V.int)) ∧ Dk (inP gs) (backE rows) k pt ∧ pre.length + k = k0 ∧ ∀ r, Greedy rows gs k (pt :: r) → ∃ t, p0 :: t = pre ++ pt :: r ∧ Greedy rows gs k0 (p0 :: t), fun σ' G' h => h, ?_⟩
    have rp := hb _ pt dk.1
    have hr' := List.getElem?_eq_getElem (show pt.toNat < rows.length by omega)
    generalize rows[pt.toNat] = row at hr'
    obtain ⟨b, hb', bat⟩ := ch_row ceach hr'
    have hra : rowAt rows pt = row := by
      unfold rowAt
      rw [List.getD_eq_getElem?_getD, hr']
      rfl
    refine ⟨_, rfl, _, rfl, ca, cs, pt, _, rfl, rfl, sqT_same sm cat, atI_at rp.1 hb', _, rfl, .ref b, row, F, kvs, rows.length, rfl, .tup (sqT_same sm bat) (dp_ints row), srt row (List.mem_of_getElem? hr'), hFG, far, fun r hn => ?_⟩
    obtain ⟨q0, hq0, e0⟩ := dk.pred
    have q0r : q0 ∈ row := by rw [← hra]; exact e0.2.2
    rcases hn with ⟨_, no⟩ | ⟨b', kb, rfl, mb, db, min⟩
    · exact absurd hq0 (no q0 q0r k)
    · have ek : kb = k := by
        rcases min q0 q0r k hq0 with y | ⟨y, _⟩
        · exact absurd (show Rk (inP gs) (backE rows) (kb + 1) pt from ⟨b', db.1, rp.1, rp.2, by rw [hra]; exact mb⟩) (dk.2 (kb + 1) (by omega))
        · exact y
      subst ek
      refine ⟨_, rfl, .inl ⟨rfl, _, SqL.of hG⟩, _, rfl, wa, _, _, rfl, rfl, hG, Nat.lt_of_lt_of_le (show _ < 1000 by rw [List.length_map, List.length_append]; show _ + 1 < _; omega) (small (Nat.le_refl _)), kb, Nat.lt_succ_self _, b', kb, pre ++ [pt], rfl, rfl, same_upd sm hwa, by rw [upd_same, List.map_append, List.map_append, List.map_append]; rfl, db, by rw [List.length_append]; show _ + 1 + _ = _; omega, fun r g => ?_⟩
      obtain ⟨t, e, g'⟩ := ext (b' :: r) ⟨dk, by rw [hra]; exact mb, fun x hx dx => by
        rcases min x (by rw [← hra]; exact hx) kb dx with y | ⟨_, y⟩
        · omega
        · exact y, g⟩
      exact ⟨t, by rw [e, List.append_assoc]; rfl, g'⟩
end
/-! paper -/
def PapD (rows : List (List Int)) (ss gs : List Int) (d : PyData) : Prop :=
  (∃ ns, d = .tuple [.str "way", .tuple (ns.map .int)] ∧ LeastW rows ss gs ns) ∨
  (∃ ms : List Int, d = .tuple [.str "bar", .tuple (ms.map .int)] ∧ (∀ ns, ¬ WayP rows ss gs ns) ∧ ms.Pairwise (· < ·) ∧ ∀ p, p ∈ ms ↔ ∃ k, Rk (inP ss) (foreE rows) k p)
/-- a case that is one -/
structure CasP (K : PySem.W.Frag) (H : Hp) (x y z : V) (rows : List (List Int)) (ss gs : List Int) : Prop where
  ch : Dp K H x (chD rows)
  rw : RwOk rows
  srt : ∀ ns ∈ rows, ns.Pairwise (· < ·)
  cd : chartD (chD rows) = true
  st : Dp K H y (.tuple (ss.map .int))
  sd : pointsD rows.length (.tuple (ss.map .int)) = true
  go : Dp K H z (.tuple (gs.map .int))
  gd : pointsD rows.length (.tuple (gs.map .int)) = true
theorem CasP.ext {K : PySem.W.Frag} {H H' : Hp} {x y z : V} {rows : List (List Int)} {ss gs : List Int} (c : CasP K H x y z rows ss gs) (e : LamX.ExtN H H') : CasP K H' x y z rows ss gs :=
  ⟨dp_ext e _ _ c.ch, c.rw, c.srt, c.cd, dp_ext e _ _ c.st, c.sd, dp_ext e _ _ c.go, c.gd⟩
theorem pd_law {n : Nat} {ns : List Int} (h : pointsD n (.tuple (ns.map .int)) = true) : ns.Pairwise (· < ·) ∧ ∀ i ∈ ns, 0 ≤ i ∧ i < (n : Int) := (pts_law ns 0).mp h
section
variable {P : Program} {w : World} {K : PySem.W.Frag} {mg : Str → Option Value} {base : Heap} {f : Addr} {fd : FuncData}
def spPaper (K : PySem.W.Frag) (PT : List Addr) : Sp := fun vs H Q _ => ∃ (x y z : V) (rows : List (List Int)) (ss gs : List Int), vs = [x, y, z] ∧ CasP K H x y z rows ss gs ∧ TabsG PT H ∧ ∀ v d H', LamX.ExtN H H' → TabsG PT H' → Dp K H' v d → PapD rows ss gs d → Q v H'
theorem scPaper : FnScope ["chart", "starts", "goals", "far", "start"] ["chart", "starts", "goals"] (defScope sPaper) := ⟨rfl, rfl, rfl, by decide +kernel, rfl, by decide +kernel, by decide +kernel⟩
theorem ok_paper {k : Nat} {PT : List Addr} (F : Fun K "paper" "paper" sPaper f fd) (T : Free mg) (hSo : mg "sorted" = none) (cC : Cal P w K mg base "check_case" k ["chart", "starts", "goals"] (spCheckCase K PT)) (cB : Cal P w K mg base "befores_of" k ["chart"] (spBef K)) (cDT : Cal P w K mg base "distances" k ["links", "origins", "least", "most"] (spDistT K)) (cDL : Cal P w K mg base "distances" k ["links", "origins", "least", "most"] (spDistL K))
    (cN : ∀ S E, Cal P w K mg base "nearest" k ["points", "far"] (spNear K S E)) (cS : Cal P w K mg base "shortest" k ["chart", "far", "point"] (spShort K)) : FnOk P w K mg base CX0 (k + 1) f fd ["chart", "starts", "goals"] (spPaper K PT) := by
  refine F.ok scPaper (fun vs H Q E' h => ?_) (fun cdv A outer s H vs Q E' hr h => ?_)
  · obtain ⟨x, y, z, rows, ss, gs, rfl, _⟩ := h
    rfl
  obtain ⟨x, y, z, rows, ss, gs, rfl, ca, tb, q⟩ := h
  refine ⟨_, pss_cons (ps_expr (pe_cal cC hr rfl (pa_cons (pv 0) (pa_cons (pv 1) (pa_cons (pv 2) pa_nil)))))
    (pss_cons (ps_set (i := 3) scPaper.nd rfl (.inl rfl) (pe_cal cDL hr rfl (pa_cons (pe_cal cB hr rfl (pa_cons (pv 0) pa_nil)) (pa_cons (pv 2) (pa_cons pe_int (pa_cons (pe_callB call_len_seq rfl T.len PySem.boot_len (pa_cons (pv 0) pa_nil)) pa_nil))))))
    (pss_cons (ps_set (i := 4) scPaper.nd rfl (.inl rfl) (pe_cal (cN (inP gs) (backE rows)) hr rfl (pa_cons (pv 1) (pa_cons (pv 3) pa_nil))))
    (pss_cons (ps_if (pt_cmpR op_isN (pv 4) pe_non (nomark _)) (pss_one (ps_ret (pe_tup (pa_cons pe_str (pa_cons (pe_callTy call_tuple_of rfl T.tuple (by decide +kernel) (pa_cons (pe_callB (call_sortedDI rfl) rfl hSo (by decide +kernel) (pa_cons (pe_cal cDT hr rfl (pa_cons (pv 0) (pa_cons (pv 1) (pa_cons pe_int (pa_cons (pe_callB call_len_seq rfl T.len PySem.boot_len (pa_cons (pv 0) pa_nil)) pa_nil))))) pa_nil)) pa_nil)) pa_nil))))) pss_nil)
    (pss_one (ps_ret (pe_tup (pa_cons pe_str (pa_cons (pe_cal cS hr rfl (pa_cons (pv 0) (pa_cons (pv 3) (pa_cons (pv 4) pa_nil)))) pa_nil)))))))), ?_⟩
  have lr : ((rows.map fun ns => PyData.tuple (ns.map .int)).length : Int) = rows.length := by rw [List.length_map]
  refine ⟨_, rfl, _, rfl, _, rfl, x, y, z, _, _, _, rfl, ca.ch, ca.st, ca.go, ca.cd, by rw [lr]; exact ca.sd, by rw [lr]; exact ca.gd, tb, fun H1 e1 t1 => ?_⟩
  have c1 := ca.ext e1
  obtain ⟨psS, rgS⟩ := pd_law ca.sd
  obtain ⟨psG, rgG⟩ := pd_law ca.gd
  have ndS : ss.Nodup := psS.imp fun h e => by omega
  have ndG : gs.Nodup := psG.imp fun h e => by omega
  have hlen := ca.rw.len
  have hr : ∀ a b, b ∈ rowAt rows a → 0 ≤ a → 0 ≤ b ∧ b < (rows.length : Int) := fun a b h h0 => by
    unfold rowAt at h
    rw [List.getD_eq_getElem?_getD] at h
    cases e : rows[a.toNat]? with
    | none => rw [e] at h; cases h
    | some row =>
      rw [e] at h
      exact (ca.rw.row row (List.mem_of_getElem? e)).2 b h
  obtain ⟨xa, cs, rfl, cat, lc⟩ : ∃ xa cs, x = .ref xa ∧ SqT K H1 xa cs ∧ cs.length = rows.length := by
    have hch := c1.ch
    cases hch with
    | @tup a cs _ at_ each => exact ⟨a, cs, rfl, at_, by have := dpAll_len each; rw [List.length_map] at this; exact this⟩
  refine ⟨_, rfl, .ref xa, rows, rfl, c1.ch, ca.rw, fun B H2 s2 hB => ?_⟩
  have c2 := c1.ext (ext_same s2)
  refine ⟨_, rfl, _, rfl, xa, cs, rfl, .inr (sqT_same s2 cat), ?_⟩
  rw [lc]
  refine ⟨.ref B, z, B, rows, gs, rfl, rfl, hB, ca.rw, c2.go, ndG, rgG, fun F kvs H3 s3 hF far => ?_⟩
  have c3 := c2.ext (ext_same s3)
  have t3 := (t1.same s2).same s3
  have e3 := e1.trans ((ext_same s2).trans (ext_same s3))
  refine ⟨_, rfl, _, rfl, y, ss, F, kvs, rows.length, rfl, c3.st, psS, hF, far, fun r hn => ?_⟩
  rcases hn with ⟨rfl, no⟩ | ⟨b, kb, rfl, mb, db, min⟩
  · refine ⟨_, rfl, rfl, _, rfl, ifT rfl ?_⟩
    refine ⟨_, rfl, _, rfl, _, rfl, xa, cs, rfl, .inr (sqT_same (s2.trans s3) cat), ?_⟩
    rw [lc]
    refine ⟨.ref xa, y, rows, ss, rfl, c3.ch, ca.rw, c3.st, ndS, rgS, fun F4 kvs4 H4 s4 hF4 far4 => ?_⟩
    obtain ⟨ks, k1, k2, k3⟩ := far4.keys
    have lks := nodup_len rows.length ks k2 k3
    refine ⟨F4, kvs4, ks, rfl, .inl hF4, k1, by omega, fun ys p5 perm srt f5 => ?_⟩
    refine ⟨p5, _, rfl, .inl ⟨SqL.of upd_same, fun p6 f6 => ⟨small (by show 2 ≤ 1000; decide), fun p7 f7 => ?_⟩⟩⟩
    have n5 := same_new f5 (.lst (ys.map V.int))
    have n6 := same_new f6 (.tup (ys.map V.int))
    have n7 := same_new f7 (.tup [.str "bar", .ref p6])
    have sA := s4.trans (n5.trans (n6.trans n7))
    refine q _ (.tuple [.str "bar", .tuple (ys.map .int)]) _ (e3.trans (ext_same sA)) (t3.same sA) (.tup (SqT.of upd_same) (.cons (.str _) (.cons (.tup (sqT_same n7 (SqT.of upd_same)) (dp_ints ys)) .nil))) (.inr ⟨ys, rfl, fun ns hw => ?_, ?_, fun p => ?_⟩)
    · obtain ⟨⟨s0, r0, rfl, hs0⟩, he, hc⟩ := hw
      obtain ⟨j, _, d⟩ := (way_far hr r0 s0 (rgS s0 hs0) hc he).ex
      exact no s0 hs0 j d
    · have ndy : ys.Nodup := perm.nodup_iff.mpr k2
      refine List.Pairwise.imp₂ ?_ srt ndy
      exact fun a b h1 h2 => by omega
    · rw [perm.mem_iff]
      constructor
      · intro hp
        have hm : (Sum.inl p : Key) ∈ kvs4.map (·.1) := by rw [k1]; exact List.mem_map.mpr ⟨p, hp, rfl⟩
        obtain ⟨kv, m1, m2⟩ := List.mem_map.mp hm
        have zz : (kvs4.any fun kv => decide (kv.1 = (Sum.inl p : Key))) = true := List.any_eq_true.mpr ⟨kv, m1, decide_eq_true m2⟩
        rw [valV_any] at zz
        obtain ⟨v, hv⟩ := Option.isSome_iff_exists.mp zz
        obtain ⟨j, _, d⟩ := far4.snd p v hv
        exact ⟨j, d.1⟩
      · rintro ⟨j, hj⟩
        obtain ⟨i, _, d⟩ := hj.ex
        have hv := far4.all p i d
        have zz : (kvs4.any fun kv => decide (kv.1 = (Sum.inl p : Key))) = true := by rw [valV_any, hv]; rfl
        obtain ⟨kv, m1, m2⟩ := List.any_eq_true.mp zz
        have hm : (Sum.inl p : Key) ∈ kvs4.map (·.1) := List.mem_map.mpr ⟨kv, m1, of_decide_eq_true m2⟩
        rw [k1] at hm
        obtain ⟨p', hp', e⟩ := List.mem_map.mp hm
        rw [← Sum.inl.inj e]
        exact hp'
  · refine ⟨_, rfl, rfl, _, rfl, ifF rfl ?_⟩
    refine ⟨_, rfl, _, rfl, _, rfl, .ref xa, rows, gs, F, kvs, b, kb, rfl, c3.ch, ca.rw, ca.srt, hF, far, rgG, db, fun a ns H4 s4 ha g => ⟨small (by show 2 ≤ 1000; decide), fun p7 f7 => ?_⟩⟩
    have n7 := same_new f7 (.tup [.str "way", .ref a])
    have sA := s4.trans n7
    exact q _ (.tuple [.str "way", .tuple ((b :: ns).map .int)]) _ (e3.trans (ext_same sA)) (t3.same sA) (.tup (SqT.of upd_same) (.cons (.str _) (.cons (.tup (sqT_same n7 ha) (dp_ints _)) .nil))) (.inl ⟨b :: ns, rfl, least_of hr rgS mb db min g⟩)
end
/-! _law_layers -/
def LayAt (K : PySem.W.Frag) (H : Hp) (L : Addr) (rows : List (List Int)) (bs : List Int) : Prop := ∃ as : List Addr, H L = some (.lst (as.map V.ref)) ∧ as.length ≤ rows.length + 1 ∧ (∀ (i : Nat) a, as[i]? = some a → ∃ ls : List Int, H a = some (.lst (ls.map V.int)) ∧ ls.Nodup ∧ ∀ p, p ∈ ls ↔ Dk (inP bs) (foreE rows) i p) ∧ ∀ k p, Dk (inP bs) (foreE rows) k p → k < as.length
theorem refs_ne {G : Hp} {L a : Addr} {as : List Addr} {ls : List Int} (h0 : 0 < as.length) (hL : G L = some (.lst (as.map V.ref))) (ha : G a = some (.lst (ls.map V.int))) : a ≠ L := fun e => by
  rw [e, hL] at ha
  have ha := Option.some.inj ha
  injection ha with ha
  cases as with
  | nil => cases h0
  | cons b r =>
    cases ls with
    | nil => cases ha
    | cons n s =>
      rw [List.map_cons, List.map_cons, List.cons.injEq] at ha
      cases ha.1
section
variable {P : Program} {w : World} {K : PySem.W.Frag} {mg : Str → Option Value} {base : Heap} {f : Addr} {fd : FuncData}
def spLay (K : PySem.W.Frag) : Sp := fun vs H Q _ => ∃ (x y : V) (rows : List (List Int)) (bs : List Int), vs = [x, y] ∧ Dp K H x (chD rows) ∧ RwOk rows ∧ (∀ ns ∈ rows, ns.Nodup) ∧ Dp K H y (.tuple (bs.map .int)) ∧ bs.Nodup ∧ (∀ o ∈ bs, 0 ≤ o ∧ o < (rows.length : Int)) ∧
  ∀ L H', Same H H' → LayAt K H' L rows bs → Q (.ref L) H'
abbrev laN : List Str := ["_law_web", "_law_begins", "_law_layers_here", "_law_met", "_law_more", "_law_point", "_law_to"]
theorem scLay : FnScope laN ["_law_web", "_law_begins"] (defScope sLayers) := ⟨rfl, rfl, rfl, by decide +kernel, rfl, by decide +kernel, by decide +kernel⟩
set_option maxHeartbeats 1000000 in
theorem ok_lay {k : Nat} (F : Fun K "_law_layers" "_law_layers" sLayers f fd) (T : Free mg) : FnOk P w K mg base CX0 (k + 1) f fd ["_law_web", "_law_begins"] (spLay K) := by
  refine F.ok scLay (fun vs H Q E' h => ?_) (fun cdv A outer s H vs Q E' hr h => ?_)
  · obtain ⟨x, y, rows, bs, rfl, _⟩ := h
    rfl
  obtain ⟨x, y, rows, bs, rfl, hx, hrw, hnd, hy, nd, hbs, q⟩ := h
  refine ⟨_, pss_cons (ps_asg (pe_tup (pa_cons (pe_lst (pa_cons (pe_callTy call_list_of rfl T.list (by decide +kernel) (pa_cons (pv 1) pa_nil)) pa_nil)) (pa_cons (pe_callTy call_list_of rfl T.list (by decide +kernel) (pa_cons (pv 1) pa_nil)) pa_nil)))
      (pg_tup rfl (pgs_cons (pg_name (i := 2) scLay.nd rfl (.inl rfl)) (pgs_cons (pg_name (i := 3) scLay.nd rfl (.inr rfl)) pgs_nil))))
    (pss_cons (ps_while PassesOwn.never (pt_cmpR (op_neLE hr.units) (pe_ix ix_list (pv 2) (pe_un un_neg pe_int) (fun _ _ => rfl)) (pe_lst pa_nil) (nomark _))
      (pss_cons (ps_set (i := 4) scLay.nd rfl (.inr rfl) (pe_lst pa_nil))
      (pss_cons (ps_for PassesOwn.never rfl (pi_list (pe_ix ix_list (pv 2) (pe_un un_neg pe_int) (fun _ _ => rfl))) (pg_name (i := 5) scLay.nd rfl (.inl rfl))
        (pss_one (ps_set (i := 4) scLay.nd rfl (.inr rfl) (pe_op op_cat (pv 4) (pe_lc (own := [("_law_to", 6)]) (g := gName 6) (tt := tAnd (tTest (tOp (rIn K true) (tVar 6) (tVar 3))) (tTest (tOp (rIn K true) (tVar 6) (tVar 4)))) (te := tVar 6) rfl scLay.nd (pi_tup (pe_ix ix_tup (pv 0) (pv 5) (fun _ _ => rfl)))
          (blkOk_by (own := [("_law_to", 6)]) (N := laN) (sc := defScope sLayers) (by decide +kernel))
          (fun _ _ _ _ _ => pg_name (i := 6) scLay.nd rfl (Or.inl rfl)) (fun _ _ _ _ _ => pts_one (PW.pt (pw_and (pt_cmpR op_notIn_seq (pv 6) (pv 3) rfl) (pw_and1 (pt_cmpR op_notIn_seq (pv 6) (pv 4) rfl))))) (fun _ _ _ _ _ => pv 6))))))
      (pss_cons (ps_set (i := 3) scLay.nd rfl (.inr rfl) (pe_op op_cat (pv 3) (pv 4)))
      (pss_one (ps_expr (pe_bm PySem.F.plainAttrs_list PySem.F.slot_list_append PySem.F.type_list_append mt_append (pv 2) (pa_cons (pv 4) pa_nil))))))))
    (pss_one (ps_ret (pv 2)))), ?_⟩
  obtain ⟨ya, rfl, yat⟩ := ints_at hy
  cases hx with
  | @tup ca cs _ cat ceach =>
  have hlen := hrw.len
  have lbs := nodup_len rows.length bs nd hbs
  have rng : ∀ q p, foreE rows q p → 0 ≤ p ∧ p < (rows.length : Int) := fun q p h => by
    have hr' := List.getElem?_eq_getElem (show q.toNat < rows.length by omega)
    have h2 := h.2.2
    unfold rowAt at h2
    rw [List.getD_eq_getElem?_getD, hr'] at h2
    exact (hrw.row _ (List.getElem_mem _)).2 p h2
  have hb : ∀ (j : Nat) (q : Int), Rk (inP bs) (foreE rows) j q → 0 ≤ q ∧ q < (rows.length : Int) := fun j q h => by
    cases j with
    | zero => exact hbs q h
    | succ j =>
      obtain ⟨r, _, e⟩ := h
      exact rng r q e
  refine ⟨_, rfl, ya, _, rfl, .inr yat, fun p1 f1 => ⟨small (by show 1 ≤ 1000; decide), fun L fL => ?_⟩⟩
  have n1 := same_new f1 (.lst (bs.map V.int))
  have nL := same_new fL (.lst [V.ref p1])
  refine ⟨_, rfl, ya, _, rfl, .inr (sqT_same (n1.trans nL) yat), fun p2 f2 => ⟨small (by show 2 ≤ 1000; decide), fun p3 f3 => ⟨p3, _, rfl, SqT.of upd_same, rfl, _, _, rfl, _, _, rfl, rfl, ?_⟩⟩⟩
  have n2 := same_new f2 (.lst (bs.map V.int))
  have n3 := same_new f3 (.tup [V.ref L, V.ref p2])
  have L0 : H L = none := none_same n1 fL
  refine ⟨fun m σ G => ∃ (as : List Addr) (met : List Int) (pm : Addr) (o4 o5 o6 : Option V), m = rows.length + 1 - as.length ∧ 0 < as.length ∧ as.length ≤ rows.length + 1 ∧ σ = [some (.ref ca), some (.ref ya), some (.ref L), some (.ref pm), o4, o5, o6] ∧ Same H G ∧ G L = some (.lst (as.map V.ref)) ∧ G pm = some (.lst (met.map V.int)) ∧ met.Nodup ∧ (∀ p, p ∈ met ↔ ∃ j, j < as.length ∧ Dk (inP bs) (foreE rows) j p) ∧ ∀ (i : Nat) a, as[i]? = some a → ∃ ls : List Int, G a = some (.lst (ls.map V.int)) ∧ ls.Nodup ∧ ∀ p, p ∈ ls ↔ Dk (inP bs) (foreE rows) i p,
    ⟨_, [p1], bs, p2, _, _, _, rfl, by simp, by simp, rfl, n1.trans (nL.trans (n2.trans n3)), (n2.trans n3) _ _ upd_same, n3 _ _ upd_same, nd, fun p => ?_, fun i a ha => ?_⟩, ?_⟩
  · constructor
    · intro hp
      exact ⟨0, by simp, hp, fun j hj => by omega⟩
    · rintro ⟨j, hj, d⟩
      have e : j = 0 := by
        simp only [List.length_cons, List.length_nil] at hj
        omega
      subst e
      exact d.1
  · have ei : i = 0 := by
      have := (List.getElem?_eq_some_iff.mp ha).1
      simp only [List.length_cons, List.length_nil] at this
      omega
    subst ei
    cases ha
    exact ⟨bs, (nL.trans (n2.trans n3)) _ _ upd_same, nd, fun p => ⟨fun hp => ⟨hp, fun j hj => by omega⟩, fun d => d.1⟩⟩
  clear n3 n2 nL n1
  rintro m σ G ⟨as, met, pm, o4, o5, o6, rfl, l0, l1, rfl, sm, hL, hM, ndM, iffM, each⟩
  obtain ⟨la, hla⟩ : ∃ a, as[as.length - 1]? = some a := ⟨_, List.getElem?_eq_getElem (by omega)⟩
  obtain ⟨ls, hls, ndl, iffl⟩ := each _ la hla
  have lastA : atI (as.map V.ref) (-1) = some (.ref la) := atI_last (by rw [List.length_map]; exact l0) (by rw [List.length_map, List.getElem?_map, hla]; rfl)
  refine ⟨_, rfl, _, rfl, L, _, -1, _, rfl, rfl, SqL.of hL, lastA, small (by show 0 ≤ 1000; decide), fun p4 f4 => ?_⟩
  have n4 := same_new f4 (.lst [])
  refine ⟨la, p4, _, rfl, rfl, SqL.of (n4 _ _ hls), SqL.of upd_same, _, rfl, ?_⟩
  have lmet := nodup_len rows.length met ndM fun p hp => by
    obtain ⟨j, _, d⟩ := (iffM p).mp hp
    exact hb j p d.1
  cases hcl : ls with
  | nil =>
    refine ifF rfl ⟨_, rfl, q L _ (sm.trans n4) ⟨as, n4 _ _ hL, l1, fun i a ha => ?_, fun k p d => ?_⟩⟩
    · obtain ⟨l', h1, h2⟩ := each i a ha
      exact ⟨l', n4 _ _ h1, h2⟩
    · by_cases c : k < as.length
      · exact c
      · obtain ⟨r, hr'⟩ := d.down (s := as.length - 1) (by omega)
        have := (iffl r).mpr hr'
        rw [hcl] at this
        cases this
  | cons e0 er =>
    have hne : 0 < ls.length := by rw [hcl]; simp
    rw [← hcl]
    have llt : as.length - 1 < rows.length := ((iffl e0).mp (by rw [hcl]; exact List.mem_cons_self)).bound hb
    refine ifT (by rw [hcl]; rfl) ⟨fun σ' G' => ∃ m', m' < rows.length + 1 - as.length ∧ ∃ (as : List Addr) (met : List Int) (pm : Addr) (o4 o5 o6 : Option V), m' = rows.length + 1 - as.length ∧ 0 < as.length ∧ as.length ≤ rows.length + 1 ∧ σ' = [some (.ref ca), some (.ref ya), some (.ref L), some (.ref pm), o4, o5, o6] ∧ Same H G' ∧ G' L = some (.lst (as.map V.ref)) ∧ G' pm = some (.lst (met.map V.int)) ∧ met.Nodup ∧ (∀ p, p ∈ met ↔ ∃ j, j < as.length ∧ Dk (inP bs) (foreE rows) j p) ∧ ∀ (i : Nat) a, as[i]? = some a → ∃ ls : List Int, G' a = some (.lst (ls.map V.int)) ∧ ls.Nodup ∧ ∀ p, p ∈ ls ↔ Dk (inP bs) (foreE rows) i p, fun σ' G' h => h, ?_⟩
    refine ⟨small (by show 0 ≤ 1000; decide), fun p5 f5 => ?_⟩
    have n5 := same_new f5 (.lst [])
    have n45 := n4.trans n5
    refine ⟨_, rfl, _, rfl, L, _, -1, _, rfl, rfl, SqL.of (n45 _ _ hL), lastA, la, rfl, ⟨_, SqL.of (n45 _ _ hls)⟩, ?_⟩
    have hat5 : (upd (upd G p4 (.lst [])) p5 (.lst [])) p5 = some (.lst ([] : List V)) := upd_same
    generalize upd (upd G p4 (.lst [])) p5 (.lst []) = G5 at n45 hat5
    refine for_list (xs := ls.map V.int) (fun j σ G' => ∃ (pw : Addr) (o5 o6 : Option V) (more : List Int), σ = [some (.ref ca), some (.ref ya), some (.ref L), some (.ref pm), some (.ref pw), o5, o6] ∧ Same G5 G' ∧ G' pw = some (.lst (more.map V.int)) ∧ more.Nodup ∧ (∀ p ∈ more, Dk (inP bs) (foreE rows) as.length p) ∧ ∀ q ∈ ls.take j, ∀ p, foreE rows q p → p ∈ met ∨ p ∈ more)
      ⟨p5, _, _, [], rfl, Same.refl _, hat5, List.nodup_nil, (fun p hp => by cases hp), fun q hq => (by simp at hq)⟩ (fun j σ G' _ h => by obtain ⟨_, _, _, _, _, s1, _⟩ := h; exact SqL.of ((n45.trans s1) _ _ hls)) (fun j v σ G' hv h => ?_) (fun σ G' h => ?_)
    · obtain ⟨pw, o5, o6, more, rfl, s1, hpw, ndm, dkm, cov⟩ := h
      obtain ⟨pt, hpt, rfl⟩ := ints_get hv
      have dpt := (iffl pt).mp (List.mem_of_getElem? hpt)
      have rpt := hb _ pt dpt.1
      have hr' := List.getElem?_eq_getElem (show pt.toNat < rows.length by omega)
      generalize rows[pt.toNat] = row at hr'
      obtain ⟨b, hb', bat⟩ := ch_row ceach hr'
      have hrm := List.mem_of_getElem? hr'
      have hra : rowAt rows pt = row := by
        unfold rowAt
        rw [List.getD_eq_getElem?_getD, hr']
        rfl
      have hrow := hrw.row row hrm
      have sG := (sm.trans n45).trans s1
      have lmore := nodup_len rows.length more ndm fun p hp => hb _ p (dkm p hp).1
      refine ⟨_, rfl, lc_fil (row := row) (σ := [some (.ref ca), some (.ref ya), some (.ref L), some (.ref pm), some (.ref pw), some (.int pt), o6]) (fun n => !decide (n ∈ met) && !decide (n ∈ more)) (fun Q h => ⟨_, rfl, _, rfl, ca, cs, pt, _, rfl, rfl, sqT_same sG cat, atI_at rpt.1 hb', h⟩) (sqT_same sG bat) (by omega) (by simp) (fun n H2 R' hn s4 h => ?_) (fun D H2 s4 hD2 hD0 => ?_)⟩
      · refine ⟨_, rfl, _, rfl, pm, _, rfl, .inl (SqL.of ((n45.trans (s1.trans s4)) _ _ hM)), rfl, flat_ints met, _, rfl, ?_⟩
        rw [if_pos rfl, inV_ints]
        by_cases c : n ∈ met
        · rw [decide_eq_true c] at h ⊢
          exact ifF rfl h
        · rw [decide_eq_false c] at h ⊢
          refine ifT rfl ⟨_, rfl, _, rfl, pw, _, rfl, .inl (SqL.of (s4 _ _ hpw)), rfl, flat_ints more, _, rfl, ?_⟩
          rw [if_pos rfl, inV_ints]
          exact h
      · have lf : (row.filter fun n => !decide (n ∈ met) && !decide (n ∈ more)).length ≤ row.length := List.length_filter_le _ _
        refine ⟨pw, D, _, _, rfl, rfl, s4 _ _ hpw, hD2, small (by rw [List.length_map, List.length_map]; omega), fun p6 f6 => ?_⟩
        refine ⟨p6, _, _, more ++ row.filter fun n => !decide (n ∈ met) && !decide (n ∈ more), rfl, s1.trans (s4.trans (same_new f6 _)), by rw [upd_same, List.map_append], List.nodup_append.mpr ⟨ndm, List.Nodup.sublist List.filter_sublist (hnd row hrm), fun a ha b hb e => ?_⟩, fun p hp => ?_, fun q hq p e => ?_⟩
        · subst e
          have := (List.mem_filter.mp hb).2
          simp only [Bool.and_eq_true, Bool.not_eq_true', decide_eq_false_iff_not] at this
          exact this.2 ha
        · rcases List.mem_append.mp hp with hp | hp
          · exact dkm p hp
          · obtain ⟨h1, h2⟩ := List.mem_filter.mp hp
            simp only [Bool.and_eq_true, Bool.not_eq_true', decide_eq_false_iff_not] at h2
            refine ⟨?_, fun j hj r => ?_⟩
            · rw [show as.length = (as.length - 1) + 1 by omega]
              exact ⟨pt, dpt.1, rpt.1, rpt.2, by rw [hra]; exact h1⟩
            · obtain ⟨i, hi, d⟩ := r.ex
              exact h2.1 ((iffM p).mpr ⟨i, by omega, d⟩)
        · rw [List.take_add_one, hpt] at hq
          rcases List.mem_append.mp hq with hq | hq
          · rcases cov q hq p e with y | y
            · exact .inl y
            · exact .inr (List.mem_append_left _ y)
          · rw [show q = pt by simpa using hq] at e
            have e := e.2.2
            rw [hra] at e
            by_cases c1 : p ∈ met
            · exact .inl c1
            · by_cases c2 : p ∈ more
              · exact .inr (List.mem_append_left _ c2)
              · refine .inr (List.mem_append_right _ (List.mem_filter.mpr ⟨e, ?_⟩))
                rw [decide_eq_false c1, decide_eq_false c2]
                rfl
    · obtain ⟨pw, o5, o6, more, rfl, s1, hpw, ndm, dkm, cov⟩ := h
      rw [List.length_map, List.take_length] at cov
      have iffN : ∀ p, p ∈ more ↔ Dk (inP bs) (foreE rows) as.length p := fun p => ⟨dkm p, fun d => by
        have d' := d
        rw [show as.length = (as.length - 1) + 1 by omega] at d'
        obtain ⟨q, hq, e⟩ := d'.pred
        rcases cov q ((iffl q).mpr hq) p e with y | y
        · obtain ⟨j, hj, dj⟩ := (iffM p).mp y
          have := dj.uniq d
          omega
        · exact y⟩
      have lmore := nodup_len rows.length more ndm fun p hp => hb _ p (dkm p hp).1
      have sG := n45.trans s1
      refine ⟨_, rfl, _, rfl, pm, pw, _, _, rfl, rfl, sG _ _ hM, hpw, small (by rw [List.length_map, List.length_map]; omega), fun p7 f7 => ?_⟩
      have n7 := same_new f7 (.lst (met.map V.int ++ more.map V.int))
      have hL7 := n7 _ _ (sG _ _ hL)
      refine ⟨_, rfl, .inl ⟨rfl, _, SqL.of hL7⟩, _, rfl, L, _, _, rfl, rfl, hL7, Nat.lt_of_lt_of_le (show _ < 1000 by rw [List.length_map]; omega) (small (Nat.le_refl _)), ?_⟩
      have ne7 : p7 ≠ L := fun e => by rw [e, sG _ _ hL] at f7; cases f7
      have new7 : (upd G' p7 (.lst (met.map V.int ++ more.map V.int))) p7 = some (.lst ((met ++ more).map V.int)) := by rw [upd_same, List.map_append]
      refine ⟨rows.length + 1 - (as.length + 1), by omega, as ++ [pw], met ++ more, p7, _, _, _, by rw [List.length_append]; rfl, by rw [List.length_append]; omega, by rw [List.length_append]; show _ + 1 ≤ _; omega, rfl, same_upd ((sm.trans sG).trans n7) L0, by rw [upd_same, List.map_append]; rfl, by rw [upd_ne ne7]; exact new7, List.nodup_append.mpr ⟨ndM, ndm, fun a ha b hb e => ?_⟩, fun p => ?_, fun i a ha => ?_⟩
      · subst e
        obtain ⟨j, hj, dj⟩ := (iffM a).mp ha
        have := dj.uniq (dkm a hb)
        omega
      · rw [List.mem_append, iffM p, iffN p, List.length_append]
        constructor
        · rintro (⟨j, hj, d⟩ | d)
          · exact ⟨j, by show _ < _ + 1; omega, d⟩
          · exact ⟨as.length, by show _ < _ + 1; omega, d⟩
        · rintro ⟨j, hj, d⟩
          have hj : j < as.length + 1 := hj
          by_cases c : j < as.length
          · exact .inl ⟨j, c, d⟩
          · exact .inr (by rw [show as.length = j by omega]; exact d)
      · by_cases c : i < as.length
        · rw [List.getElem?_append_left c] at ha
          obtain ⟨l', h1, h2⟩ := each i a ha
          exact ⟨l', by rw [upd_ne (refs_ne l0 hL h1)]; exact n7 _ _ (sG _ _ h1), h2⟩
        · have hi := (List.getElem?_eq_some_iff.mp ha).1
          rw [List.length_append] at hi
          have hi : i < as.length + 1 := hi
          have ei : i = as.length := by omega
          subst ei
          rw [List.getElem?_append_right (Nat.le_refl _), Nat.sub_self] at ha
          cases ha
          exact ⟨more, by rw [upd_ne (refs_ne l0 (sG _ _ hL) hpw)]; exact n7 _ _ hpw, ndm, iffN⟩
end
/-! rows by their order -/
theorem lexP_refl : ∀ a : List Int, lexP a a
  | [] => trivial
  | _ :: r => .inr ⟨rfl, lexP_refl r⟩
theorem lexP_trans : ∀ {a b c : List Int}, lexP a b → lexP b c → lexP a c
  | [], [], [], _, _ => trivial
  | [], [], _ :: _, _, h => h.elim
  | [], _ :: _, _, h, _ => h.elim
  | _ :: _, [], _, h, _ => h.elim
  | _ :: _, _ :: _, [], _, h => h.elim
  | x :: r, y :: s, z :: t, h1, h2 => by
    have h1 : x < y ∨ (x = y ∧ lexP r s) := h1
    have h2 : y < z ∨ (y = z ∧ lexP s t) := h2
    show x < z ∨ (x = z ∧ lexP r t)
    rcases h1 with h1 | ⟨e, h1⟩
    · rcases h2 with h2 | ⟨e2, _⟩ <;> exact .inl (by omega)
    · rcases h2 with h2 | ⟨e2, h2⟩
      · exact .inl (by omega)
      · exact .inr ⟨by omega, lexP_trans h1 h2⟩
theorem lexP_app : ∀ {a b : List Int} (x : Int), lexP a b → lexP (a ++ [x]) (b ++ [x])
  | [], [], x, _ => .inr ⟨rfl, trivial⟩
  | [], _ :: _, _, h => h.elim
  | _ :: _, [], _, h => h.elim
  | y :: r, z :: s, x, h => by
    have h : y < z ∨ (y = z ∧ lexP r s) := h
    show y < z ∨ (y = z ∧ lexP (r ++ [x]) (s ++ [x]))
    rcases h with h | ⟨e, h⟩
    · exact .inl h
    · exact .inr ⟨e, lexP_app x h⟩
theorem code_lexP : ∀ {n m : List Int}, n.length = m.length → _root_.TS.Bd 64 n → _root_.TS.Bd 64 m → _root_.TS.code 64 n ≤ _root_.TS.code 64 m → lexP n m
  | [], [], _, _, _, _ => trivial
  | [], _ :: _, l, _, _, _ => by cases l
  | _ :: _, [], l, _, _, _ => by cases l
  | d :: r, e :: q, l, h1, h2, h => by
    have hl : r.length = q.length := Nat.succ.inj l
    rcases Int.lt_trichotomy d e with c | c | c
    · exact .inl c
    · subst c
      refine .inr ⟨rfl, code_lexP hl h1.tail h2.tail ?_⟩
      exact Int.not_lt.mp fun z => absurd ((_root_.TS.code_same (B := 64) (d := d) hl.symm).mpr z) (Int.not_lt.mpr h)
    · exact absurd (_root_.TS.code_lt hl.symm h2.tail h1.tail c) (Int.not_lt.mpr h)
theorem listLt_lexP : ∀ {a b : List Int}, a.length = b.length → PySem.W.listLt b a = false → lexP a b
  | [], [], _, _ => trivial
  | [], _ :: _, l, _ => by cases l
  | _ :: _, [], l, _ => by cases l
  | x :: r, y :: s, l, h => by
    have hl : r.length = s.length := Nat.succ.inj l
    rw [PySem.W.listLt] at h
    by_cases e : y = x
    · rw [if_pos e] at h
      exact .inr ⟨e.symm, listLt_lexP hl h⟩
    · rw [if_neg e] at h
      have h : decide (y < x) = false := h
      have := of_decide_eq_false h
      exact .inl (by omega)
/-! sorted(xs), xs a list of tuples of ints, all of one length -/
section
open PySem.Spec PyProof.Rows
variable {X : Cx}
def rSortE (K : PySem.W.Frag) : List V → Hp → VK → Prop := fun vs H Q => ∃ d, 1 ≤ d ∧ rSortU K d 64 vs H Q
theorem cr_sortE : CallR X (.builtin "sorted") (rSortE X.K) := by
  intro pins s σ H vs us Q I r h
  obtain ⟨d, hd, h⟩ := h
  exact cr_sortT hd pins s σ H vs us Q I r h
/-- min(xs), xs a list of tuples of ints -/
def rMinT (K : PySem.W.Frag) : List V → Hp → VK → Prop := fun vs H Q => ∃ (a : Addr) (xs : List V) (ls : List (List Int)), vs = [V.ref a] ∧ SqL K H a xs ∧ DpAll K H xs (ls.map fun l => .tuple (l.map .int)) ∧ 0 < ls.length ∧ (∀ l ∈ ls, ∀ m ∈ ls, l.length = m.length) ∧
  ∀ (i : Nat) x l, xs[i]? = some x → ls[i]? = some l → (∀ m ∈ ls, lexP l m) → Q x H
theorem listLt_yes : ∀ {a b : List Int}, a.length = b.length → PySem.W.listLt a b = true → lexP a b
  | [], [], _, _ => trivial
  | [], _ :: _, l, _ => by cases l
  | _ :: _, [], l, _ => by cases l
  | x :: r, y :: s, l, h => by
    have hl : r.length = s.length := Nat.succ.inj l
    rw [PySem.W.listLt] at h
    by_cases e : x = y
    · rw [if_pos e] at h
      exact .inr ⟨e, listLt_yes hl h⟩
    · rw [if_neg e] at h
      have h : decide (x < y) = true := h
      exact .inl (of_decide_eq_true h)
theorem min_fold : ∀ (xs : List (PySem.W.Tup Int)) (x : PySem.W.Tup Int), (∀ y ∈ xs, y.items.length = x.items.length) → (PySem.W.minOf x xs).items.length = x.items.length ∧ lexP (PySem.W.minOf x xs).items x.items ∧ ∀ y ∈ xs, lexP (PySem.W.minOf x xs).items y.items
  | [], x, _ => ⟨rfl, lexP_refl _, fun y hy => by cases hy⟩
  | y :: ys, x, h => by
    have ly := h y List.mem_cons_self
    have e : PySem.W.minOf x (y :: ys) = PySem.W.minOf (if PySem.W.DatumOrd.lt y x = true then y else x) ys := rfl
    rw [e]
    by_cases c : PySem.W.DatumOrd.lt y x = true
    · rw [if_pos c]
      obtain ⟨h1, h2, h3⟩ := min_fold ys y fun z hz => (h z (List.mem_cons_of_mem _ hz)).trans ly.symm
      refine ⟨h1.trans ly, lexP_trans h2 (listLt_yes ly c), fun z hz => ?_⟩
      rcases List.mem_cons.mp hz with rfl | hz
      · exact h2
      · exact h3 z hz
    · rw [if_neg c]
      obtain ⟨h1, h2, h3⟩ := min_fold ys x fun z hz => h z (List.mem_cons_of_mem _ hz)
      refine ⟨h1, h2, fun z hz => ?_⟩
      rcases List.mem_cons.mp hz with rfl | hz
      · exact lexP_trans h2 (listLt_lexP ly.symm (by
          cases q : PySem.W.listLt z.items x.items with
          | false => rfl
          | true => exact absurd q c))
      · exact h3 z hz
theorem intsD_inj : ∀ {a b : List Int}, a.map PyData.int = b.map PyData.int → a = b
  | [], [], _ => rfl
  | [], _ :: _, h => by cases h
  | _ :: _, [], h => by cases h
  | x :: r, y :: s, h => by
    rw [List.map_cons, List.map_cons, List.cons.injEq] at h
    have h1 := h.1
    injection h1 with h1
    rw [h1, intsD_inj h.2]
theorem cr_minT (hc : X.calm = true) (hu : X.A.units + 64 < cLine) : CallR X (.builtin "min") (rMinT X.K) := by
  intro pins s σ H vs us Q I r h
  obtain ⟨a, xs, ls, rfl, hs, hx, h0, len, q⟩ := h
  obtain ⟨its, rv, hli, hz⟩ := I.list hs
  obtain ⟨as, hra, _⟩ := Dp.rds I _ xs its hx rv
  rw [Vals.ref1 r]
  obtain ⟨l0, ls', rfl⟩ : ∃ l0 ls', ls = l0 :: ls' := by
    cases ls with
    | nil => cases h0
    | cons a b => exact ⟨a, b, rfl⟩
  have eA : ((l0 :: ls').map fun l => PyData.tuple (l.map .int)) = (PySem.W.Tup.mk l0 :: ls'.map PySem.W.Tup.mk).map PySem.W.Datum.toD := by
    rw [List.map_cons, List.map_cons, List.map_map]
    rfl
  rw [eA] at hra
  have hu' : X.A.units + 1 + PySem.W.Datum.depth (PySem.W.Tup Int) < cLine := by
    show X.A.units + 1 + (0 + 1) < cLine
    omega
  refine PySem.W.min_list_datum (x := PySem.W.Tup.mk l0) (xs := ls'.map PySem.W.Tup.mk) (I.ok.hd hc) hli.isList ⟨_, hra⟩ hu' fun i v h' tk hi hold hk => ?_
  have hi' : its[i]? = some v := by simpa using hi
  have iv := (List.getElem?_eq_some_iff.mp hi').1
  obtain ⟨x, hxi⟩ : ∃ x, xs[i]? = some x := ⟨_, List.getElem?_eq_getElem (by rw [rv.length]; exact iv)⟩
  obtain ⟨u, hu2, ru⟩ := rv.get hxi
  rw [hi'] at hu2
  cases hu2
  obtain ⟨bs, rd, il, _, _⟩ := PySem.W.readsAll_at hra i v hi'
  have il2 : i < (l0 :: ls').length := by
    rw [List.length_map] at il
    simpa using il
  obtain ⟨l, hl⟩ : ∃ l, (l0 :: ls')[i]? = some l := ⟨_, List.getElem?_eq_getElem il2⟩
  have eg : ((PySem.W.Tup.mk l0 :: ls'.map PySem.W.Tup.mk).map PySem.W.Datum.toD).getD i .none = PySem.W.Datum.toD (PySem.W.Tup.mk l) := by
    rw [← eA, List.getD_eq_getElem?_getD, List.getElem?_map, hl]
    rfl
  rw [eg] at rd
  obtain ⟨cs, rm⟩ := hold
  have same := PySem.W.alike_unique _ _ v _ _ (PySem.W.DatumOrd.alike _ _) (PySem.W.reads_keeps hk rd) rm
  have same : PyData.tuple (l.map .int) = .tuple ((PySem.W.minOf (PySem.W.Tup.mk l0) (ls'.map PySem.W.Tup.mk)).items.map .int) := same
  injection same with same
  have el : l = (PySem.W.minOf (PySem.W.Tup.mk l0) (ls'.map PySem.W.Tup.mk)).items := intsD_inj same
  obtain ⟨m1, m2, m3⟩ := min_fold (ls'.map PySem.W.Tup.mk) (PySem.W.Tup.mk l0) fun y hy => by
    obtain ⟨z, hz, rfl⟩ := List.mem_map.mp hy
    exact len z (List.mem_cons_of_mem _ hz) l0 List.mem_cons_self
  refine ⟨x, H, I.kept hk, ru, q i x l hxi hl fun m hm => ?_⟩
  rw [el]
  rcases List.mem_cons.mp hm with rfl | hm
  · exact m2
  · exact m3 _ (List.mem_map.mpr ⟨m, hm, rfl⟩)
end
/-! paths from the begins -/
section
variable {rows : List (List Int)} {ss : List Int}
def PathT (rows : List (List Int)) (ss : List Int) (t : Nat) (p : Int) (r : List Int) : Prop := (∃ s q, r = s :: q ∧ s ∈ ss) ∧ chainP rows r ∧ r.length = t + 1 ∧ ∃ q, r = q ++ [p]
def LeP (rows : List (List Int)) (ss : List Int) (t : Nat) (p : Int) (r : List Int) : Prop := PathT rows ss t p r ∧ ∀ ms, PathT rows ss t p ms → lexP r ms
theorem chain_app : ∀ {q : List Int} {a b : Int}, chainP rows (q ++ [a] ++ [b]) ↔ chainP rows (q ++ [a]) ∧ b ∈ rowAt rows a
  | [], a, b => ⟨fun h => ⟨trivial, h.1⟩, fun h => ⟨h.2, trivial⟩⟩
  | [x], a, b => ⟨fun h => ⟨⟨h.1, trivial⟩, h.2.1⟩, fun h => ⟨h.1.1, h.2, trivial⟩⟩
  | x :: y :: r, a, b => by
    have ih := chain_app (q := y :: r) (a := a) (b := b)
    constructor
    · intro h
      obtain ⟨h1, h2⟩ := ih.mp h.2
      exact ⟨⟨h.1, h1⟩, h2⟩
    · intro h
      exact ⟨h.1.1, ih.mpr ⟨h.1.2, h.2⟩⟩
theorem PathT.next {t : Nat} {p q : Int} {r : List Int} (h : PathT rows ss t q r) (e : p ∈ rowAt rows q) : PathT rows ss (t + 1) p (r ++ [p]) := by
  obtain ⟨⟨s, r', e1, hs⟩, c, l, r2, e2⟩ := h
  refine ⟨⟨s, r' ++ [p], by rw [e1]; rfl, hs⟩, ?_, by rw [List.length_append, l]; rfl, r, rfl⟩
  rw [e2] at c ⊢
  exact chain_app.mpr ⟨c, e⟩
theorem PathT.prev {t : Nat} {p : Int} {ms : List Int} (h : PathT rows ss (t + 1) p ms) : ∃ q r, ms = r ++ [p] ∧ PathT rows ss t q r ∧ p ∈ rowAt rows q := by
  obtain ⟨⟨s, r', e1, hs⟩, c, l, r2, e2⟩ := h
  subst e2
  have l2 : r2.length = t + 1 := by
    rw [List.length_append] at l
    exact Nat.succ.inj l
  have ne : r2 ≠ [] := fun e => by rw [e] at l2; cases l2
  obtain ⟨r3, q, e3⟩ : ∃ r3 q, r2 = r3 ++ [q] := ⟨r2.dropLast, r2.getLast ne, (List.dropLast_concat_getLast ne).symm⟩
  rw [e3] at c
  obtain ⟨c1, c2⟩ := chain_app.mp c
  refine ⟨q, r2, rfl, ⟨?_, by rw [e3]; exact c1, l2, r3, e3⟩, c2⟩
  cases r2 with
  | nil => cases l2
  | cons a r4 =>
    rw [List.cons_append, List.cons.injEq] at e1
    exact ⟨a, r4, rfl, by rw [e1.1]; exact hs⟩
theorem PathT.reach (hr : ∀ a b, b ∈ rowAt rows a → 0 ≤ a → 0 ≤ b ∧ b < (rows.length : Int)) (hss : ∀ s ∈ ss, 0 ≤ s ∧ s < (rows.length : Int)) : ∀ {t : Nat} {p : Int} {ms : List Int}, PathT rows ss t p ms → Rk (inP ss) (foreE rows) t p ∧ 0 ≤ p ∧ p < (rows.length : Int)
  | 0, p, ms, h => by
    obtain ⟨⟨s, r', e1, hs⟩, c, l, r2, e2⟩ := h
    have : r2 = [] := by
      rw [e2, List.length_append] at l
      exact List.eq_nil_of_length_eq_zero (by simpa using l)
    subst this
    rw [e1] at e2
    have : s = p := by
      cases e2
      rfl
    rw [← this]
    exact ⟨hs, hss s hs⟩
  | t + 1, p, ms, h => by
    obtain ⟨q, r, _, hq, e⟩ := h.prev
    obtain ⟨h1, h2, h3⟩ := PathT.reach hr hss hq
    exact ⟨⟨q, h1, h2, h3, e⟩, hr q p e h2⟩
/-- the next turn's rows -/
theorem LeP.next (hr : ∀ a b, b ∈ rowAt rows a → 0 ≤ a → 0 ≤ b ∧ b < (rows.length : Int)) (hss : ∀ s ∈ ss, 0 ≤ s ∧ s < (rows.length : Int)) {t : Nat} {p q : Int} {r : List Int} (h : LeP rows ss t q r) (e : p ∈ rowAt rows q) (hd : Dk (inP ss) (foreE rows) (t + 1) p)
    (first : ∀ q' , p ∈ rowAt rows q' → Dk (inP ss) (foreE rows) t q' → ∃ r', LeP rows ss t q' r' ∧ lexP r r') : LeP rows ss (t + 1) p (r ++ [p]) := by
  refine ⟨h.1.next e, fun ms hm => ?_⟩
  obtain ⟨q', r2, rfl, hp, e2⟩ := hm.prev
  obtain ⟨rk, h1, h2⟩ := hp.reach hr hss
  have dq : Dk (inP ss) (foreE rows) t q' := by
    refine ⟨rk, fun j hj rj => hd.2 (j + 1) (by omega) ⟨q', rj, h1, h2, e2⟩⟩
  obtain ⟨r', l', le⟩ := first q' e2 dq
  exact lexP_app p (lexP_trans le (l'.2 r2 hp))
/-- the least of those that end in the aims, on the first layer that has one -/
theorem LeP.least (hr : ∀ a b, b ∈ rowAt rows a → 0 ≤ a → 0 ≤ b ∧ b < (rows.length : Int)) (hss : ∀ s ∈ ss, 0 ≤ s ∧ s < (rows.length : Int)) {gs : List Int} {t : Nat} {g : Int} {r : List Int} (h : LeP rows ss t g r) (hg : g ∈ gs) (low : ∀ j g', g' ∈ gs → Dk (inP ss) (foreE rows) j g' → t ≤ j)
    (min : ∀ g', g' ∈ gs → Dk (inP ss) (foreE rows) t g' → ∃ r', LeP rows ss t g' r' ∧ lexP r r') : LeastW rows ss gs r := by
  obtain ⟨⟨hs, c, l, q, e⟩, _⟩ := id h
  refine ⟨⟨hs, ⟨q, g, e, hg⟩, c⟩, fun ms hm => ?_⟩
  obtain ⟨hs', ⟨q', g', e', hg'⟩, c'⟩ := hm
  have lm : ms.length = (ms.length - 1) + 1 := by
    rw [e', List.length_append]
    rfl
  have pm : PathT rows ss (ms.length - 1) g' ms := ⟨hs', c', lm, q', e'⟩
  obtain ⟨rk, _, _⟩ := pm.reach hr hss
  obtain ⟨j, hj, d⟩ := rk.ex
  have tj := low j g' hg' d
  by_cases ct : t = ms.length - 1
  · have ej : j = t := by omega
    rw [ej] at d
    obtain ⟨r', l', le⟩ := min g' hg' d
    refine .inr ⟨by omega, lexP_trans le (l'.2 ms (by rw [ct]; exact pm))⟩
  · exact .inl (by omega)
theorem way_reach (hr : ∀ a b, b ∈ rowAt rows a → 0 ≤ a → 0 ≤ b ∧ b < (rows.length : Int)) (hss : ∀ s ∈ ss, 0 ≤ s ∧ s < (rows.length : Int)) {gs ms : List Int} (hm : WayP rows ss gs ms) : ∃ j g, g ∈ gs ∧ Dk (inP ss) (foreE rows) j g := by
  obtain ⟨hs', ⟨q', g', e', hg'⟩, c'⟩ := hm
  have lm : ms.length = (ms.length - 1) + 1 := by
    rw [e', List.length_append]
    rfl
  have pm : PathT rows ss (ms.length - 1) g' ms := ⟨hs', c', lm, q', e'⟩
  obtain ⟨rk, _, _⟩ := pm.reach hr hss
  obtain ⟨j, hj, d⟩ := rk.ex
  exact ⟨j, g', hg', d⟩
end
/-! the law's rows in the heap -/
section
variable {rows : List (List Int)} {bs : List Int}
structure RowsAt (G : Hp) (rows : List (List Int)) (bs : List Int) (t : Nat) (R : Addr) (ts : List Addr) (ps : List Int) : Prop where
  at_ : G R = some (.lst (ts.map V.ref))
  len : ts.length = ps.length
  nd : ps.Nodup
  each : ∀ (i : Nat) a p, ts[i]? = some a → ps[i]? = some p → ∃ r : List Int, G a = some (.tup (r.map V.int)) ∧ LeP rows bs t p r
  all : ∀ p, p ∈ ps ↔ Dk (inP bs) (foreE rows) t p
theorem RowsAt.same {G G' : Hp} {t : Nat} {R : Addr} {ts : List Addr} {ps : List Int} (h : RowsAt G rows bs t R ts ps) (s : Same G G') : RowsAt G' rows bs t R ts ps :=
  ⟨s _ _ h.at_, h.len, h.nd, fun i a p h1 h2 => by obtain ⟨r, e, l⟩ := h.each i a p h1 h2; exact ⟨r, s _ _ e, l⟩, h.all⟩
theorem LeP.zero {p : Int} (h : p ∈ bs) : LeP rows bs 0 p [p] :=
  ⟨⟨⟨p, [], rfl, h⟩, trivial, rfl, [], rfl⟩, fun ms hm => by
    obtain ⟨_, _, l, r2, e2⟩ := hm
    have : r2 = [] := by
      rw [e2, List.length_append] at l
      exact List.eq_nil_of_length_eq_zero (by simpa using l)
    subst this
    rw [e2]
    exact lexP_refl _⟩
theorem PathT.bd (hr : ∀ a b, b ∈ rowAt rows a → 0 ≤ a → 0 ≤ b ∧ b < (rows.length : Int)) (hss : ∀ s ∈ bs, 0 ≤ s ∧ s < (rows.length : Int)) : ∀ {t : Nat} {p : Int} {ms : List Int}, PathT rows bs t p ms → ∀ x ∈ ms, 0 ≤ x ∧ x < (rows.length : Int)
  | 0, p, ms, h, x, hx => by
    have h0 := h.reach hr hss
    obtain ⟨_, _, l, r2, e2⟩ := h
    have : r2 = [] := by
      rw [e2, List.length_append] at l
      exact List.eq_nil_of_length_eq_zero (by simpa using l)
    subst this
    rw [e2] at hx
    rw [show x = p by simpa using hx]
    exact h0.2
  | t + 1, p, ms, h, x, hx => by
    have h0 := h.reach hr hss
    obtain ⟨q, r, rfl, hq, e⟩ := h.prev
    rcases List.mem_append.mp hx with hx | hx
    · exact PathT.bd hr hss hq x hx
    · rw [show x = p by simpa using hx]
      exact h0.2
theorem PathT.last {t : Nat} {p : Int} {r : List Int} (h : PathT rows bs t p r) : atI (r.map V.int) (-1) = some (.int p) := by
  obtain ⟨_, _, l, q, e⟩ := h
  refine atI_last (by rw [List.length_map]; omega) ?_
  have lq : q.length + 1 = r.length := by rw [e, List.length_append]; rfl
  rw [List.length_map, List.getElem?_map, show r.length - 1 = q.length by omega, e, List.getElem?_append_right (Nat.le_refl _), Nat.sub_self]
  rfl
end
theorem refs_get {as : List Addr} {i : Nat} {v : V} (h : (as.map V.ref)[i]? = some v) : ∃ a, as[i]? = some a ∧ v = .ref a := by
  rw [List.getElem?_map] at h
  cases e : as[i]? with
  | none => rw [e] at h; cases h
  | some a =>
    rw [e] at h
    cases h
    exact ⟨a, rfl, rfl⟩
theorem app_get {α : Type} {l : List α} {b a : α} {m : Nat} (h : (l ++ [b])[m]? = some a) : l[m]? = some a ∨ (m = l.length ∧ a = b) := by
  by_cases c : m < l.length
  · rw [List.getElem?_append_left c] at h
    exact .inl h
  · have := (List.getElem?_eq_some_iff.mp h).1
    rw [List.length_append] at this
    have em : m = l.length := by
      simp only [List.length_cons, List.length_nil] at this
      omega
    rw [em, List.getElem?_append_right (Nat.le_refl _), Nat.sub_self] at h
    cases h
    exact .inr ⟨em, rfl⟩
theorem valV_at : ∀ {kvs : List (Key × V)} {i : Nat} {k : Key} {v : V}, (kvs.map (·.1)).Nodup → kvs[i]? = some (k, v) → valV kvs k = some v
  | [], _, _, _, _, h => by cases h
  | (k0, v0) :: r, 0, k, v, _, h => by
    cases h
    rw [valV_pos rfl]
  | (k0, v0) :: r, i + 1, k, v, nd, h => by
    rw [List.map_cons, List.nodup_cons] at nd
    have h : r[i]? = some (k, v) := h
    have ne : k0 ≠ k := fun e => nd.1 (by
      rw [show (k0, v0).1 = k from e]
      exact List.mem_map.mpr ⟨(k, v), List.mem_of_getElem? h, rfl⟩)
    rw [valV_neg ne]
    exact valV_at nd.2 h
section
variable {K : PySem.W.Frag}
/-- [(x,) for x in t] -/
theorem lc_ones {te0 : TE} {a : Addr} {bs : List Int} {j : Nat} {σ : L2.St} {H : Hp} {Q : VK} (h0 : ∀ Q : VK, Q (.ref a) H → te0 σ H Q) (at_ : SqT K H a (bs.map V.int)) (hl : bs.length < 1000) (hj : j < σ.length)
    (hd : ∀ D (ts : List Addr) H', Same H H' → H' D = some (.lst (ts.map V.ref)) → ts.length = bs.length → (∀ (i : Nat) a p, ts[i]? = some a → bs[i]? = some p → H' a = some (.tup [.int p])) → Q (.ref D) H') : tLc (iTup K te0) (gName j) tYes (tTup (tCons (tVar j) tNil)) [j] σ H Q := by
  refine h0 _ ⟨a, rfl, ⟨_, at_⟩, fun D hD => ?_⟩
  have w2 : ∀ x, (wipe σ [j]).set j (some x) = σ.set j (some x) := fun x => by rw [show wipe σ [j] = σ.set j none from rfl, List.set_set]
  refine lc_tup (xs := bs.map V.int) (fun i G => Same H G ∧ ∃ ts : List Addr, G D = some (.lst (ts.map V.ref)) ∧ ts.length = i ∧ ∀ (m : Nat) a p, ts[m]? = some a → bs[m]? = some p → G a = some (.tup [.int p]))
    ⟨same_new hD _, [], upd_same, rfl, fun m a p h => by cases h⟩ (fun i G _ h => sqT_same h.1 at_) (fun i v G hv h => ?_) (fun G h => ?_)
  · obtain ⟨sm, ts, hG, lt, each⟩ := h
    obtain ⟨p, hp, rfl⟩ := ints_get hv
    have hi := (List.getElem?_eq_some_iff.mp hp).1
    show wipe ((wipe σ [j]).set j (some (V.int p))) [j] = wipe σ [j] ∧ _
    rw [w2]
    refine ⟨by show (σ.set j (some (V.int p))).set j none = σ.set j none; rw [List.set_set], yesG ⟨_, by rw [List.getElem?_set_self hj], small (by show 1 ≤ 1000; decide), fun b hb => ⟨ts.map V.ref, ?_, Nat.lt_of_lt_of_le (show _ < 1000 by rw [List.length_map]; omega) (small (Nat.le_refl _)), ?_⟩⟩⟩
    · rw [upd_ne (ne_of_none hG hb)]
      exact hG
    · have nb : b ≠ D := fun e => by rw [e, hG] at hb; cases hb
      have nb1 := same_new hb (.tup [.int p])
      refine ⟨same_upd (sm.trans nb1) hD, ts ++ [b], by rw [upd_same, List.map_append]; rfl, by rw [List.length_append]; show _ + 1 = _; omega, fun m a' p' ha hp' => ?_⟩
      rcases app_get ha with ha | ⟨em, ea⟩
      · have this := each m a' p' ha hp'
        have na : a' ≠ D := fun e => by rw [e, hG] at this; cases this
        rw [upd_ne na]
        exact nb1 _ _ this
      · rw [em, lt, hp] at hp'
        cases hp'
        rw [ea, upd_ne nb, upd_same]
  · obtain ⟨sm, ts, hG, lt, each⟩ := h
    rw [List.length_map] at lt
    exact hd D ts G sm hG lt each
/-- [x for x in l if ..] != [], l a list -/
theorem ne_nilL {te0 : TE} {a : Addr} {xs : List V} {j : Nat} {tt : TT} {σ : L2.St} {H : Hp} {R : Bool → Hp → Prop} (p : Nat → Bool) (h0 : ∀ Q : VK, Q (.ref a) H → te0 σ H Q) (at_ : SqL K H a xs) (hl : xs.length < 1000) (hj : j < σ.length)
    (hs : ∀ (i : Nat) (x : V) (H' : Hp) (R' : Bool → Hp → Prop), xs[i]? = some x → Same H H' → R' (p i) H' → tt (σ.set j (some x)) H' R')
    (hd : ∀ H', Same H H' → R (!(List.range xs.length).all fun i => !p i) H') : tTest (tOp (rNeLE K) (tLc (iList K te0) (gName j) tt (tVar j) [j]) (tLst tNil)) σ H R := by
  refine h0 _ ⟨a, rfl, ⟨xs, at_⟩, fun D hD => ?_⟩
  have w1 : wipe σ [j] = σ.set j none := rfl
  have w2 : ∀ x, (wipe σ [j]).set j (some x) = σ.set j (some x) := fun x => by rw [w1, List.set_set]
  refine lc_list (xs := xs) (fun i H' => Same H H' ∧ ∃ zs : List V, H' D = some (.lst zs) ∧ zs.length ≤ i ∧ zs.isEmpty = (List.range i).all fun i => !p i) ⟨same_new hD _, [], upd_same, Nat.le_refl _, rfl⟩ (fun i H' _ h => sqL_same h.1 at_) (fun i x H' hx h => ?_) (fun H' h => ?_)
  · obtain ⟨sm, zs, hz, lz, ez⟩ := h
    have hi := (List.getElem?_eq_some_iff.mp hx).1
    show wipe ((wipe σ [j]).set j (some x)) [j] = wipe σ [j] ∧ _
    rw [w2]
    refine ⟨by show (σ.set j (some x)).set j none = σ.set j none; rw [List.set_set], hs i x H' _ hx sm ?_⟩
    have er : (List.range (i + 1)).all (fun i => !p i) = ((List.range i).all (fun i => !p i) && !p i) := by
      rw [List.range_succ, List.all_append, List.all_cons, List.all_nil, Bool.and_true]
    cases hp : p i with
    | true =>
      refine ifT rfl ⟨x, by rw [List.getElem?_set_self hj], zs, hz, Nat.lt_of_lt_of_le (show zs.length < 1000 by omega) (small (Nat.le_refl _)), fun b' o hb' => by rw [upd_ne (ne_of_none hb' hD)]; exact sm b' o hb', zs ++ [x], upd_same, by rw [List.length_append]; show _ + 1 ≤ _; omega, ?_⟩
      rw [er, hp, Bool.not_true, Bool.and_false]
      cases zs <;> rfl
    | false => exact ifF rfl ⟨sm, zs, hz, by omega, by rw [er, hp, Bool.not_false, Bool.and_true]; exact ez⟩
  · obtain ⟨sm, zs, hz, lz, ez⟩ := h
    refine ⟨small (by show 0 ≤ 1000; decide), fun p3 h3 => ?_⟩
    have n3 := same_new h3 (.lst [])
    refine ⟨D, p3, zs, rfl, rfl, SqL.of (n3 _ _ hz), SqL.of upd_same, _, rfl, ?_⟩
    rw [ez]
    exact hd _ (sm.trans n3)
def ttAim (K : PySem.W.Frag) : TT := tTest (tOp (rNeLE K) (tLc (iList K (tVar 12)) (gName 10) (tTest (tOp (rIn K false) (tVar 10) (tVar 2))) (tVar 10) [10]) (tLst tNil))
def ttEnd (K : PySem.W.Frag) : TT := tTest (tOp (rIn K false) (tOp (rIxT K) (tVar 8) (tUn (rU fun i => .int (-i)) (tC (.int 1)))) (tVar 2))
def FarL (aim : Nat → Prop) (i : Nat) (fs : List Int) : Prop := (fs = [] ∧ ∀ j, j < i → ¬ aim j) ∨ ∃ (m : Nat) (rest : List Int), fs = (m : Int) :: rest ∧ m < i ∧ aim m ∧ ∀ j, j < m → ¬ aim j
theorem lc_far {aim : Nat → Prop} {L za : Addr} {as : List Addr} {gs : List Int} {v0 v1 v3 v5 v6 v7 v8 v9 v10 v11 v12 : Option V} {H : Hp} {Q : VK} (hL : H L = some (.lst (as.map V.ref))) (la : as.length < 1000) (zat : SqT K H za (gs.map V.int))
    (each : ∀ (i : Nat) a, as[i]? = some a → ∃ ls : List Int, H a = some (.lst (ls.map V.int)) ∧ ls.length < 1000 ∧ (aim i ↔ ∃ p ∈ ls, p ∈ gs))
    (hd : ∀ D fs H', Same H H' → H' D = some (.lst (fs.map V.int)) → FarL aim as.length fs → Q (.ref D) H') :
    tLc (iEnum K (tCons (tVar 4) tNil)) (gTup K 2 (gCons (gName 11) (gCons (gName 12) gNil))) (ttAim K) (tVar 11) [11, 12] [v0, v1, some (.ref za), v3, some (.ref L), v5, v6, v7, v8, v9, v10, v11, v12] H Q := by
  refine ⟨_, rfl, L, as.map V.ref, rfl, SqL.of hL, fun D hD => ?_⟩
  refine lc_it (walk_enum (xs := as.map V.ref)) (fun i G => Same H G ∧ ∃ fs : List Int, G D = some (.lst (fs.map V.int)) ∧ fs.length ≤ i ∧ FarL aim i fs) ⟨same_new hD _, [], upd_same, Nat.le_refl _, .inl ⟨rfl, fun j hj => by omega⟩⟩ (fun i G _ h => SqL.of (h.1 _ _ hL)) (fun i v G G' hi h y => ?_) (fun G h => ?_)
  · obtain ⟨sm, fs, hG, lf, far⟩ := h
    obtain ⟨T, x, y', rfl, hT, rfl, ex, ey⟩ := y
    cases ex
    obtain ⟨a, ha, rfl⟩ := refs_get ey
    obtain ⟨ls, hls, ll, iff⟩ := each i a ha
    rw [List.length_map] at hi
    have nT := same_new hT (.tup [.int (i : Nat), .ref a])
    refine ⟨T, _, rfl, SqT.of upd_same, rfl, _, _, rfl, _, _, rfl, rfl, rfl, ?_⟩
    refine ne_nilL (a := a) (xs := ls.map V.int) (j := 10) (fun i => decide (ls.getD i 0 ∈ gs)) (fun Q h => ⟨_, rfl, h⟩) (SqL.of ((sm.trans nT) _ _ hls)) (by rw [List.length_map]; exact ll) (by show 10 < 13; decide) (fun i x G2 R' hx s2 h => ?_) (fun G2 s2 => ?_)
    · obtain ⟨n, hn, rfl⟩ := ints_get hx
      refine ⟨_, rfl, _, rfl, za, _, rfl, .inr (sqT_same ((sm.trans nT).trans s2) zat), rfl, flat_ints gs, _, rfl, ?_⟩
      rw [if_neg (by decide), inV_ints]
      rw [List.getD_eq_getElem?_getD, hn] at h
      exact h
    · rw [List.length_map, range_all ls _ (fun n => !decide (n ∈ gs)) (fun i x hx => by rw [List.getD_eq_getElem?_getD, hx]; rfl)]
      cases c : ls.all fun n => !decide (n ∈ gs) with
      | true =>
        have no : ¬ aim i := fun h => by
          obtain ⟨p, h1, h2⟩ := iff.mp h
          have := List.all_eq_true.mp c p h1
          rw [decide_eq_true h2] at this
          cases this
        refine ifF rfl ⟨(sm.trans nT).trans s2, fs, (nT.trans s2) _ _ hG, by omega, ?_⟩
        rcases far with ⟨e, h1⟩ | ⟨m, rest, e, h1, h2, h3⟩
        · refine .inl ⟨e, fun j hj => ?_⟩
          by_cases cj : j < i
          · exact h1 j cj
          · rw [show j = i by omega]
            exact no
        · exact .inr ⟨m, rest, e, by omega, h2, h3⟩
      | false =>
        have yes : aim i := by
          obtain ⟨p, h1, h2⟩ := List.all_eq_false.mp c
          refine iff.mpr ⟨p, h1, ?_⟩
          by_cases z : p ∈ gs
          · exact z
          · exact absurd (by rw [decide_eq_false z]; rfl) h2
        refine ifT rfl ⟨_, rfl, fs.map V.int, (nT.trans s2) _ _ hG, Nat.lt_of_lt_of_le (show _ < 1000 by rw [List.length_map]; omega) (small (Nat.le_refl _)), ?_⟩
        refine ⟨same_upd ((sm.trans nT).trans s2) hD, fs ++ [(i : Int)], by rw [upd_same, List.map_append]; rfl, by rw [List.length_append]; show _ + 1 ≤ _; omega, ?_⟩
        rcases far with ⟨e, h1⟩ | ⟨m, rest, e, h1, h2, h3⟩
        · exact .inr ⟨i, [], by rw [e]; rfl, by omega, yes, h1⟩
        · exact .inr ⟨m, rest ++ [(i : Int)], by rw [e]; rfl, by omega, h2, h3⟩
  · obtain ⟨sm, fs, hG, lf, far⟩ := h
    rw [List.length_map] at far
    exact hd D fs G sm hG far
/-- [d[k] for k in d] -/
theorem lc_keys {B : Addr} {od : Obj} {kvs : List (Key × V)} {ks : List Int} {v0 v1 v2 v3 v4 v5 v6 v8 v9 v10 v11 v12 : Option V} {H : Hp} {Q : VK} (hB : H B = some (.frz od (.dK kvs))) (hk : kvs.map (·.1) = ks.map Sum.inl) (nd : ks.Nodup) (isr : ∀ p v, valV kvs (Sum.inl p) = some v → ∃ a, v = .ref a) (kl : kvs.length < 1000)
    (hd : ∀ D (ts : List Addr) H', H D = none → Same H H' → H' D = some (.lst (ts.map V.ref)) → ts.length = ks.length → (∀ (i : Nat) a p, ts[i]? = some a → ks[i]? = some p → valV kvs (Sum.inl p) = some (.ref a)) → Q (.ref D) H') :
    tLc (iKeys (tVar 7)) (gName 9) tYes (tDGet (tVar 7) (tVar 9)) [9] [v0, v1, v2, v3, v4, v5, v6, some (.ref B), v8, v9, v10, v11, v12] H Q := by
  have lk : kvs.length = ks.length := by
    have := congrArg List.length hk
    rwa [List.length_map, List.length_map] at this
  have ndk : (kvs.map (·.1)).Nodup := by
    rw [hk]
    exact nd.map (f := Sum.inl) (fun a b h e => h (Sum.inl.inj e))
  refine ⟨_, rfl, B, od, rfl, .inl ⟨kvs, hB, fun D hD => ?_⟩⟩
  refine lc_it (walk_keys (kvs := kvs)) (fun i G => Same H G ∧ ∃ ts : List Addr, G D = some (.lst (ts.map V.ref)) ∧ ts.length = i ∧ ∀ (m : Nat) a p, ts[m]? = some a → ks[m]? = some p → valV kvs (Sum.inl p) = some (.ref a))
    ⟨same_new hD _, [], upd_same, rfl, fun m a p h => by cases h⟩ (fun i G _ h => h.1 _ _ hB) (fun i v G G' hi h y => ?_) (fun G h => ?_)
  · obtain ⟨sm, ts, hG, lt, each⟩ := h
    obtain ⟨rfl, k, v, hkv, rfl⟩ := y
    obtain ⟨p, hp, rfl⟩ : ∃ p, ks[i]? = some p ∧ k = Sum.inl p := by
      have e : (kvs.map (·.1))[i]? = some k := by rw [List.getElem?_map, hkv]; rfl
      rw [hk, List.getElem?_map] at e
      cases e2 : ks[i]? with
      | none => rw [e2] at e; cases e
      | some p => rw [e2] at e; cases e; exact ⟨p, rfl, rfl⟩
    have hv := valV_at ndk hkv
    obtain ⟨a, rfl⟩ := isr p v hv
    refine ⟨rfl, yesG ⟨_, rfl, _, rfl, B, .ref a, rfl, .inl ⟨kvs, Sum.inl p, .inr ⟨od, sm _ _ hB⟩, rfl, hv.symm⟩, ts.map V.ref, hG, Nat.lt_of_lt_of_le (show _ < 1000 by rw [List.length_map]; omega) (small (Nat.le_refl _)), ?_⟩⟩
    refine ⟨same_upd sm hD, ts ++ [a], by rw [upd_same, List.map_append]; rfl, by rw [List.length_append]; show _ + 1 = _; omega, fun m a' p' ha hp' => ?_⟩
    rcases app_get ha with ha | ⟨em, ea⟩
    · exact each m a' p' ha hp'
    · rw [em, lt, hp] at hp'
      cases hp'
      rw [ea]
      exact hv
  · obtain ⟨sm, ts, hG, lt, each⟩ := h
    exact hd D ts G hD sm hG (lt.trans lk) each
/-- [row for row in rows if row[-1] in aims] -/
theorem lc_aims {rows : List (List Int)} {bs gs ps : List Int} {t : Nat} {R za : Addr} {ts : List Addr} {v0 v1 v4 v5 v6 v7 v8 v9 v10 v11 v12 : Option V} {H : Hp} {Q : VK} (ra : RowsAt H rows bs t R ts ps) (zat : SqT K H za (gs.map V.int)) (lt : ts.length < 1000)
    (hd : ∀ D (qs : List (Addr × List Int × Int)) H', Same H H' → H' D = some (.lst (qs.map fun e => V.ref e.1)) → (∀ e ∈ qs, H e.1 = some (.tup (e.2.1.map V.int)) ∧ LeP rows bs t e.2.2 e.2.1 ∧ e.2.2 ∈ gs) → (∀ p ∈ ps, p ∈ gs → ∃ e ∈ qs, e.2.2 = p) → Q (.ref D) H') :
    tLc (iList K (tVar 3)) (gName 8) (ttEnd K) (tVar 8) [8] [v0, v1, some (.ref za), some (.ref R), v4, v5, v6, v7, v8, v9, v10, v11, v12] H Q := by
  refine ⟨_, rfl, R, rfl, ⟨_, SqL.of ra.at_⟩, fun D hD => ?_⟩
  refine lc_list (xs := ts.map V.ref) (fun i G => Same H G ∧ ∃ qs : List (Addr × List Int × Int), G D = some (.lst (qs.map fun e => V.ref e.1)) ∧ qs.length ≤ i ∧ (∀ e ∈ qs, H e.1 = some (.tup (e.2.1.map V.int)) ∧ LeP rows bs t e.2.2 e.2.1 ∧ e.2.2 ∈ gs) ∧ ∀ p ∈ ps.take i, p ∈ gs → ∃ e ∈ qs, e.2.2 = p)
    ⟨same_new hD _, [], upd_same, Nat.le_refl _, fun e he => (by cases he), fun p hp => (by simp at hp)⟩ (fun i G _ h => SqL.of (h.1 _ _ ra.at_)) (fun i v G hv h => ?_) (fun G h => ?_)
  · obtain ⟨sm, qs, hG, lq, all, cov⟩ := h
    obtain ⟨a, ha, rfl⟩ := refs_get hv
    have hi := (List.getElem?_eq_some_iff.mp ha).1
    obtain ⟨p, hp⟩ : ∃ p, ps[i]? = some p := ⟨_, List.getElem?_eq_getElem (by rw [← ra.len]; exact hi)⟩
    obtain ⟨r, har, le⟩ := ra.each i a p ha hp
    have et : ps.take (i + 1) = ps.take i ++ [p] := by rw [List.take_add_one, hp]; rfl
    refine ⟨rfl, ?_⟩
    refine ⟨_, rfl, _, rfl, a, _, -1, _, rfl, rfl, SqT.of (sm _ _ har), le.1.last, _, rfl, za, _, rfl, .inr (sqT_same sm zat), rfl, flat_ints gs, _, rfl, ?_⟩
    rw [if_neg (by decide), inV_ints]
    by_cases c : p ∈ gs
    · rw [decide_eq_true c]
      refine ifT rfl ⟨_, rfl, _, hG, Nat.lt_of_lt_of_le (show _ < 1000 by rw [List.length_map]; omega) (small (Nat.le_refl _)), same_upd sm hD, qs ++ [(a, r, p)], by rw [upd_same, List.map_append]; rfl, by rw [List.length_append]; show _ + 1 ≤ _; omega, fun e he => ?_, fun p' hp' hg => ?_⟩
      · rcases List.mem_append.mp he with he | he
        · exact all e he
        · rw [List.mem_singleton.mp he]
          exact ⟨har, le, c⟩
      · rw [et] at hp'
        rcases List.mem_append.mp hp' with hp' | hp'
        · obtain ⟨e, he, h⟩ := cov p' hp' hg
          exact ⟨e, List.mem_append_left _ he, h⟩
        · rw [List.mem_singleton.mp hp']
          exact ⟨(a, r, p), List.mem_append_right _ (List.mem_singleton.mpr rfl), rfl⟩
    · rw [decide_eq_false c]
      refine ifF rfl ⟨sm, qs, hG, by omega, all, fun p' hp' hg => ?_⟩
      rw [et] at hp'
      rcases List.mem_append.mp hp' with hp' | hp'
      · exact cov p' hp' hg
      · rw [List.mem_singleton.mp hp'] at hg
        exact absurd hg c
  · obtain ⟨sm, qs, hG, lq, all, cov⟩ := h
    rw [List.length_map, ra.len, List.take_length] at cov
    exact hd D qs G sm hG all cov
end
/-! _law_best -/
section
variable {X : Cx}
def rEqLE (K : PySem.W.Frag) : R2 := fun x y H Q => ∃ a b xs, x = .ref a ∧ y = .ref b ∧ SqL K H a xs ∧ SqL K H b [] ∧ Q (.bl xs.isEmpty) H
theorem op_eqLE (hu : X.A.units + 64 < cLine) : OpR X (compareOp .Eq) (rEqLE X.K) := by
  intro pins s σ H x y v u Q I rx ry h
  obtain ⟨a, b, xs, rfl, rfl, ha, hb, q⟩ := h
  cases rx
  cases ry
  obtain ⟨its, r1, ⟨o1, n1, g1, c1, _, d1⟩, _⟩ := I.list ha
  obtain ⟨its2, r2, ⟨o2, n2, g2, c2, _, d2⟩, _⟩ := I.list hb
  cases r2
  cases xs with
  | nil =>
    cases r1
    exact SeqAt.RcAt.lists (e := fun _ => true) ⟨o1, g1, c1, n1, d1⟩ ⟨o2, g2, c2, n2, d2⟩ rfl (by omega) (fun j _ h2 => absurd h2 (by simp)) X.prog X.w _ _ ⟨.bl true, H, I, rfl, q⟩
  | cons z zs =>
    cases r1 with
    | cons _ _ => exact SeqAt.RcAt.lists_lengths ⟨o1, g1, c1, n1, d1⟩ ⟨o2, g2, c2, n2, d2⟩ (by simp) (by omega) X.prog X.w _ _ ⟨.bl false, H, I, rfl, q⟩
end
theorem seqAsg {te : TE} {g : TG} {t : L2.TS} {D : Ends} {σ : L2.St} {H : Hp} (h : te σ H fun x H1 => g x σ H1 fun σ' H' => t D σ' H') : tSeq (tAsg te g) t D σ H := h
theorem retCB {r : List V → Hp → VK → Prop} {te : TE} {D : Ends} {σ : L2.St} {H : Hp} (h : te σ H fun x H1 => r [x] H1 D.rt) : tRet (tCB r (tCons te tNil)) D σ H := h
theorem asg1 {te : TE} {g : TG} {D : Ends} {σ : L2.St} {H : Hp} (h : te σ H fun x H1 => g x σ H1 D.nx) : tAsg te g D σ H := h
theorem val_key {kvs : List (Key × V)} {ks : List Int} {p : Int} (h : kvs.map (·.1) = ks.map Sum.inl) (hv : (valV kvs (Sum.inl p)).isSome = true) : p ∈ ks := by
  rw [← valV_any] at hv
  obtain ⟨kv, h1, h2⟩ := List.any_eq_true.mp hv
  have h2 := of_decide_eq_true h2
  have hm : (Sum.inl p : Key) ∈ kvs.map (·.1) := List.mem_map.mpr ⟨kv, h1, h2⟩
  rw [h] at hm
  obtain ⟨p', h3, h4⟩ := List.mem_map.mp hm
  rw [← Sum.inl.inj h4]
  exact h3
/-- within a turn: the best row of each point met -/
structure BestTo (G : Hp) (rows : List (List Int)) (bs : List Int) (t : Nat) (kvs : List (Key × V)) : Prop where
  snd : ∀ p v, valV kvs (Sum.inl p) = some v → ∃ (a : Addr) (r : List Int), v = .ref a ∧ G a = some (.tup (r.map V.int)) ∧ LeP rows bs (t + 1) p r ∧ Dk (inP bs) (foreE rows) (t + 1) p
  keys : ∃ ks : List Int, kvs.map (·.1) = ks.map Sum.inl ∧ ks.Nodup ∧ ∀ p ∈ ks, 0 ≤ p ∧ p < (rows.length : Int)
theorem BestTo.put {G : Hp} {rows : List (List Int)} {bs : List Int} {t : Nat} {kvs : List (Key × V)} {B c : Addr} {p : Int} {r : List Int} {u : HO} (h : BestTo G rows bs t kvs) (hB : G B = some (.dK kvs)) (hv : valV kvs (Sum.inl p) = none) (hc : G c = some (.tup (r.map V.int))) (le : LeP rows bs (t + 1) p r) (dk : Dk (inP bs) (foreE rows) (t + 1) p) (hp : 0 ≤ p ∧ p < (rows.length : Int)) : BestTo (upd G B u) rows bs t (putK kvs (Sum.inl p) (.ref c)) := by
  have ne : ∀ {a : Addr} {xs : List V}, G a = some (.tup xs) → a ≠ B := fun h e => by rw [e, hB] at h; cases h
  refine ⟨fun p' v e => ?_, ?_⟩
  · rw [valV_put] at e
    by_cases z : (Sum.inl p' : Key) = Sum.inl p
    · rw [if_pos z] at e
      cases e
      rw [Sum.inl.inj z]
      exact ⟨c, r, rfl, by rw [upd_ne (ne hc)]; exact hc, le, dk⟩
    · rw [if_neg z] at e
      obtain ⟨a, r', e1, e2, e3⟩ := h.snd p' v e
      exact ⟨a, r', e1, by rw [upd_ne (ne e2)]; exact e2, e3⟩
  · obtain ⟨ks, k1, k2, k3⟩ := h.keys
    refine ⟨ks ++ [p], by rw [putK_new _ hv, List.map_append, k1, List.map_append]; rfl, List.nodup_append.mpr ⟨k2, by simp, fun a ha b hb e => not_key k1 hv (by rw [← List.mem_singleton.mp hb, ← e]; exact ha)⟩, fun a ha => ?_⟩
    rcases List.mem_append.mp ha with ha | ha
    · exact k3 a ha
    · rw [List.mem_singleton.mp ha]
      exact hp
theorem BestTo.same {G G' : Hp} {rows : List (List Int)} {bs : List Int} {t : Nat} {kvs : List (Key × V)} (h : BestTo G rows bs t kvs) (s : Same G G') : BestTo G' rows bs t kvs :=
  ⟨fun p v e => by obtain ⟨a, r, e1, e2, e3⟩ := h.snd p v e; exact ⟨a, r, e1, s _ _ e2, e3⟩, h.keys⟩
theorem put_some {kvs : List (Key × V)} {k j : Key} {v : V} (h : (valV kvs j).isSome = true) : (valV (putK kvs k v) j).isSome = true := by
  rw [valV_put]
  by_cases e : j = k
  · rw [if_pos e]; rfl
  · rw [if_neg e]; exact h
theorem tup_inj {r r' : List Int} (h : r.map V.int = r'.map V.int) : r = r' := by
  induction r generalizing r' with
  | nil =>
    cases r' with
    | nil => rfl
    | cons _ _ => cases h
  | cons a r ih =>
    cases r' with
    | nil => cases h
    | cons b s =>
      rw [List.map_cons, List.map_cons, List.cons.injEq] at h
      have h1 := h.1
      injection h1 with h1
      rw [h1, ih h.2]
section
variable {P : Program} {w : World} {K : PySem.W.Frag} {mg : Str → Option Value} {base : Heap} {f : Addr} {fd : FuncData}
def spBest (K : PySem.W.Frag) : Sp := fun vs H Q _ => ∃ (x y z : V) (rows : List (List Int)) (bs gs : List Int), vs = [x, y, z] ∧ Dp K H x (chD rows) ∧ RwOk rows ∧ (∀ ns ∈ rows, ns.Nodup) ∧ Dp K H y (.tuple (bs.map .int)) ∧ bs.Nodup ∧ (∀ o ∈ bs, 0 ≤ o ∧ o < (rows.length : Int)) ∧ Dp K H z (.tuple (gs.map .int)) ∧
  ∀ v H', Same H H' → ((v = .non ∧ ∀ ns, ¬ WayP rows bs gs ns) ∨ ∃ a ns, v = .ref a ∧ SqT K H' a (ns.map V.int) ∧ LeastW rows bs gs ns) → Q v H'
abbrev beN : List Str := ["_law_web", "_law_begins", "_law_aims", "_law_rows", "_law_layers_here", "_law_far", "_law_turn", "_law_best_here", "_law_row", "_law_to", "_law_one", "_law_at", "_law_layer"]
theorem scBest : FnScope beN ["_law_web", "_law_begins", "_law_aims"] (defScope sBest) := ⟨rfl, rfl, rfl, by decide +kernel, rfl, by decide +kernel, by decide +kernel⟩
abbrev scF : Scope := { kind := .function, names := [(".0", .local), ("_law_at", .local), ("_law_layer", .local), ("_law_aims", .free)], isGenerator := false, isCoroutine := false, more := [] }
set_option maxHeartbeats 1000000 in
theorem ok_best {k : Nat} (F : Fun K "_law_best" "_law_best" sBest f fd) (T : Free mg) (hSo : mg "sorted" = none) (hEn : mg "enumerate" = none) (cL : Cal P w K mg base "_law_layers" k ["_law_web", "_law_begins"] (spLay K)) : FnOk P w K mg base CX0 (k + 1) f fd ["_law_web", "_law_begins", "_law_aims"] (spBest K) := by
  refine F.ok scBest (fun vs H Q E' h => ?_) (fun cdv A outer s H vs Q E' hr h => ?_)
  · obtain ⟨x, y, z, rows, bs, gs, rfl, _⟩ := h
    rfl
  obtain ⟨x, y, z, rows, bs, gs, rfl, hx, hrw, hnd, hy, nd, hbs, hz, q⟩ := h
  have hu : (A.deeper (PyProof.Rows.envOfC "_law_best" (defScope sBest) s.heap.objs.size f cdv)).units + 1 < cLine := Nat.lt_of_le_of_lt (Nat.add_le_add_left (by decide : 1 ≤ 64) _) hr.units
  refine ⟨_, pss_cons (ps_setLc (i := 3) (own := [("_law_one", 10)]) (g := gName 10) (tt := tYes) (te := tTup (tCons (tVar 10) tNil)) rfl scBest.nd rfl rfl rfl (pi_tup (pv 1))
      (blkOk_by (own := [("_law_one", 10)]) (N := beN) (sc := defScope sBest) (by decide +kernel))
      (fun _ _ _ _ _ => pg_name (i := 10) scBest.nd rfl (Or.inl rfl)) (fun _ _ _ _ _ => pts_nil) (fun _ _ _ _ _ => pe_tup (pa_cons (pv 10) pa_nil)))
    (pss_cons (ps_set (i := 4) scBest.nd rfl (.inl rfl) (pe_cal cL hr rfl (pa_cons (pv 0) (pa_cons (pv 1) pa_nil))))
    (pss_cons (ps_setLc (i := 5) (own := [("_law_at", 11), ("_law_layer", 12)]) (g := gTup K 2 (gCons (gName 11) (gCons (gName 12) gNil))) (tt := ttAim K) (te := tVar 11) rfl scBest.nd rfl rfl rfl (pi_enum rfl hEn (pa_cons (pv 4) pa_nil))
      (blkOk_by (own := [("_law_at", 11), ("_law_layer", 12)]) (N := beN) (sc := defScope sBest) (by decide +kernel))
      (fun _ _ _ _ _ => pg_tup rfl (pgs_cons (pg_name (i := 11) scBest.nd rfl (Or.inl rfl)) (pgs_cons (pg_name (i := 12) scBest.nd rfl (Or.inl rfl)) pgs_nil)))
      (fun _ _ _ _ _ => pts_one (pt_cmpR (op_neLE hr.units) (pe_lc (own := [("_law_one", 10)]) (g := gName 10) (tt := tTest (tOp (rIn K false) (tVar 10) (tVar 2))) (te := tVar 10) rfl scBest.nd (pi_list (pv 12))
        (blkOk_by (own := [("_law_one", 10)]) (N := beN) (sc := relS scF (defScope sBest)) (by decide +kernel))
        (fun _ _ _ _ _ => pg_name (i := 10) scBest.nd rfl (Or.inl rfl)) (fun _ _ _ _ _ => pts_one (pt_cmpR op_in_seq (pv 10) (pv 2) rfl)) (fun _ _ _ _ _ => pv 10)) (pe_lst pa_nil) (nomark _)))
      (fun _ _ _ _ _ => pv 11))
    (pss_cons (ps_if (pt_cmpR (op_eqLE hr.units) (pv 5) (pe_lst pa_nil) (nomark _)) (pss_one (ps_ret pe_non)) pss_nil)
    (pss_cons (ps_for PassesOwn.never rfl (pi_range1 rfl T.range (pa_cons (pe_ix ix_list (pv 5) pe_int (fun _ _ => rfl)) pa_nil)) (pg_name (i := 6) scBest.nd rfl (.inl rfl))
      (pss_cons (ps_set (i := 7) scBest.nd rfl (.inr rfl) pe_dnewK)
      (pss_cons (ps_for PassesOwn.never rfl (pi_list (pe_callB cr_sortE rfl hSo (by decide +kernel) (pa_cons (pv 3) pa_nil))) (pg_name (i := 8) scBest.nd rfl (.inl rfl))
        (pss_one (ps_for PassesOwn.never rfl (pi_tup (pe_ix ix_tup (pv 0) (pe_ix ix_tup (pv 8) (pe_un un_neg pe_int) (fun _ _ => rfl)) (fun _ _ => rfl))) (pg_name (i := 9) scBest.nd rfl (.inl rfl))
          (pss_one (ps_if (PW.pt (pw_and (pt_cmpR op_in_seq (pv 9) (pe_ix ix_list (pv 4) (pe_callB call_len_seq rfl T.len PySem.boot_len (pa_cons (pv 8) pa_nil)) (fun _ _ => rfl)) rfl) (pw_and1 (pt_cmp (pc_dnotin hu (pv 9) (pv 7))))))
            (pss_one (ps_dput hu (pv 7) (pv 9) (pe_op op_catA (pv 8) (pe_tup (pa_cons (pv 9) pa_nil))) rfl)) pss_nil)))))
      (pss_one (ps_lock (ps_setLc (i := 3) (own := [("_law_to", 9)]) (g := gName 9) (tt := tYes) (te := tDGet (tVar 7) (tVar 9)) rfl scBest.nd rfl rfl rfl (pi_keys (pv 7))
        (blkOk_by (own := [("_law_to", 9)]) (N := beN) (sc := defScope sBest) (by decide +kernel))
        (fun _ _ _ _ _ => pg_name (i := 9) scBest.nd rfl (Or.inl rfl)) (fun _ _ _ _ _ => pts_nil) (fun _ _ _ _ _ => pe_dget hu (pv 7) (pv 9) (fun _ _ => rfl))))))))
    (pss_one (ps_ret (pe_callB (cr_minT rfl hr.units) rfl T.min (by decide +kernel) (pa_cons (pe_lc (own := [("_law_row", 8)]) (g := gName 8) (tt := ttEnd K) (te := tVar 8) rfl scBest.nd (pi_list (pv 3))
      (blkOk_by (own := [("_law_row", 8)]) (N := beN) (sc := defScope sBest) (by decide +kernel))
      (fun _ _ _ _ _ => pg_name (i := 8) scBest.nd rfl (Or.inl rfl)) (fun _ _ _ _ _ => pts_one (pt_cmpR op_in_seq (pe_ix ix_tup (pv 8) (pe_un un_neg pe_int) (fun _ _ => rfl)) (pv 2) rfl)) (fun _ _ _ _ _ => pv 8)) pa_nil)))))))), ?_⟩
  obtain ⟨ya, rfl, yat⟩ := ints_at hy
  obtain ⟨za, rfl, zat⟩ := ints_at hz
  have hx' := hx
  cases hx with
  | @tup ca cs _ cat ceach =>
  have hlen := hrw.len
  have rl : ∀ a b, b ∈ rowAt rows a → 0 ≤ a → 0 ≤ b ∧ b < (rows.length : Int) := fun a b h h0 => by
    unfold rowAt at h
    rw [List.getD_eq_getElem?_getD] at h
    cases e : rows[a.toNat]? with
    | none => rw [e] at h; cases h
    | some row =>
      rw [e] at h
      exact (hrw.row row (List.mem_of_getElem? e)).2 b h
  have hb : ∀ (j : Nat) (q : Int), Rk (inP bs) (foreE rows) j q → 0 ≤ q ∧ q < (rows.length : Int) := fun j q h => by
    cases j with
    | zero => exact hbs q h
    | succ j =>
      obtain ⟨r, _, e⟩ := h
      exact rl r q e.2.2 e.1
  have lbs := nodup_len rows.length bs nd hbs
  refine seqAsg (lc_ones (K := K) (te0 := tVar 1) (σ := [some (.ref ca), some (.ref ya), some (.ref za), none, none, none, none, none, none, none, none, none, none]) (a := ya) (bs := bs) (j := 10) (fun Q h => ⟨_, rfl, h⟩) yat (by omega) (by show 10 < 13; decide) (fun R0 ts0 H1 s1 hR0 lt0 each0 => ?_))
  have r0 : RowsAt H1 rows bs 0 R0 ts0 bs := ⟨hR0, lt0, nd, fun i a p ha hp => ⟨[p], each0 i a p ha hp, LeP.zero (List.mem_of_getElem? hp)⟩, fun p => ⟨fun h => ⟨h, fun j hj => by omega⟩, fun d => d.1⟩⟩
  refine ⟨_, rfl, _, rfl, .ref ca, .ref ya, rows, bs, rfl, dp_ext (ext_same s1) _ _ hx', hrw, hnd, dp_ext (ext_same s1) _ _ hy, nd, hbs, fun L H2 s2 lay => ?_⟩
  obtain ⟨as, hL, las, eachL, allL⟩ := lay
  have each3 : ∀ (i : Nat) a, as[i]? = some a → ∃ ls : List Int, H2 a = some (.lst (ls.map V.int)) ∧ ls.length < 1000 ∧ ((∃ g, g ∈ gs ∧ Dk (inP bs) (foreE rows) i g) ↔ ∃ p ∈ ls, p ∈ gs) := fun i a ha => by
    obtain ⟨ls, h1, h2, h3⟩ := eachL i a ha
    have l := nodup_len rows.length ls h2 fun p hp => hb i p ((h3 p).mp hp).1
    exact ⟨ls, h1, by omega, ⟨fun ⟨g, hg, d⟩ => ⟨g, (h3 g).mpr d, hg⟩, fun ⟨p, hp, hg⟩ => ⟨p, hg, (h3 p).mp hp⟩⟩⟩
  refine seqAsg (lc_far (aim := fun j => ∃ g, g ∈ gs ∧ Dk (inP bs) (foreE rows) j g) hL (by omega) (sqT_same (s1.trans s2) zat) each3 (fun D fs H3 s3 hD far => ?_))
  refine ⟨_, rfl, small (by show 0 ≤ 1000; decide), fun p4 f4 => ?_⟩
  have n4 := same_new f4 (.lst [])
  refine ⟨D, p4, _, rfl, rfl, SqL.of (n4 _ _ hD), SqL.of upd_same, _, rfl, ?_⟩
  have s14 := s1.trans (s2.trans (s3.trans n4))
  have hD4 := n4 _ _ hD
  have hL4 := (s3.trans n4) _ _ hL
  have r4 := r0.same (s2.trans (s3.trans n4))
  have each4 : ∀ (i : Nat) a, as[i]? = some a → ∃ ls : List Int, (upd H3 p4 (.lst [])) a = some (.lst (ls.map V.int)) ∧ ∀ p, p ∈ ls ↔ Dk (inP bs) (foreE rows) i p := fun i a ha => by
    obtain ⟨ls, h1, h2, h3⟩ := eachL i a ha
    exact ⟨ls, (s3.trans n4) _ _ h1, h3⟩
  generalize upd H3 p4 (.lst []) = H4 at s14 hD4 hL4 r4 each4
  rcases far with ⟨rfl, no⟩ | ⟨m, rest, rfl, ml, ⟨g0, hg0, dg0⟩, low⟩
  · refine ifT rfl (q .non _ s14 (.inl ⟨rfl, fun ns hw => ?_⟩))
    obtain ⟨j, g, hg, d⟩ := way_reach rl hbs hw
    exact no j (allL j g d) ⟨g, hg, d⟩
  · refine ifF rfl ⟨_, rfl, D, _, 0, .int (m : Int), rfl, rfl, SqL.of hD4, atI_at (i := 0) (Int.le_refl _) rfl, (m : Int), rfl, by omega, by omega, ?_⟩
    refine for_range (lo := 0) (n := m) (fun t σ G => ∃ (R : Addr) (ts : List Addr) (ps : List Int) (o6 o7 o8 o9 o10 o11 o12 : Option V), σ = [some (.ref ca), some (.ref ya), some (.ref za), some (.ref R), some (.ref L), some (.ref D), o6, o7, o8, o9, o10, o11, o12] ∧ Same H4 G ∧ RowsAt G rows bs t R ts ps)
      ⟨R0, ts0, bs, _, _, _, _, _, _, _, rfl, Same.refl _, r4⟩ (fun t σ G ht h => ?_) (fun σ G h => ?_)
    · obtain ⟨R, ts, ps, o6, o7, o8, o9, o10, o11, o12, rfl, sG, ra⟩ := h
      have lps := nodup_len rows.length ps ra.nd fun p hp => hb t p ((ra.all p).mp hp).1
      have ltp := ra.len
      refine fun B hB => ?_
      have nB := same_new hB (.dK [])
      have ra1 := ra.same nB
      refine ⟨_, rfl, t + 1, by omega, R, ts.map V.ref, rfl, SqL.of ra1.at_, by rw [List.length_map]; omega, fun x hx => ?_, fun ys S pm pw hS => ?_⟩
      · obtain ⟨a, ha, rfl⟩ := List.mem_map.mp hx
        obtain ⟨i, hi⟩ := List.getElem?_of_mem ha
        have li := (List.getElem?_eq_some_iff.mp hi).1
        obtain ⟨p, hp⟩ : ∃ p, ps[i]? = some p := ⟨_, List.getElem?_eq_getElem (by omega)⟩
        obtain ⟨r, har, le⟩ := ra1.each i a p hi hp
        refine ⟨r, ⟨a, rfl, SqT.of har⟩, le.1.2.2.1, fun z hz => ?_⟩
        have := le.1.bd rl hbs z hz
        omega
      have nS := same_new hS (.lst ys)
      have mem : ∀ {j : Nat} {v : V}, ys[j]? = some v → ∃ (a : Addr) (qp : Int) (r : List Int), v = .ref a ∧ G a = some (.tup (r.map V.int)) ∧ LeP rows bs t qp r ∧ Dk (inP bs) (foreE rows) t qp := fun {j v} h => by
        obtain ⟨a, ha, rfl⟩ := List.mem_map.mp (pm.mem_iff.mp (List.mem_of_getElem? h))
        obtain ⟨i, hi⟩ := List.getElem?_of_mem ha
        have li := (List.getElem?_eq_some_iff.mp hi).1
        obtain ⟨p, hp⟩ : ∃ p, ps[i]? = some p := ⟨_, List.getElem?_eq_getElem (by omega)⟩
        obtain ⟨r, har, le⟩ := ra.each i a p hi hp
        exact ⟨a, p, r, rfl, har, le, (ra.all p).mp (List.mem_of_getElem? hp)⟩
      have has : ∀ q', Dk (inP bs) (foreE rows) t q' → ∃ (j' : Nat) (a' : Addr) (r' : List Int), ys[j']? = some (.ref a') ∧ G a' = some (.tup (r'.map V.int)) ∧ LeP rows bs t q' r' := fun q' d => by
        obtain ⟨i, hi⟩ := List.getElem?_of_mem ((ra.all q').mpr d)
        have li := (List.getElem?_eq_some_iff.mp hi).1
        obtain ⟨a', ha'⟩ : ∃ a', ts[i]? = some a' := ⟨_, List.getElem?_eq_getElem (by omega)⟩
        obtain ⟨r', har, le⟩ := ra.each i a' q' ha' hi
        obtain ⟨j', hj'⟩ := List.getElem?_of_mem (pm.mem_iff.mpr (List.mem_map.mpr ⟨a', List.mem_of_getElem? ha', rfl⟩))
        exact ⟨j', a', r', hj', har, le⟩
      refine ⟨S, rfl, ⟨_, SqL.of upd_same⟩, ?_⟩
      refine for_list (xs := ys) (fun j σ G' => ∃ (kvs : List (Key × V)) (o8 o9 : Option V), σ = [some (.ref ca), some (.ref ya), some (.ref za), some (.ref R), some (.ref L), some (.ref D), some (.int (0 + (t : Int))), some (.ref B), o8, o9, o10, o11, o12] ∧ Same G G' ∧ G' S = some (.lst ys) ∧ G' B = some (.dK kvs) ∧ BestTo G' rows bs t kvs ∧ ∀ j', j' < j → ∀ a, ys[j']? = some (.ref a) → ∀ qp r, G a = some (.tup (r.map V.int)) → PathT rows bs t qp r → ∀ p ∈ rowAt rows qp, Dk (inP bs) (foreE rows) (t + 1) p → (valV kvs (Sum.inl p)).isSome = true)
        ⟨[], _, _, rfl, nB.trans nS, upd_same, nS _ _ upd_same, ⟨(fun p v e => by cases e), [], rfl, List.nodup_nil, fun p hp => (by cases hp)⟩, fun j' hj' => (by omega)⟩ (fun j σ G' _ h => by obtain ⟨_, _, _, _, _, h1, _⟩ := h; exact SqL.of h1) (fun j v σ G' hv h => ?_) (fun σ G' h => ?_)
      · obtain ⟨kvs, o8, o9, rfl, sm, hS', hB', best, cov⟩ := h
        obtain ⟨a, qp, r, rfl, har, le, dq⟩ := mem hv
        have rq := hb t qp dq.1
        have hr' := List.getElem?_eq_getElem (show qp.toNat < rows.length by omega)
        generalize rows[qp.toNat] = row at hr'
        obtain ⟨b, hb', bat⟩ := ch_row ceach hr'
        have hra : rowAt rows qp = row := by
          unfold rowAt
          rw [List.getD_eq_getElem?_getD, hr']
          rfl
        have hrow := hrw.row row (List.mem_of_getElem? hr')
        have s4G := s14.trans sG
        refine ⟨_, rfl, _, rfl, _, rfl, a, _, -1, _, rfl, rfl, SqT.of (sm _ _ har), le.1.last, ca, cs, qp, _, rfl, rfl, sqT_same (s4G.trans sm) cat, atI_at rq.1 hb', b, rfl, ⟨_, sqT_same (s4G.trans sm) bat⟩, ?_⟩
        refine for_tup (xs := row.map V.int) (fun i σ G' => ∃ (kvs : List (Key × V)) (o9 : Option V), σ = [some (.ref ca), some (.ref ya), some (.ref za), some (.ref R), some (.ref L), some (.ref D), some (.int (0 + (t : Int))), some (.ref B), some (.ref a), o9, o10, o11, o12] ∧ Same G G' ∧ G' S = some (.lst ys) ∧ G' B = some (.dK kvs) ∧ BestTo G' rows bs t kvs ∧ (∀ j', j' < j → ∀ a, ys[j']? = some (.ref a) → ∀ qp r, G a = some (.tup (r.map V.int)) → PathT rows bs t qp r → ∀ p ∈ rowAt rows qp, Dk (inP bs) (foreE rows) (t + 1) p → (valV kvs (Sum.inl p)).isSome = true) ∧ ∀ p ∈ row.take i, Dk (inP bs) (foreE rows) (t + 1) p → (valV kvs (Sum.inl p)).isSome = true)
          ⟨kvs, _, rfl, sm, hS', hB', best, cov, fun p hp => (by simp at hp)⟩ (fun i σ G' _ h => by obtain ⟨_, _, _, h1, _⟩ := h; exact sqT_same (s4G.trans h1) bat) (fun i v σ G' hvi h => ?_) (fun σ G' h => ?_)
        · obtain ⟨kvs, o9, rfl, sm, hS', hB', best, cov, covr⟩ := h
          obtain ⟨p, hp, rfl⟩ := ints_get hvi
          have et : row.take (i + 1) = row.take i ++ [p] := by rw [List.take_add_one, hp]; rfl
          have pmem := List.mem_of_getElem? hp
          have hpr := hrow.2 p pmem
          obtain ⟨la, hla⟩ : ∃ la, as[t + 1]? = some la := ⟨_, List.getElem?_eq_getElem (by omega)⟩
          obtain ⟨ls, hls, iff⟩ := each4 (t + 1) la hla
          have har' := sm _ _ har
          have lr := le.1.2.2.1
          refine ⟨_, rfl, _, rfl, _, rfl, a, _, rfl, .inr (SqT.of har'), L, as.map V.ref, _, .ref la, rfl, rfl, SqL.of ((sG.trans sm) _ _ hL4), ?_, la, _, rfl, .inl (SqL.of ((sG.trans sm) _ _ hls)), rfl, flat_ints ls, _, rfl, ?_⟩
          · rw [List.length_map, lr]
            exact atI_nat (by rw [List.getElem?_map, hla]; rfl)
          rw [if_neg (by decide), inV_ints]
          by_cases c : p ∈ ls
          · rw [decide_eq_true c]
            have dp := (iff p).mp c
            refine ifT rfl ⟨_, rfl, _, rfl, B, _, rfl, DGet.k (k := Sum.inl p) hB', _, rfl, ?_⟩
            cases hval : valV kvs (Sum.inl p) with
            | some u =>
              refine ifF rfl ⟨kvs, _, rfl, sm, hS', hB', best, cov, fun p' hp' d => ?_⟩
              rw [et] at hp'
              rcases List.mem_append.mp hp' with hp' | hp'
              · exact covr p' hp' d
              · rw [List.mem_singleton.mp hp', hval]
                rfl
            | none =>
              refine ifT rfl ⟨_, rfl, _, rfl, small (by show 1 ≤ 1000; decide), fun c1 f1 => ?_⟩
              have n1 := same_new f1 (.tup [.int p])
              refine ⟨a, c1, _, _, rfl, rfl, SqT.of (n1 _ _ har'), SqT.of upd_same, small (by show (r.map V.int).length + 1 ≤ 1000; rw [List.length_map]; omega), fun e => ?_, fun _ e => (by cases e), fun _ _ c2 f2 => ?_⟩
              · have := congrArg List.length e
                rw [List.length_map, lr] at this
                cases this
              have n2 := same_new f2 (.tup (r.map V.int ++ [.int p]))
              have s2' := n1.trans n2
              have hc2 : (upd (upd G' c1 (.tup [.int p])) c2 (.tup (r.map V.int ++ [.int p]))) c2 = some (.tup ((r ++ [p]).map V.int)) := by rw [upd_same, List.map_append]; rfl
              generalize upd (upd G' c1 (.tup [.int p])) c2 (.tup (r.map V.int ++ [.int p])) = G2 at s2' hc2
              have hB2 := s2' _ _ hB'
              have lk := key_len best.keys
              have le2 : LeP rows bs (t + 1) p (r ++ [p]) := le.next rl hbs (by rw [hra]; exact pmem) dp fun q' e' d' => by
                obtain ⟨j', a', r', hj', har2, le'⟩ := has q' d'
                refine ⟨r', le', ?_⟩
                by_cases cj : j' < j
                · have := cov j' cj a' hj' q' r' har2 le'.1 p e' dp
                  rw [hval] at this
                  cases this
                · by_cases ce : j' = j
                  · rw [ce, hv] at hj'
                    cases hj'
                    rw [har] at har2
                    injection har2 with har2
                    injection har2 with har2
                    rw [tup_inj har2]
                    exact lexP_refl _
                  · have l1 := (List.getElem?_eq_some_iff.mp hv)
                    have l2 := (List.getElem?_eq_some_iff.mp hj')
                    obtain ⟨b1, e1⟩ := l1
                    obtain ⟨b2, e2⟩ := l2
                    have pp := List.pairwise_iff_getElem.mp pw j j' b1 b2 (by omega)
                    rw [e1, e2] at pp
                    have bd1 : _root_.TS.Bd 64 r := fun z hz => by
                      have := le.1.bd rl hbs z hz
                      omega
                    have bd2 : _root_.TS.Bd 64 r' := fun z hz => by
                      have := le'.1.bd rl hbs z hz
                      omega
                    exact code_lexP (lr.trans le'.1.2.2.1.symm) bd1 bd2 (pp r r' ⟨a, rfl, SqT.of (nB _ _ har)⟩ ⟨a', rfl, SqT.of (nB _ _ har2)⟩)
              refine ⟨_, rfl, _, rfl, B, _, rfl, .inl ⟨kvs, Sum.inl p, hB2, rfl, Nat.lt_of_lt_of_le (show _ < 1000 by omega) (small (Nat.le_refl _)), rfl⟩, ?_⟩
              have neS : S ≠ B := fun e => by rw [e, hB'] at hS'; cases hS'
              refine ⟨putK kvs (Sum.inl p) (.ref c2), _, rfl, same_upd (sm.trans s2') hB, by rw [upd_ne neS]; exact s2' _ _ hS', upd_same, (best.same s2').put hB2 hval hc2 le2 dp hpr, fun j' hj' a' h1 q' r' h2 h3 p' h4 h5 => put_some (cov j' hj' a' h1 q' r' h2 h3 p' h4 h5), fun p' hp' d => ?_⟩
              rw [et] at hp'
              rcases List.mem_append.mp hp' with hp' | hp'
              · exact put_some (covr p' hp' d)
              · rw [List.mem_singleton.mp hp', valV_put, if_pos rfl]
                rfl
          · rw [decide_eq_false c]
            refine ifF rfl (ifF rfl ⟨kvs, _, rfl, sm, hS', hB', best, cov, fun p' hp' d => ?_⟩)
            rw [et] at hp'
            rcases List.mem_append.mp hp' with hp' | hp'
            · exact covr p' hp' d
            · rw [List.mem_singleton.mp hp'] at d
              exact absurd ((iff p).mpr d) c
        · obtain ⟨kvs, o9, rfl, sm, hS', hB', best, cov, covr⟩ := h
          refine ⟨kvs, _, _, rfl, sm, hS', hB', best, fun j' hj' a' ha' q' r' hr2 pt p hp d => ?_⟩
          by_cases cj : j' < j
          · exact cov j' cj a' ha' q' r' hr2 pt p hp d
          · rw [show j' = j by omega, hv] at ha'
            cases ha'
            rw [har] at hr2
            injection hr2 with hr2
            injection hr2 with hr2
            have er := tup_inj hr2
            subst er
            have eq := le.1.last.symm.trans pt.last
            have eq := Option.some.inj eq
            injection eq with eq
            rw [← eq, hra] at hp
            rw [List.length_map, List.take_length] at covr
            exact covr p hp d
      · obtain ⟨kvs, o8', o9', rfl, sm, hS', hB', best, cov⟩ := h
        obtain ⟨ks, k1, k2, k3⟩ := best.keys
        have kl := key_len best.keys
        refine ⟨B, .dK kvs, hB', trivial, fun od => ?_⟩
        refine asg1 (lc_keys upd_same k1 k2 (fun p v e => by obtain ⟨a, r, h, _⟩ := best.snd p v e; exact ⟨a, h⟩) (by omega) (fun D2 ts2 H5 f5 s5 hD2 l2 each2 => ?_))
        have back : ∀ b o, G' b = some o → b ≠ B → (upd H5 B (.dK kvs)) b = some o := fun b o h ne => by
          rw [upd_ne ne]
          exact s5 _ _ (by rw [upd_ne ne]; exact h)
        have neD : D2 ≠ B := fun e => by rw [e, upd_same] at f5; cases f5
        refine ⟨s5 _ _ upd_same, D2, ts2, ks, _, _, _, _, _, _, _, rfl, fun b o h => back b o ((sG.trans sm) b o h) (fun e => by rw [e, none_same sG hB] at h; cases h), by rw [upd_ne neD]; exact hD2, l2, k2, fun i a p ha hp => ?_, fun p => ⟨fun hp => ?_, fun d => ?_⟩⟩
        · obtain ⟨a', r, e1, e2, e3⟩ := best.snd p _ (each2 i a p ha hp)
          cases e1
          exact ⟨r, back _ _ e2 (fun z => by rw [z, hB'] at e2; cases e2), e3.1⟩
        · cases e : valV kvs (Sum.inl p) with
          | none => exact absurd hp (not_key k1 e)
          | some v =>
            obtain ⟨_, _, _, _, _, d⟩ := best.snd p v e
            exact d
        · obtain ⟨q', dq', e⟩ := d.pred
          obtain ⟨j', a', r', hj', har', le'⟩ := has q' dq'
          exact val_key k1 (cov j' (List.getElem?_eq_some_iff.mp hj').1 a' hj' q' r' har' le'.1 p e.2.2 d)
    · obtain ⟨R, ts, ps, o6, o7, o8, o9, o10, o11, o12, rfl, sG, ra⟩ := h
      have lps := nodup_len rows.length ps ra.nd fun p hp => hb m p ((ra.all p).mp hp).1
      have ltp := ra.len
      refine retCB (lc_aims (K := K) ra (sqT_same (s14.trans sG) zat) (by omega) (fun D2 qs H5 s5 hD2 each5 cov5 => ?_))
      have low' : ∀ j g', g' ∈ gs → Dk (inP bs) (foreE rows) j g' → m ≤ j := fun j g' hg' d => by
        by_cases c : j < m
        · exact absurd ⟨g', hg', d⟩ (low j c)
        · omega
      have toE : ∀ g', g' ∈ gs → Dk (inP bs) (foreE rows) m g' → ∃ e ∈ qs, LeP rows bs m g' e.2.1 := fun g' hg' d => by
        obtain ⟨e, he, h⟩ := cov5 g' ((ra.all g').mpr d) hg'
        exact ⟨e, he, by rw [← h]; exact (each5 e he).2.1⟩
      refine ⟨D2, qs.map fun e => V.ref e.1, qs.map fun e => e.2.1, rfl, SqL.of hD2, ?_, ?_, fun l hl m' hm' => ?_, fun i x l hxi hli hmin => ?_⟩
      · have : ∀ l : List (Addr × List Int × Int), (∀ e ∈ l, e ∈ qs) → DpAll K H5 (l.map fun e => V.ref e.1) ((l.map fun e => e.2.1).map fun l => .tuple (l.map .int)) := fun l => by
          induction l with
          | nil => exact fun _ => .nil
          | cons e l ih => exact fun h => .cons (.tup (SqT.of (s5 _ _ (each5 e (h e List.mem_cons_self)).1)) (dp_ints _)) (ih fun e' he' => h e' (List.mem_cons_of_mem _ he'))
        exact this qs fun e he => he
      · obtain ⟨e, he, _⟩ := toE g0 hg0 dg0
        rw [List.length_map]
        exact List.length_pos_of_mem he
      · obtain ⟨e, he, rfl⟩ := List.mem_map.mp hl
        obtain ⟨e', he', rfl⟩ := List.mem_map.mp hm'
        rw [(each5 e he).2.1.1.2.2.1, (each5 e' he').2.1.1.2.2.1]
      · rw [List.getElem?_map] at hxi hli
        cases hq : qs[i]? with
        | none => rw [hq] at hxi; cases hxi
        | some e =>
          rw [hq] at hxi hli
          cases hxi
          cases hli
          have he := List.mem_of_getElem? hq
          obtain ⟨h1, h2, h3⟩ := each5 e he
          refine q _ _ (s14.trans (sG.trans s5)) (.inr ⟨e.1, e.2.1, rfl, SqT.of (s5 _ _ h1), h2.least rl hbs h3 low' fun g' hg' d => ?_⟩)
          obtain ⟨e', he', le'⟩ := toE g' hg' d
          exact ⟨e'.2.1, le', hmin _ (List.mem_map.mpr ⟨e', he', rfl⟩)⟩
end
/-- the script, which nobody writes -/
def ScrOk (K : PySem.W.Frag) (H : Hp) (a : Addr) (xs : List V) : Prop := (∃ o, H a = some (.frz o (.lst xs))) ∨
  ∃ (o : Obj) (its : Array Value) (n : Nat), K.lookup a = some o ∧ o.cls = .type "list" ∧ o.dict = none ∧ o.data = .seq its n ∧ its.size ≤ sizeLine ∧ Vals xs its.toList
theorem ScrOk.kt {K : PySem.W.Frag} {H H' : Hp} {a : Addr} {xs : List V} (h : ScrOk K H a xs) (k : KT H H') : ScrOk K H' a xs := by
  rcases h with ⟨o, z⟩ | z
  · exact .inl ⟨o, k _ _ z (fun l q => by cases q)⟩
  · exact .inr z
theorem ScrOk.sq {K : PySem.W.Frag} {H : Hp} {a : Addr} {xs : List V} (h : ScrOk K H a xs) : SqL K H a xs := by
  rcases h with h | h
  · exact .inl (.inr h)
  · exact .inr h
/-! repr, where sys.modules stands in the base: no list and no dict of the law's is it -/
section
variable {X : Cx} {pins : List (Addr × Obj)} {σ : L2.St} {H : Hp} {s : Shared}
def SysB (base : Heap) : Prop := ∃ mm, base.Ns sysModules mm
theorem list_ne_sys (I : Inv X pins σ H s) (hs : SysB X.base) {r : Addr} {us : List V} (h : SqL X.K H r us) : r ≠ sysModules := by
  obtain ⟨mm, o0, es, ep, e0, d0, _⟩ := hs
  have hn := (I.bs _ _ e0).2
  intro e
  rw [e] at h
  rcases h with (z | ⟨o, z⟩) | ⟨o, its, n, hk, hc, hdn, hd, _⟩
  · rw [hn] at z
    cases z
  · rw [hn] at z
    cases z
  · have z := I.mod.kin _ _ hk
    rw [e0] at z
    cases z
    rw [d0] at hd
    cases hd
mutual
theorem Dp.rdS (I : Inv X pins σ H s) (hs : SysB X.base) : ∀ (d : PyData) (v : V) (u : Value), Dp X.K H v d → RelV v u → ∃ as, Reads s.heap u d as ∧ sysModules ∉ as
  | .none, v, u, h, r => by cases h; cases r; exact ⟨_, .none, fun z => nomatch z⟩
  | .bool b, v, u, h, r => by cases h; cases r; exact ⟨_, .bool b, fun z => nomatch z⟩
  | .int i, v, u, h, r => by cases h; obtain ⟨t, rfl⟩ := r; exact ⟨_, .int i t, fun z => nomatch z⟩
  | .str x, v, u, h, r => by cases h; obtain ⟨t, rfl⟩ := r; exact ⟨_, .str x t, fun z => nomatch z⟩
  | .list es, v, u, h, r => by
    cases h with
    | lst at_ each =>
      cases r
      have ne := list_ne_sys I hs at_
      obtain ⟨its, rv, ⟨o, n, ho, hc, _, hd⟩, _⟩ := I.list at_
      obtain ⟨as, hr, hn⟩ := Dp.rdsS I hs es _ its each rv
      refine ⟨_, .list ho hc hd hr, fun z => ?_⟩
      rcases List.mem_cons.mp z with z | z
      · exact ne z.symm
      · exact hn z
  | .tuple es, v, u, h, r => by
    cases h with
    | tup at_ each =>
      cases r
      obtain ⟨its, rv, ⟨o, ho, hc, n, hd⟩, _⟩ := I.tuple at_
      obtain ⟨as, hr, hn⟩ := Dp.rdsS I hs es _ its each rv
      exact ⟨_, .tuple ho hc hd hr, hn⟩
  | .dict kvs, v, u, h, r => by
    cases h with
    | dct at_ =>
      cases r
      obtain ⟨_, _, _, _, _, _, ns, rd⟩ := dct_reads I at_
      exact ⟨_, rd, fun z => by
        have z : sysModules ∈ [_] := z
        exact ns (List.mem_singleton.mp z).symm⟩
theorem Dp.rdsS (I : Inv X pins σ H s) (hs : SysB X.base) : ∀ (ds : List PyData) (vs : List V) (us : List Value), DpAll X.K H vs ds → Vals vs us → ∃ as, ReadsAll s.heap us ds as ∧ sysModules ∉ as
  | [], vs, us, h, r => by cases h; cases r; exact ⟨_, .nil, fun z => nomatch z⟩
  | d :: ds, vs, us, h, r => by
    cases h with
    | cons one more =>
      cases r with
      | cons r1 r2 =>
        obtain ⟨as, q1, n1⟩ := Dp.rdS I hs d _ _ one r1
        obtain ⟨bs, q2, n2⟩ := Dp.rdsS I hs ds _ _ more r2
        refine ⟨_, .cons q1 q2, fun hm => ?_⟩
        rcases List.mem_append.mp hm with hm | hm
        · exact n1 hm
        · exact n2 hm
end
end
theorem call_reprS {X : Cx} (hs : SysB X.base) (hg : X.A.guards = some []) (hu : X.A.units + 80 < cLine) : CallR X (.builtin "repr") (fun xs H Q => ∃ (a : Addr) (d : PyData), xs = [.ref a] ∧ Dp X.K H (.ref a) d ∧ d.showable = true ∧ d.depth ≤ 64 ∧ d.shown.length ≤ sizeLine ∧ Q (.str d.shown) H) := by
  intro pins s σ H xs us Q I r h
  obtain ⟨a, d, rfl, hd, h1, h3, h4, q⟩ := h
  obtain ⟨u, rfl, ru⟩ := vals1 r
  cases ru
  obtain ⟨as, hr, hn⟩ := Dp.rdS I hs d (.ref a) (.ref a) hd rfl
  exact repr_of_reads' hr h1 (fun _ => hn) hg (by omega) (fun _ _ e => e) (fun h' u tk hk => ⟨.str d.shown, H, I.kept hk, ⟨u, rfl⟩, q⟩) h4
theorem call_reprA {X : Cx} (hs : SysB X.base) (hg : X.A.guards = some []) (hu : X.A.units + 80 < cLine) : CallR X (.builtin "repr") (fun xs H Q => ∃ (v : V) (d : PyData), xs = [v] ∧ Dp X.K H v d ∧ d.showable = true ∧ d.depth ≤ 64 ∧ d.shown.length ≤ sizeLine ∧ Q (.str d.shown) H) := by
  intro pins s σ H xs us Q I r h
  obtain ⟨v, d, rfl, hd, h1, h3, h4, q⟩ := h
  have refs : ∀ a : Addr, v = .ref a → wpAny (model X.prog X.w) X.A (call (.builtin "repr") us) (EP X pins σ Q) X.xe s := fun a e => by
    subst e
    exact call_reprS hs hg hu pins s σ H _ us Q I r ⟨a, d, rfl, hd, h1, h3, h4, q⟩
  cases hd with
  | non =>
    obtain ⟨u, rfl, ru⟩ := vals1 r
    cases ru
    exact PySem.P.repr_of_none ⟨.str _, H, I.tok _, ⟨_, rfl⟩, q⟩
  | bl b =>
    obtain ⟨u, rfl, ru⟩ := vals1 r
    cases ru
    exact PySem.P.repr_of_bool ⟨.str _, H, I.tok _, ⟨_, rfl⟩, by simpa only [PyData.shown] using q⟩
  | int i =>
    obtain ⟨u, rfl, t, rfl⟩ := vals1 r
    exact PySem.P.repr_of_int (of_decide_eq_true (by simpa only [PyData.showable] using h1)) ⟨.str _, H, I.tok _, ⟨_, rfl⟩, by simpa only [PyData.shown] using q⟩
  | str x =>
    obtain ⟨u, rfl, t, rfl⟩ := vals1 r
    exact PySem.P.repr_of_str ⟨.str _, H, I.tok _, ⟨_, rfl⟩, by simpa only [PyData.shown] using q⟩ (by simpa only [PyData.shown] using h4)
  | lst _ _ => exact refs _ rfl
  | tup _ _ => exact refs _ rfl
  | dct _ => exact refs _ rfl
/-! the end of a law whose defs hold lambdas: the tables of their code are tracked, too -/
section
open PySem.Spec PyProof.Rows LamX
theorem run_law2 {P : Program} {w : World} {K : PySem.W.Frag} {mg : Str → Option Value} {base : Heap} {fa a : Addr} {fd : FuncData} {st : Stmt} {N : List Str} {k : Nat} {s : Shared} {H : Hp} {nm par : Str}
    (F : Fun K nm nm st fa fd) (S : FnScope N [par] (defScope st)) (room : Room (k + 1) callerA) (at0 : Env0 P w K mg base callerA [] s H) (bd : BindsTo s fd ⟨[.ref a], []⟩ [(par, .ref a)])
    (body : ∀ cdv, fd.code = cdv → Room k (callerA.deeper (envOfC nm (defScope st) s.heap.objs.size fa cdv)) →
      ∃ t, PSs (cxOf CX0 P w K mg base N nm (defScope st) fa cdv callerA [] s H E0).nox (defBody st) t ∧ t { nx := fun _ _ => False, rt := fun v _ => v = .bl true } (L2.start N [.ref a]) H) :
    codeAny (model P w) callerA (.call (.ref fa) ⟨[.ref a], []⟩) (CR CX0 [] P w H s (fun v _ => v = .bl true) E0) s := by
  obtain ⟨oc, od, kV, doc, pm, an, cdv, ct, osl, rfl, found, code⟩ := F.ex
  have kin : K.In s.heap := at0.mod.kin.keeps fun b o e => (at0.bs b o e).1
  have unl : s.heap.NoLimit := at0.mod.nolimit.keeps fun b o e => (at0.bs b o e).1
  have kinds : ∀ y ∈ [(par, Value.ref a)], (defScope st).names.lookup y.1 = some .local ∨ ((defScope st).names.lookup y.1 = some .cell ∧ ((cellsFrom (s.heap.objs.size + 1) (defScope st).names []).lookup y.1).isSome = true) := by
    intro y hy
    rcases List.mem_cons.mp hy with rfl | hy
    · rcases S.par par List.mem_cons_self with q | q
      · exact .inl q
      · exact .inr ⟨q, PySem.W.cellsFrom_some _ _ _ (.inl q)⟩
    · cases hy
  refine codeAny_call_function room.depth (kin _ _ found) rfl S.co S.gen rfl (PySem.W.codeRec_of kin code) (bd _ _ _ _ ?_)
  refine wpAny_newFunctionEnv_cells S.kind kinds fun env he s1 ic => ?_
  subst he
  refine ⟨unl.keeps ic.toInCall.keep, codeAny_func ?_⟩
  obtain ⟨t, ht, hq⟩ := body cdv rfl (room.deeper _)
  have start_ok := inv_start (CX := CX0) (E := E0) (us := [.ref a]) (vs := [.ref a]) S room.hd at0 rfl (.cons rfl .nil) ic
  refine wpAny_mono (ht.nox.run [] s1 _ H _ start_ok hq) (fun fl s' out => ?_) fun e s' out => out
  cases fl with
  | ret u =>
    obtain ⟨v, σ', H', J, rv, q⟩ := out
    exact ⟨v, H', J.os, J.bare, J.base, J.hok, rv, q⟩
  | next =>
    obtain ⟨_, _, _, q⟩ := out
    exact q.elim
  | brk =>
    obtain ⟨_, _, _, q⟩ := out
    exact q.elim
  | cont =>
    obtain ⟨_, _, _, q⟩ := out
    exact q.elim
/-- what the module's head leaves of tables -/
structure TabsAt (K : PySem.W.Frag) (mg : Str → Option Value) (h : Heap) (cs : List (Addr × Addr)) : Prop where
  empty : ∀ p ∈ cs, h.get? p.2 = some { cls := .none, data := .fields #[] }
  out : ∀ p ∈ cs, K.lookup p.2 = none
  heads : ∀ p ∈ cs, PySem.W.CodeHd h p.1 p.2
  sys : SysB h
  blt : ∃ (bm : Addr) (ob : Obj), mg "__builtins__" = some (.ref bm) ∧ bm ≠ builtinsNs ∧ h.get? bm = some ob ∧ ob.cls = .type "module" ∧ ob.dict = some builtinsNs ∧ ob.data = .plain
theorem law_endT {P : Program} {w : World} {K : PySem.W.Frag} {mg mb : Str → Option Value} {fa a : Addr} {cs : List (Addr × Addr)} {fd : FuncData} {st : Stmt} {N : List Str} {k : Nat} {s : Shared} {nm par : Str} {vs : List Value} {ns : List Int}
    (kin : K.In s.heap) (gl : s.heap.Ns mainGlobals mg) (bl : s.heap.Ns builtinsNs mb) (blb : ∀ x : Str, x ≠ "__name__" → mb x = bootBuiltins x) (unl : s.heap.NoLimit) (gens : s.gens = #[]) (TA : TabsAt K mg s.heap cs)
    (ha : s.heap.get? a = some { cls := .type "list", data := .seq vs.toArray }) (hi : IntsAre vs ns) (hl : ns.length ≤ sizeLine) (room : Room (k + 1) callerA)
    (F : Fun K nm nm st fa fd) (S : FnScope N [par] (defScope st)) (bd : ∀ (s : Shared) (u : Value), BindsTo s fd ⟨[u], []⟩ [(par, u)])
    (body : ∀ (base : Heap), K.In base → base.Ns mainGlobals mg → SysB base → (∀ p ∈ cs, TabB base mg p.1 p.2) → ∀ (H : Hp) cdv, fd.code = cdv → (∀ p ∈ cs, H p.2 = some (.tbl #[])) → ScrOk K H a (ns.map V.int) → Room k (callerA.deeper (envOfC nm (defScope st) s.heap.objs.size fa cdv)) →
      ∃ t, PSs (cxOf CX0 P w K mg base N nm (defScope st) fa cdv callerA [] s H E0).nox (defBody st) t ∧ t { nx := fun _ _ => False, rt := fun v _ => v = .bl true } (L2.start N [.ref a]) H) :
    codeAny (model P w) callerA (.call (.ref fa) ⟨[.ref a], []⟩) (fun r s' => r = .ok (.ret (.bool true)) ∧ OldK s.heap s'.heap ∧ s'.os = s.os ∧ AllBare s'.gens) s := by
  have vals := vals_ints hi
  have len := hi.length
  have no_tab : ∀ p ∈ cs, p.2 ≠ a := fun p hp z => by
    have e := TA.empty p hp
    rw [z, ha] at e
    have e : Data.seq vs.toArray _ = Data.fields #[] := congrArg Obj.data (Option.some.inj e)
    cases e
  -- whatever of the script is tracked
  have main : ∀ H : Hp, (∀ p ∈ cs, H p.2 = some (.tbl #[])) → ScrOk K H a (ns.map V.int) → HOk P w H s.heap →
      (∀ b u, H b = some u → (b = a ∧ K.lookup a = none ∧ ∃ o xs, u = .frz o (.lst xs)) ∨ ∃ p ∈ cs, b = p.2) →
      codeAny (model P w) callerA (.call (.ref fa) ⟨[.ref a], []⟩) (fun r s' => r = .ok (.ret (.bool true)) ∧ OldK s.heap s'.heap ∧ s'.os = s.os ∧ AllBare s'.gens) s := by
    intro H tabs scr hok alone
    have off : ∀ {b : Addr} {o : Obj}, s.heap.get? b = some o → (∀ us n, o.data ≠ .seq us n) → o.data ≠ .fields #[] → H b = none := by
      intro b o e n1 n2
      cases q : H b with
      | none => rfl
      | some u =>
        rcases alone b u q with ⟨rfl, _⟩ | ⟨p, hp, rfl⟩
        · rw [ha] at e
          cases e
          exact absurd rfl (n1 _ _)
        · rw [TA.empty p hp] at e
          cases e
          exact absurd rfl n2
    have spaces : ∀ {b : Addr} {m : Str → Option Value}, s.heap.Ns b m → (hidT s.heap H).Ns b m := by
      intro b m ⟨o, es, ep, e, d, r⟩
      refine ⟨o, es, ep, hidT_get e (off e (fun us n z => ?_) fun z => ?_), d, r⟩
      · rw [d] at z
        cases z
      · rw [d] at z
        cases z
    have kinB : K.In (hidT s.heap H) := by
      intro b o e
      refine hidT_get (kin b o e) ?_
      cases q : H b with
      | none => rfl
      | some u =>
        rcases alone b u q with ⟨rfl, z, _⟩ | ⟨p, hp, rfl⟩
        · rw [z] at e
          cases e
        · rw [TA.out p hp] at e
          cases e
    have TB : ∀ p ∈ cs, TabB (hidT s.heap H) mg p.1 p.2 := by
      intro p hp
      constructor
      · obtain ⟨o, us, x1, x2, x3, x4, x5, x6, x7, e, y1, y2, y3, y4⟩ := TA.heads p hp
        refine ⟨o, us, x1, x2, x3, x4, x5, x6, x7, hidT_get e (off e (fun vs n z => ?_) fun z => ?_), y1, y2, y3, y4⟩
        · rw [y2] at z
          cases z
        · rw [y2] at z
          cases z
          simp at y3
      · obtain ⟨bm, ob, g1, g2, g3, g4, g5, g6⟩ := TA.blt
        refine ⟨bm, ob, g1, g2, fun z => ?_, fun z => ?_, hidT_get g3 (off g3 (fun vs n z => ?_) fun z => ?_), g4, g5, g6⟩
        · obtain ⟨o, es, ep, e, d, _⟩ := gl
          rw [z, e] at g3
          cases g3
          rw [d] at g6
          cases g6
        · rw [z, TA.empty p hp] at g3
          cases g3
          cases g6
        · rw [g6] at z
          cases z
        · rw [g6] at z
          cases z
      · intro z
        obtain ⟨o, es, ep, e, d, _⟩ := gl
        rw [z, TA.empty p hp] at e
        cases e
        cases d
    obtain ⟨mc, un1, un2⟩ := unl
    have md : Mod K mg (hidT s.heap H) := ⟨kinB, spaces gl, ⟨mb, spaces bl, blb⟩, ⟨mc, spaces un1, un2⟩⟩
    have at0 : Env0 P w K mg (hidT s.heap H) callerA [] s H := by
      refine ⟨rfl, md, fun b o e => of_hidT e, Nat.le_of_eq (hidT_size _ _), trivial, fun b hb => ?_, hok, .of_eq gens⟩
      cases (show b ∈ ([] : List Addr) from hb)
    refine codeAny_mono (run_law2 F S room at0 (bd s (.ref a)) fun cdv hc hr => body _ kinB (spaces gl) (let ⟨mm, z⟩ := TA.sys; ⟨mm, spaces z⟩) TB H cdv hc tabs scr hr) fun r s' res => ?_
    match r, res with
    | .error e, res => exact (show False from res).elim
    | .ok .next, res => exact (show False from res).elim
    | .ok .brk, res => exact (show False from res).elim
    | .ok .cont, res => exact (show False from res).elim
    | .ok (.ret u), res =>
      obtain ⟨v, H', os, bare, un, hok', rv, q⟩ := res
      obtain rfl : v = .bl true := q
      obtain rfl : u = Value.bool true := rv
      have stays : ∀ b o, (∀ p ∈ cs, b ≠ p.2) → s.heap.get? b = some o → s'.heap.get? b = some o := by
        intro b o nb e
        cases q : H b with
        | none =>
          refine un.keep b o e q (fun z => ?_) (by simp)
          cases (show b ∈ ([] : List Addr) from z)
        | some u =>
          rcases alone b u q with ⟨_, _, ob, xs, rfl⟩ | ⟨p, hp, z⟩
          · obtain ⟨e1, _⟩ := hok b _ q
            obtain ⟨e2, _⟩ := hok' b _ (un.frzs b ob _ q)
            rw [e] at e1
            cases e1
            exact e2
          · exact absurd z (nb p hp)
      have grows : ∀ p ∈ cs, ∃ more : Array Value, s'.heap.get? p.2 = some { cls := .none, data := .fields more } := by
        intro p hp
        obtain ⟨more, z⟩ := un.tbls p.2 #[] (tabs p hp)
        exact ⟨_, hok' p.2 _ z⟩
      refine ⟨rfl, ⟨fun b o e => ?_, fun b o e => ?_⟩, os, bare⟩
      · by_cases nb : ∀ p ∈ cs, b ≠ p.2
        · exact .inl (stays b o nb e)
        · obtain ⟨p, hp, z⟩ : ∃ p ∈ cs, b = p.2 := by
            refine Classical.byContradiction fun no => nb fun p hp z => no ⟨p, hp, z⟩
          subst z
          obtain ⟨more, hm⟩ := grows p hp
          have e0 := TA.empty p hp
          rw [e0] at e
          cases e
          refine .inr (.inl ⟨((TA.heads p hp).tab (ps := #[]) e0).isCodeTable, rfl, #[], more, rfl, ?_⟩)
          rw [Array.empty_append]
          exact hm
      · by_cases nb : ∀ p ∈ cs, b ≠ p.2
        · exact ⟨o, stays b o nb e⟩
        · obtain ⟨p, hp, z⟩ : ∃ p ∈ cs, b = p.2 := by
            refine Classical.byContradiction fun no => nb fun p hp z => no ⟨p, hp, z⟩
          subst z
          obtain ⟨more, hm⟩ := grows p hp
          exact ⟨_, hm⟩
  -- the tables, and the script where it isn't written
  let tb : Addr → Bool := fun b => cs.any fun p => decide (b = p.2)
  have tb_in : ∀ {b}, tb b = true → ∃ p ∈ cs, b = p.2 := fun {b} z => by
    obtain ⟨p, hp, e⟩ := List.any_eq_true.mp z
    exact ⟨p, hp, of_decide_eq_true e⟩
  have in_tb : ∀ p ∈ cs, tb p.2 = true := fun p hp => List.any_eq_true.mpr ⟨p, hp, decide_eq_true rfl⟩
  cases hk : K.lookup a with
  | some o =>
    have e := kin a o hk
    rw [ha] at e
    cases e
    refine main (fun b => if tb b = true then some (.tbl #[]) else none) (fun p hp => if_pos (in_tb p hp)) (.inr ⟨_, vs.toArray, _, hk, rfl, rfl, rfl, by rw [List.size_toArray, len]; exact hl, by simpa using vals⟩) (fun b u z => ?_) (fun b u z => ?_)
    · by_cases c : tb b = true
      · obtain ⟨p, hp, rfl⟩ := tb_in c
        have z := (if_pos c).symm.trans z
        cases z
        exact TA.empty p hp
      · have z := (if_neg c).symm.trans z
        cases z
    · by_cases c : tb b = true
      · exact .inr (tb_in c)
      · have z := (if_neg c).symm.trans z
        cases z
  | none =>
    refine main (fun b => if b = a then some (.frz { cls := .type "list", data := .seq vs.toArray } (.lst (ns.map V.int))) else if tb b = true then some (.tbl #[]) else none) (fun p hp => (if_neg (no_tab p hp)).trans (if_pos (in_tb p hp))) (.inl ⟨_, if_pos rfl⟩) (fun b u z => ?_) (fun b u z => ?_)
    · by_cases c0 : b = a
      · have z := (if_pos c0).symm.trans z
        cases z
        rw [c0]
        exact ⟨ha, by rw [List.length_map]; exact hl, vs, _, vals, ha⟩
      · have z := (if_neg c0).symm.trans z
        by_cases c : tb b = true
        · obtain ⟨p, hp, rfl⟩ := tb_in c
          have z := (if_pos c).symm.trans z
          cases z
          exact TA.empty p hp
        · have z := (if_neg c).symm.trans z
          cases z
    · by_cases c0 : b = a
      · have z := (if_pos c0).symm.trans z
        exact .inl ⟨c0, hk, _, _, (Option.some.inj z).symm⟩
      · have z := (if_neg c0).symm.trans z
        by_cases c : tb b = true
        · exact .inr (tb_in c)
        · have z := (if_neg c).symm.trans z
          cases z
end
section
open PySem.Spec PyProof.Rows LamX
theorem mn_ext {st : Addr} {H H' : Hp} (e : ExtN H H') : ExtN (mn st H) (mn st H') := fun b o h n => by
  obtain ⟨n1, h1⟩ := mn_some h
  exact mn_at n1 (e b o h1 n)
theorem st_ext {st : Addr} {H H' : Hp} (h : StAt H st) (e : ExtN H H') : StAt H' st := by
  obtain ⟨x, y, z, h, ok⟩ := h
  exact ⟨x, y, z, e _ _ h (fun ps q => by cases q), ok⟩
theorem scr_ext {K : PySem.W.Frag} {H H' : Hp} {a : Addr} {xs : List V} (h : ScrOk K H a xs) (e : ExtN H H') : ScrOk K H' a xs := by
  rcases h with ⟨o, z⟩ | z
  · exact .inl ⟨o, e _ _ z (fun ps q => by cases q)⟩
  · exact .inr z
end
theorem bulk_all {k : Nat} : ∀ {l : List PyData}, (∀ z ∈ l, z.bulk ≤ k) → PyData.bulkAll l ≤ (k + 1) * l.length
  | [], _ => by simp only [PyData.bulkAll]; exact Nat.zero_le _
  | u :: v, h => by
    have h1 := h u List.mem_cons_self
    have h2 := bulk_all (l := v) fun z hz => h z (List.mem_cons_of_mem _ hz)
    simp only [PyData.bulkAll, List.length_cons]
    rw [Nat.mul_add]
    omega
section
open PySem.Spec PyProof.Rows LamX
theorem TabsG.kp {PT : List Addr} {H H' : Hp} {st : Addr} (t : TabsG PT H) (sa : StAt H st) (k : Kp st H H') : TabsG PT H' := fun P hP => by
  obtain ⟨l, hl⟩ := sa.some
  obtain ⟨ps, h1, h2⟩ := t P hP
  exact ⟨ps, k _ _ (fun z => by rw [z, hl] at h1; cases h1) h1, h2⟩
end
inductive Bd (c wd : Nat) : PyData → Prop
  | non : Bd c wd .none
  | bl {t : Bool} : Bd c wd (.bool t)
  | int {i : Int} (h : i.natAbs < c) : Bd c wd (.int i)
  | str {x : Str} (h : ∀ z ∈ x.cps.toList, z < 128) : Bd c wd (.str x)
  | lst {es : List PyData} (len : es.length ≤ wd) (each : ∀ z ∈ es, Bd c wd z) : Bd c wd (.list es)
  | tup {es : List PyData} (len : es.length ≤ wd) (each : ∀ z ∈ es, Bd c wd z) : Bd c wd (.tuple es)
  | dct {kvs : List (PyData × PyData)} (h1 : (PyData.dict kvs).showable = true) (h2 : (PyData.dict kvs).leavesShort 40 = true) : Bd c wd (.dict kvs)
theorem Bd.mono {c c' wd wd' : Nat} (h : c ≤ c') (h' : wd ≤ wd') {d : PyData} (b : Bd c wd d) : Bd c' wd' d := by
  induction b with
  | non => exact .non
  | bl => exact .bl
  | int q => exact .int (Nat.lt_of_lt_of_le q h)
  | str q => exact .str q
  | lst l _ ih => exact .lst (Nat.le_trans l h') ih
  | tup l _ ih => exact .tup (Nat.le_trans l h') ih
  | dct a b => exact .dct a b
theorem Bd.shw {c wd : Nat} (hc : c ≤ 10 ^ 35) {d : PyData} (b : Bd c wd d) : d.showable = true := by
  induction b with
  | non => simp only [PyData.showable]
  | bl => simp only [PyData.showable]
  | @int i q =>
    simp only [PyData.showable, decide_eq_true_eq]
    by_cases z : i.natAbs = 0
    · rw [z]
      decide
    · exact Nat.lt_of_lt_of_le ((Nat.log2_lt z).mpr (Nat.lt_of_lt_of_le (Nat.lt_of_lt_of_le q hc) (show 10 ^ 35 ≤ 2 ^ 120 by decide))) (by decide)
  | str q => simp only [PyData.showable]
  | lst _ _ ih => simp only [PyData.showable]; exact show_all ih
  | tup _ _ ih => simp only [PyData.showable]; exact show_all ih
  | dct a b => exact a
theorem Bd.sho {c wd : Nat} (hc : c ≤ 10 ^ 35) {d : PyData} (b : Bd c wd d) : d.leavesShort 40 = true := by
  induction b with
  | non => simp only [PyData.leavesShort]
  | bl => simp only [PyData.leavesShort]
  | @int i q =>
    simp only [PyData.leavesShort, decide_eq_true_eq]
    have e := PySem.int_text_length_le10 (k := 35) (by decide) (Nat.lt_of_lt_of_le q hc)
    show (Str.ofString (toString i)).length ≤ 40
    rw [ofString_length]
    exact Nat.le_trans e (by decide)
  | str q =>
    simp only [PyData.leavesShort, List.all_eq_true, decide_eq_true_eq]
    intro z hz
    exact Nat.lt_of_lt_of_le (q z hz) (by decide)
  | lst _ _ ih => simp only [PyData.leavesShort]; exact short_all ih
  | tup _ _ ih => simp only [PyData.leavesShort]; exact short_all ih
  | dct a b => exact b
section
open PySem.Spec PyProof.Rows LamX
def tKw (m : Nat) (sp : Sp) (gV : List V → List V → List V) (tk : TA) : TE := fun σ H Q => tk σ H fun zs H2 => zs.length = m ∧ sp (gV [] zs) H2 Q E0
def CalK (P : Program) (w : World) (K : PySem.W.Frag) (mg : Str → Option Value) (base : Heap) (x : Str) (k : Nat) (ps ks : List Str) (g : List Value → List Value → List Value) (gV : List V → List V → List V) (sp : Sp) : Prop :=
  ∃ (f : Addr) (fd : FuncData), FnOk P w K mg base CX0 k f fd ps sp ∧ mg x = some (.ref f) ∧ PySem.W.keepIn K (.ref f) = true ∧ KBn K fd ps 0 ks g gV
theorem pe_kw {X : Cx} {x : Str} {p pos : Pos} {k : Nat} {ps ks : List Str} {g : List Value → List Value → List Value} {gV : List V → List V → List V} {sp : Sp} {kws : List Keyword} {tk : TA}
    (C : CalK X.prog X.w X.K X.mg X.base x k ps ks g gV sp) (hr : Room k X.A) (hg : Gl X x) (hkw : PK X kws tk)
    (h1 : (backToKw pos (keywordEach kws X.env)).all (·.1.isSome) = true := by rfl) (h2 : (backToKw pos (keywordEach kws X.env)).filterMap (·.1) = ks := by rfl) (h3 : (x == ("__debug__" : Str)) = false := by decide)
    (h4 : ((backTo pos (starEach [] X.env)).any (·.1) || (backToKw pos (keywordEach kws X.env)).any (·.1.isNone)) = false := by rfl) :
    PE X (.Call (.Name x p) [] kws pos) (tKw ks.length sp gV tk) := by
  obtain ⟨f, fd, F, hm, hk, hb⟩ := C
  constructor
  intro pins s σ H Q I h
  refine wpAny_Call_Name_kw (ld_glob I hg hm ?_ h3)
  refine PySem.W.callWith_KW0 (h₀ := X.base) I.ok.mod.kin hk h1 ?_ h4
  refine thn (hkw.run pos pins s σ H _ I h) ?_
  rintro ws s2 ⟨zs, H2, I2, rz, l2, q2⟩
  refine ⟨I2.kIn, ?_⟩
  rw [h2]
  exact run_fnN (us := []) (vs := []) F hr hb pass0 I2 .nil rz rfl l2 q2
theorem mv_of {st : Addr} {H H' : Hp} (sa : StAt H st) (s : Same H H') : Mv st H H' := ⟨Kp.of_same s, sa.same s⟩
theorem PsOk.pd {n : Int} {ns : List Int} (h : PsOk n ns) : pointsD n (.tuple (ns.map .int)) = true := h.2.2
theorem PsOk.sub {n : Int} {ns ms : List Int} (h : PsOk n ns) (s : ms.Sublist ns) : PsOk n ms := by
  obtain ⟨h1, h2, h3⟩ := h
  have l := s.length_le
  refine ⟨by omega, fun i hi => h2 i (s.subset hi), (pts_law ms 0).mpr ⟨((pts_law ns 0).mp h3).1.sublist s, fun i hi => h2 i (s.subset hi)⟩⟩
theorem ps_imp {X : Cx} {e : Stmt} {t t' : TS} (h : PS X e t) (i : ∀ D σ H, t' D σ H → t D σ H) : PS X e t' := ⟨fun pins s σ H D I q => h.run pins s σ H D I (i D σ H q)⟩
section
variable {K : PySem.W.Frag}
theorem ch_at {H : Hp} {v : V} {rows : List (List Int)} (h : Dp K H v (chD rows)) : ∃ ca cs, v = .ref ca ∧ SqT K H ca cs ∧ cs.length = rows.length := by
  cases h with
  | @tup ca cs _ cat ceach => exact ⟨ca, cs, rfl, cat, by have := dpAll_len ceach; rw [List.length_map] at this; exact this⟩
theorem dp_laid {st p : Addr} {ms : List Int} {H : Hp} (sa : StAt H st) (h : SqT K H p (ms.map V.int)) : Dp K (mn st H) (.ref p) (.tuple (ms.map .int)) := .tup (sqT_mn sa h) (dp_ints ms)
theorem lc_sub {te0 : TE} {a : Addr} {row : List Int} {j : Nat} {tt : TT} {σ : L2.St} {H : Hp} {Q : VK} (h0 : ∀ Q : VK, Q (.ref a) H → te0 σ H Q) (at_ : SqT K H a (row.map V.int)) (hl : row.length < 1000) (hj : j < σ.length)
    (hs : ∀ (n : Int) (H' : Hp) (R' : Bool → Hp → Prop), n ∈ row → Same H H' → (∀ b H'', Same H' H'' → R' b H'') → tt (σ.set j (some (.int n))) H' R')
    (hd : ∀ D H' (zs : List Int), Same H H' → H' D = some (.lst (zs.map V.int)) → zs.Sublist row → Q (.ref D) H') : tLc (iTup K te0) (gName j) tt (tVar j) [j] σ H Q := by
  refine h0 _ ⟨a, rfl, ⟨_, at_⟩, fun D hD => ?_⟩
  have w1 : wipe σ [j] = σ.set j none := rfl
  have w2 : ∀ x, (wipe σ [j]).set j (some x) = σ.set j (some x) := fun x => by rw [w1, List.set_set]
  refine lc_tup (xs := row.map V.int) (fun i H' => Same H H' ∧ ∃ zs : List Int, H' D = some (.lst (zs.map V.int)) ∧ zs.Sublist (row.take i)) ⟨same_new hD _, [], upd_same, List.nil_sublist _⟩ (fun i H' _ h => sqT_same h.1 at_) (fun i x H' hx h => ?_) (fun H' h => ?_)
  · obtain ⟨sm, zs, hz, sb⟩ := h
    obtain ⟨n, hn, rfl⟩ := ints_get hx
    have et : row.take (i + 1) = row.take i ++ [n] := by rw [List.take_add_one, hn]; rfl
    have lz := sb.length_le
    rw [List.length_take] at lz
    show wipe ((wipe σ [j]).set j (some (V.int n))) [j] = wipe σ [j] ∧ _
    rw [w2]
    refine ⟨by show (σ.set j (some (V.int n))).set j none = σ.set j none; rw [List.set_set], hs n H' _ (List.mem_of_getElem? hn) sm fun b H'' sm2 => ?_⟩
    cases b with
    | true =>
      refine ifT rfl ⟨_, by rw [List.getElem?_set_self hj], _, sm2 _ _ hz, Nat.lt_of_lt_of_le (show _ < 1000 by rw [List.length_map]; omega) (small (Nat.le_refl _)), fun b' o hb' => by rw [upd_ne (ne_of_none hb' hD)]; exact (sm.trans sm2) b' o hb', zs ++ [n], ?_, ?_⟩
      · rw [upd_same, List.map_append]
        rfl
      · rw [et]
        exact sb.append (List.Sublist.refl _)
    | false => exact ifF rfl ⟨sm.trans sm2, zs, sm2 _ _ hz, by rw [et]; exact sb.trans (List.sublist_append_left _ _)⟩
  · obtain ⟨sm, zs, hz, sb⟩ := h
    rw [List.length_map, List.take_length] at sb
    exact hd D H' zs sm hz sb
end
end
/-! what is shown -/
section
open PySem.Spec PyProof.Rows LamX
theorem shows {z : PyData} (b : Bd 100 40 z) (h3 : z.bulk ≤ 2000) (h4 : z.depth ≤ 12) : z.showable = true ∧ z.depth ≤ 64 ∧ z.shown.length ≤ sizeLine := by
  have l := PyData.shown_le_bulk 40 (by decide) z (b.sho (by decide))
  exact ⟨b.shw (by decide), Nat.le_trans h4 (by decide), big (by omega)⟩
structure Sm (n : Nat) (z : PyData) : Prop where
  bd : Bd 100 40 z
  blk : z.bulk ≤ n
  dep : z.depth ≤ 3
theorem ints_sm {ns : List Int} (l : ns.length ≤ 40) (h : ∀ i ∈ ns, 0 ≤ i ∧ i < 40) : Sm 40 (.tuple (ns.map .int)) := by
  refine ⟨.tup (by rw [List.length_map]; exact l) fun y hy => ?_, ?_, ?_⟩
  · obtain ⟨i, hi, rfl⟩ := List.mem_map.mp hy
    have := h i hi
    exact .int (by omega)
  · rw [bulk_tup]
    have h0 := bulk_all (k := 0) (l := ns.map PyData.int) fun y hy => by
      obtain ⟨i, _, rfl⟩ := List.mem_map.mp hy
      simp [PyData.bulk]
    rw [List.length_map] at h0
    omega
  · rw [depth_tup]
    have h0 := depth_all (k := 0) (l := ns.map PyData.int) fun y hy => by
      obtain ⟨i, _, rfl⟩ := List.mem_map.mp hy
      simp [PyData.depth]
    omega
theorem chart_sm {rows : List (List Int)} (h : RwOk rows) : Sm 1300 (chD rows) := by
  have l := h.len
  have each : ∀ z ∈ rows.map (fun ns => PyData.tuple (ns.map .int)), Sm 40 z ∧ z.depth ≤ 1 := fun z hz => by
    obtain ⟨ns, hn, rfl⟩ := List.mem_map.mp hz
    obtain ⟨a, b⟩ := h.row ns hn
    refine ⟨ints_sm (by omega) fun i hi => (by have := b i hi; omega), ?_⟩
    rw [depth_tup]
    have h0 := depth_all (k := 0) (l := ns.map PyData.int) fun y hy => by
      obtain ⟨i, _, rfl⟩ := List.mem_map.mp hy
      simp [PyData.depth]
    omega
  refine ⟨.tup (by rw [List.length_map]; omega) fun z hz => (each z hz).1.bd, ?_, ?_⟩
  · have e : (chD rows).bulk = PyData.bulkAll (rows.map fun ns => PyData.tuple (ns.map .int)) := bulk_tup _
    rw [e]
    have h0 := bulk_all (k := 40) (l := rows.map fun ns => PyData.tuple (ns.map .int)) fun z hz => (each z hz).1.blk
    rw [List.length_map] at h0
    omega
  · have e : (chD rows).depth = 1 + PyData.depthAll (rows.map fun ns => PyData.tuple (ns.map .int)) := depth_tup _
    rw [e]
    have h0 := depth_all (k := 1) (l := rows.map fun ns => PyData.tuple (ns.map .int)) fun z hz => (each z hz).2
    omega
theorem three_sm {a b c : PyData} {n : Nat} (ha : Sm n a) (hb : Sm 40 b) (hc : Sm 40 c) (hn : n ≤ 1300) : (PyData.tuple [a, b, c]).showable = true ∧ (PyData.tuple [a, b, c]).depth ≤ 64 ∧ (PyData.tuple [a, b, c]).shown.length ≤ sizeLine := by
  refine shows (.tup (by show 3 ≤ 40; decide) fun z hz => ?_) ?_ ?_
  · simp only [List.mem_cons, List.not_mem_nil, or_false] at hz
    rcases hz with rfl | rfl | rfl
    · exact ha.bd
    · exact hb.bd
    · exact hc.bd
  · have h1 := ha.blk
    have h2 := hb.blk
    have h3 := hc.blk
    simp only [PyData.bulk, PyData.bulkAll]
    omega
  · rw [depth_tup]
    have h1 := ha.dep
    have h2 := hb.dep
    have h3 := hc.dep
    have h0 := depth_all (k := 3) (l := [a, b, c]) fun z hz => by
      simp only [List.mem_cons, List.not_mem_nil, or_false] at hz
      rcases hz with rfl | rfl | rfl <;> assumption
    omega
theorem two_sm {w : Str} {b : PyData} (hw : w = "way" ∨ w = "bar") (hb : Sm 40 b) : (PyData.tuple [.str w, b]).showable = true ∧ (PyData.tuple [.str w, b]).depth ≤ 64 ∧ (PyData.tuple [.str w, b]).shown.length ≤ sizeLine := by
  have sw : Bd 100 40 (.str w) ∧ (PyData.str w).bulk ≤ 40 ∧ (PyData.str w).depth ≤ 3 := by
    rcases hw with rfl | rfl <;> exact ⟨.str (by decide +kernel), by decide +kernel, by decide +kernel⟩
  refine shows (.tup (by show 2 ≤ 40; decide) fun z hz => ?_) ?_ ?_
  · simp only [List.mem_cons, List.not_mem_nil, or_false] at hz
    rcases hz with rfl | rfl
    · exact sw.1
    · exact hb.bd
  · have h1 := sw.2.1
    have h2 := hb.blk
    simp only [PyData.bulk, PyData.bulkAll] at h1 ⊢
    omega
  · rw [depth_tup]
    have h1 := sw.2.2
    have h2 := hb.dep
    have h0 := depth_all (k := 3) (l := [.str w, b]) fun z hz => by
      simp only [List.mem_cons, List.not_mem_nil, or_false] at hz
      rcases hz with rfl | rfl <;> assumption
    omega
/-! the least way is short -/
theorem rk_path {rows : List (List Int)} {ss : List Int} : ∀ {t : Nat} {p : Int}, Rk (inP ss) (foreE rows) t p → ∃ r, PathT rows ss t p r
  | 0, p, h => ⟨[p], (LeP.zero (rows := rows) h).1⟩
  | t + 1, p, h => by
    obtain ⟨q, hq, e⟩ := h
    obtain ⟨r, hr⟩ := rk_path hq
    exact ⟨_, hr.next e.2.2⟩
theorem LeastW.short {rows : List (List Int)} {ss gs ns : List Int} (hr : ∀ a b, b ∈ rowAt rows a → 0 ≤ a → 0 ≤ b ∧ b < (rows.length : Int)) (hss : ∀ s ∈ ss, 0 ≤ s ∧ s < (rows.length : Int)) (h : LeastW rows ss gs ns) : ns.length ≤ rows.length ∧ ∀ i ∈ ns, 0 ≤ i ∧ i < (rows.length : Int) := by
  have hb : ∀ (j : Nat) (q : Int), Rk (inP ss) (foreE rows) j q → 0 ≤ q ∧ q < (rows.length : Int) := fun j q h => by
    cases j with
    | zero => exact hss q h
    | succ j =>
      obtain ⟨r, _, e⟩ := h
      exact hr r q e.2.2 e.1
  constructor
  · obtain ⟨j, g, hg, d⟩ := way_reach hr hss h.1
    obtain ⟨r, p⟩ := rk_path d.1
    have lj := d.bound hb
    have lr := p.2.2.1
    rcases h.2 r ⟨p.1, p.2.2.2.imp fun q e => ⟨g, e, hg⟩, p.2.1⟩ with z | ⟨z, _⟩ <;> omega
  · obtain ⟨hs', ⟨q', g', e', hg'⟩, c'⟩ := h.1
    have lm : ns.length = (ns.length - 1) + 1 := by
      rw [e', List.length_append]
      rfl
    have pm : PathT rows ss (ns.length - 1) g' ns := ⟨hs', c', lm, q', e'⟩
    exact pm.bd hr hss
/-- a cut of a tuple of ints -/
theorem sl_ints {K : PySem.W.Frag} {H : Hp} {a : Addr} {ns : List Int} {lo hi : Option Int} {Q : VK} (h : SqT K H a (ns.map V.int)) (q : ∀ (b : Addr) (ms : List Int) (H' : Hp), Same H H' → SqT K H' b (ms.map V.int) → ms.Sublist ns → Q (.ref b) H') : rSlA K (.ref a) lo hi H Q := by
  refine ⟨a, _, rfl, h, fun _ => q a ns H (Same.refl _) h (List.Sublist.refl _), fun _ p hp => ?_⟩
  have e : cutV (ns.map V.int) lo hi = ((ns.drop (HT.sIx (ns.map V.int).length 0 lo)).take (HT.sIx (ns.map V.int).length (ns.map V.int).length hi - HT.sIx (ns.map V.int).length 0 lo)).map V.int := by
    unfold cutV
    rw [← List.map_drop, ← List.map_take]
  rw [e]
  exact q p _ _ (same_new hp _) (SqT.of upd_same) ((List.take_sublist _ _).trans (List.drop_sublist _ _))
end
/-! the law -/
section
open PySem.Spec PyProof.Rows LamX
variable {P : Program} {w : World} {K : PySem.W.Frag} {mg : Str → Option Value} {base : Heap} {f c : Addr} {fd : FuncData} {PT : List Addr}
def p201 {α : Type} : List α → List α
  | [a, b, c] => [b, c, a]
  | l => l
theorem p201_o {α : Type} (l : List α) (h : l.length ≠ 3) : p201 l = l := by
  unfold p201
  split
  · exact absurd rfl h
  · rfl
theorem p201_r {zs : List V} {ws : List Value} (r : Vals zs ws) : Vals (p201 zs) (p201 ws) := by
  by_cases e : zs.length = 3
  · have e2 : ws.length = 3 := by rw [← r.length]; exact e
    match zs, ws, e, e2, r with
    | [a, b, c], [x, y, z], _, _, .cons r1 (.cons r2 (.cons r3 .nil)) => exact .cons r2 (.cons r3 (.cons r1 .nil))
  · rw [p201_o zs e, p201_o ws (by rw [← r.length]; exact e)]
    exact r
theorem kb_paper (F : Fun K "paper" "paper" sPaper f fd) : KBn K fd ["chart", "starts", "goals"] 0 ["goals", "chart", "starts"] (fun _ ws => p201 ws) (fun _ zs => p201 zs) := by
  obtain ⟨oc, od, kV, doc, pm, an, cdv, ct, osl, rfl, lk, hcd⟩ := F.ex
  refine ⟨fun s us ws _ l1 l2 => ?_, fun _ r => p201_r r⟩
  match us, ws, l1, l2 with
  | [], [a, b, c], _, _ => exact .of_eq rfl
/-- all that is drawn -/
structure Dr (K : PySem.W.Frag) (PT : List Addr) (a : Addr) (xs : List V) (st ca ba : Addr) (rows : List (List Int)) (bs : List Int) (H : Hp) : Prop where
  scr : ScrOk K H a xs
  sa : StAt H st
  ch : Dp K H (.ref ca) (chD rows)
  be : Dp K H (.ref ba) (.tuple (bs.map .int))
  tb : TabsG PT H
theorem Dr.ext {a st ca ba : Addr} {xs : List V} {rows : List (List Int)} {bs : List Int} {H H' : Hp} (h : Dr K PT a xs st ca ba rows bs H) (e : ExtN H H') (t : TabsG PT H') : Dr K PT a xs st ca ba rows bs H' :=
  ⟨scr_ext h.scr e, st_ext h.sa e, dp_ext e _ _ h.ch, dp_ext e _ _ h.be, t⟩
theorem Dr.same {a st ca ba : Addr} {xs : List V} {rows : List (List Int)} {bs : List Int} {H H' : Hp} (h : Dr K PT a xs st ca ba rows bs H) (s : Same H H') : Dr K PT a xs st ca ba rows bs H' := h.ext (ext_same s) (h.tb.same s)
theorem chOk_rows {most : Int} {d : PyData} (hm : most ≤ 30) (h : ChOk most d) : ∃ rows : List (List Int), d = chD rows ∧ RwOk rows ∧ (∀ ns ∈ rows, ns.Pairwise (· < ·)) ∧ chartD (chD rows) = true := by
  obtain ⟨rows, rfl, l, r⟩ := h
  refine ⟨rows, rfl, ⟨by omega, fun ns hn => ⟨(r ns hn).1, (r ns hn).2.1⟩⟩, fun ns hn => ((pts_law ns 0).mp (r ns hn).2.2).1, ?_⟩
  show (rows.map fun ns => PyData.tuple (ns.map .int)).all (pointsD _) = true
  refine List.all_eq_true.mpr fun z hz => ?_
  obtain ⟨ns, hn, rfl⟩ := List.mem_map.mp hz
  rw [List.length_map]
  exact (r ns hn).2.2
theorem slCB {r : List V → Hp → VK → Prop} {r' : V → Option Int → Option Int → Hp → VK → Prop} {te : TE} {tl th : L2.TO} {σ : L2.St} {H : Hp} {Q : VK} (h : te σ H fun x H1 => r [x] H1 fun y H2 => tl σ H2 fun l H3 => th σ H3 fun u H4 => r' y l u H4 Q) : L2.tSl r' (tCB r (tCons te tNil)) tl th σ H Q := h
theorem lt_ext : ∀ {a b : List Int}, a.Pairwise (· < ·) → b.Pairwise (· < ·) → (∀ p, p ∈ a ↔ p ∈ b) → a = b
  | [], [], _, _, _ => rfl
  | [], y :: s, _, _, h => by cases (h y).mpr List.mem_cons_self
  | x :: r, [], _, _, h => by cases (h x).mp List.mem_cons_self
  | x :: r, y :: s, h1, h2, h => by
    obtain ⟨a1, a2⟩ := List.pairwise_cons.mp h1
    obtain ⟨b1, b2⟩ := List.pairwise_cons.mp h2
    have e : x = y := by
      rcases List.mem_cons.mp ((h x).mp List.mem_cons_self) with c | c
      · exact c
      · rcases List.mem_cons.mp ((h y).mpr List.mem_cons_self) with d | d
        · exact d.symm
        · have := b1 x c
          have := a1 y d
          omega
    subst e
    rw [lt_ext a2 b2 fun p => ⟨fun hp => ?_, fun hp => ?_⟩]
    · rcases List.mem_cons.mp ((h p).mp (List.mem_cons_of_mem _ hp)) with c | c
      · have := a1 p hp
        omega
      · exact c
    · rcases List.mem_cons.mp ((h p).mpr (List.mem_cons_of_mem _ hp)) with c | c
      · have := b1 p hp
        omega
      · exact c
theorem PapD.sm {rows : List (List Int)} {ss gs : List Int} {d : PyData} (hrw : RwOk rows) (hss : ∀ s ∈ ss, 0 ≤ s ∧ s < (rows.length : Int)) (h : PapD rows ss gs d) : d.showable = true ∧ d.depth ≤ 64 ∧ d.shown.length ≤ sizeLine := by
  have hlen := hrw.len
  have rl : ∀ a b, b ∈ rowAt rows a → 0 ≤ a → 0 ≤ b ∧ b < (rows.length : Int) := fun a b h h0 => by
    unfold rowAt at h
    rw [List.getD_eq_getElem?_getD] at h
    cases e : rows[a.toNat]? with
    | none => rw [e] at h; cases h
    | some row =>
      rw [e] at h
      exact (hrw.row row (List.mem_of_getElem? e)).2 b h
  rcases h with ⟨ns, rfl, l⟩ | ⟨ms, rfl, no, ps, iff⟩
  · obtain ⟨h1, h2⟩ := l.short rl hss
    exact two_sm (.inl rfl) (ints_sm (by omega) fun i hi => (by have := h2 i hi; omega))
  · have hb : ∀ p ∈ ms, 0 ≤ p ∧ p < (rows.length : Int) := fun p hp => by
      obtain ⟨k, r⟩ := (iff p).mp hp
      obtain ⟨q, pt⟩ := rk_path r
      exact (pt.reach rl hss).2
    have l := nodup_len rows.length ms (ps.imp fun h e => by omega) hb
    exact two_sm (.inr rfl) (ints_sm (by omega) fun i hi => (by have := hb i hi; omega))
theorem at3 {x y z r : Int} (r0 : 0 ≤ r) (r1 : r < 3) : ∃ e : Int, atI [V.int x, .int y, .int z] r = some (.int e) ∧ (e = x ∨ e = y ∨ e = z) := by
  obtain ⟨v, hv⟩ : ∃ v, ([V.int x, .int y, .int z])[r.toNat]? = some v := ⟨_, List.getElem?_eq_getElem (show r.toNat < 3 by omega)⟩
  have all : ∀ v ∈ [V.int x, .int y, .int z], ∃ k : Int, v = .int k ∧ (k = x ∨ k = y ∨ k = z) := fun v hv => by
    simp only [List.mem_cons, List.not_mem_nil, or_false] at hv
    rcases hv with rfl | rfl | rfl
    · exact ⟨_, rfl, .inl rfl⟩
    · exact ⟨_, rfl, .inr (.inl rfl)⟩
    · exact ⟨_, rfl, .inr (.inr rfl)⟩
  obtain ⟨e, rfl, h⟩ := all v (List.mem_of_getElem? hv)
  exact ⟨e, atI_at r0 hv, h⟩
theorem PapD.uniq {rows : List (List Int)} {ss gs : List Int} {d d' : PyData} (h : PapD rows ss gs d) (h' : PapD rows ss gs d') : d = d' := by
  rcases h with ⟨ns, rfl, l⟩ | ⟨ms, rfl, no, ps, iff⟩
  · rcases h' with ⟨ns', rfl, l'⟩ | ⟨ms', rfl, no', _⟩
    · rw [l.uniq l']
    · exact absurd l.1 (no' ns)
  · rcases h' with ⟨ns', rfl, l'⟩ | ⟨ms', rfl, no', ps', iff'⟩
    · exact absurd l'.1 (no ns')
    · rw [lt_ext ps ps' fun p => (iff p).trans (iff' p).symm]
def tDue (K : PySem.W.Frag) : L2.TS := fun D σ G => ∃ (v0 v1 v2 v3 v6 v7 v9 v11 v12 v13 v14 : Option V) (ca ba qd : Addr) (wv : V) (rows : List (List Int)) (bs gs : List Int), σ = [v0, v1, v2, v3, some (.ref ca), some (.ref ba), v6, v7, some wv, v9, some (.ref qd), v11, v12, v13, v14] ∧
  Dp K G (.ref ca) (chD rows) ∧ RwOk rows ∧ (∀ ns ∈ rows, ns.Nodup) ∧ Dp K G (.ref ba) (.tuple (bs.map .int)) ∧ bs.Nodup ∧ (∀ o ∈ bs, 0 ≤ o ∧ o < (rows.length : Int)) ∧ G qd = some (.tup [.str "way", wv]) ∧
  ((wv = .non ∧ ∀ ns, ¬ WayP rows bs gs ns) ∨ ∃ a ns, wv = .ref a ∧ SqT K G a (ns.map V.int) ∧ LeastW rows bs gs ns) ∧
  ∀ qd' dd v11' v12' G', Same G G' → Dp K G' (.ref qd') dd → PapD rows bs gs dd → D.nx [v0, v1, v2, v3, some (.ref ca), some (.ref ba), v6, v7, some wv, v9, some (.ref qd'), v11', v12', v13, v14] G'
abbrev NLaw : List Str := ["_law_script", "_law_k", "_law_state_here", "_law_turn", "_law_web", "_law_begins", "_law_aims", "_law_some_here", "_law_way", "_law_kept", "_law_due", "_law_met", "_law_layer", "_law_again", "_law_one"]
theorem scLaw : FnScope NLaw ["_law_script"] (defScope sLaw) := ⟨rfl, rfl, rfl, by decide +kernel, rfl, by decide +kernel, by decide +kernel⟩
structure Law03 (P : Program) (w : World) (K : PySem.W.Frag) (mg : Str → Option Value) (base : Heap) (PT : List Addr) (k : Nat) : Prop where
  cSt : Cal P w K mg base "_law_state" k ["_law_script", "_law_k"] (spState K)
  cC : Cal P w K mg base "_law_choice" k ["_law_state_here", "_law_many"] spChoice
  cCh : Cal P w K mg base "_law_chart" k ["_law_state_here", "_law_most"] (spChartG K)
  cS : Cal P w K mg base "_law_some" k ["_law_state_here", "_law_many"] (spSomeP K)
  cL : Cal P w K mg base "_law_layers" k ["_law_web", "_law_begins"] (spLay K)
  cB : Cal P w K mg base "_law_best" k ["_law_web", "_law_begins", "_law_aims"] (spBest K)
  cP : Cal P w K mg base "paper" k ["chart", "starts", "goals"] (spPaper K PT)
  kP : CalK P w K mg base "paper" k ["chart", "starts", "goals"] ["goals", "chart", "starts"] (fun _ ws => p201 ws) (fun _ zs => p201 zs) (spPaper K PT)
set_option maxHeartbeats 0 in
theorem law_body {k : Nat} {cdv : Value} {s : Shared} {H : Hp} {a : Addr} {ns : List Int} (T : Free mg) (hSo : mg "sorted" = none) (sys : SysB base) (scr : ScrOk K H a (ns.map V.int)) (h63 : ns.length ≤ 63) (tbs : TabsG PT H)
    (hr : Room k (callerA.deeper (envOfC "law" (defScope sLaw) s.heap.objs.size f cdv))) (L : Law03 P w K mg base PT k) :
    ∃ t, PSs (cxOf CX0 P w K mg base NLaw "law" (defScope sLaw) f cdv callerA [] s H E0).nox (defBody sLaw) t ∧ t { nx := fun _ _ => False, rt := fun v _ => v = .bl true } (L2.start NLaw [.ref a]) H := by
  have hu : (callerA.deeper (envOfC "law" (defScope sLaw) s.heap.objs.size f cdv)).units + 80 < cLine := by
    have := hr.un
    omega
  refine ⟨_, pss_cons (ps_for PassesOwn.never rfl (pi_range1 rfl T.range (pa_cons (pe_callB (call_max2 rfl) rfl T.max (by decide +kernel) (pa_cons pe_int (pa_cons (pe_callB (call_min2 rfl) rfl T.min (by decide +kernel)
        (pa_cons (pe_callB call_len_seq rfl T.len PySem.boot_len (pa_cons (pv 0) pa_nil)) (pa_cons pe_int pa_nil))) pa_nil))) pa_nil)) (pg_name (i := 1) scLaw.nd rfl (.inl rfl))
    (pss_cons (ps_set (i := 2) scLaw.nd rfl (.inl rfl) (pe_cal L.cSt hr rfl (pa_cons (pv 0) (pa_cons (pv 1) pa_nil))))
    (pss_one (ps_for PassesOwn.never rfl (pi_range1 rfl T.range (pa_cons pe_int pa_nil)) (pg_name (i := 3) scLaw.nd rfl (.inl rfl))
      (pss_cons (ps_set (i := 4) scLaw.nd rfl (.inl rfl) (pe_cal L.cCh hr rfl (pa_cons (pv 2) (pa_cons (pe_ix ix_list (pe_lst (pa_cons pe_int (pa_cons pe_int (pa_cons pe_int pa_nil)))) (pe_cal L.cC hr rfl (pa_cons (pv 2) (pa_cons pe_int pa_nil))) (fun _ _ => rfl)) pa_nil))))
      (pss_cons (ps_set (i := 5) scLaw.nd rfl (.inr rfl) (pe_slice sl_tupA (pe_cal L.cS hr rfl (pa_cons (pv 2) (pa_cons (pe_callB call_len_seq rfl T.len PySem.boot_len (pa_cons (pv 4) pa_nil)) pa_nil))) po_none (po_some (pe_ix ix_list (pe_lst (pa_cons pe_int (pa_cons pe_int (pa_cons pe_int pa_nil)))) (pe_cal L.cC hr rfl (pa_cons (pv 2) (pa_cons pe_int pa_nil))) (fun _ _ => rfl)))))
      (pss_cons (ps_set (i := 6) scLaw.nd rfl (.inl rfl) (pe_cal L.cS hr rfl (pa_cons (pv 2) (pa_cons (pe_callB call_len_seq rfl T.len PySem.boot_len (pa_cons (pv 4) pa_nil)) pa_nil))))
      (pss_one (ps_for PassesOwn.never rfl (pi_list (pe_lst (pa_cons (pv 6) (pa_cons (pe_slice sl_tupA (pe_callTy call_tuple_of rfl T.tuple (by decide +kernel) (pa_cons (pe_lc (own := [("_law_one", 14)]) (g := gName 14) (tt := tTest (tOp (rIn K true) (tVar 14) (tVar 5))) (te := tVar 14) rfl scLaw.nd (pi_tup (pv 6))
          (blkOk_by (own := [("_law_one", 14)]) (N := NLaw) (sc := defScope sLaw) (by decide +kernel))
          (fun _ _ _ _ _ => pg_name (i := 14) scLaw.nd rfl (Or.inl rfl)) (fun _ _ _ _ _ => pts_one (pt_cmpR op_notIn_seq (pv 14) (pv 5) rfl)) (fun _ _ _ _ _ => pv 14)) pa_nil)) po_none (po_some pe_int)) (pa_cons (pe_tup pa_nil) pa_nil))))) (pg_name (i := 7) scLaw.nd rfl (.inl rfl))
        (pss_cons (ps_par (i := 8) (j := 9) rfl scLaw.nd rfl rfl (by decide) rfl rfl (pa_cons (pe_cal L.cB hr rfl (pa_cons (pv 4) (pa_cons (pv 5) (pa_cons (pv 7) pa_nil)))) (pa_cons (pe_callB (call_reprA sys rfl hu) rfl T.repr (by decide +kernel) (pa_cons (pe_tup (pa_cons (pv 4) (pa_cons (pv 5) (pa_cons (pv 7) pa_nil)))) pa_nil)) pa_nil)) rfl)
        (pss_cons (ps_set (i := 10) scLaw.nd rfl (.inl rfl) (pe_tup (pa_cons pe_str (pa_cons (pv 8) pa_nil))))
        (pss_cons (ps_imp (t' := tDue K) (ps_if (pt_cmpR op_isN (pv 8) pe_non (nomark _))
          (pss_cons (ps_set (i := 11) scLaw.nd rfl (.inl rfl) (pe_lst pa_nil))
          (pss_cons (ps_for PassesOwn.never rfl (pi_list (pe_cal L.cL hr rfl (pa_cons (pv 4) (pa_cons (pv 5) pa_nil)))) (pg_name (i := 12) scLaw.nd rfl (.inl rfl))
            (pss_one (ps_set (i := 11) scLaw.nd rfl (.inl rfl) (pe_op op_cat (pv 11) (pv 12)))))
          (pss_one (ps_set (i := 10) scLaw.nd rfl (.inl rfl) (pe_tup (pa_cons pe_str (pa_cons (pe_callTy call_tuple_of rfl T.tuple (by decide +kernel) (pa_cons (pe_callB cr_sorted rfl hSo (by decide +kernel) (pa_cons (pv 11) pa_nil)) pa_nil)) pa_nil))))))) pss_nil) ?due)
        (pss_cons (ps_for PassesOwn.never rfl (pi_range1 rfl T.range (pa_cons pe_int pa_nil)) (pg_name (i := 13) scLaw.nd rfl (.inl rfl))
          (pss_one (ps_if (pt_cmpR op_ne (pe_callB (call_reprA sys rfl hu) rfl T.repr (by decide +kernel) (pa_cons (pe_cal L.cP hr rfl (pa_cons (pv 4) (pa_cons (pv 5) (pa_cons (pv 7) pa_nil)))) pa_nil)) (pe_callB (call_reprA sys rfl hu) rfl T.repr (by decide +kernel) (pa_cons (pv 10) pa_nil)) (nomark _)) (pss_one (ps_ret pe_bl)) pss_nil)))
        (pss_cons (ps_if (pt_cmpR op_ne (pe_callB (call_reprA sys rfl hu) rfl T.repr (by decide +kernel) (pa_cons (pe_kw L.kP hr rfl (pk_cons (pv 7) (pk_cons (pv 4) (pk_cons (pv 5) pk_nil)))) pa_nil)) (pe_callB (call_reprA sys rfl hu) rfl T.repr (by decide +kernel) (pa_cons (pv 10) pa_nil)) (nomark _)) (pss_one (ps_ret pe_bl)) pss_nil)
        (pss_one (ps_if (pt_cmpR op_ne (pe_callB (call_reprA sys rfl hu) rfl T.repr (by decide +kernel) (pa_cons (pe_tup (pa_cons (pv 4) (pa_cons (pv 5) (pa_cons (pv 7) pa_nil)))) pa_nil)) (pv 9) (nomark _)) (pss_one (ps_ret pe_bl)) pss_nil))))))))))))))))
    (pss_one (ps_ret pe_bl)), ?main⟩
  case due =>
    rintro D σ G ⟨v0, v1, v2, v3, v6, v7, v9, v11, v12, v13, v14, ca, ba, qd, wv, rows, bs, gs, rfl, hch, hrw, hnd, hbe, ndB, rgB, hqd, hw, nx⟩
    refine ⟨_, rfl, rfl, _, rfl, ?_⟩
    rcases hw with ⟨rfl, noway⟩ | ⟨wa, wn, rfl, wat, least⟩
    · refine ifT rfl ⟨small (by show 0 ≤ 1000; decide), fun q3 f3 => ?_⟩
      have n3 := same_new f3 (.lst [])
      have hq3 : (upd G q3 (.lst [])) q3 = some (.lst (([] : List Int).map V.int)) := upd_same
      generalize upd G q3 (.lst []) = G3 at n3 hq3
      refine ⟨_, rfl, _, rfl, .ref ca, .ref ba, rows, bs, rfl, dp_ext (ext_same n3) _ _ hch, hrw, hnd, dp_ext (ext_same n3) _ _ hbe, ndB, rgB, fun Ll G4 s4 lay => ?_⟩
      obtain ⟨as, hL, las, eachL, allL⟩ := lay
      have hlen := hrw.len
      have hb : ∀ (j : Nat) (q : Int), Rk (inP bs) (foreE rows) j q → 0 ≤ q ∧ q < (rows.length : Int) := fun j q h => by
        cases j with
        | zero => exact rgB q h
        | succ j =>
          obtain ⟨r, _, e⟩ := h
          have hr' := List.getElem?_eq_getElem (show r.toNat < rows.length by omega)
          have h2 := e.2.2
          unfold rowAt at h2
          rw [List.getD_eq_getElem?_getD, hr'] at h2
          exact (hrw.row _ (List.getElem_mem _)).2 q h2
      refine ⟨Ll, rfl, ⟨_, SqL.of hL⟩, ?_⟩
      refine for_list (xs := as.map V.ref) (fun l σ G' => ∃ (qm : Addr) (met : List Int) (o12 : Option V), σ = [v0, v1, v2, v3, some (.ref ca), some (.ref ba), v6, v7, some .non, v9, some (.ref qd), some (.ref qm), o12, v13, v14] ∧ Same G4 G' ∧ G' qm = some (.lst (met.map V.int)) ∧ met.Nodup ∧ ∀ p, p ∈ met ↔ ∃ j, j < l ∧ Dk (inP bs) (foreE rows) j p)
        ⟨q3, [], _, rfl, Same.refl _, s4 _ _ hq3, List.nodup_nil, fun p => ⟨fun h => (by cases h), fun h => (by obtain ⟨j, hj, _⟩ := h; omega)⟩⟩ (fun l σ G' _ h => by obtain ⟨_, _, _, _, s5, _⟩ := h; exact SqL.of (s5 _ _ hL)) (fun l v σ G' hv h => ?_) (fun σ G' h => ?_)
      · obtain ⟨qm, met, o12, rfl, s5, hqm, ndm, iff⟩ := h
        obtain ⟨la, hla, rfl⟩ := refs_get hv
        obtain ⟨ls, hls, ndl, iffl⟩ := eachL l la hla
        have l1 := nodup_len rows.length met ndm fun p hp => by
          obtain ⟨j, _, d⟩ := (iff p).mp hp
          exact hb j p d.1
        have l2 := nodup_len rows.length ls ndl fun p hp => hb l p ((iffl p).mp hp).1
        refine ⟨_, rfl, _, rfl, qm, la, _, _, rfl, rfl, hqm, s5 _ _ hls, small (by rw [List.length_map, List.length_map]; omega), fun p6 f6 => ?_⟩
        refine ⟨p6, met ++ ls, _, rfl, s5.trans (same_new f6 _), by rw [upd_same, List.map_append], List.nodup_append.mpr ⟨ndm, ndl, fun a ha b hb' e => ?_⟩, fun p => ?_⟩
        · subst e
          obtain ⟨j, hj, d⟩ := (iff a).mp ha
          have := d.uniq ((iffl a).mp hb')
          omega
        · rw [List.mem_append, iff p, iffl p]
          constructor
          · rintro (⟨j, hj, d⟩ | d)
            · exact ⟨j, by omega, d⟩
            · exact ⟨l, by omega, d⟩
          · rintro ⟨j, hj, d⟩
            by_cases c : j < l
            · exact .inl ⟨j, c, d⟩
            · exact .inr (by rw [show l = j by omega]; exact d)
      · obtain ⟨qm, met, o12, rfl, s5, hqm, ndm, iff⟩ := h
        have l1 := nodup_len rows.length met ndm fun p hp => by
          obtain ⟨j, _, d⟩ := (iff p).mp hp
          exact hb j p d.1
        refine ⟨_, rfl, qm, met, rfl, SqL.of hqm, by omega, fun ms p7 pm pw f7 => ?_⟩
        have n7 := same_new f7 (.lst (ms.map V.int))
        refine ⟨p7, _, rfl, .inl ⟨SqL.of upd_same, fun p8 f8 => ⟨small (by show 2 ≤ 1000; decide), fun p9 f9 => ?_⟩⟩⟩
        have n8 := same_new f8 (.tup (ms.map V.int))
        have n9 := same_new f9 (.tup [.str "bar", .ref p8])
        have ndms : ms.Nodup := pm.nodup_iff.mpr ndm
        have pw' : ms.Pairwise (· < ·) := (pw.and ndms).imp fun h => by
          have h1 := h.1
          have h2 := h.2
          omega
        refine nx p9 (.tuple [.str "bar", .tuple (ms.map .int)]) _ _ _ (n3.trans (s4.trans (s5.trans (n7.trans (n8.trans n9))))) (.tup (SqT.of upd_same) (.cons (.str _) (.cons (.tup (SqT.of (n9 _ _ upd_same)) (dp_ints ms)) .nil))) (.inr ⟨ms, rfl, noway, pw', fun p => ?_⟩)
        rw [pm.mem_iff, iff p]
        constructor
        · rintro ⟨j, _, d⟩
          exact ⟨j, d.1⟩
        · rintro ⟨k, r⟩
          obtain ⟨j, _, d⟩ := r.ex
          exact ⟨j, by rw [List.length_map]; exact allL j p d, d⟩
    · exact ifF rfl (nx qd (.tuple [.str "way", .tuple (wn.map .int)]) _ _ _ (Same.refl _) (.tup (SqT.of hqd) (.cons (.str _) (.cons (.tup wat (dp_ints wn)) .nil))) (.inl ⟨wn, rfl, least⟩))
  case main =>
  have ll : (ns.map V.int).length = ns.length := List.length_map _
  have hm : 0 ≤ (if (if (6 : Int) < ((ns.map V.int).length : Int) then 6 else ((ns.map V.int).length : Int)) > 1 then (if (6 : Int) < ((ns.map V.int).length : Int) then 6 else ((ns.map V.int).length : Int)) else 1) ∧
      (if (if (6 : Int) < ((ns.map V.int).length : Int) then 6 else ((ns.map V.int).length : Int)) > 1 then (if (6 : Int) < ((ns.map V.int).length : Int) then 6 else ((ns.map V.int).length : Int)) else 1) ≤ 6 := by
    split <;> split <;> omega
  refine ⟨_, rfl, a, _, rfl, .inl scr.sq, _, _, rfl, _, _, rfl, _, rfl, by omega, by omega, ?_⟩
  refine for_range (lo := 0) (fun i σ H' => ∃ o1 o2 o3 o4 o5 o6 o7 o8 o9 o10 o11 o12 o13 o14, σ = [some (.ref a), o1, o2, o3, o4, o5, o6, o7, o8, o9, o10, o11, o12, o13, o14] ∧ ScrOk K H' a (ns.map V.int) ∧ TabsG PT H') ⟨_, _, _, _, _, _, _, _, _, _, _, _, _, _, rfl, scr, tbs⟩ (fun i σ H' hi h => ?_) (fun σ H' h => rfl)
  obtain ⟨o1, o2, o3, o4, o5, o6, o7, o8, o9, o10, o11, o12, o13, o14, rfl, sc, tb'⟩ := h
  refine ⟨_, rfl, _, rfl, a, ns, 0 + (i : Int), rfl, sc.sq, by omega, fun st x y z hst ok => ?_⟩
  have s0 := same_new hst (.lst [.int x, .int y, .int z])
  have sa0 : StAt (upd H' st (.lst [.int x, .int y, .int z])) st := ⟨x, y, z, upd_same, ok⟩
  have sc0 := scr_ext sc (ext_same s0)
  have tb0 := tb'.same s0
  generalize upd H' st (.lst [.int x, .int y, .int z]) = H0 at sa0 sc0 tb0
  clear s0
  refine ⟨3, rfl, by decide, by decide, ?_⟩
  refine for_range (lo := 0) (n := 3) (fun j σ H' => ∃ o3 o4 o5 o6 o7 o8 o9 o10 o11 o12 o13 o14, σ = [some (.ref a), some (.int (0 + (i : Int))), some (.ref st), o3, o4, o5, o6, o7, o8, o9, o10, o11, o12, o13, o14] ∧ ScrOk K H' a (ns.map V.int) ∧ StAt H' st ∧ TabsG PT H') ⟨_, _, _, _, _, _, _, _, _, _, _, _, rfl, sc0, sa0, tb0⟩ (fun j σ H1 hj h => ?_) (fun σ H1 h => ?_)
  · obtain ⟨o3, o4, o5, o6, o7, o8, o9, o10, o11, o12, o13, o14, rfl, sc1, sa1, tb1⟩ := h
    refine ⟨_, rfl, small (by show 3 ≤ 1000; decide), fun p2 h2 => ⟨_, rfl, st, 3, rfl, sa1.same (same_new h2 _), by decide, by decide, fun r H2 r0 r1 mv2 => ?_⟩⟩
    have np2 : p2 ≠ st := sa1.ne h2
    obtain ⟨most, hat, hmost⟩ := at3 (x := 4) (y := 12) (z := 30) r0 r1
    refine ⟨p2, _, r, _, rfl, rfl, SqL.of (mv2.kp _ _ np2 upd_same), hat, st, most, rfl, mv2.sa, by omega, by omega, fun cv d H3 mv3 hd3 ok3 => ?_⟩
    have mvA := (mv_of sa1 (same_new h2 (.lst [V.int 4, .int 12, .int 30]))).trans (mv2.trans mv3)
    obtain ⟨rows, rfl, hrw, srt, isC⟩ := chOk_rows (by omega) ok3
    have sc3 := sc1.kt (mvA.kp.kt sa1)
    have tb3 := tb1.kp sa1 mvA.kp
    have hlen := hrw.len
    obtain ⟨ca, cs, rfl, cat, lc⟩ := ch_at hd3
    refine ⟨_, rfl, _, rfl, ca, cs, rfl, .inr (sqT_same mn_in cat), st, _, rfl, mv3.sa, by omega, by omega, fun sv ss H4 mv4 hs4 ps4 => ?_⟩
    refine ⟨small (by show 3 ≤ 1000; decide), fun p5 h5 => ⟨_, rfl, st, 3, rfl, mv4.sa.same (same_new h5 _), by decide, by decide, fun r5 H5 r50 r51 mv5 => ?_⟩⟩
    have np5 : p5 ≠ st := mv4.sa.ne h5
    obtain ⟨e5, hat5, _⟩ := at3 (x := 1) (y := 2) (z := 30) r50 r51
    refine ⟨p5, _, r5, _, rfl, rfl, SqL.of (mv5.kp _ _ np5 upd_same), hat5, _, rfl, ?_⟩
    have mvB := (mv_of mv4.sa (same_new h5 (.lst [V.int 1, .int 2, .int 30]))).trans mv5
    obtain ⟨sa', rfl, sat⟩ := ints_at (dp_same ((mn_kp mvB.kp).trans mn_in) hs4)
    refine sl_ints sat (fun ba bs H6 s6 hba sub => ?_)
    rw [lc] at ps4
    have psb := ps4.sub sub
    have mv6 := mv_of mvB.sa s6
    have mv36 := mv4.trans (mvB.trans mv6)
    refine ⟨_, rfl, _, rfl, ca, cs, rfl, .inr (sqT_same ((mn_kp mv36.kp).trans mn_in) cat), st, _, rfl, mv36.sa, by omega, by omega, fun gv gs H7 mv7 hg7 ps7 => ?_⟩
    rw [lc] at ps7
    have mv37 := mv36.trans mv7
    have dr7 : Dr K PT a (ns.map V.int) st ca ba rows bs H7 := ⟨sc3.kt (mv37.kp.kt mvA.sa), mv37.sa, dp_same ((mn_kp mv37.kp).trans mn_in) hd3, dp_same ((mn_kp mv7.kp).trans mn_in) (dp_laid mv36.sa hba), tb3.kp mvA.sa mv37.kp⟩
    obtain ⟨ga, rfl, gat⟩ := ints_at (dp_same mn_in hg7)
    clear mv37 hg7 mv36 mv6 sat mvB mv5 mv4 mv3 mv2 mvA sc3 tb3 cat hd3 hs4 ok3
    obtain ⟨ba', hbe, bat⟩ := ints_at dr7.be
    cases hbe
    have lgs := ps7.1
    refine ⟨_, rfl, slCB (lc_sub (row := gs) (σ := [some (.ref a), some (.int (0 + (i : Int))), some (.ref st), some (.int (0 + (j : Int))), some (.ref ca), some (.ref ba), some (.ref ga), o7, o8, o9, o10, o11, o12, o13, o14]) (fun Q h => ⟨_, rfl, h⟩) gat (by omega) (by show 14 < 15; decide) (fun n H' R' hn sm hR => ⟨_, rfl, _, rfl, ba, _, rfl, .inr (sqT_same sm bat), rfl, flat_ints bs, _, rfl, hR _ _ (Same.refl _)⟩) (fun D' H8 zs sm8 hz sb8 => ?_))⟩
    refine ⟨D', _, rfl, .inl ⟨SqL.of hz, fun p8 f8 => ⟨_, rfl, sl_ints (SqT.of upd_same) (fun b9 ms H9 s9 hb9 sub9 => ?_)⟩⟩⟩
    have s79 := sm8.trans ((same_new f8 (.tup (zs.map V.int))).trans s9)
    refine ⟨small (by show 0 ≤ 1000; decide), fun e10 f10 => ⟨small (by show 3 ≤ 1000; decide), fun l11 f11 => ⟨l11, rfl, ⟨_, SqL.of upd_same⟩, ?_⟩⟩⟩
    have n10 := same_new f10 (.tup [])
    have n11 := same_new f11 (.lst [V.ref ga, .ref b9, .ref e10])
    have each : ∀ (l : Nat) v, ([V.ref ga, .ref b9, .ref e10])[l]? = some v → ∃ (ga' : Addr) (gs' : List Int), v = .ref ga' ∧ SqT K (upd (upd H9 e10 (.tup [])) l11 (.lst [V.ref ga, .ref b9, .ref e10])) ga' (gs'.map V.int) ∧ PsOk rows.length gs' := fun l v hv => by
      have hm' := List.mem_of_getElem? hv
      simp only [List.mem_cons, List.not_mem_nil, or_false] at hm'
      rcases hm' with rfl | rfl | rfl
      · exact ⟨ga, gs, rfl, sqT_same (s79.trans (n10.trans n11)) gat, ps7⟩
      · exact ⟨b9, ms, rfl, sqT_same (n10.trans n11) hb9, ps7.sub (sub9.trans sb8)⟩
      · exact ⟨e10, [], rfl, SqT.of (n11 _ _ upd_same), ps7.sub (List.nil_sublist _)⟩
    have hl11 : (upd (upd H9 e10 (.tup [])) l11 (.lst [V.ref ga, .ref b9, .ref e10])) l11 = some (.lst [V.ref ga, .ref b9, .ref e10]) := upd_same
    have dr11 := dr7.same (s79.trans (n10.trans n11))
    generalize upd (upd H9 e10 (.tup [])) l11 (.lst [V.ref ga, .ref b9, .ref e10]) = H11 at each hl11 dr11
    clear n10 n11 s79 dr7 gat bat
    have rgB : ∀ o ∈ bs, 0 ≤ o ∧ o < (rows.length : Int) := psb.2.1
    have srB : bs.Pairwise (· < ·) := ((pts_law bs 0).mp psb.2.2).1
    have ndB : bs.Nodup := srB.imp fun h e => by omega
    have ndR : ∀ ns ∈ rows, ns.Nodup := fun l hl => (srt l hl).imp fun h e => by omega
    refine for_list (xs := [V.ref ga, .ref b9, .ref e10]) (fun l σ G => ∃ o7 o8 o9 o10 o11 o12 o13 o14, σ = [some (.ref a), some (.int (0 + (i : Int))), some (.ref st), some (.int (0 + (j : Int))), some (.ref ca), some (.ref ba), some (.ref ga), o7, o8, o9, o10, o11, o12, o13, o14] ∧ ExtN H11 G ∧ TabsG PT G)
      ⟨_, _, _, _, _, _, _, _, rfl, ext_same (Same.refl _), dr11.tb⟩ (fun l σ G _ h => by obtain ⟨_, _, _, _, _, _, _, _, _, e, _⟩ := h; exact SqL.of (e _ _ hl11 (fun _ z => by cases z))) (fun l v σ G hv h => ?_) (fun σ G h => ?_)
    · obtain ⟨o7, o8, o9, o10, o11, o12, o13, o14, rfl, eG, tG⟩ := h
      obtain ⟨ga', gs', rfl, gat', psg⟩ := each l v hv
      have drG := dr11.ext eG tG
      have hgd : Dp K G (.ref ga') (.tuple (gs'.map .int)) := dp_ext eG _ _ (.tup gat' (dp_ints gs'))
      have lgs' := psg.1
      have lbs := psb.1
      refine ⟨_, rfl, _, rfl, _, rfl, .ref ca, .ref ba, .ref ga', rows, bs, gs', rfl, drG.ch, hrw, ndR, drG.be, ndB, rgB, hgd, fun wv G1 s1 hway => ?_⟩
      have dr1 := drG.same s1
      have hg1 := dp_ext (ext_same s1) _ _ hgd
      have sh3 := three_sm (chart_sm hrw) (ints_sm (ns := bs) (by omega) fun i hi => (by have := rgB i hi; omega)) (ints_sm (ns := gs') (by omega) fun i hi => (by have := psg.2.1 i hi; omega)) (Nat.le_refl _)
      refine ⟨_, rfl, _, rfl, _, rfl, small (by show 3 ≤ 1000; decide), fun q2 f2 => ?_⟩
      have n2 := same_new f2 (.tup [.ref ca, .ref ba, .ref ga'])
      have dr2 := dr1.same n2
      have hg2 := dp_ext (ext_same n2) _ _ hg1
      refine ⟨.ref q2, _, rfl, .tup (SqT.of upd_same) (.cons dr2.ch (.cons dr2.be (.cons hg2 .nil))), sh3.1, sh3.2.1, sh3.2.2, _, _, rfl, ?_⟩
      generalize upd G1 q2 (.tup [.ref ca, .ref ba, .ref ga']) = G2 at n2 dr2 hg2
      refine ⟨_, rfl, small (by show 2 ≤ 1000; decide), fun q3 f3 => ?_⟩
      have n3 := same_new f3 (.tup [.str "way", wv])
      have dr3 := dr2.same n3
      have hg3 := dp_ext (ext_same n3) _ _ hg2
      refine ⟨_, _, _, _, _, _, _, _, _, _, _, ca, ba, q3, wv, rows, bs, gs', rfl, dr3.ch, hrw, ndR, dr3.be, ndB, rgB, upd_same, hway.imp id (fun ⟨wa, wn, e1, e2, e3⟩ => ⟨wa, wn, e1, sqT_same (n2.trans n3) e2, e3⟩), fun qd dd v11 v12 G4 s4 hdd pap => ?_⟩
      have dr4 := dr3.same s4
      have hg4 := dp_ext (ext_same s4) _ _ hg3
      have shD := pap.sm hrw rgB
      have same : ∀ {x : Str}, (!decide (V.str x = V.str x)) = false := by intro x; rw [decide_eq_true rfl]; rfl
      have e4 : ExtN H11 G4 := eG.trans ((ext_same s1).trans ((ext_same n2).trans ((ext_same n3).trans (ext_same s4))))
      have cas : ∀ {G : Hp}, Dr K PT a (ns.map V.int) st ca ba rows bs G → Dp K G (.ref ga') (.tuple (gs'.map .int)) → CasP K G (.ref ca) (.ref ba) (.ref ga') rows bs gs' := fun d g => ⟨d.ch, hrw, srt, isC, d.be, psb.pd, g, psg.pd⟩
      generalize upd G2 q3 (.tup [.str "way", wv]) = G3' at n3 dr3 hg3 s4
      clear n3 dr3 hg3 s4 n2 dr2 hg2 s1 dr1 hg1 f3 f2
      refine ⟨2, rfl, by decide, by decide, ?_⟩
      refine for_range (lo := 0) (n := 2) (fun m σ G => ∃ o13, σ = [some (.ref a), some (.int (0 + (i : Int))), some (.ref st), some (.int (0 + (j : Int))), some (.ref ca), some (.ref ba), some (.ref ga), some (.ref ga'), some wv, some (.str (PyData.tuple [chD rows, .tuple (bs.map .int), .tuple (gs'.map .int)]).shown), some (.ref qd), v11, v12, o13, o14] ∧ ExtN G4 G ∧ TabsG PT G) ⟨_, rfl, ext_same (Same.refl _), dr4.tb⟩ (fun m σ G hm' h => ?_) (fun σ G h => ?_)
      · obtain ⟨o13, rfl, e5, t5⟩ := h
        have dr5 := dr4.ext e5 t5
        refine ⟨_, rfl, _, rfl, _, rfl, .ref ca, .ref ba, .ref ga', rows, bs, gs', rfl, cas dr5 (dp_ext e5 _ _ hg4), t5, fun v d G6 e6 t6 hv6 pd => ?_⟩
        have ed := pd.uniq pap
        subst ed
        refine ⟨v, d, rfl, hv6, shD.1, shD.2.1, shD.2.2, _, rfl, .ref qd, d, rfl, dp_ext (e5.trans e6) _ _ hdd, shD.1, shD.2.1, shD.2.2, rfl, _, rfl, ifF same ⟨_, rfl, e5.trans e6, t6⟩⟩
      · obtain ⟨o13, rfl, e5, t5⟩ := h
        have dr5 := dr4.ext e5 t5
        refine ⟨_, rfl, _, rfl, _, rfl, rfl, .ref ca, .ref ba, .ref ga', rows, bs, gs', rfl, cas dr5 (dp_ext e5 _ _ hg4), t5, fun v d G6 e6 t6 hv6 pd => ?_⟩
        have ed := pd.uniq pap
        subst ed
        refine ⟨v, d, rfl, hv6, shD.1, shD.2.1, shD.2.2, _, rfl, .ref qd, d, rfl, dp_ext (e5.trans e6) _ _ hdd, shD.1, shD.2.1, shD.2.2, rfl, _, rfl, ifF same ?_⟩
        have dr6 := dr5.ext e6 t6
        have hg6 := dp_ext (e5.trans e6) _ _ hg4
        refine ⟨_, rfl, _, rfl, _, rfl, small (by show 3 ≤ 1000; decide), fun q7 f7 => ?_⟩
        have n7 := same_new f7 (.tup [.ref ca, .ref ba, .ref ga'])
        have dr7 := dr6.same n7
        refine ⟨.ref q7, _, rfl, .tup (SqT.of upd_same) (.cons dr7.ch (.cons dr7.be (.cons (dp_ext (ext_same n7) _ _ hg6) .nil))), sh3.1, sh3.2.1, sh3.2.2, _, rfl, rfl, _, rfl, ifF same ?_⟩
        exact ⟨_, _, _, _, _, _, _, _, rfl, e4.trans (e5.trans (e6.trans (ext_same n7))), dr7.tb⟩
    · obtain ⟨o7, o8, o9, o10, o11, o12, o13, o14, rfl, eG, tG⟩ := h
      have drG := dr11.ext eG tG
      exact ⟨_, _, _, _, _, _, _, _, _, _, _, _, rfl, drG.scr, drG.sa, drG.tb⟩
  · obtain ⟨o3, o4, o5, o6, o7, o8, o9, o10, o11, o12, o13, o14, rfl, sc1, sa1, tb1⟩ := h
    exact ⟨_, _, _, _, _, _, _, _, _, _, _, _, _, _, rfl, sc1, tb1⟩
end
/-- a def of the text that stands under its name -/
structure Std0 (K : PySem.W.Frag) (mg : Str → Option Value) (x : Str) (st : Stmt) (f : Addr) (fd : FuncData) : Prop where
  fn : Fun K x x st f fd
  nm : mg x = some (.ref f)
structure Std (K : PySem.W.Frag) (mg : Str → Option Value) (x : Str) (st : Stmt) (ps : List Str) (f : Addr) (fd : FuncData) : Prop where
  fn : Fun K x x st f fd
  nm : mg x = some (.ref f)
  bi : Binds K fd ps []
theorem Std.cal {P : Program} {w : World} {K : PySem.W.Frag} {mg : Str → Option Value} {base : Heap} {x : Str} {st : Stmt} {ps : List Str} {f : Addr} {fd : FuncData} {k j : Nat} {sp : Sp} (D : Std K mg x st ps f fd) (F : FnOk P w K mg base CX0 k f fd ps sp) (h : k ≤ j := by omega) : Cal P w K mg base x j ps sp :=
  ⟨f, fd, F.mono h, D.nm, D.fn.kp, D.bi⟩
section
open PySem.Spec PyProof.Rows LamX
theorem all_cals {P : Program} {w : World} {K : PySem.W.Frag} {mg : Str → Option Value} {base : Heap} {PA cA : Addr} (T : Free mg) (hAll : mg "all" = none) (hSo : mg "sorted" = none) (hEn : mg "enumerate" = none)
    {f0 : Addr} {d0 : FuncData} (D0 : Std K mg "is_whole" sWhole ["thing"] f0 d0) {f1 : Addr} {d1 : FuncData} (D1 : Std K mg "is_within" sWithin ["thing", "least", "most"] f1 d1) {f2 : Addr} {d2 : FuncData} (D2 : Std K mg "are_points" sPoints ["thing", "many"] f2 d2) {f3 : Addr} {d3 : FuncData} (D3 : Std K mg "is_chart" sIsChart ["thing"] f3 d3) {f4 : Addr} {d4 : FuncData} (D4 : Std K mg "check_chart" sCheckCh ["chart"] f4 d4) {f5 : Addr} {d5 : FuncData} (D5 : Std K mg "check_case" sCheckCase ["chart", "starts", "goals"] f5 d5) {f6 : Addr} {d6 : FuncData} (D6 : Std K mg "befores_of" sBefores ["chart"] f6 d6) {f7 : Addr} {d7 : FuncData} (D7 : Std K mg "distances" sDist ["links", "origins", "least", "most"] f7 d7) {f8 : Addr} {d8 : FuncData} (D8 : Std K mg "nearest" sNear ["points", "far"] f8 d8) {f9 : Addr} {d9 : FuncData} (D9 : Std K mg "shortest" sShort ["chart", "far", "point"] f9 d9) {f10 : Addr} {d10 : FuncData} (D10 : Std K mg "paper" sPaper ["chart", "starts", "goals"] f10 d10) {f11 : Addr} {d11 : FuncData} (D11 : Std K mg "_law_cell_at" sCell ["_law_script", "_law_k"] f11 d11) {f12 : Addr} {d12 : FuncData} (D12 : Std K mg "_law_state" sState ["_law_script", "_law_k"] f12 d12) {f13 : Addr} {d13 : FuncData} (D13 : Std K mg "_law_choice" sChoice ["_law_state_here", "_law_many"] f13 d13) {f14 : Addr} {d14 : FuncData} (D14 : Std K mg "_law_chart" sChart ["_law_state_here", "_law_most"] f14 d14) {f15 : Addr} {d15 : FuncData} (D15 : Std K mg "_law_some" sSomeP ["_law_state_here", "_law_many"] f15 d15) {f16 : Addr} {d16 : FuncData} (D16 : Std K mg "_law_layers" sLayers ["_law_web", "_law_begins"] f16 d16) {f17 : Addr} {d17 : FuncData} (D17 : Std K mg "_law_best" sBest ["_law_web", "_law_begins", "_law_aims"] f17 d17)
    (cdA : d3.code = .ref cA) (TA : LamX.TabB base mg cA PA) : Law03 P w K mg base [PA] 12 := by
  have cW := D0.cal (j := 1) (ok_whole (P := P) (w := w) (base := base) (k := 0) D0.fn T)
  have cWi := D1.cal (j := 2) (ok_within D1.fn cW)
  have cPo := D2.cal (j := 3) (ok_points D2.fn T cWi)
  have cIs := D3.cal (j := 5) (ok_isChart (PT := [PA]) D3.fn cdA TA List.mem_cons_self T hAll cPo)
  have cCk := D4.cal (j := 6) (ok_checkCh D4.fn cIs)
  have cCa := D5.cal (j := 7) (ok_checkCase (k := 6) D5.fn T cCk (cPo.mono (by omega)))
  have cBe := D6.cal (j := 7) (ok_bef (P := P) (w := w) (base := base) (k := 6) D6.fn hEn)
  have cDT := D7.cal (j := 7) (ok_distT (P := P) (w := w) (base := base) (k := 6) D7.fn T)
  have cDL := D7.cal (j := 7) (ok_distL (P := P) (w := w) (base := base) (k := 6) D7.fn T)
  have cN : ∀ (k : Nat) (S : Int → Prop) (E : Int → Int → Prop), Cal P w K mg base "nearest" (k + 1) ["points", "far"] (spNear K S E) := fun k S E => D8.cal (ok_near (k := k) D8.fn)
  have cS := D9.cal (j := 7) (ok_short (k := 6) D9.fn T (cN 5))
  have oP := ok_paper (k := 7) D10.fn T hSo cCa cBe cDT cDL (cN 6) cS
  have cCh := D13.cal (j := 1) (ok_choice (P := P) (w := w) (base := base) (mg := mg) (k := 0) D13.fn)
  have cCe := D11.cal (j := 1) (ok_cell (P := P) (w := w) (base := base) (k := 0) D11.fn T)
  have cLa := D16.cal (j := 1) (ok_lay (P := P) (w := w) (base := base) (k := 0) D16.fn T)
  exact {
    cSt := D12.cal (ok_state D12.fn T cCe)
    cC := cCh.mono (by omega)
    cCh := D14.cal (ok_chart D14.fn T cCh)
    cS := D15.cal (ok_someP D15.fn T cCh)
    cL := cLa.mono (by omega)
    cB := D17.cal (ok_best D17.fn T hSo hEn cLa)
    cP := D10.cal oP
    kP := ⟨_, _, oP.mono (by omega), D10.nm, D10.fn.kp, kb_paper D10.fn⟩ }
/-- a def with its code's table -/
def Coded (K : PySem.W.Frag) (mg : Str → Option Value) (x : Str) (st : Stmt) (c Pt : Addr) : Prop := ∃ (f : Addr) (fd : FuncData) (oT : Obj) (vT : Array Value), mg x = some (.ref f) ∧ Fun K x x st f fd ∧ fd.code = .ref c ∧ K.lookup c = some oT ∧ oT.data = .fields vT ∧ vT[11]? = some (.ref Pt) ∧ K.lookup Pt = none
/-- what the top leaves -/
def Left03 (K : PySem.W.Frag) (mg : Str → Option Value) (fa : Addr) : Prop := ∃ (fd : FuncData) (cA PA : Addr), Fun K "law" "law" sLaw fa fd ∧ (∀ (s : Shared) (v : Value), BindsTo s fd ⟨[v], []⟩ [("_law_script", v)]) ∧ Free mg ∧ mg "sorted" = none ∧
  Coded K mg "is_chart" sIsChart cA PA ∧ ∀ (P : Program) (w : World) (base : Heap), LamX.TabB base mg cA PA → Law03 P w K mg base [PA] 12
set_option maxHeartbeats 8000000 in
theorem all_mk {K : PySem.W.Frag} {h : Heap} {mg : Str → Option Value} {fa : Addr} (X : K.In h) (G : h.Ns mainGlobals mg) (hfa : mg "law" = some (.ref fa))
    {f0 : Addr} {od0 an0 : Option Addr} {sl0 : Array (Option Value)} {oc0 kV0 dc0 pm0 ct0 : Value} {cd0 : Value}
    (a0 : PySem.W.nsIn K mainGlobals "is_whole" = some (some (.ref f0))) (l0 : K.lookup f0 = some ⟨oc0, od0, .func (PySem.W.fnOf "is_whole" "is_whole" (defArgs sWhole) (defBody sWhole) (defScope sWhole) .none kV0 dc0 pm0 an0 cd0 ct0), sl0⟩) (c0 : PySem.W.codeIn K cd0 "is_whole" = true) (k0 : PySem.W.keepIn K (.ref f0) = true)
    {f1 : Addr} {od1 an1 : Option Addr} {sl1 : Array (Option Value)} {oc1 kV1 dc1 pm1 ct1 : Value} {cd1 : Value}
    (a1 : PySem.W.nsIn K mainGlobals "is_within" = some (some (.ref f1))) (l1 : K.lookup f1 = some ⟨oc1, od1, .func (PySem.W.fnOf "is_within" "is_within" (defArgs sWithin) (defBody sWithin) (defScope sWithin) .none kV1 dc1 pm1 an1 cd1 ct1), sl1⟩) (c1 : PySem.W.codeIn K cd1 "is_within" = true) (k1 : PySem.W.keepIn K (.ref f1) = true)
    {f2 : Addr} {od2 an2 : Option Addr} {sl2 : Array (Option Value)} {oc2 kV2 dc2 pm2 ct2 : Value} {cd2 : Value}
    (a2 : PySem.W.nsIn K mainGlobals "are_points" = some (some (.ref f2))) (l2 : K.lookup f2 = some ⟨oc2, od2, .func (PySem.W.fnOf "are_points" "are_points" (defArgs sPoints) (defBody sPoints) (defScope sPoints) .none kV2 dc2 pm2 an2 cd2 ct2), sl2⟩) (c2 : PySem.W.codeIn K cd2 "are_points" = true) (k2 : PySem.W.keepIn K (.ref f2) = true)
    {f3 : Addr} {od3 an3 : Option Addr} {sl3 : Array (Option Value)} {oc3 kV3 dc3 pm3 ct3 : Value} {cc3 : Addr}
    (a3 : PySem.W.nsIn K mainGlobals "is_chart" = some (some (.ref f3))) (l3 : K.lookup f3 = some ⟨oc3, od3, .func (PySem.W.fnOf "is_chart" "is_chart" (defArgs sIsChart) (defBody sIsChart) (defScope sIsChart) .none kV3 dc3 pm3 an3 (.ref cc3) ct3), sl3⟩) (c3 : PySem.W.codeIn K (.ref cc3) "is_chart" = true) (k3 : PySem.W.keepIn K (.ref f3) = true)
    {f4 : Addr} {od4 an4 : Option Addr} {sl4 : Array (Option Value)} {oc4 kV4 dc4 pm4 ct4 : Value} {cd4 : Value}
    (a4 : PySem.W.nsIn K mainGlobals "check_chart" = some (some (.ref f4))) (l4 : K.lookup f4 = some ⟨oc4, od4, .func (PySem.W.fnOf "check_chart" "check_chart" (defArgs sCheckCh) (defBody sCheckCh) (defScope sCheckCh) .none kV4 dc4 pm4 an4 cd4 ct4), sl4⟩) (c4 : PySem.W.codeIn K cd4 "check_chart" = true) (k4 : PySem.W.keepIn K (.ref f4) = true)
    {f5 : Addr} {od5 an5 : Option Addr} {sl5 : Array (Option Value)} {oc5 kV5 dc5 pm5 ct5 : Value} {cd5 : Value}
    (a5 : PySem.W.nsIn K mainGlobals "check_case" = some (some (.ref f5))) (l5 : K.lookup f5 = some ⟨oc5, od5, .func (PySem.W.fnOf "check_case" "check_case" (defArgs sCheckCase) (defBody sCheckCase) (defScope sCheckCase) .none kV5 dc5 pm5 an5 cd5 ct5), sl5⟩) (c5 : PySem.W.codeIn K cd5 "check_case" = true) (k5 : PySem.W.keepIn K (.ref f5) = true)
    {f6 : Addr} {od6 an6 : Option Addr} {sl6 : Array (Option Value)} {oc6 kV6 dc6 pm6 ct6 : Value} {cd6 : Value}
    (a6 : PySem.W.nsIn K mainGlobals "befores_of" = some (some (.ref f6))) (l6 : K.lookup f6 = some ⟨oc6, od6, .func (PySem.W.fnOf "befores_of" "befores_of" (defArgs sBefores) (defBody sBefores) (defScope sBefores) .none kV6 dc6 pm6 an6 cd6 ct6), sl6⟩) (c6 : PySem.W.codeIn K cd6 "befores_of" = true) (k6 : PySem.W.keepIn K (.ref f6) = true)
    {f7 : Addr} {od7 an7 : Option Addr} {sl7 : Array (Option Value)} {oc7 kV7 dc7 pm7 ct7 : Value} {cd7 : Value}
    (a7 : PySem.W.nsIn K mainGlobals "distances" = some (some (.ref f7))) (l7 : K.lookup f7 = some ⟨oc7, od7, .func (PySem.W.fnOf "distances" "distances" (defArgs sDist) (defBody sDist) (defScope sDist) .none kV7 dc7 pm7 an7 cd7 ct7), sl7⟩) (c7 : PySem.W.codeIn K cd7 "distances" = true) (k7 : PySem.W.keepIn K (.ref f7) = true)
    {f8 : Addr} {od8 an8 : Option Addr} {sl8 : Array (Option Value)} {oc8 kV8 dc8 pm8 ct8 : Value} {cd8 : Value}
    (a8 : PySem.W.nsIn K mainGlobals "nearest" = some (some (.ref f8))) (l8 : K.lookup f8 = some ⟨oc8, od8, .func (PySem.W.fnOf "nearest" "nearest" (defArgs sNear) (defBody sNear) (defScope sNear) .none kV8 dc8 pm8 an8 cd8 ct8), sl8⟩) (c8 : PySem.W.codeIn K cd8 "nearest" = true) (k8 : PySem.W.keepIn K (.ref f8) = true)
    {f9 : Addr} {od9 an9 : Option Addr} {sl9 : Array (Option Value)} {oc9 kV9 dc9 pm9 ct9 : Value} {cd9 : Value}
    (a9 : PySem.W.nsIn K mainGlobals "shortest" = some (some (.ref f9))) (l9 : K.lookup f9 = some ⟨oc9, od9, .func (PySem.W.fnOf "shortest" "shortest" (defArgs sShort) (defBody sShort) (defScope sShort) .none kV9 dc9 pm9 an9 cd9 ct9), sl9⟩) (c9 : PySem.W.codeIn K cd9 "shortest" = true) (k9 : PySem.W.keepIn K (.ref f9) = true)
    {f10 : Addr} {od10 an10 : Option Addr} {sl10 : Array (Option Value)} {oc10 kV10 dc10 pm10 ct10 : Value} {cd10 : Value}
    (a10 : PySem.W.nsIn K mainGlobals "paper" = some (some (.ref f10))) (l10 : K.lookup f10 = some ⟨oc10, od10, .func (PySem.W.fnOf "paper" "paper" (defArgs sPaper) (defBody sPaper) (defScope sPaper) .none kV10 dc10 pm10 an10 cd10 ct10), sl10⟩) (c10 : PySem.W.codeIn K cd10 "paper" = true) (k10 : PySem.W.keepIn K (.ref f10) = true)
    {f11 : Addr} {od11 an11 : Option Addr} {sl11 : Array (Option Value)} {oc11 kV11 dc11 pm11 ct11 : Value} {cd11 : Value}
    (a11 : PySem.W.nsIn K mainGlobals "_law_cell_at" = some (some (.ref f11))) (l11 : K.lookup f11 = some ⟨oc11, od11, .func (PySem.W.fnOf "_law_cell_at" "_law_cell_at" (defArgs sCell) (defBody sCell) (defScope sCell) .none kV11 dc11 pm11 an11 cd11 ct11), sl11⟩) (c11 : PySem.W.codeIn K cd11 "_law_cell_at" = true) (k11 : PySem.W.keepIn K (.ref f11) = true)
    {f12 : Addr} {od12 an12 : Option Addr} {sl12 : Array (Option Value)} {oc12 kV12 dc12 pm12 ct12 : Value} {cd12 : Value}
    (a12 : PySem.W.nsIn K mainGlobals "_law_state" = some (some (.ref f12))) (l12 : K.lookup f12 = some ⟨oc12, od12, .func (PySem.W.fnOf "_law_state" "_law_state" (defArgs sState) (defBody sState) (defScope sState) .none kV12 dc12 pm12 an12 cd12 ct12), sl12⟩) (c12 : PySem.W.codeIn K cd12 "_law_state" = true) (k12 : PySem.W.keepIn K (.ref f12) = true)
    {f13 : Addr} {od13 an13 : Option Addr} {sl13 : Array (Option Value)} {oc13 kV13 dc13 pm13 ct13 : Value} {cd13 : Value}
    (a13 : PySem.W.nsIn K mainGlobals "_law_choice" = some (some (.ref f13))) (l13 : K.lookup f13 = some ⟨oc13, od13, .func (PySem.W.fnOf "_law_choice" "_law_choice" (defArgs sChoice) (defBody sChoice) (defScope sChoice) .none kV13 dc13 pm13 an13 cd13 ct13), sl13⟩) (c13 : PySem.W.codeIn K cd13 "_law_choice" = true) (k13 : PySem.W.keepIn K (.ref f13) = true)
    {f14 : Addr} {od14 an14 : Option Addr} {sl14 : Array (Option Value)} {oc14 kV14 dc14 pm14 ct14 : Value} {cd14 : Value}
    (a14 : PySem.W.nsIn K mainGlobals "_law_chart" = some (some (.ref f14))) (l14 : K.lookup f14 = some ⟨oc14, od14, .func (PySem.W.fnOf "_law_chart" "_law_chart" (defArgs sChart) (defBody sChart) (defScope sChart) .none kV14 dc14 pm14 an14 cd14 ct14), sl14⟩) (c14 : PySem.W.codeIn K cd14 "_law_chart" = true) (k14 : PySem.W.keepIn K (.ref f14) = true)
    {f15 : Addr} {od15 an15 : Option Addr} {sl15 : Array (Option Value)} {oc15 kV15 dc15 pm15 ct15 : Value} {cd15 : Value}
    (a15 : PySem.W.nsIn K mainGlobals "_law_some" = some (some (.ref f15))) (l15 : K.lookup f15 = some ⟨oc15, od15, .func (PySem.W.fnOf "_law_some" "_law_some" (defArgs sSomeP) (defBody sSomeP) (defScope sSomeP) .none kV15 dc15 pm15 an15 cd15 ct15), sl15⟩) (c15 : PySem.W.codeIn K cd15 "_law_some" = true) (k15 : PySem.W.keepIn K (.ref f15) = true)
    {f16 : Addr} {od16 an16 : Option Addr} {sl16 : Array (Option Value)} {oc16 kV16 dc16 pm16 ct16 : Value} {cd16 : Value}
    (a16 : PySem.W.nsIn K mainGlobals "_law_layers" = some (some (.ref f16))) (l16 : K.lookup f16 = some ⟨oc16, od16, .func (PySem.W.fnOf "_law_layers" "_law_layers" (defArgs sLayers) (defBody sLayers) (defScope sLayers) .none kV16 dc16 pm16 an16 cd16 ct16), sl16⟩) (c16 : PySem.W.codeIn K cd16 "_law_layers" = true) (k16 : PySem.W.keepIn K (.ref f16) = true)
    {f17 : Addr} {od17 an17 : Option Addr} {sl17 : Array (Option Value)} {oc17 kV17 dc17 pm17 ct17 : Value} {cd17 : Value}
    (a17 : PySem.W.nsIn K mainGlobals "_law_best" = some (some (.ref f17))) (l17 : K.lookup f17 = some ⟨oc17, od17, .func (PySem.W.fnOf "_law_best" "_law_best" (defArgs sBest) (defBody sBest) (defScope sBest) .none kV17 dc17 pm17 an17 cd17 ct17), sl17⟩) (c17 : PySem.W.codeIn K cd17 "_law_best" = true) (k17 : PySem.W.keepIn K (.ref f17) = true)
    {f18 : Addr} {od18 an18 : Option Addr} {sl18 : Array (Option Value)} {oc18 kV18 dc18 pm18 ct18 : Value} {cd18 : Value}
    (a18 : PySem.W.nsIn K mainGlobals "law" = some (some (.ref f18))) (l18 : K.lookup f18 = some ⟨oc18, od18, .func (PySem.W.fnOf "law" "law" (defArgs sLaw) (defBody sLaw) (defScope sLaw) .none kV18 dc18 pm18 an18 cd18 ct18), sl18⟩) (c18 : PySem.W.codeIn K cd18 "law" = true) (k18 : PySem.W.keepIn K (.ref f18) = true)
    (z0 : PySem.W.nsIn K mainGlobals "isinstance" = some none)
    (z1 : PySem.W.nsIn K mainGlobals "int" = some none)
    (z2 : PySem.W.nsIn K mainGlobals "bool" = some none)
    (z3 : PySem.W.nsIn K mainGlobals "tuple" = some none)
    (z4 : PySem.W.nsIn K mainGlobals "len" = some none)
    (z5 : PySem.W.nsIn K mainGlobals "range" = some none)
    (z6 : PySem.W.nsIn K mainGlobals "min" = some none)
    (z7 : PySem.W.nsIn K mainGlobals "max" = some none)
    (z8 : PySem.W.nsIn K mainGlobals "sum" = some none)
    (z9 : PySem.W.nsIn K mainGlobals "list" = some none)
    (z10 : PySem.W.nsIn K mainGlobals "repr" = some none)
    (z11 : PySem.W.nsIn K mainGlobals "all" = some none)
    (z12 : PySem.W.nsIn K mainGlobals "sorted" = some none)
    (z13 : PySem.W.nsIn K mainGlobals "enumerate" = some none)
    {oTA : Option Addr} {vTA : Array Value} {sTA : Array (Option Value)} {PA : Addr} (lkA : K.lookup cc3 = some ⟨.type "code", oTA, .fields vTA, sTA⟩) (pA : vTA[11]? = some (.ref PA)) (noA : K.lookup PA = none) :
    Left03 K mg fa := by
  have e := hfa.symm.trans (PySem.W.mg_of X G a18)
  cases e
  have T : Free mg := ⟨PySem.W.mg_none_of X G z0, PySem.W.mg_none_of X G z1, PySem.W.mg_none_of X G z2, PySem.W.mg_none_of X G z3, PySem.W.mg_none_of X G z4, PySem.W.mg_none_of X G z5, PySem.W.mg_none_of X G z6, PySem.W.mg_none_of X G z7, PySem.W.mg_none_of X G z8, PySem.W.mg_none_of X G z9, PySem.W.mg_none_of X G z10⟩
  have F0 := fun_mk (st := sWhole) l0 c0 k0
  have S0 : Std K mg "is_whole" sWhole ["thing"] f0 _ := ⟨F0, PySem.W.mg_of X G a0, F0.binds (ps := ["thing"]) fun _ _ _ _ _ _ us hl => match us, hl with | [_], _ => rfl⟩
  have F1 := fun_mk (st := sWithin) l1 c1 k1
  have S1 : Std K mg "is_within" sWithin ["thing", "least", "most"] f1 _ := ⟨F1, PySem.W.mg_of X G a1, F1.binds (ps := ["thing", "least", "most"]) fun _ _ _ _ _ _ us hl => match us, hl with | [_, _, _], _ => rfl⟩
  have F2 := fun_mk (st := sPoints) l2 c2 k2
  have S2 : Std K mg "are_points" sPoints ["thing", "many"] f2 _ := ⟨F2, PySem.W.mg_of X G a2, F2.binds (ps := ["thing", "many"]) fun _ _ _ _ _ _ us hl => match us, hl with | [_, _], _ => rfl⟩
  have F3 := fun_mk (st := sIsChart) l3 c3 k3
  have S3 : Std K mg "is_chart" sIsChart ["thing"] f3 _ := ⟨F3, PySem.W.mg_of X G a3, F3.binds (ps := ["thing"]) fun _ _ _ _ _ _ us hl => match us, hl with | [_], _ => rfl⟩
  have F4 := fun_mk (st := sCheckCh) l4 c4 k4
  have S4 : Std K mg "check_chart" sCheckCh ["chart"] f4 _ := ⟨F4, PySem.W.mg_of X G a4, F4.binds (ps := ["chart"]) fun _ _ _ _ _ _ us hl => match us, hl with | [_], _ => rfl⟩
  have F5 := fun_mk (st := sCheckCase) l5 c5 k5
  have S5 : Std K mg "check_case" sCheckCase ["chart", "starts", "goals"] f5 _ := ⟨F5, PySem.W.mg_of X G a5, F5.binds (ps := ["chart", "starts", "goals"]) fun _ _ _ _ _ _ us hl => match us, hl with | [_, _, _], _ => rfl⟩
  have F6 := fun_mk (st := sBefores) l6 c6 k6
  have S6 : Std K mg "befores_of" sBefores ["chart"] f6 _ := ⟨F6, PySem.W.mg_of X G a6, F6.binds (ps := ["chart"]) fun _ _ _ _ _ _ us hl => match us, hl with | [_], _ => rfl⟩
  have F7 := fun_mk (st := sDist) l7 c7 k7
  have S7 : Std K mg "distances" sDist ["links", "origins", "least", "most"] f7 _ := ⟨F7, PySem.W.mg_of X G a7, F7.binds (ps := ["links", "origins", "least", "most"]) fun _ _ _ _ _ _ us hl => match us, hl with | [_, _, _, _], _ => rfl⟩
  have F8 := fun_mk (st := sNear) l8 c8 k8
  have S8 : Std K mg "nearest" sNear ["points", "far"] f8 _ := ⟨F8, PySem.W.mg_of X G a8, F8.binds (ps := ["points", "far"]) fun _ _ _ _ _ _ us hl => match us, hl with | [_, _], _ => rfl⟩
  have F9 := fun_mk (st := sShort) l9 c9 k9
  have S9 : Std K mg "shortest" sShort ["chart", "far", "point"] f9 _ := ⟨F9, PySem.W.mg_of X G a9, F9.binds (ps := ["chart", "far", "point"]) fun _ _ _ _ _ _ us hl => match us, hl with | [_, _, _], _ => rfl⟩
  have F10 := fun_mk (st := sPaper) l10 c10 k10
  have S10 : Std K mg "paper" sPaper ["chart", "starts", "goals"] f10 _ := ⟨F10, PySem.W.mg_of X G a10, F10.binds (ps := ["chart", "starts", "goals"]) fun _ _ _ _ _ _ us hl => match us, hl with | [_, _, _], _ => rfl⟩
  have F11 := fun_mk (st := sCell) l11 c11 k11
  have S11 : Std K mg "_law_cell_at" sCell ["_law_script", "_law_k"] f11 _ := ⟨F11, PySem.W.mg_of X G a11, F11.binds (ps := ["_law_script", "_law_k"]) fun _ _ _ _ _ _ us hl => match us, hl with | [_, _], _ => rfl⟩
  have F12 := fun_mk (st := sState) l12 c12 k12
  have S12 : Std K mg "_law_state" sState ["_law_script", "_law_k"] f12 _ := ⟨F12, PySem.W.mg_of X G a12, F12.binds (ps := ["_law_script", "_law_k"]) fun _ _ _ _ _ _ us hl => match us, hl with | [_, _], _ => rfl⟩
  have F13 := fun_mk (st := sChoice) l13 c13 k13
  have S13 : Std K mg "_law_choice" sChoice ["_law_state_here", "_law_many"] f13 _ := ⟨F13, PySem.W.mg_of X G a13, F13.binds (ps := ["_law_state_here", "_law_many"]) fun _ _ _ _ _ _ us hl => match us, hl with | [_, _], _ => rfl⟩
  have F14 := fun_mk (st := sChart) l14 c14 k14
  have S14 : Std K mg "_law_chart" sChart ["_law_state_here", "_law_most"] f14 _ := ⟨F14, PySem.W.mg_of X G a14, F14.binds (ps := ["_law_state_here", "_law_most"]) fun _ _ _ _ _ _ us hl => match us, hl with | [_, _], _ => rfl⟩
  have F15 := fun_mk (st := sSomeP) l15 c15 k15
  have S15 : Std K mg "_law_some" sSomeP ["_law_state_here", "_law_many"] f15 _ := ⟨F15, PySem.W.mg_of X G a15, F15.binds (ps := ["_law_state_here", "_law_many"]) fun _ _ _ _ _ _ us hl => match us, hl with | [_, _], _ => rfl⟩
  have F16 := fun_mk (st := sLayers) l16 c16 k16
  have S16 : Std K mg "_law_layers" sLayers ["_law_web", "_law_begins"] f16 _ := ⟨F16, PySem.W.mg_of X G a16, F16.binds (ps := ["_law_web", "_law_begins"]) fun _ _ _ _ _ _ us hl => match us, hl with | [_, _], _ => rfl⟩
  have F17 := fun_mk (st := sBest) l17 c17 k17
  have S17 : Std K mg "_law_best" sBest ["_law_web", "_law_begins", "_law_aims"] f17 _ := ⟨F17, PySem.W.mg_of X G a17, F17.binds (ps := ["_law_web", "_law_begins", "_law_aims"]) fun _ _ _ _ _ _ us hl => match us, hl with | [_, _, _], _ => rfl⟩
  have F18 := fun_mk (st := sLaw) l18 c18 k18
  exact ⟨_, _, _, F18, fun s v => .of_eq rfl, T, PySem.W.mg_none_of X G z12, ⟨_, _, _, _, PySem.W.mg_of X G a3, F3, rfl, lkA, rfl, pA, noA⟩, fun P w base TA =>
    all_cals T (PySem.W.mg_none_of X G z11) (PySem.W.mg_none_of X G z12) (PySem.W.mg_none_of X G z13) S0 S1 S2 S3 S4 S5 S6 S7 S8 S9 S10 S11 S12 S13 S14 S15 S16 S17 rfl TA⟩
theorem tab_of {q : Program} {loose : List Str} {mean : ExcName → Option Value} {mg mb : Str → Option Value} {h : Heap} (T : Top q loose mean mg mb h) {x : Str} (hx : (recsOf q).any (fun d => d.name == x) = true) {K : PySem.W.Frag} (KX : K.In h) {st : Stmt} {f c Pt : Addr} {fd : FuncData} (F : Fun K x x st f fd) (hm : mg x = some (.ref f)) (hc : fd.code = .ref c)
    {oT : Obj} {vT : Array Value} (lk : K.lookup c = some oT) (hd : oT.data = .fields vT) (hp : vT[11]? = some (.ref Pt)) : h.get? Pt = some { cls := .none, data := .fields #[] } ∧ PySem.W.CodeHd h c Pt := by
  obtain ⟨d, hdm, e⟩ := List.any_eq_true.mp hx
  have e : d.name = x := eq_of_beq e
  obtain ⟨a, o, fd', c', P', m1, g1, d1, c1, isC, tab⟩ := T.tab d hdm
  rw [e, hm] at m1
  cases m1
  obtain ⟨oc, od, kV, doc, pm, an, cdv, ct, osl, rfl, found, code⟩ := F.ex
  have g2 := KX _ _ found
  rw [g1] at g2
  cases g2
  cases d1
  have hc : cdv = .ref c := hc
  have c1 : cdv = .ref c' := c1
  rw [hc] at c1
  cases c1
  obtain ⟨⟨o2, vs2, e1, e2, e3, e4⟩, e5⟩ := id tab
  have g3 := KX _ _ lk
  rw [e1] at g3
  cases g3
  rw [e3] at hd
  cases hd
  rw [e4] at hp
  cases hp
  exact ⟨e5, PySem.W.CodeHd.of isC tab⟩
theorem walk {l : PySem.W.OpenLaw} {q : Program} {loose : List Str} {XP : (Str → Option Value) → Heap → Prop} {YP : World → Heap → Prop} {d : DefRec} {K : Params → PySem.W.Frag} (hn : l.most = some 63) (hdf : d.params.defaults = []) (hnm : d.name = "law") (hi : importsNone q = true) (hA : (recsOf q).any (fun d => d.name == ("is_chart" : Str)) = true)
    (hY : ∀ (w : World) (h : Heap), YP w h → (K w.params).In h)
    (F : ∀ (w : World) (mg : Str → Option Value) (fa : Addr) (h : Heap), (K w.params).In h → h.Ns mainGlobals mg → mg d.name = some (.ref fa) → Left03 (K w.params) mg fa) :
    PySem.W.WalkO q loose XP YP l.row.toRowW d [] (fun f vs => PySem.call f vs) := by
  refine Att.attach_call hn hdf fun w s0 s1 mg mb fa o pm cd doc a vs ns G Y ho hd hcd hmg hobj hints hlen hg => ?_
  have KX := hY w _ Y
  obtain ⟨fd, cA, PA, FL, bd, T, hSo, ⟨_, _, _, _, m1, F1, code1, lk1, d1, p1, n1⟩, cals⟩ := F w mg fa _ KX G.T.g hmg
  obtain ⟨t1, t2⟩ := tab_of G.T hA KX F1 m1 code1 lk1 d1 p1
  obtain ⟨mm, sy, _⟩ := (G.T.seer hi).mods
  have one : ∀ {Pr : Addr × Addr → Prop}, Pr (cA, PA) → ∀ p ∈ [(cA, PA)], Pr p := fun h1 p hp => by
    rw [List.mem_singleton.mp hp]
    exact h1
  refine law_endT (k := 12) (cs := [(cA, PA)]) KX G.T.g G.T.b G.T.builtins G.T.nolimit hg ⟨one t1, one n1, one t2, ⟨mm, sy⟩, G.T.bmain⟩ hobj hints (small (by omega)) ⟨rfl, by decide, by decide⟩ FL scLaw bd fun base _ _ sb TB H cdv hc tabs scr hr => ?_
  have tA := TB _ (List.mem_cons_self)
  refine law_body (k := 12) T hSo sb scr hlen (fun p hp => ?_) hr (cals l.prog w base tA)
  rw [List.mem_singleton.mp hp]
  exact ⟨#[], tabs _ (List.mem_cons_self), trivial⟩
end
end Gw
open PySem PySem.W PyProof.Rows
set_option maxRecDepth 100000 in
set_option maxHeartbeats 0 in
theorem PySem.Challenge.cw_giveway_k03_the_told_paper_holds : PySem.Challenge.rw_giveway_k03_the_told_paper.Holds := by
  w_on; o_law; k_head; (case hw => w_witness2)
  k_fill
  refine Gw.walk (l := PySem.Challenge.rw_giveway_k03_the_told_paper) rfl rfl rfl (by decide +kernel) (by decide +kernel) (fun w h Y => PySem.W.kIn_of Y) ?F
  case F =>
    intro w mg fa h KX G hmg
    refine' Gw.all_mk KX G hmg ?a0 ?l0 ?c0 ?k0 ?a1 ?l1 ?c1 ?k1 ?a2 ?l2 ?c2 ?k2 ?a3 ?l3 ?c3 ?k3 ?a4 ?l4 ?c4 ?k4 ?a5 ?l5 ?c5 ?k5 ?a6 ?l6 ?c6 ?k6 ?a7 ?l7 ?c7 ?k7 ?a8 ?l8 ?c8 ?k8 ?a9 ?l9 ?c9 ?k9 ?a10 ?l10 ?c10 ?k10 ?a11 ?l11 ?c11 ?k11 ?a12 ?l12 ?c12 ?k12 ?a13 ?l13 ?c13 ?k13 ?a14 ?l14 ?c14 ?k14 ?a15 ?l15 ?c15 ?k15 ?a16 ?l16 ?c16 ?k16 ?a17 ?l17 ?c17 ?k17 ?a18 ?l18 ?c18 ?k18 ?z0 ?z1 ?z2 ?z3 ?z4 ?z5 ?z6 ?z7 ?z8 ?z9 ?z10 ?z11 ?z12 ?z13 ?lkA ?pA ?noA
    (case a0 => k_is)
    (case l0 => k_is)
    (case c0 => k_is)
    (case k0 => k_is)
    (case a1 => k_is)
    (case l1 => k_is)
    (case c1 => k_is)
    (case k1 => k_is)
    (case a2 => k_is)
    (case l2 => k_is)
    (case c2 => k_is)
    (case k2 => k_is)
    (case a3 => k_is)
    (case l3 => k_is)
    (case c3 => k_is)
    (case k3 => k_is)
    (case a4 => k_is)
    (case l4 => k_is)
    (case c4 => k_is)
    (case k4 => k_is)
    (case a5 => k_is)
    (case l5 => k_is)
    (case c5 => k_is)
    (case k5 => k_is)
    (case a6 => k_is)
    (case l6 => k_is)
    (case c6 => k_is)
    (case k6 => k_is)
    (case a7 => k_is)
    (case l7 => k_is)
    (case c7 => k_is)
    (case k7 => k_is)
    (case a8 => k_is)
    (case l8 => k_is)
    (case c8 => k_is)
    (case k8 => k_is)
    (case a9 => k_is)
    (case l9 => k_is)
    (case c9 => k_is)
    (case k9 => k_is)
    (case a10 => k_is)
    (case l10 => k_is)
    (case c10 => k_is)
    (case k10 => k_is)
    (case a11 => k_is)
    (case l11 => k_is)
    (case c11 => k_is)
    (case k11 => k_is)
    (case a12 => k_is)
    (case l12 => k_is)
    (case c12 => k_is)
    (case k12 => k_is)
    (case a13 => k_is)
    (case l13 => k_is)
    (case c13 => k_is)
    (case k13 => k_is)
    (case a14 => k_is)
    (case l14 => k_is)
    (case c14 => k_is)
    (case k14 => k_is)
    (case a15 => k_is)
    (case l15 => k_is)
    (case c15 => k_is)
    (case k15 => k_is)
    (case a16 => k_is)
    (case l16 => k_is)
    (case c16 => k_is)
    (case k16 => k_is)
    (case a17 => k_is)
    (case l17 => k_is)
    (case c17 => k_is)
    (case k17 => k_is)
    (case a18 => k_is)
    (case l18 => k_is)
    (case c18 => k_is)
    (case k18 => k_is)
    (case z0 => k_is)
    (case z1 => k_is)
    (case z2 => k_is)
    (case z3 => k_is)
    (case z4 => k_is)
    (case z5 => k_is)
    (case z6 => k_is)
    (case z7 => k_is)
    (case z8 => k_is)
    (case z9 => k_is)
    (case z10 => k_is)
    (case z11 => k_is)
    (case z12 => k_is)
    (case z13 => k_is)
    (case lkA => k_is)
    (case pA => rfl)
    (case noA => first | rfl | k_is)
