import PyProof.Rows.All
import Wide.All
import OpenK.AllK
import Wide.FinOn
import HandS.ForMost
import HandS.IsInst
import HandS.Defaults
import HandS.Conv
import HandS.TupAny
import KE.DataMinMax
import HandS.ForExc
import HandS.Lambda
import HandS.ExcIs
import HandS.Dict
import HandS.EndTab
import PyProof.FactsAll.dict
import HandS.GenList
import HandS.AnyAll
import HandS.RaiseMore
import HandS.Iter
import HandS.Steps
import HandS.Text
import HandS.Zip
import PyProof.TupleOfGen
import HandS.DictEq
import KE.KEqNest
import HandS.More
import KE.GoesMore
import HandS.DictComp
import HandS.List
import HandS.Codes
import HandS.NoneIn
import HandS.SetFor
import HandS.StrMore
import HandS.FStr
import HandS.Style
import PyProof.StrOps2
import HandS.Walk
import HandS.TupLe
import HandS.TupMul
import PySem.Challenge.RW_giveway_k67_nets_written_and_read
set_option Elab.async false
set_option linter.all false
set_option maxRecDepth 100000
namespace Gw
open PySem L2
def top (i : Nat) : Stmt := PySem.Challenge.pw_giveway_k67_nets_written_and_read.main.body.getD i (.Pass ⟨0, 0, 0, 0⟩)
abbrev sBkInit : Stmt := inClass (top 49) 0
abbrev sBkParts : Stmt := inClass (top 49) 1
abbrev sBkLacksOther : Stmt := inClass (top 49) 2
abbrev sNrInit : Stmt := inClass (top 50) 0
abbrev sNrReadRow : Stmt := inClass (top 50) 1
abbrev sNrReadChannels : Stmt := inClass (top 50) 2
abbrev sNrCloseTo : Stmt := inClass (top 50) 3
abbrev sNrEndActor : Stmt := inClass (top 50) 4
abbrev sNrBeginActor : Stmt := inClass (top 50) 5
abbrev sNrBeginOther : Stmt := inClass (top 50) 6
abbrev sNrReadStatement : Stmt := inClass (top 50) 7
abbrev sNrMadeNet : Stmt := inClass (top 50) 8
abbrev sWhole : Stmt := top 5
abbrev sWithin : Stmt := top 6
abbrev sTuple : Stmt := top 7
abbrev sNumber : Stmt := top 11
abbrev sPlace : Stmt := top 12
abbrev sSmall : Stmt := top 24
abbrev sNumName : Stmt := top 25
abbrev sGraphName : Stmt := top 26
abbrev sFits : Stmt := top 27
abbrev sWordOf : Stmt := top 28
abbrev sIsDeed : Stmt := top 29
abbrev sIsBranch : Stmt := top 30
abbrev sStSize : Stmt := top 31
abbrev sBlSize : Stmt := top 32
abbrev sIsChan : Stmt := top 33
abbrev sSends : Stmt := top 34
abbrev sTakes : Stmt := top 35
abbrev sIsNet : Stmt := top 36
abbrev sCheckNet : Stmt := top 37
abbrev sWholeFrom : Stmt := top 41
abbrev sWordsText : Stmt := top 42
abbrev sStRows : Stmt := top 43
abbrev sBlRows : Stmt := top 44
abbrev sNetText : Stmt := top 45
abbrev sChanFrom : Stmt := top 46
abbrev sPartFrom : Stmt := top 47
abbrev sIsHead : Stmt := top 48
abbrev sReadNet : Stmt := top 51
abbrev sCell : Stmt := top 53
abbrev sState : Stmt := top 54
abbrev sChoice : Stmt := top 55
abbrev sMany : Stmt := top 56
abbrev sSimple : Stmt := top 57
abbrev sBlock : Stmt := top 58
abbrev sEnds : Stmt := top 59
abbrev sNet : Stmt := top 60
abbrev sLRows : Stmt := top 61
abbrev sLWritten : Stmt := top 62
abbrev sLaw : Stmt := top 63
/-! data, dicts of whole numbers among it -/
def dictK (ms : List (Int × Int)) : List (Key × V) := ms.map fun m => (Sum.inl m.1, V.int m.2)
def dictD (ms : List (Int × Int)) : List (PyData × PyData) := ms.map fun m => (PyData.int m.1, PyData.int m.2)
mutual
inductive Dp (K : PySem.W.Frag) (Hh : Hp) : V → PyData → Prop
  | non : Dp K Hh .non .none
  | bl (t : Bool) : Dp K Hh (.bl t) (.bool t)
  | int (n : Int) : Dp K Hh (.int n) (.int n)
  | str (t : Str) : Dp K Hh (.str t) (.str t)
  | lst {r : Addr} {us : List V} {es : List PyData} (at_ : SqL K Hh r us) (each : DpAll K Hh us es) : Dp K Hh (.ref r) (.list es)
  | tup {r : Addr} {us : List V} {es : List PyData} (at_ : SqT K Hh r us) (each : DpAll K Hh us es) : Dp K Hh (.ref r) (.tuple es)
  | dct {r : Addr} {ms : List (Int × Int)} (at_ : Hh r = some (.dK (dictK ms))) : Dp K Hh (.ref r) (.dict (dictD ms))
inductive DpAll (K : PySem.W.Frag) (Hh : Hp) : List V → List PyData → Prop
  | nil : DpAll K Hh [] []
  | cons {u : V} {us : List V} {e : PyData} {es : List PyData} (one : Dp K Hh u e) (more : DpAll K Hh us es) : DpAll K Hh (u :: us) (e :: es)
end
/-! no list is in it -/
mutual
def noL : PyData → Bool
  | .list _ => false
  | .tuple es => noLs es
  | _ => true
def noLs : List PyData → Bool
  | [] => true
  | e :: es => noL e && noLs es
end
theorem reads_dict {Pg : Program} {wd : World} {h : Heap} : ∀ (ms : List (Int × Int)) (vs : List (Key × Value)) (es : List DictEntry), KV (dictK ms) vs → Pairs (mixKind Pg wd) es vs →
    ReadsAll h (es.map fun e => e.key) ((dictD ms).map fun p => p.1) [] ∧ ReadsAll h (es.map fun e => e.val) ((dictD ms).map fun p => p.2) []
  | [], vs, es, kv, pr => by
    cases kv
    cases pr
    exact ⟨.nil, .nil⟩
  | m :: ms, vs, es, kv, pr => by
    cases kv with
    | cons h1 h2 =>
      cases pr with
      | cons p1 p2 p3 =>
        obtain ⟨q1, q2⟩ := reads_dict (h := h) ms _ _ h2 p3
        obtain ⟨e1, e2⟩ := h1
        rw [← e1] at p1
        have p1 : keyIs (Sum.inl m.1) _ = true := p1
        rcases keyIs_shape p1 with ⟨i, t, z1, z2⟩ | ⟨x, t, z1, z2⟩
        · cases z1
          obtain ⟨t2, e2⟩ := e2
          refine ⟨?_, ?_⟩
          · refine (show ReadsAll h (_ :: _) (PyData.int m.1 :: _) ([] ++ []) from ?_)
            dsimp only
            rw [z2]
            exact .cons (.int _ _) q1
          · refine (show ReadsAll h (_ :: _) (PyData.int m.2 :: _) ([] ++ []) from ?_)
            dsimp only
            rw [p2, e2]
            exact .cons (.int _ _) q2
        · cases z1
section
variable {X : Cx} {pins : List (Addr × Obj)} {σ : L2.St} {H : Hp} {s : Shared}
theorem dct_reads (I : Inv X pins σ H s) {r : Addr} {ms : List (Int × Int)} (h : H r = some (.dK (dictK ms))) : ∃ o es n, s.heap.get? r = some o ∧ o.ExactDict ∧ o.data = .dict es n ∧ r ≠ sysModules ∧ Reads s.heap (.ref r) (.dict (dictD ms)) (r :: [] ++ []) := by
  obtain ⟨_, ns, vs, kv, o, es, ep, g, ex, dd, _, pr, _⟩ := I.hok r _ h
  obtain ⟨q1, q2⟩ := reads_dict ms vs es.toList kv pr
  exact ⟨o, es, ep, g, ex, dd, beq_eq_false_iff_ne.mp ns, .dict g ex.1 dd q1 q2⟩
mutual
theorem Dp.rd (I : Inv X pins σ H s) : ∀ (d : PyData) (v : V) (u : Value), Dp X.K H v d → RelV v u → ∃ as, Reads s.heap u d as ∧ (noL d = true → sysModules ∉ as)
  | .none, v, u, h, r => by cases h; cases r; exact ⟨_, .none, fun _ z => nomatch z⟩
  | .bool b, v, u, h, r => by cases h; cases r; exact ⟨_, .bool b, fun _ z => nomatch z⟩
  | .int i, v, u, h, r => by cases h; obtain ⟨t, rfl⟩ := r; exact ⟨_, .int i t, fun _ z => nomatch z⟩
  | .str x, v, u, h, r => by cases h; obtain ⟨t, rfl⟩ := r; exact ⟨_, .str x t, fun _ z => nomatch z⟩
  | .list es, v, u, h, r => by
    cases h with
    | lst at_ each =>
      cases r
      obtain ⟨its, rv, ⟨o, n, ho, hc, _, hd⟩, _⟩ := I.list at_
      obtain ⟨as, hr, _⟩ := Dp.rds I es _ its each rv
      exact ⟨_, .list ho hc hd hr, fun z => by simp [noL] at z⟩
  | .tuple es, v, u, h, r => by
    cases h with
    | tup at_ each =>
      cases r
      obtain ⟨its, rv, ⟨o, ho, hc, n, hd⟩, _⟩ := I.tuple at_
      obtain ⟨as, hr, hn⟩ := Dp.rds I es _ its each rv
      exact ⟨_, .tuple ho hc hd hr, fun z => hn (by simpa only [noL] using z)⟩
  | .dict kvs, v, u, h, r => by
    cases h with
    | dct at_ =>
      cases r
      obtain ⟨_, _, _, _, _, _, ns, rd⟩ := dct_reads I at_
      exact ⟨_, rd, fun _ z => by
        have z : sysModules ∈ [_] := z
        exact ns (List.mem_singleton.mp z).symm⟩
theorem Dp.rds (I : Inv X pins σ H s) : ∀ (ds : List PyData) (vs : List V) (us : List Value), DpAll X.K H vs ds → Vals vs us → ∃ as, ReadsAll s.heap us ds as ∧ (noLs ds = true → sysModules ∉ as)
  | [], vs, us, h, r => by cases h; cases r; exact ⟨_, .nil, fun _ z => nomatch z⟩
  | d :: ds, vs, us, h, r => by
    cases h with
    | cons one more =>
      cases r with
      | cons r1 r2 =>
        obtain ⟨as, q1, n1⟩ := Dp.rd I d _ _ one r1
        obtain ⟨bs, q2, n2⟩ := Dp.rds I ds _ _ more r2
        refine ⟨_, .cons q1 q2, fun z => ?_⟩
        have z' : noL d = true ∧ noLs ds = true := by simpa [noLs] using z
        intro hm
        rcases List.mem_append.mp hm with hm | hm
        · exact n1 z'.1 hm
        · exact n2 z'.2 hm
end
end
/-! a dict against a text -/
section
open PySem.SeqAt
theorem dict_declines (l : Addr) (es : Array DictEntry) (n : Nat) (b : Str) (u : Tok) :
    Meets (Builtin.«dict.__eq__» ⟨[.ref l, .str b u], []⟩) (fun _ R s => s.heap.get? l = some { cls := .type "dict", data := .dict es n } ∧ R (.ok (.ret .notImplemented)) s) :=
  .of_wp fun prog w A R s h => by obtain ⟨hp, g, d, tk, os⟩ := s; obtain ⟨hl, h⟩ := h; have f1 := F.sub_str_dict; wp_walk using AutoSeq1.wpAny_loadPart' hl; exact ⟨_, rfl, h⟩
theorem str_declines_dict (b : Str) (u : Tok) (l : Addr) (es : Array DictEntry) (n : Nat) :
    Meets (Builtin.«str.__eq__» ⟨[.str b u, .ref l], []⟩) (fun _ R s => s.heap.get? l = some { cls := .type "dict", data := .dict es n } ∧ R (.ok (.ret .notImplemented)) s) :=
  .of_wp fun prog w A R s h => by obtain ⟨hp, g, d, tk, os⟩ := s; obtain ⟨hl, h⟩ := h; wp_walk using AutoSeq1.wpAny_loadPart' hl, wpAny_load hl; exact ⟨_, rfl, h⟩
theorem rc_dict_str {A : Around} {s : Shared} {l : Addr} {es : Array DictEntry} {n : Nat} (b : Str) (u : Tok) (ho : s.heap.get? l = some { cls := .type "dict", data := .dict es n }) (hu : A.units < cLine) : RcAt A s (.ref l) (.str b u) false := fun prog w E Q h =>
  rc_eq_decline_or (k := false) ⟨_, ho, rfl⟩ (typeIs_str s b u) (by decide) F.sub_str_dict F.slot_dict_eq F.slot_str_eq_refl
    (fun _ hq => call_meets F.slot_dict_eq ⟨_, ho, rfl⟩ F.entry_dict_eq (F.args_dict_eq_2 _ _) (dict_declines l es n b u) ⟨ho, hq⟩)
    (fun _ hq => call_meets F.slot_str_eq_refl (typeIs_str s b u) F.entry_str_eq (F.args_str_eq_2 _ _) (str_declines_dict b u l es n) ⟨ho, hq⟩)
    (fun _ hq => wpAny_of_eq (rfl : isSame (.ref l) (.str b u) = pure false) hq) (.inr hu) h
end
def OkL (_ : PyData) : Prop := True
def OkR (e : PyData) : Prop := ∃ t, e = .str t
theorem okL_mem {ds : List PyData} {d : PyData} (h : OkL (.tuple ds)) (hm : d ∈ ds) : OkL d := trivial
theorem okR_tie : OkR (.str "tie") := ⟨_, rfl⟩
/-- whatever it is against a text -/
def rEqT (K : PySem.W.Frag) : R2 := fun x y H Q => ∃ d e, Dp K H x d ∧ Dp K H y e ∧ OkL d ∧ OkR e ∧ Q (.bl (PyData.eqv d e)) H
theorem op_eqT {X : Cx} (hu : X.A.units + 64 < cLine) : OpR X (compareOp .Eq) (rEqT X.K) := by
  intro pins s σ H x y v u Q I rx ry h
  obtain ⟨d, e, hd, he, _, ⟨t, rfl⟩, q⟩ := h
  cases he
  obtain ⟨tk, rfl⟩ := ry
  have fin : ∀ b, PyData.eqv d (.str t) = b → SeqAt.RcAt X.A s v (.str t tk) b → wpAny (model X.prog X.w) X.A (compareOp .Eq v (.str t tk)) (EP X pins σ Q) X.xe s := fun b e rc => by
    refine rc X.prog X.w _ _ ⟨.bl b, H, I, rfl, ?_⟩
    rw [← e]
    exact q
  have hu' : X.A.units < cLine := by omega
  cases hd with
  | non => cases rx; exact fin false (by simp [PyData.eqv]) (SeqAt.RcAt.none_str _ _)
  | bl b => cases rx; exact fin false (by simp [PyData.eqv]) (SeqAt.RcAt.bool_str _ _ _)
  | int i => obtain ⟨k, rfl⟩ := rx; exact fin false (by simp [PyData.eqv]) (SeqAt.RcAt.int_str _ _ _ _)
  | str z => obtain ⟨k, rfl⟩ := rx; exact fin (z == t) (by simp [PyData.eqv]) (SeqAt.RcAt.str_str _ _ _ _)
  | lst at_ each =>
    cases rx
    obtain ⟨its, rv, ⟨o, n, ho, hc, _, hd⟩, _⟩ := I.list at_
    exact fin false (by simp [PyData.eqv]) (SeqAt.RcAt.list_str _ _ ⟨o, ho, hc, n, hd⟩ hu')
  | tup at_ each =>
    cases rx
    obtain ⟨its, rv, ⟨o, ho, hc, n, hd⟩, _⟩ := I.tuple at_
    exact fin false (by simp [PyData.eqv]) (SeqAt.RcAt.tuple_str _ _ ⟨o, ho, hc, n, hd⟩ hu')
  | dct at_ =>
    cases rx
    obtain ⟨⟨oc, od, oda, osl⟩, es, n, g, ⟨e1, e2, e3⟩, e4, _, _⟩ := dct_reads I at_
    dsimp only at e1 e2 e3 e4
    subst e1 e2 e3 e4
    exact fin false (by simp [PyData.eqv]) (rc_dict_str _ _ g hu')
/-- data without dicts against such -/
def rNeD (K : PySem.W.Frag) : R2 := fun x y Hh Q => ∃ d e, Dp K Hh x d ∧ Dp K Hh y e ∧ SeqAt.shaped d = true ∧ SeqAt.shaped e = true ∧ Q (.bl (!PyData.eqv d e)) Hh
theorem op_neD {X : Cx} (hu : X.A.units + 64 < cLine) : OpR X (compareOp .NotEq) (rNeD X.K) := by
  intro pins s σ Hh x y v u Q I rx ry h
  obtain ⟨d, e, hd, he, sd, se, q⟩ := h
  obtain ⟨as, r1, _⟩ := Dp.rd I d x v hd rx
  obtain ⟨bs, r2, _⟩ := Dp.rd I e y u he ry
  exact SeqAt.compareNe_shaped r1 r2 sd se hu ⟨.bl _, Hh, I, rfl, q⟩
/-! repr -/
theorem call_reprD {X : Cx} (hg : X.A.guards = some []) (hu : X.A.units + 80 < cLine) : CallR X (.builtin "repr") (fun xs H Q => ∃ (a : Addr) (d : PyData), xs = [.ref a] ∧ Dp X.K H (.ref a) d ∧ d.showable = true ∧ (d.hasDict = true → noL d = true) ∧ d.depth ≤ 64 ∧ d.shown.length ≤ sizeLine ∧ Q (.str d.shown) H) := by
  intro pins s σ H xs us Q I r h
  obtain ⟨a, d, rfl, hd, h1, h2, h3, h4, q⟩ := h
  obtain ⟨u, rfl, ru⟩ := vals1 r
  cases ru
  obtain ⟨as, hr, hn⟩ := Dp.rd I d (.ref a) (.ref a) hd rfl
  exact repr_of_reads' hr h1 (fun z => hn (h2 z)) hg (by omega) (fun _ _ e => e) (fun h' u tk hk => ⟨.str d.shown, H, I.kept hk, ⟨u, rfl⟩, q⟩) h4
/-- the names that the module leaves to the built-ins -/
structure Free (mg : Str → Option Value) : Prop where
  isi : mg "isinstance" = none
  int : mg "int" = none
  bool : mg "bool" = none
  tuple : mg "tuple" = none
  len : mg "len" = none
  range : mg "range" = none
  min : mg "min" = none
  max : mg "max" = none
  sum : mg "sum" = none
  list : mg "list" = none
  repr : mg "repr" = none
/-- a def that stands under its name and keeps a promise -/
def Cal (P : Program) (w : World) (K : PySem.W.Frag) (mg : Str → Option Value) (base : Heap) (x : Str) (k : Nat) (ps : List Str) (sp : Sp) : Prop :=
  ∃ (f : Addr) (fd : FuncData), FnOk P w K mg base CX0 k f fd ps sp ∧ mg x = some (.ref f) ∧ PySem.W.keepIn K (.ref f) = true ∧ Binds K fd ps []
theorem Cal.mono {P : Program} {w : World} {K : PySem.W.Frag} {mg : Str → Option Value} {base : Heap} {x : Str} {j k : Nat} {ps : List Str} {sp : Sp} (C : Cal P w K mg base x j ps sp) (h : j ≤ k) : Cal P w K mg base x k ps sp := by
  obtain ⟨f, fd, F, r⟩ := C
  exact ⟨f, fd, F.mono h, r⟩
theorem pe_cal {X : Cx} {x : Str} {p pos : Pos} {e : Expr} {es : List Expr} {t : TA} {k : Nat} {ps : List Str} {sp : Sp} (C : Cal X.prog X.w X.K X.mg X.base x k ps sp) (hr : Room k X.A) (hg : Gl X x) (ha : PA X (e :: es) t)
    (hdb : (x == ("__debug__" : Str)) = false := by decide) (he : starEach (e :: es) X.env = (false, eval e X.env) :: starEach es X.env := by rfl) (hpl : ((backTo pos (starEach es X.env)).any fun x => x.fst) = false := by rfl) :
    PE X (.Call (.Name x p) (e :: es) [] pos) (tCall sp [] E0 t) := by
  obtain ⟨f, fd, F, hm, hk, hb⟩ := C
  exact pe_call F hr hg hm hk hb .nil pass0 ha hdb he hpl
/-! the kinds of data -/
def kindD : PyData → String
  | .none => "NoneType"
  | .bool _ => "bool"
  | .int _ => "int"
  | .str _ => "str"
  | .list _ => "list"
  | .tuple _ => "tuple"
  | .dict _ => "dict"
theorem ty_lst {K : PySem.W.Frag} {H : Hp} {a : Addr} {xs : List V} (h : SqL K H a xs) : TyX K H (.ref a) (.type "list") := by
  rcases h with (h | ⟨o, h⟩) | ⟨o, its, n, hk, hc, _⟩
  · exact .base (.lst h)
  · exact .base (.frz h)
  · exact .kList hk hc
theorem ty_tup {K : PySem.W.Frag} {H : Hp} {a : Addr} {xs : List V} (h : SqT K H a xs) : TyX K H (.ref a) (.type "tuple") := by
  rcases h with (h | ⟨o, h⟩) | ⟨o, its, n, hk, hc, _⟩
  · exact .base (.tup h)
  · exact .fTuple h
  · exact .kTuple hk hc
theorem ty_of {K : PySem.W.Frag} {H : Hp} {x : V} {d : PyData} (h : Dp K H x d) : TyX K H x (.type (kindD d)) := by
  cases h with
  | non => exact .base .non
  | bl b => exact .base (.bl b)
  | int i => exact .base (.int i)
  | str s => exact .base (.str s)
  | lst h _ => exact ty_lst h
  | dct h => exact .base (.dK h)
  | tup h _ => exact ty_tup h
def intD : PyData → Bool
  | .int _ => true
  | .bool _ => true
  | _ => false
def boolD : PyData → Bool
  | .bool _ => true
  | _ => false
def tupleD : PyData → Bool
  | .tuple _ => true
  | _ => false
theorem kit_int {K : PySem.W.Frag} (d : PyData) : PySem.W.kitOne K (.type (kindD d)) (.type "int") = some (intD d) := by
  cases d with
  | none => exact kit_ty (show kitB "NoneType" "int" = some false by decide +kernel)
  | bool _ => exact kit_ty (show kitB "bool" "int" = some true by decide +kernel)
  | int _ => exact kit_ty (show kitB "int" "int" = some true by decide +kernel)
  | str _ => exact kit_ty (show kitB "str" "int" = some false by decide +kernel)
  | list _ => exact kit_ty (show kitB "list" "int" = some false by decide +kernel)
  | tuple _ => exact kit_ty (show kitB "tuple" "int" = some false by decide +kernel)
  | dict _ => exact kit_ty (show kitB "dict" "int" = some false by decide +kernel)
theorem kit_bool {K : PySem.W.Frag} (d : PyData) : PySem.W.kitOne K (.type (kindD d)) (.type "bool") = some (boolD d) := by
  cases d with
  | none => exact kit_ty (show kitB "NoneType" "bool" = some false by decide +kernel)
  | bool _ => exact kit_ty (show kitB "bool" "bool" = some true by decide +kernel)
  | int _ => exact kit_ty (show kitB "int" "bool" = some false by decide +kernel)
  | str _ => exact kit_ty (show kitB "str" "bool" = some false by decide +kernel)
  | list _ => exact kit_ty (show kitB "list" "bool" = some false by decide +kernel)
  | tuple _ => exact kit_ty (show kitB "tuple" "bool" = some false by decide +kernel)
  | dict _ => exact kit_ty (show kitB "dict" "bool" = some false by decide +kernel)
theorem kit_tuple {K : PySem.W.Frag} (d : PyData) : PySem.W.kitOne K (.type (kindD d)) (.type "tuple") = some (tupleD d) := by
  cases d with
  | none => exact kit_ty (show kitB "NoneType" "tuple" = some false by decide +kernel)
  | bool _ => exact kit_ty (show kitB "bool" "tuple" = some false by decide +kernel)
  | int _ => exact kit_ty (show kitB "int" "tuple" = some false by decide +kernel)
  | str _ => exact kit_ty (show kitB "str" "tuple" = some false by decide +kernel)
  | list _ => exact kit_ty (show kitB "list" "tuple" = some false by decide +kernel)
  | tuple _ => exact kit_ty (show kitB "tuple" "tuple" = some true by decide +kernel)
  | dict _ => exact kit_ty (show kitB "dict" "tuple" = some false by decide +kernel)
theorem ifT {c : Bool} {A B : Prop} (e : c = true) (h : A) : if c = true then A else B := by rw [if_pos e]; exact h
theorem ifF {c : Bool} {A B : Prop} (e : c = false) (h : B) : if c = true then A else B := by rw [if_neg (by rw [e]; decide)]; exact h
def wholeD : PyData → Bool
  | .int _ => true
  | _ => false
def withinD (lo hi : Int) : PyData → Bool
  | .int i => decide (lo ≤ i) && decide (i ≤ hi)
  | _ => false
def tupD (lo hi : Int) : PyData → Bool
  | .tuple xs => decide (lo ≤ (xs.length : Int)) && decide ((xs.length : Int) ≤ hi)
  | _ => false
theorem dpAll_len {K : PySem.W.Frag} {H : Hp} : ∀ {xs : List V} {ds : List PyData}, DpAll K H xs ds → xs.length = ds.length
  | _, _, .nil => rfl
  | _, _, .cons _ t => by rw [List.length_cons, List.length_cons, dpAll_len t]
theorem dpAll_get {K : PySem.W.Frag} {H : Hp} : ∀ {xs : List V} {ds : List PyData} {i : Nat} {d : PyData}, DpAll K H xs ds → ds[i]? = some d → ∃ x, xs[i]? = some x ∧ Dp K H x d
  | _, _, 0, _, .cons h _, e => by cases e; exact ⟨_, rfl, h⟩
  | _, _, i + 1, _, .cons _ t, e => dpAll_get (i := i) t e
  | _, _, _, _, .nil, e => by cases e
theorem dpAll_get' {K : PySem.W.Frag} {H : Hp} : ∀ {xs : List V} {ds : List PyData} {i : Nat} {x : V}, DpAll K H xs ds → xs[i]? = some x → ∃ d, ds[i]? = some d ∧ Dp K H x d
  | _, _, 0, _, .cons h _, e => by cases e; exact ⟨_, rfl, h⟩
  | _, _, i + 1, _, .cons _ t, e => dpAll_get' (i := i) t e
  | _, _, _, _, .nil, e => by cases e
section
variable {P : Program} {w : World} {K : PySem.W.Frag} {mg : Str → Option Value} {base : Heap} {f : Addr} {fd : FuncData}
def spWhole (K : PySem.W.Frag) : Sp := fun vs H Q _ => ∃ (x : V) (d : PyData), vs = [x] ∧ Dp K H x d ∧ Q (.bl (wholeD d)) H
theorem scWhole : FnScope ["thing"] ["thing"] (defScope sWhole) := ⟨rfl, rfl, rfl, by decide +kernel, rfl, by decide +kernel, by decide +kernel⟩
theorem ok_whole {k : Nat} (F : Fun K "is_whole" "is_whole" sWhole f fd) (T : Free mg) : FnOk P w K mg base CX0 (k + 1) f fd ["thing"] (spWhole K) := by
  refine F.ok scWhole (fun vs H Q E h => ?_) (fun cdv A outer s H vs Q E hr h => ?_)
  · obtain ⟨x, d, rfl, _⟩ := h
    rfl
  obtain ⟨x, d, rfl, hx, q⟩ := h
  refine ⟨_, pss_one (ps_ret (pe_and (pe_callB call_isi rfl T.isi (by decide +kernel) (pa_cons (pv 0) (pa_cons (pe_bltn (v := .ty "int") rfl T.int (by decide +kernel) rfl) pa_nil)))
    (pe_one (pe_not (pe_callB call_isi rfl T.isi (by decide +kernel) (pa_cons (pv 0) (pa_cons (pe_bltn (v := .ty "bool") rfl T.bool (by decide +kernel) rfl) pa_nil))))))), ?_⟩
  have ht := ty_of hx
  refine ⟨_, rfl, x, _, _, _, _, rfl, .ty "int", ht, kit_int d, _, rfl, ?_⟩
  cases d with
  | int i => exact ifT rfl ⟨_, rfl, _, _, _, _, _, rfl, .ty "bool", ht, kit_bool _, _, rfl, q⟩
  | bool b => exact ifT rfl ⟨_, rfl, _, _, _, _, _, rfl, .ty "bool", ht, kit_bool _, _, rfl, q⟩
  | none => exact ifF rfl q
  | str _ => exact ifF rfl q
  | list _ => exact ifF rfl q
  | tuple _ => exact ifF rfl q
  | dict _ => exact ifF rfl q
/-! is_within -/
def spWithin (K : PySem.W.Frag) : Sp := fun vs H Q _ => ∃ (x : V) (d : PyData) (lo hi : Int), vs = [x, .int lo, .int hi] ∧ Dp K H x d ∧ Q (.bl (withinD lo hi d)) H
theorem scWithin : FnScope ["thing", "least", "most"] ["thing", "least", "most"] (defScope sWithin) := ⟨rfl, rfl, rfl, by decide +kernel, rfl, by decide +kernel, by decide +kernel⟩
theorem ok_within {k : Nat} (F : Fun K "is_within" "is_within" sWithin f fd) (cW : Cal P w K mg base "is_whole" k ["thing"] (spWhole K)) : FnOk P w K mg base CX0 (k + 1) f fd ["thing", "least", "most"] (spWithin K) := by
  refine F.ok scWithin (fun vs H Q E h => ?_) (fun cdv A outer s H vs Q E hr h => ?_)
  · obtain ⟨x, d, lo, hi, rfl, _⟩ := h
    rfl
  obtain ⟨x, d, lo, hi, rfl, hx, q⟩ := h
  refine ⟨_, pss_one (ps_ret (pe_and (pe_cal cW hr rfl (pa_cons (pv 0) pa_nil)) (pe_one (pe_chain op_le op_le (pv 1) (pv 0) (pv 2))))), ?_⟩
  refine ⟨_, rfl, x, d, rfl, hx, _, rfl, ?_⟩
  cases d with
  | int i =>
    cases hx
    refine ifT rfl ⟨_, rfl, _, rfl, _, _, rfl, rfl, _, rfl, ?_⟩
    have e : withinD lo hi (.int i) = (decide (lo ≤ i) && decide (i ≤ hi)) := rfl
    rw [e] at q
    by_cases c : lo ≤ i
    · refine ifT (decide_eq_true c) ⟨_, rfl, _, _, rfl, rfl, ?_⟩
      rw [decide_eq_true c, Bool.true_and] at q
      exact q
    · refine ifF (decide_eq_false c) ?_
      rw [decide_eq_false c, Bool.false_and] at q
      exact q
  | bool b => exact ifF rfl q
  | none => exact ifF rfl q
  | str _ => exact ifF rfl q
  | list _ => exact ifF rfl q
  | tuple _ => exact ifF rfl q
  | dict _ => exact ifF rfl q
/-! is_tuple -/
end
theorem atI_at {α : Type} {xs : List α} {i : Int} {v : α} (h0 : 0 ≤ i) (h : xs[i.toNat]? = some v) : atI xs i = some v := by
  have q := atI_nat h
  rw [show ((i.toNat : Nat) : Int) = i by omega] at q
  exact q
/-! heaps: what stands, but for the state's list -/
def StOk (x y z : Int) : Prop := 0 ≤ x ∧ 0 ≤ y ∧ y < 4294967296
def StAt (H : Hp) (st : Addr) : Prop := ∃ x y z, H st = some (.lst [.int x, .int y, .int z]) ∧ StOk x y z
def Kp (st : Addr) (H H' : Hp) : Prop := ∀ b u, b ≠ st → H b = some u → H' b = some u
structure Mv (st : Addr) (H H' : Hp) : Prop where
  kp : Kp st H H'
  sa : StAt H' st
/-- what is no list stands -/
def KT (H H' : Hp) : Prop := ∀ b u, H b = some u → (∀ l, u ≠ .lst l) → H' b = some u
theorem Kp.refl (st : Addr) (H : Hp) : Kp st H H := fun _ _ _ h => h
theorem Kp.trans {st : Addr} {H H1 H2 : Hp} (a : Kp st H H1) (b : Kp st H1 H2) : Kp st H H2 := fun c u n h => b c u n (a c u n h)
theorem Kp.of_same {st : Addr} {H H' : Hp} (a : Same H H') : Kp st H H' := fun c u _ h => a c u h
theorem KT.refl (H : Hp) : KT H H := fun _ _ h _ => h
theorem KT.trans {H H1 H2 : Hp} (a : KT H H1) (b : KT H1 H2) : KT H H2 := fun c u h n => b c u (a c u h n) n
theorem KT.of_same {H H' : Hp} (a : Same H H') : KT H H' := fun c u h _ => a c u h
theorem Kp.kt {st : Addr} {H H' : Hp} (k : Kp st H H') (s : StAt H st) : KT H H' := fun b u h n => k b u (fun e => by
  obtain ⟨x, y, z, hs, _⟩ := s
  rw [e, hs] at h
  cases h
  exact n _ rfl) h
theorem KT.upd {H : Hp} {p : Addr} {l l' : List V} (h : H p = some (.lst l)) : KT H (upd H p (.lst l')) := fun b u hb n => by
  by_cases e : b = p
  · subst e
    rw [h] at hb
    cases hb
    exact absurd rfl (n l)
  · rw [upd_ne e]
    exact hb
theorem same_new {H : Hp} {p : Addr} (h : H p = none) (o : HO) : Same H (upd H p o) := fun b u q => by rw [upd_ne (ne_of_none q h)]; exact q
theorem Kp.upd {st : Addr} {H0 H : Hp} {p : Addr} {o : HO} (k : Kp st H0 H) (h : H0 p = none) : Kp st H0 (upd H p o) := fun b u n hb => by
  rw [upd_ne (ne_of_none hb h)]
  exact k b u n hb
theorem Kp.free {st : Addr} {H H' : Hp} (k : Kp st H H') {p : Addr} (n : p ≠ st) (h : H' p = none) : H p = none := by
  cases e : H p with
  | none => rfl
  | some u =>
    rw [k p u n e] at h
    cases h
theorem StAt.some {H : Hp} {st : Addr} (s : StAt H st) : ∃ l, H st = some (.lst l) := by
  obtain ⟨x, y, z, h, _⟩ := s
  exact ⟨_, h⟩
theorem StAt.ne {H : Hp} {st p : Addr} (s : StAt H st) (h : H p = none) : p ≠ st := fun e => by
  obtain ⟨l, hs⟩ := s.some
  rw [e, hs] at h
  cases h
theorem StAt.same {H H' : Hp} {st : Addr} (s : StAt H st) (k : Same H H') : StAt H' st := by
  obtain ⟨x, y, z, h, ok⟩ := s
  exact ⟨x, y, z, k _ _ h, ok⟩
theorem StAt.upd {H : Hp} {st p : Addr} {o : HO} (s : StAt H st) (n : p ≠ st) : StAt (upd H p o) st := by
  obtain ⟨x, y, z, h, ok⟩ := s
  exact ⟨x, y, z, by rw [upd_ne n.symm]; exact h, ok⟩
/-! data that is tuples, ints and texts alone -/
mutual
def tupOnly : PyData → Bool
  | .int _ | .str _ => true
  | .tuple xs => tupOnlyAll xs
  | _ => false
def tupOnlyAll : List PyData → Bool
  | [] => true
  | x :: r => tupOnly x && tupOnlyAll r
end
theorem sqT_kt {K : PySem.W.Frag} {H H' : Hp} {a : Addr} {xs : List V} (k : KT H H') (h : SqT K H a xs) : SqT K H' a xs := by
  rcases h with (h | ⟨o, h⟩) | h
  · exact .inl (.inl (k _ _ h (fun l z => by cases z)))
  · exact .inl (.inr ⟨o, k _ _ h (fun l z => by cases z)⟩)
  · exact .inr h
mutual
theorem dp_kt {K : PySem.W.Frag} {H H' : Hp} (k : KT H H') : ∀ (d : PyData) (v : V), tupOnly d = true → Dp K H v d → Dp K H' v d
  | .int i, v, _, h => by cases h; exact .int i
  | .str x, v, _, h => by cases h; exact .str x
  | .tuple ds, v, t, h => by
    cases h with
    | tup hs ha => exact .tup (sqT_kt k hs) (dpAll_kt k ds _ (by simpa only [tupOnly] using t) ha)
  | .none, v, t, h => by simp [tupOnly] at t
  | .bool _, v, t, h => by simp [tupOnly] at t
  | .list _, v, t, h => by simp [tupOnly] at t
  | .dict _, v, t, h => by simp [tupOnly] at t
theorem dpAll_kt {K : PySem.W.Frag} {H H' : Hp} (k : KT H H') : ∀ (ds : List PyData) (vs : List V), tupOnlyAll ds = true → DpAll K H vs ds → DpAll K H' vs ds
  | [], vs, _, h => by cases h; exact .nil
  | d :: ds, vs, t, h => by
    simp only [tupOnlyAll, Bool.and_eq_true] at t
    cases h with
    | cons h1 h2 => exact .cons (dp_kt k d _ t.1 h1) (dpAll_kt k ds _ t.2 h2)
end
theorem dpAll_snoc {K : PySem.W.Frag} {H : Hp} {v : V} {d : PyData} (h : Dp K H v d) : ∀ {vs : List V} {ds : List PyData}, DpAll K H vs ds → DpAll K H (vs ++ [v]) (ds ++ [d])
  | _, _, .nil => .cons h .nil
  | _, _, .cons a t => .cons a (dpAll_snoc h t)
theorem dpAll_append {K : PySem.W.Frag} {H : Hp} {ws : List V} {es : List PyData} (h : DpAll K H ws es) : ∀ {vs : List V} {ds : List PyData}, DpAll K H vs ds → DpAll K H (vs ++ ws) (ds ++ es)
  | _, _, .nil => h
  | _, _, .cons a t => .cons a (dpAll_append h t)
theorem tupOnly_snoc : ∀ {ds : List PyData} {d : PyData}, tupOnlyAll ds = true → tupOnly d = true → tupOnlyAll (ds ++ [d]) = true
  | [], d, _, h => by simp [tupOnlyAll, h]
  | x :: r, d, t, h => by
    simp only [tupOnlyAll, Bool.and_eq_true, List.cons_append] at *
    exact ⟨t.1, tupOnly_snoc t.2 h⟩
theorem small {n : Nat} (h : n ≤ 1000) : n ≤ sizeLine := Nat.le_of_lt (small1000 h)
section
variable {P : Program} {w : World} {K : PySem.W.Frag} {mg : Str → Option Value} {base : Heap} {f : Addr} {fd : FuncData}
/-! _law_cell_at -/
def spCell (K : PySem.W.Frag) : Sp := fun vs H Q _ => ∃ (a : Addr) (ns : List Int) (i : Int), vs = [.ref a, .int i] ∧ SqL K H a (ns.map V.int) ∧ 0 ≤ i ∧ ∀ n : Int, Q (.int n) H
theorem scCell : FnScope ["_law_script", "_law_k"] ["_law_script", "_law_k"] (defScope sCell) := ⟨rfl, rfl, rfl, by decide +kernel, rfl, by decide +kernel, by decide +kernel⟩
theorem ok_cell {k : Nat} (F : Fun K "_law_cell_at" "_law_cell_at" sCell f fd) (T : Free mg) : FnOk P w K mg base CX0 (k + 1) f fd ["_law_script", "_law_k"] (spCell K) := by
  refine F.ok scCell (fun vs H Q E h => ?_) (fun cdv A outer s H vs Q E hr h => ?_)
  · obtain ⟨a, ns, i, rfl, _⟩ := h
    rfl
  obtain ⟨a, ns, i, rfl, hs, h0, q⟩ := h
  refine ⟨_, pss_cons (ps_if (pt_cmpR op_lt (pv 1) (pe_callB call_len_seq rfl T.len PySem.boot_len (pa_cons (pv 0) pa_nil)) (nomark _)) (pss_one (ps_ret (pe_ix ix_list (pv 0) (pv 1) (fun _ _ => rfl)))) pss_nil) (pss_one (ps_ret pe_int)), ?_⟩
  refine ⟨_, rfl, _, rfl, a, _, rfl, .inl hs, _, _, rfl, rfl, _, rfl, ?_⟩
  refine ite2 (fun c => ?_) (fun c => q 0)
  have c : i < (((ns.map V.int).length : Nat) : Int) := of_decide_eq_true c
  have hk : i.toNat < ns.length := by rw [List.length_map] at c; omega
  exact ⟨_, rfl, _, rfl, a, _, i, .int ns[i.toNat], rfl, rfl, hs, atI_at h0 (by rw [List.getElem?_map, List.getElem?_eq_getElem hk] <;> rfl), q _⟩
/-! _law_state -/
def spState (K : PySem.W.Frag) : Sp := fun vs H Q _ => ∃ (a : Addr) (ns : List Int) (i : Int), vs = [.ref a, .int i] ∧ SqL K H a (ns.map V.int) ∧ 0 ≤ i ∧ ∀ p x y z, H p = none → StOk x y z → Q (.ref p) (upd H p (.lst [.int x, .int y, .int z]))
theorem scState : FnScope ["_law_script", "_law_k", "_law_cell"] ["_law_script", "_law_k"] (defScope sState) := ⟨rfl, rfl, rfl, by decide +kernel, rfl, by decide +kernel, by decide +kernel⟩
theorem ok_state {k : Nat} (F : Fun K "_law_state" "_law_state" sState f fd) (T : Free mg) (cC : Cal P w K mg base "_law_cell_at" k ["_law_script", "_law_k"] (spCell K)) : FnOk P w K mg base CX0 (k + 1) f fd ["_law_script", "_law_k"] (spState K) := by
  refine F.ok scState (fun vs H Q E h => ?_) (fun cdv A outer s H vs Q E hr h => ?_)
  · obtain ⟨a, ns, i, rfl, _⟩ := h
    rfl
  obtain ⟨a, ns, i, rfl, hs, h0, q⟩ := h
  refine ⟨_, pss_cons (ps_set (i := 2) scState.nd rfl (.inl rfl) (pe_cal cC hr rfl (pa_cons (pv 0) (pa_cons (pv 1) pa_nil))))
    (pss_one (ps_ret (pe_lst (pa_cons (pe_callB (call_max2 rfl) rfl T.max (by decide +kernel) (pa_cons pe_int (pa_cons (pe_op op_sub (pv 2) (pe_op op_pow pe_int pe_int)) pa_nil)))
      (pa_cons (pe_op op_add (pe_op op_mod (pv 2) pe_int) pe_int) (pa_cons pe_int pa_nil)))))), ?_⟩
  refine ⟨_, rfl, _, rfl, a, ns, i, rfl, hs, h0, fun n => ?_⟩
  refine ⟨_, rfl, _, _, rfl, rfl, ⟨by decide, by decide, by decide⟩, _, _, rfl, rfl, _, _, rfl, ?_⟩
  refine ⟨_, rfl, _, _, rfl, rfl, (by show (0 : Int) < 2147483629; decide), _, _, rfl, rfl, small (by show 3 ≤ 1000; decide), fun p hp => ?_⟩
  refine q p _ _ _ hp ⟨?_, ?_, ?_⟩
  · split <;> omega
  · have := Int.emod_nonneg n (show (2147483629 : Int) ≠ 0 by decide)
    omega
  · have := Int.emod_lt_of_pos n (show (0 : Int) < 2147483629 by decide)
    omega
/-! _law_choice -/
def spChoice : Sp := fun vs H Q _ => ∃ (st : Addr) (many : Int), vs = [.ref st, .int many] ∧ StAt H st ∧ 0 < many ∧ many < 1000000 ∧ ∀ r H', 0 ≤ r → r < many → Mv st H H' → Q (.int r) H'
theorem scChoice : FnScope ["_law_state_here", "_law_many_here", "_law_found", "_law_mixed"] ["_law_state_here", "_law_many_here"] (defScope sChoice) := ⟨rfl, rfl, rfl, by decide +kernel, rfl, by decide +kernel, by decide +kernel⟩
theorem mv_upd {H : Hp} {st : Addr} {x y z : Int} (ok : StOk x y z) : Mv st H (upd H st (.lst [.int x, .int y, .int z])) :=
  ⟨fun b u n h => by rw [upd_ne n]; exact h, ⟨x, y, z, upd_same, ok⟩⟩
theorem ok_choice {k : Nat} (F : Fun K "_law_choice" "_law_choice" sChoice f fd) : FnOk P w K mg base CX0 (k + 1) f fd ["_law_state_here", "_law_many_here"] spChoice := by
  refine F.ok scChoice (fun vs H Q E h => ?_) (fun cdv A outer s H vs Q E hr h => ?_)
  · obtain ⟨st, many, rfl, _⟩ := h
    rfl
  obtain ⟨st, many, rfl, ⟨x, y, z, hst, hx, hy, hy2⟩, h0, hm, q⟩ := h
  refine ⟨_, pss_cons (ps_if (pt_cmpR op_gt (pe_ix ix_list (pv 0) pe_int (fun _ _ => rfl)) pe_int (nomark _))
      (pss_cons (ps_set (i := 2) scChoice.nd rfl (.inl rfl) (pe_op op_mod (pe_ix ix_list (pv 0) pe_int (fun _ _ => rfl)) (pv 1)))
      (pss_cons (ps_asg (pe_op op_fdiv (pe_ix ix_list (pv 0) pe_int (fun _ _ => rfl)) (pv 1)) (pg_sub (pv 0) pe_int set_list))
      (pss_one (ps_ret (pv 2))))) pss_nil)
    (pss_cons (ps_asg (pe_op op_add (pe_ix ix_list (pv 0) pe_int (fun _ _ => rfl)) pe_int) (pg_sub (pv 0) pe_int set_list))
    (pss_cons (ps_asg (pe_op op_mod (pe_op op_add (pe_op op_add (pe_op op_mul (pe_ix ix_list (pv 0) pe_int (fun _ _ => rfl)) pe_int) pe_int) (pe_ix ix_list (pv 0) pe_int (fun _ _ => rfl))) pe_int) (pg_sub (pv 0) pe_int set_list))
    (pss_cons (ps_set (i := 3) scChoice.nd rfl (.inl rfl) (pe_op op_mod (pe_op op_add (pe_op op_add (pe_op op_mul (pe_ix ix_list (pv 0) pe_int (fun _ _ => rfl)) (pe_ix ix_list (pv 0) pe_int (fun _ _ => rfl))) (pe_op op_mul pe_int (pe_ix ix_list (pv 0) pe_int (fun _ _ => rfl)))) pe_int) pe_int))
    (pss_cons (ps_set (i := 3) scChoice.nd rfl (.inl rfl) (pe_op op_mod (pe_op op_add (pe_op op_mul (pv 3) (pv 3)) (pe_op op_mul pe_int (pv 3))) pe_int))
    (pss_one (ps_ret (pe_op op_mod (pe_op op_fdiv (pv 3) pe_int) (pv 1)))))))), ?_⟩
  have rd : ∀ {H : Hp} {x y z : Int}, H st = some (.lst [.int x, .int y, .int z]) → SqL K H st [.int x, .int y, .int z] := fun h => SqL.of h
  refine ⟨_, rfl, st, _, 0, _, rfl, rfl, rd hst, rfl, _, _, rfl, rfl, _, rfl, ?_⟩
  refine ite2 (fun c => ?_) (fun c => ?_)
  · refine ⟨_, rfl, st, _, 0, _, rfl, rfl, rd hst, rfl, _, rfl, _, _, rfl, rfl, h0, ?_⟩
    refine ⟨_, rfl, st, _, 0, _, rfl, rfl, rd hst, rfl, _, rfl, _, _, rfl, rfl, ⟨h0, by omega⟩, ?_⟩
    refine ⟨_, rfl, st, _, 0, 0, rfl, rfl, hst, rfl, ?_⟩
    refine ⟨_, rfl, q _ _ (Int.emod_nonneg x (by omega)) (Int.emod_lt_of_pos x h0) (mv_upd (x := x / many) (y := y) (z := z) ⟨Int.ediv_nonneg hx (by omega), hy, hy2⟩)⟩
  · refine ⟨_, rfl, st, _, 2, _, rfl, rfl, rd hst, rfl, _, _, rfl, rfl, ?_⟩
    refine ⟨_, rfl, st, _, 2, 2, rfl, rfl, hst, rfl, ?_⟩
    refine ⟨_, rfl, st, _, 1, _, rfl, rfl, rd upd_same, rfl, _, _, rfl, rfl, .inl ⟨by omega, by omega⟩, _, _, rfl, rfl, _, rfl, st, _, 2, _, rfl, rfl, rd upd_same, rfl, _, _, rfl, rfl, _, _, rfl, rfl, (by show (0 : Int) < 2147483647; decide), ?_⟩
    refine ⟨_, rfl, st, _, 1, 1, rfl, rfl, upd_same, rfl, ?_⟩
    rw [upd_upd]
    have b1 := Int.emod_nonneg (y * 48271 + 29 + (z + 1)) (show (2147483647 : Int) ≠ 0 by decide)
    have b2 := Int.emod_lt_of_pos (y * 48271 + 29 + (z + 1)) (show (0 : Int) < 2147483647 by decide)
    generalize hv : (y * 48271 + 29 + (z + 1)) % 2147483647 = v at b1 b2
    show tSeq _ _ _ _ (upd H st (.lst [.int x, .int ((y * 48271 + 29 + (z + 1)) % 2147483647), .int (z + 1)]))
    rw [hv]
    refine ⟨_, rfl, st, _, 1, _, rfl, rfl, rd upd_same, rfl, _, rfl, st, _, 1, _, rfl, rfl, rd upd_same, rfl, _, _, rfl, rfl, .inl ⟨by omega, by omega⟩, _, rfl, st, _, 1, _, rfl, rfl, rd upd_same, rfl, _, _, rfl, rfl, .inl ⟨by decide, by decide⟩, _, _, rfl, rfl, _, _, rfl, rfl, _, _, rfl, rfl, (by show (0 : Int) < 2147483629; decide), ?_⟩
    have c1 := Int.emod_nonneg (v * v + 39373 * v + 7) (show (2147483629 : Int) ≠ 0 by decide)
    have c2 := Int.emod_lt_of_pos (v * v + 39373 * v + 7) (show (0 : Int) < 2147483629 by decide)
    refine ⟨_, rfl, _, rfl, _, _, rfl, rfl, .inl ⟨by omega, by omega⟩, _, rfl, _, _, rfl, rfl, .inl ⟨by decide, by decide⟩, _, _, rfl, rfl, _, _, rfl, rfl, (by show (0 : Int) < 2147483587; decide), ?_⟩
    refine ⟨_, rfl, _, _, rfl, rfl, ⟨by decide, by decide⟩, _, rfl, _, _, rfl, rfl, h0, ?_⟩
    exact q _ _ (Int.emod_nonneg _ (by omega)) (Int.emod_lt_of_pos _ h0) (mv_upd ⟨hx, b1, by omega⟩)
end
section
open PySem.Spec PyProof.Rows LamX
theorem okC {P : Program} {w : World} {K : PySem.W.Frag} {mg : Str → Option Value} {base : Heap} {x qual : Str} {st : Stmt} {f c : Addr} {fd : FuncData} {N ps : List Str} {k : Nat} {sp : Sp} (F : Fun K x qual st f fd) (hc : fd.code = .ref c) (S : FnScope N ps (defScope st)) (len : ∀ vs H Q E, sp vs H Q E → vs.length = ps.length)
    (hbody : ∀ (A : Around) (outer : List Env) (s : Shared) (H : Hp) (vs : List V) (Q : VK) (E : XK), Room k (A.deeper (envOfC qual (defScope st) s.heap.objs.size f (.ref c))) → sp vs H Q E →
      ∃ t, PSs (cxOf CX0 P w K mg base N qual (defScope st) f (.ref c) A outer s H E).nox (defBody st) t ∧ t { nx := fun _ H' => Q .non H', rt := Q } (L2.start N vs) H) : FnOk P w K mg base CX0 (k + 1) f fd ps sp := by
  obtain ⟨oc, od, kV, doc, pm, an, cdv, ct, osl, rfl, lk, hcd⟩ := F.ex
  obtain rfl : cdv = .ref c := hc
  refine fn_of lk hcd S len fun A outer s H vs Q E hr hsp => ?_
  obtain ⟨t, h, q⟩ := hbody A outer s H vs Q E hr hsp
  exact ⟨t, h.nox, q⟩
mutual
theorem dp_ext {K : PySem.W.Frag} {H H' : Hp} (e : ExtN H H') : ∀ (d : PyData) (v : V), Dp K H v d → Dp K H' v d
  | .none, v, h => by cases h; exact .non
  | .bool b, v, h => by cases h; exact .bl b
  | .int i, v, h => by cases h; exact .int i
  | .str x, v, h => by cases h; exact .str x
  | .list es, v, h => by
    cases h with
    | lst at_ each =>
      refine .lst ?_ (dp_exts e es _ each)
      rcases at_ with (z | ⟨o, z⟩) | z
      · exact .inl (.inl (e _ _ z fun ps q => by cases q))
      · exact .inl (.inr ⟨o, e _ _ z fun ps q => by cases q⟩)
      · exact .inr z
  | .tuple es, v, h => by
    cases h with
    | tup at_ each =>
      refine .tup ?_ (dp_exts e es _ each)
      rcases at_ with (z | ⟨o, z⟩) | z
      · exact .inl (.inl (e _ _ z fun ps q => by cases q))
      · exact .inl (.inr ⟨o, e _ _ z fun ps q => by cases q⟩)
      · exact .inr z
  | .dict kvs, v, h => by
    cases h with
    | dct at_ => exact .dct (e _ _ at_ fun ps q => by cases q)
theorem dp_exts {K : PySem.W.Frag} {H H' : Hp} (e : ExtN H H') : ∀ (ds : List PyData) (vs : List V), DpAll K H vs ds → DpAll K H' vs ds
  | [], vs, h => by cases h; exact .nil
  | d :: ds, vs, h => by
    cases h with
    | cons one more => exact .cons (dp_ext e d _ one) (dp_exts e ds _ more)
end
theorem tabs_upd {T : List (Addr × Str)} {H : Hp} {fa : Addr} {l l' : List V} (t : Tabs T H) (h : H fa = some (.lst l)) : Tabs T (upd H fa (.lst l')) := by
  intro p hp
  obtain ⟨ps, h1, h2, h3⟩ := t p hp
  refine ⟨ps, ?_, h2, fun pos cv hc => ?_⟩
  · rw [upd_ne (show p.1 ≠ fa from fun z => by rw [z, h] at h1; cases h1)]
    exact h1
  · obtain ⟨c, e1, e2⟩ := h3 pos cv hc
    refine ⟨c, e1, ?_⟩
    rw [upd_ne (show c ≠ fa from fun z => by rw [z, h] at e2; cases e2)]
    exact e2
theorem ext_upd {H0 H : Hp} {fa : Addr} {o : HO} (e : ExtN H0 H) (h : ∀ u, H0 fa = some u → ∃ ps, u = .tbl ps) : ExtN H0 (upd H fa o) := fun b u hb n => by
  have nb : b ≠ fa := fun z => by
    rw [z] at hb
    obtain ⟨ps, q⟩ := h u hb
    exact n ps q
  rw [upd_ne nb]
  exact e b u hb n
theorem ext_lst {H H' : Hp} {p : Addr} {l : List V} (e : ExtN H H') (h : H p = some (.lst l)) : H' p = some (.lst l) := e _ _ h fun ps q => by cases q
theorem ext_same {H H' : Hp} (s : Same H H') : ExtN H H' := fun b o h _ => s b o h
end
/-! all(.. for ..) and any(.. for ..), whatever is walked, the element may call defs -/
section
open PySem.Spec PyProof.Rows
/-- the generator expression's own frame, woken from the frames of X -/
def gxCx (X : Cx) (A : Around) (s : Shared) (H : Hp) (ce : Env) (fp : List Addr) (pn : List (Addr × Obj)) : Cx where
  prog := X.prog
  w := X.w
  K := X.K
  mg := X.mg
  base := X.base
  A := A
  N := X.N
  s_0 := s
  H_0 := H
  env := ce
  outer := X.stack
  stack := ce :: X.stack
  ex := fp
  fn := fun _ => false
  calm := true
  pn := pn
  xe := fun _ _ => False
theorem inv_sh {X : Cx} {pins : List (Addr × Obj)} {σ : L2.St} {H : Hp} {s s' : Shared} (I : Inv X pins σ H s) (h1 : s'.heap = s.heap) (h2 : s'.os = s.os) (h3 : AllBare s'.gens) : Inv X pins σ H s' :=
  ⟨I.ok, h2.trans I.os, h3, by rw [h1]; exact I.base, by rw [h1]; exact I.loc, by rw [h1]; exact I.cell, I.free, I.freeC, by rw [h1]; exact I.pin, by rw [h1]; exact I.hok, I.len⟩
section
variable {X : Cx} {pins : List (Addr × Obj)} {σ : L2.St} {H : Hp} {s : Shared}
theorem gx_start {A : Around} {scope : Scope} {own : List (Str × Nat)} {fp : List Addr} {code : Value} {a : Addr} {go : Obj} {h5 : Heap} {g5 : Array GenState} {t5 : Nat} {m0 : Str → Option Value}
    (I : Inv X pins σ H s) (hN : X.N.Nodup) (ok : BlkOk X.N X.env.scope scope own) (nocell : ∀ y ∈ scope.names, y.2 ≠ .cell) (hA : A.handled = none)
    (hfr : A.frames = some (genEnv scope (cloFrom X.env.cells scope.names []) s.heap.objs.size code builtinsNs X.env :: X.stack)) (hfp : ∀ b ∈ fp, FpOk X pins H b ∧ b < s.heap.objs.size)
    (hns : h5.Ns s.heap.objs.size m0) (kp : ∀ b o, s.heap.get? b = some o → h5.get? b = some o) (hgo : h5.get? a = some go) (ha : s.heap.objs.size < a) (hgd : ∀ v, go.data ≠ .cell v) (hg : AllBare g5) :
    Inv (gxCx X A s H (genEnv scope (cloFrom X.env.cells scope.names []) s.heap.objs.size code builtinsNs X.env) fp [(a, go)]) [] (wipe σ (own.map (·.2))) H { s with heap := h5, gens := g5, toks := t5 } := by
  have cm : ∀ {y c}, (cloFrom X.env.cells scope.names []).lookup y = some c → X.env.cells.lookup y = some c := fun {y c} e => by
    rcases cloFrom_mem (PySem.mem_of_lookup e) with hm | ⟨h1, h2⟩
    · cases hm
    · have hy : ∃ c1, X.env.cells.lookup y = some c1 := by
        rcases ok.free _ h1 rfl with k | k
        · exact I.ok.has _ (.inl k)
        · exact I.ok.has _ (.inr k)
      obtain ⟨c1, hc⟩ := hy
      have e2 : c = c1 := by
        rw [h2, hc] <;> rfl
      rw [e2]
      exact hc
  have look : ∀ {y}, scope.names.lookup y = some .free → ∃ c, (cloFrom X.env.cells scope.names []).lookup y = some c := fun {y} hl =>
    mem_lookup (cloFrom_has (cells := X.env.cells) (acc := []) (PySem.mem_of_lookup hl : (y, NameKind.free) ∈ scope.names))
  have cellK : ∀ {c : Addr} {v : Option Value}, s.heap.IsCell c v → h5.IsCell c v := fun {c v} ⟨o, ho, hd⟩ => ⟨o, kp _ _ ho, hd⟩
  refine ⟨⟨I.ok.mod, ok.kind, I.ok.glob, rfl, Nat.le_refl _, fun y z c e1 e2 => I.ok.inj y z c (cm e1) (cm e2), fun y hy => ?_, fun y c z _ => ?_, fun _ => hA, hfr, .inr ⟨rfl, rfl⟩, fun b hb => ⟨?_, fun y c e => ?_⟩, I.bs, Nat.le_trans I.ok.bsz I.sz, fun b o e hb => ?_, fun b hb z => ?_, I.stack, I.stkFree⟩,
    rfl, hg, Un.kept kp, ⟨m0, hns, fun i y v e1 e2 e3 => ?_⟩, fun y c e => ?_, I.hok.fresh (Nat.le_refl _), fun y c e => I.freeC y c (cm e), fun p hp => ?_, I.hok.kept kp, ?_⟩
  · have hy : scope.names.lookup y = some .cell ∨ scope.names.lookup y = some .free := hy
    rcases hy with hy | hy
    · exact absurd rfl (nocell _ (PySem.mem_of_lookup hy))
    · exact look hy
  · have z : false = true := z
    cases z
  · exact Nat.ne_of_lt (hfp b hb).2
  · exact (hfp b hb).1.2.2.2.2.1 y c (cm e)
  · rcases (hfp b hb).1.2.2.2.1 with z | z
    · exact I.ok.noex b o e z
    · have h1 : b < X.base.objs.size := Heap.lt_size e
      exact absurd (Nat.lt_of_lt_of_le h1 (Nat.le_trans I.ok.bsz z)) (Nat.lt_irrefl _)
  · rcases List.mem_cons.mp (I.stkSub b z) with z | z
    · exact (hfp b hb).1.2.1 z
    · exact (hfp b hb).1.2.2.1 z
  · obtain ⟨e2, nv⟩ := wipe_some e2
    have e3 : Vis scope y := e3
    rcases e3 with k | k | k
    · rcases ok.own _ (PySem.mem_of_lookup k) (.inl rfl) with z | z
      · obtain ⟨p, hp, ep⟩ := List.mem_map.mp z
        have e4 := ok.ix p hp
        rw [show p.1 = y from ep] at e4
        exact absurd (List.mem_map.mpr ⟨p, hp, nodup_ix hN e4 e1⟩) nv
      · exact absurd (List.mem_of_getElem? e1) z
    · exact absurd rfl (nocell _ (PySem.mem_of_lookup k))
    · obtain ⟨m, hn, hl⟩ := I.loc
      have hvis : Vis X.env.scope y := (ok.free _ (PySem.mem_of_lookup k) rfl).elim (fun k => .inr (.inl k)) (fun k => .inr (.inr k))
      obtain ⟨u, r, q⟩ := hl i y v e1 e2 hvis
      obtain ⟨c2, h2⟩ := look k
      refine ⟨u, r, .inr ⟨.inr k, c2, h2, ?_⟩⟩
      have c1 := cm h2
      rcases q with ⟨k', _⟩ | ⟨_, c3, e', z⟩
      · have k' : X.env.scope.names.lookup y = some .local := k'
        rcases ok.free _ (PySem.mem_of_lookup k) rfl with k2 | k2 <;> rw [show X.env.scope.names.lookup y = _ from k2] at k' <;> cases k'
      · rw [c1] at e'
        cases e'
        exact cellK z
  · obtain ⟨u, z⟩ := I.cell y c (cm e)
    exact ⟨u, cellK z⟩
  · have hp : p ∈ [(a, go)] ++ [] := hp
    rw [List.append_nil] at hp
    rw [List.mem_singleton.mp hp]
    refine ⟨hgo, I.hok.fresh (Nat.le_of_lt ha), Nat.ne_of_gt ha, fun z => ?_, hgd⟩
    rcases List.mem_cons.mp (I.stkSub a z) with z | z
    · have h1 := I.lt
      rw [z] at ha
      exact absurd (Nat.lt_trans ha h1) (Nat.lt_irrefl _)
    · exact I.nofs (Nat.le_of_lt ha) z
  · rw [wipe_length]
    exact I.len
end
/-- what stands where the generator ends, and where it hands out a truth -/
def GxE (Z : Cx) (σ0 : L2.St) (Qe : Hp → Prop) : Nat → Shared → Shared → Prop := fun _ _ s1 => ∃ H, Inv Z [] σ0 H s1 ∧ Qe H
def GxY (Z : Cx) (e : Bool) (Qn : Hp → Prop) : Protocol := fun _ _ v s kap => ∃ (c : Bool) (H : Hp) (σ' : L2.St), v = .bool c ∧ Inv Z [] σ' H s ∧ (c = e → ∀ s' : Shared, s'.heap = s.heap → s'.os = s.os → AllBare s'.gens → kap (.send .none) s') ∧ (c ≠ e → Qn H)
abbrev gxTurn (J : It) (g : TG) (tt : TT) (te : TE) (vs : List Nat) (σ0 : L2.St) (e : Bool) (Qe Qn : Hp → Prop) (W : Nat → Nat → Hp → Prop) : Prop :=
  ∀ i m H, W i m H → (J.stop i H ∧ Qe H) ∨ (J.go i H ∧ ∃ Nx : Hp → Prop, (∀ H', Nx H' → ∃ m', m' < m ∧ W (i + 1) m' H') ∧ ∀ x H', J.yld i H x H' → g x σ0 H' fun σ2 H2 => wipe σ2 vs = σ0 ∧ tt σ2 H2 fun b H3 =>
    if b = true then te σ2 H3 fun y H4 => ∃ c, y = .bl c ∧ (c = e → Nx H4) ∧ (c ≠ e → Qn H4) else Nx H3)
section
variable {X : Cx} {A0 : Around} {s1 : Shared} {H1 : Hp} {ce : Env} {fp : List Addr} {pn : List (Addr × Obj)} {elt tg iter : Expr} {ifs : List Expr} {scope : Scope} {gpos : Pos} {it : Addr} {tn : Nat → Heap → Prop} {J : It} {g : TG} {tt : TT} {te : TE} {vs : List Nat} {σ0 : L2.St} {e : Bool} {Qe Qn : Hp → Prop} {W : Nat → Nat → Hp → Prop}
abbrev gxCode (elt tg iter : Expr) (ifs : List Expr) (scope : Scope) (gpos : Pos) (it : Addr) (ce : Env) : Code := .compLoop (.GeneratorExp elt [⟨tg, iter, ifs, 0⟩] scope gpos) 0 (.ref it) .none ce
abbrev gxZ (X : Cx) (A0 : Around) (s1 : Shared) (H1 : Hp) (ce : Env) (fp : List Addr) (pn : List (Addr × Obj)) (elt tg iter : Expr) (ifs : List Expr) (scope : Scope) (gpos : Pos) (it : Addr) : Cx := gxCx X (A0.over (gxCode elt tg iter ifs scope gpos it ce) []) s1 H1 ce fp pn
theorem gx_fp {Z : Cx} (hZ : Z = gxZ X A0 s1 H1 ce fp pn elt tg iter ifs scope gpos it) (hpn : ∀ p ∈ pn, p.1 ∉ fp) {σ' : L2.St} {H' : Hp} {s' : Shared} (I : Inv Z [] σ' H' s') (hn : ∀ b ∈ fp, H' b = none) : ∀ b ∈ fp, FpOk Z [] H' b := by
  subst hZ
  intro b hb
  refine ⟨hn b hb, (I.ok.exf b hb).1, I.ok.exfs b hb, .inl hb, fun x c e => (I.ok.exf b hb).2 x c e, fun p hp z => ?_⟩
  have hp : p ∈ pn := by
    rcases List.mem_append.mp hp with hp | hp
    · exact hp
    · cases hp
  exact hpn p hp (by rw [z]; exact hb)
theorem seg_gx {Z : Cx} (hZ : Z = gxZ X A0 s1 H1 ce fp pn elt tg iter ifs scope gpos it) (hpn : ∀ p ∈ pn, p.1 ∉ fp) (hco : ce.scope.isCoroutine = false) (T : Turn X.prog X.w X.K tg J fp it tn) (pg : PG Z tg g) (pt : PTs Z ifs tt) (pe : PE Z elt te) (turn : gxTurn J g tt te vs σ0 e Qe Qn W) :
    ∀ (m i n : Nat) (s₀ s : Shared) (H : Hp), m < n → W i m H → Inv Z [] σ0 H s → tn i s.heap → (∀ b ∈ fp, H b = none) →
      Seg (model X.prog X.w) A0 (fun n s₀ r s1 => r = .ok .next ∧ GxE Z σ0 Qe n s₀ s1) (GxY Z e Qn) n s₀ (gxCode elt tg iter ifs scope gpos it ce) ((model X.prog X.w).den (gxCode elt tg iter ifs scope gpos it ce)) [] s := by
  intro m
  induction m using Nat.strongRecOn with
  | ind m ih =>
    intro i n s₀ s H hmn w0 I st nf
    have fpo := gx_fp hZ hpn I nf
    show Seg _ A0 _ _ _ s₀ _ ((compTurn (.GeneratorExp elt [⟨tg, iter, ifs, 0⟩] scope gpos) 0 (.ref it) .none ce).onRaise (leaving ce)) [] s
    rw [compTurn_gen, Sem.onRaise_eq_wrap]
    refine seg_bind_wrap (wpAny_standAt ?_)
    rcases turn i m H w0 with ⟨stop, qe⟩ | ⟨go, Nx, hNx, step⟩
    · have td := T.done Z (by rw [hZ]; rfl) (by rw [hZ]; rfl) (by rw [hZ]; rfl) (by rw [hZ]; rfl) i [] s σ0 H (fun _ _ => False) I fpo st stop
      have hA : Z.A = A0.over (gxCode elt tg iter ifs scope gpos it ce) [] := by rw [hZ]; rfl
      rw [hA] at td
      refine seg_bind_wrap (wpAny_mono td (fun r s2 hr => ?_) fun _ _ z => z.elim)
      obtain ⟨rfl, I2⟩ := hr
      exact seg_end (.ok .next) ⟨rfl, H, I2, qe⟩
    · have hA : Z.A = A0.over (gxCode elt tg iter ifs scope gpos it ce) [] := by rw [hZ]; rfl
      have hE : Z.env = ce := by rw [hZ]; rfl
      have hPr : Z.prog = X.prog := by rw [hZ]; rfl
      have hWd : Z.w = X.w := by rw [hZ]; rfl
      have hXe : Z.xe = fun _ _ => False := by rw [hZ]; rfl
      have ti := T.item Z hPr hWd (by rw [hZ]; rfl) (by rw [hZ]; rfl) i [] s σ0 H (fun _ _ => False) I fpo st go
      rw [hA] at ti
      refine seg_bind_wrap (wpAny_mono ti (fun r s2 hr => ?_) fun _ _ z => z.elim)
      obtain ⟨u, rfl, ti⟩ := hr
      refine seg_bind_wrap (wpAny_mono ti (fun _ s7 h7 => ?_) fun _ _ z => z.elim)
      obtain ⟨x, H7, I7, r7, y7, st7, n7⟩ := h7
      have I7' := I7.pinned (gx_fp hZ hpn I7 n7) (T.obj _ _ st7)
      have ta := pg.run _ s7 _ H7 x u _ I7' r7 (step x H7 y7)
      rw [hPr, hWd, hA, hE, hXe] at ta
      refine seg_bind_wrap (wpAny_mono ta (fun _ s8 h8 => ?_) fun _ _ z => z.elim)
      obtain ⟨σ8, H8, I8, hw8, q8⟩ := h8
      have tt' := pt.run _ s8 σ8 H8 _ I8 q8
      rw [hPr, hWd, hA, hE, hXe] at tt'
      refine seg_bind_wrap (wpAny_mono tt' (fun b s9 h9 => ?_) fun _ _ z => z.elim)
      obtain ⟨H9, I9, q9⟩ := h9
      -- what stands at the next turn
      have next : ∀ {sn s' : Shared} {H' : Hp}, Inv Z ([] ++ pinsAt fp s7.heap) σ8 H' sn → s'.heap = sn.heap → s'.os = sn.os → AllBare s'.gens → Inv Z [] σ0 H' s' ∧ tn (i + 1) s'.heap ∧ ∀ b ∈ fp, H' b = none := fun {sn s' H'} I' e1 e2 e3 => by
        have pin' : ∀ b ∈ fp, ∀ o, s7.heap.get? b = some o → sn.heap.get? b = some o ∧ H' b = none := fun b hb o eo =>
          let z := I'.pin (b, o) (List.mem_append_right _ (List.mem_append_right _ (mem_pinsAt hb eo)))
          ⟨z.1, z.2.1⟩
        have hl : σ0.length = σ8.length := by rw [← hw8, wipe_length]
        have I'' : Inv Z [] σ0 H' sn := (I'.unpinned (pins := [])).weak hl fun j v ev => by
          rw [← hw8] at ev
          exact (wipe_some ev).1
        refine ⟨inv_sh I'' e1 e2 e3, ?_, fun b hb => ?_⟩
        · rw [e1]
          exact T.keep _ _ _ st7 fun b hb o eo => (pin' b hb o eo).1
        · obtain ⟨o, eo, _⟩ := T.obj _ _ st7 b hb
          exact (pin' b hb o eo).2
      cases b with
      | false =>
        simp only [Bool.false_eq_true, if_false] at q9 ⊢
        obtain ⟨m', hm, w'⟩ := hNx _ q9
        obtain ⟨J1, J2, J3⟩ := next I9 rfl rfl I9.bare
        exact seg_again rfl (ih m' hm (i + 1) n s₀ s9 H9 (by omega) w' J1 J2 J3)
      | true =>
        simp only [if_true] at q9 ⊢
        have out : ∀ v, yieldOut ce v = yieldValue v := fun v => by simp only [yieldOut, hco, Bool.false_eq_true, if_false]
        simp only [out]
        rw [Sem.bind_eq_wrap', Sem.bind_eq_wrap']; rw [Sem.wrap_wrap, Sem.wrap_wrap]
        have tel := pe.run _ s9 σ8 H9 _ I9 q9
        rw [hPr, hWd, hA, hE, hXe] at tel
        refine seg_wrap (wpAny_mono tel (fun y s10 h10 => ?_) fun _ _ z => z.elim)
        obtain ⟨yv, H10, I10, r10, cb, rfl, qn, qx⟩ := h10
        obtain rfl : y = Value.bool cb := r10
        obtain ⟨n', rfl⟩ : ∃ n', n = n' + 1 := ⟨n - 1, by omega⟩
        refine seg_at (seg_yield rfl rfl rfl ⟨cb, H10, σ8, rfl, I10.unpinned, fun hc s' e1 e2 e3 => ?_, qx⟩)
        obtain ⟨m', hm, w'⟩ := hNx _ (qn hc)
        obtain ⟨J1, J2, J3⟩ := next I10 e1 e2 e3
        exact seg_again rfl (ih m' hm (i + 1) n' s' s' H10 (by omega) w' J1 J2 J3)
/-- its begin -/
theorem seg_gx0 {Z : Cx} (hZ : Z = gxZ X A0 s1 H1 ce fp pn elt tg iter ifs scope gpos it) (hpn : ∀ p ∈ pn, p.1 ∉ fp) (hco : ce.scope.isCoroutine = false) (T : Turn X.prog X.w X.K tg J fp it tn) (pg : PG Z tg g) (pt : PTs Z ifs tt) (pe : PE Z elt te) (turn : gxTurn J g tt te vs σ0 e Qe Qn W)
    {m n : Nat} {s₀ s : Shared} {H : Hp} (hmn : m < n) (w0 : W 0 m H) (I : Inv Z [] σ0 H s) (st : tn 0 s.heap) (nf : ∀ b ∈ fp, H b = none) :
    Seg (model X.prog X.w) A0 (fun n s₀ r s1 => r = .ok .next ∧ GxE Z σ0 Qe n s₀ s1) (GxY Z e Qn) n s₀ (.compStart (.GeneratorExp elt [⟨tg, iter, ifs, 0⟩] scope gpos) 0 (.ref it) .none ce) ((model X.prog X.w).den (.compStart (.GeneratorExp elt [⟨tg, iter, ifs, 0⟩] scope gpos) 0 (.ref it) .none ce)) [] s := by
  have loop := seg_gx hZ hpn hco T pg pt pe turn m 0 n s₀ s H hmn w0 I st nf
  show Seg _ A0 _ _ _ s₀ _ ((compStart (.GeneratorExp elt [⟨tg, iter, ifs, 0⟩] scope gpos) 0 (.ref it) .none ce).onRaise (leaving ce)) [] s
  unfold compStart
  rw [Sem.onRaise_eq_wrap]
  show Seg _ A0 _ _ _ s₀ _ ((ask >>= _).wrap _ _ _ _) [] s
  refine seg_bind_wrap (wpAny_askSetting ?_)
  split
  · exact seg_again rfl loop
  · refine seg_bind_wrap (wpAny_rule ?_)
    show Seg _ A0 _ _ _ s₀ _ ((standAt iter.pos >>= _).wrap _ _ _ _) [] s
    exact seg_bind_wrap (wpAny_standAt (seg_bind_wrap (T.self _ 0 s _ _ st (seg_again rfl loop))))
end
theorem un_kept {fs ex : List Addr} {H H' : Hp} {h h1 h2 : Heap} (u : Un fs ex H H' h h1) (k : ∀ b o, h1.get? b = some o → h2.get? b = some o) : Un fs ex H H' h h2 := u.trans (Un.kept k)
/-- all, over it -/
theorem gx_all {Z : Cx} {A : Around} {a : Addr} {g : Nat} {σ0 : L2.St} {Qe Qn : Hp → Prop} {R : Result → Shared → Prop} (hh : A.handled = none) (hd : A.depth < recursionLimit) (isG : ∀ {σ' : L2.St} {H' : Hp} {s' : Shared}, Inv Z [] σ' H' s' → s'.heap.IsGen a g)
    (hE : ∀ (s' : Shared) (H' : Hp), s'.os = Z.s_0.os → AllBare s'.gens → Un Z.fs Z.ex Z.H_0 H' Z.s_0.heap s'.heap → HOk Z.prog Z.w H' s'.heap → Qe H' → R (.ok (.ret (.bool true))) s')
    (hN : ∀ (s' : Shared) (H' : Hp), s'.os = Z.s_0.os → AllBare s'.gens → Un Z.fs Z.ex Z.H_0 H' Z.s_0.heap s'.heap → HOk Z.prog Z.w H' s'.heap → Qn H' → R (.ok (.ret (.bool false))) s') :
    ∀ (m : Nat) (s : Shared), s.heap.IsGen a g → s.heap.NoLimit → (∃ gs, s.gens[g]? = some gs ∧ gs.Goes (model Z.prog Z.w) A.in1.in1 (fun n s₀ r s1 => r = .ok .next ∧ GxE Z σ0 Qe n s₀ s1) (GxY Z true Qn) m (.send .none) (s.setGen g .running)) →
      codeAny (model Z.prog Z.w) A (.builtin "all.loop" ⟨[.ref a], []⟩) R s := by
  intro m
  induction m with
  | zero =>
    intro s hg hl ⟨gs, hgs, goes⟩
    refine codeAny_builtin F.entry_all_loop ?_
    rw [Around.under_plainId F.plain_all_loop _]
    show wpAny _ A.in1 (pyNext (.ref a) >>= _) _ _ s
    refine wpAny_bind (wpAny_pyNext_genexpQ (A := A.in1) hh hl hd hg hgs goes (fun v s1 gs' hbare hv => ?_) (fun s1 hp h' hk => ?_))
    · obtain ⟨c, H', σ', rfl, I, more, last⟩ := hv
      have b1 := allBare_setGen (g := g) I.bare hbare
      refine wpAny_bind (wpAny_holding (wpAny_truthy_bool (wpAny_bind (wpAny_letGo ?_))))
      cases c with
      | true => exact False.elim (more rfl s1 rfl rfl I.bare)
      | false =>
        simp only [Bool.false_eq_true, if_false]
        exact wpAny_bind (wpAny_rule (wpAny_pure (hN _ H' I.os b1 I.base I.hok (last (by decide)))))
    · obtain ⟨H', I, q⟩ := hp
      exact wpAny_bind (wpAny_rule (wpAny_pure (hE _ H' I.os (allBare_setGen I.bare rfl) (un_kept I.base hk) (I.hok.kept hk) q)))
  | succ m ih =>
    intro s hg hl ⟨gs, hgs, goes⟩
    have hgl : g < s.gens.size := (Array.getElem?_eq_some_iff.mp hgs).1
    refine codeAny_builtin F.entry_all_loop ?_
    rw [Around.under_plainId F.plain_all_loop _]
    show wpAny _ A.in1 (pyNext (.ref a) >>= _) _ _ s
    refine wpAny_bind (GenW.wpAny_gsz (n := g + 1) hgl (wpAny_pyNext_genexpQ (A := A.in1) hh hl hd hg hgs goes (fun v s1 gs' hbare hv => ?_) (fun s1 hp h' hk => ?_)))
    · intro hsz
      obtain ⟨c, H', σ', rfl, I, more, last⟩ := hv
      have b1 := allBare_setGen (g := g) I.bare hbare
      refine wpAny_bind (wpAny_holding (wpAny_truthy_bool (wpAny_bind (wpAny_letGo ?_))))
      cases c with
      | true =>
        simp only [if_true]
        have hsz1 : g < s1.gens.size := by
          have q : (s1.setGen g gs').gens.size = s1.gens.size := GenW.setGen_size _ _ _
          have hsz' : g + 1 ≤ (s1.setGen g gs').gens.size := hsz
          omega
        refine wpAny_pure ⟨plainId_quiet F.plain_all_loop _, ih (s1.setGen g gs') (isG (s' := s1) I) I.nolimit ⟨gs', setGen_at hsz1, ?_⟩⟩
        exact more rfl _ rfl rfl (allBare_setGen (s := s1.setGen g gs') b1 rfl)
      | false =>
        simp only [Bool.false_eq_true, if_false]
        exact wpAny_bind (wpAny_rule (wpAny_pure (hN _ H' I.os b1 I.base I.hok (last (by decide)))))
    · intro hsz
      obtain ⟨H', I, q⟩ := hp
      exact wpAny_bind (wpAny_rule (wpAny_pure (hE _ H' I.os (allBare_setGen I.bare rfl) (un_kept I.base hk) (I.hok.kept hk) q)))
/-- any, over it -/
theorem gx_any {Z : Cx} {A : Around} {a : Addr} {g : Nat} {σ0 : L2.St} {Qe Qn : Hp → Prop} {R : Result → Shared → Prop} (hh : A.handled = none) (hd : A.depth < recursionLimit) (isG : ∀ {σ' : L2.St} {H' : Hp} {s' : Shared}, Inv Z [] σ' H' s' → s'.heap.IsGen a g)
    (hE : ∀ (s' : Shared) (H' : Hp), s'.os = Z.s_0.os → AllBare s'.gens → Un Z.fs Z.ex Z.H_0 H' Z.s_0.heap s'.heap → HOk Z.prog Z.w H' s'.heap → Qe H' → R (.ok (.ret (.bool false))) s')
    (hN : ∀ (s' : Shared) (H' : Hp), s'.os = Z.s_0.os → AllBare s'.gens → Un Z.fs Z.ex Z.H_0 H' Z.s_0.heap s'.heap → HOk Z.prog Z.w H' s'.heap → Qn H' → R (.ok (.ret (.bool true))) s') :
    ∀ (m : Nat) (s : Shared), s.heap.IsGen a g → s.heap.NoLimit → (∃ gs, s.gens[g]? = some gs ∧ gs.Goes (model Z.prog Z.w) A.in1.in1 (fun n s₀ r s1 => r = .ok .next ∧ GxE Z σ0 Qe n s₀ s1) (GxY Z false Qn) m (.send .none) (s.setGen g .running)) →
      codeAny (model Z.prog Z.w) A (.builtin "any.loop" ⟨[.ref a], []⟩) R s := by
  intro m
  induction m with
  | zero =>
    intro s hg hl ⟨gs, hgs, goes⟩
    refine codeAny_builtin F.entry_any_loop ?_
    rw [Around.under_plainId F.plain_any_loop _]
    show wpAny _ A.in1 (pyNext (.ref a) >>= _) _ _ s
    refine wpAny_bind (wpAny_pyNext_genexpQ (A := A.in1) hh hl hd hg hgs goes (fun v s1 gs' hbare hv => ?_) (fun s1 hp h' hk => ?_))
    · obtain ⟨c, H', σ', rfl, I, more, last⟩ := hv
      have b1 := allBare_setGen (g := g) I.bare hbare
      refine wpAny_bind (wpAny_holding (wpAny_truthy_bool (wpAny_bind (wpAny_letGo ?_))))
      cases c with
      | false => exact False.elim (more rfl s1 rfl rfl I.bare)
      | true =>
        simp only [if_true]
        exact wpAny_bind (wpAny_rule (wpAny_pure (hN _ H' I.os b1 I.base I.hok (last (by decide)))))
    · obtain ⟨H', I, q⟩ := hp
      exact wpAny_bind (wpAny_rule (wpAny_pure (hE _ H' I.os (allBare_setGen I.bare rfl) (un_kept I.base hk) (I.hok.kept hk) q)))
  | succ m ih =>
    intro s hg hl ⟨gs, hgs, goes⟩
    have hgl : g < s.gens.size := (Array.getElem?_eq_some_iff.mp hgs).1
    refine codeAny_builtin F.entry_any_loop ?_
    rw [Around.under_plainId F.plain_any_loop _]
    show wpAny _ A.in1 (pyNext (.ref a) >>= _) _ _ s
    refine wpAny_bind (GenW.wpAny_gsz (n := g + 1) hgl (wpAny_pyNext_genexpQ (A := A.in1) hh hl hd hg hgs goes (fun v s1 gs' hbare hv => ?_) (fun s1 hp h' hk => ?_)))
    · intro hsz
      obtain ⟨c, H', σ', rfl, I, more, last⟩ := hv
      have b1 := allBare_setGen (g := g) I.bare hbare
      refine wpAny_bind (wpAny_holding (wpAny_truthy_bool (wpAny_bind (wpAny_letGo ?_))))
      cases c with
      | false =>
        simp only [Bool.false_eq_true, if_false]
        have hsz1 : g < s1.gens.size := by
          have q : (s1.setGen g gs').gens.size = s1.gens.size := GenW.setGen_size _ _ _
          have hsz' : g + 1 ≤ (s1.setGen g gs').gens.size := hsz
          omega
        refine wpAny_pure ⟨plainId_quiet F.plain_any_loop _, ih (s1.setGen g gs') (isG (s' := s1) I) I.nolimit ⟨gs', setGen_at hsz1, ?_⟩⟩
        exact more rfl _ rfl rfl (allBare_setGen (s := s1.setGen g gs') b1 rfl)
      | true =>
        simp only [if_true]
        exact wpAny_bind (wpAny_rule (wpAny_pure (hN _ H' I.os b1 I.base I.hok (last (by decide)))))
    · intro hsz
      obtain ⟨H', I, q⟩ := hp
      exact wpAny_bind (wpAny_rule (wpAny_pure (hE _ H' I.os (allBare_setGen I.bare rfl) (un_kept I.base hk) (I.hok.kept hk) q)))
/-- the generator stands ready to be walked -/
def GxReady (X : Cx) (pins : List (Addr × Obj)) (σ : L2.St) (e : Bool) (Qe Qn : Hp → Prop) (a : Addr) (s5 : Shared) : Prop :=
  ∃ (g m : Nat) (Z : Cx) (σ0 : L2.St), Z.prog = X.prog ∧ Z.w = X.w ∧ s5.heap.IsGen a g ∧ s5.heap.NoLimit ∧ (∀ {σ' : L2.St} {H' : Hp} {s' : Shared}, Inv Z [] σ' H' s' → s'.heap.IsGen a g) ∧
    (∃ gs, s5.gens[g]? = some gs ∧ gs.Goes (model Z.prog Z.w) X.A.in1.in1 (fun n s₀ r s1 => r = .ok .next ∧ GxE Z σ0 Qe n s₀ s1) (GxY Z e Qn) m (.send .none) (s5.setGen g .running)) ∧
    ∀ (s' : Shared) (H' : Hp), s'.os = Z.s_0.os → AllBare s'.gens → Un Z.fs Z.ex Z.H_0 H' Z.s_0.heap s'.heap → HOk Z.prog Z.w H' s'.heap → Inv X pins σ H' s'
theorem gx_room {A : Around} {k : Nat} {elt tg iter : Expr} {ifs : List Expr} {scope : Scope} {gpos : Pos} {it : Addr} {ce : Env} (r : Room (k + 1) A) : Room k (A.in1.in1.over (gxCode elt tg iter ifs scope gpos it ce) []) :=
  ⟨r.hd, by have := r.dp; show A.depth + 1 + 3 * k + 5 < _; omega, by have := r.un; show A.units + 1 + 1 + 3 + 16 * k + 200 < _; omega⟩
theorem gx_frames {A : Around} {st : List Env} {elt tg iter : Expr} {ifs : List Expr} {scope : Scope} {gpos : Pos} {it : Addr} {ce : Env} (h : A.frames = some st) : (A.in1.in1.over (gxCode elt tg iter ifs scope gpos it ce) []).frames = some (ce :: st) := by
  obtain ⟨hd, d, fr, gs, u⟩ := A
  obtain rfl : fr = some st := h
  rfl
abbrev tQuant (P : Addr) (wi : TI) (g : TG) (tt : TT) (te : TE) (vs : List Nat) (e : Bool) : TE := fun σ H Q => wi σ H fun J H1 => GxR.TabG H1 P ∧ ∀ H2, GxR.Tabbed P H1 H2 → ∃ W : Nat → Nat → Hp → Prop, (∃ m, W 0 m H2) ∧ gxTurn J g tt te vs (wipe σ vs) e (fun H => Q (.bl e) H) (fun H => Q (.bl (!e)) H) W
theorem gx_eval {X : Cx} {pins : List (Addr × Obj)} {σ : L2.St} {H : Hp} {s : Shared} {c P : Addr} {elt tg iter : Expr} {ifs : List Expr} {scope : Scope} {own : List (Str × Nat)} {gpos : Pos} {wi : TI} {g : TG} {tt : TT} {te : TE} {e : Bool} {k : Nat} {Q : VK} {Q' : Value → Shared → Prop}
    (hN : X.N.Nodup) (hr : Room (k + 1) X.A) (TB : LamX.TabB X.base X.mg c P) (hcode : X.env.code = .ref c) (ok : BlkOk X.N X.env.scope scope own) (nocell : ∀ y ∈ scope.names, y.2 ≠ .cell) (hco : scope.isCoroutine = false) (dot : scope.names.lookup (".0" : Str) = some NameKind.local)
    (hi : PI X tg iter wi)
    (hg : ∀ (A : Around) (s : Shared) (H : Hp) (cl : List (Str × Addr)) (C : Addr) (code : Value) (bi : Addr) (fp : List Addr) (pn : List (Addr × Obj)), Room k A → PG (gxCx X A s H (genEnv scope cl C code bi X.env) fp pn) tg g)
    (ht : ∀ (A : Around) (s : Shared) (H : Hp) (cl : List (Str × Addr)) (C : Addr) (code : Value) (bi : Addr) (fp : List Addr) (pn : List (Addr × Obj)), Room k A → PTs (gxCx X A s H (genEnv scope cl C code bi X.env) fp pn) ifs tt)
    (he : ∀ (A : Around) (s : Shared) (H : Hp) (cl : List (Str × Addr)) (C : Addr) (code : Value) (bi : Addr) (fp : List Addr) (pn : List (Addr × Obj)), Room k A → PE (gxCx X A s H (genEnv scope cl C code bi X.env) fp pn) elt te)
    (hs : ∀ v, genFold iter X.env v = pure v) (I : Inv X pins σ H s) (h : tQuant P wi g tt te (own.map (·.2)) e σ H Q)
    (hQ : ∀ a s5, GxReady X pins σ e (fun H => Q (.bl e) H) (fun H => Q (.bl (!e)) H) a s5 → Q' (.ref a) s5) :
    wpAny (model X.prog X.w) X.A (eval (.GeneratorExp elt [⟨tg, iter, ifs, 0⟩] scope gpos) X.env) Q' X.xe s := by
  have hfree : ∀ y ∈ scope.names, y.2 = .free → ∃ c, X.env.cells.lookup y.1 = some c := fun y hy ey => by
    rcases ok.free y hy ey with z | z
    · exact I.ok.has _ (.inl z)
    · exact I.ok.has _ (.inr z)
  refine wpAny_GeneratorExp_make hco (closure_ok hfree) nocell dot ok.kind hr.depth ?_ hs
  refine thn (hi.run pins s σ H _ I h) fun xv s1 hx => thn hx fun itv s2 h2 => ?_
  obtain ⟨it, fp, tn, J, H2, rfl, I2, T, st2, f2, ⟨ps, hP, tro⟩, q⟩ := h2
  refine ⟨I2.nolimit, ?_⟩
  have hPs : s2.heap.get? P = some { cls := .none, data := .fields ps } := I2.hok P _ hP
  have cd : PySem.W.CodeHd s2.heap c P := TB.code.keeps fun b u z => I2.bk b u z
  have szf : ∀ b ∈ fp, b < s2.heap.objs.size := fun b hb => by
    obtain ⟨o, eo, _⟩ := T.obj _ _ st2 b hb
    exact Heap.lt_size eo
  -- behind the code object
  have cont : ∀ (code : Value) (h3 : Heap) (tk : Nat) (ps' : Array Value), Heap.ExtBut P s2.heap h3 → s2.heap.objs.size ≤ h3.objs.size → h3.get? P = some { cls := .none, data := .fields ps' } → (∃ more, ps' = ps ++ more) → TriplesOk ps'.toList →
      wpAny (model X.prog X.w) X.A (builtinsFor X.env.globals X.env.builtins) (fun bi s4 => ∀ h', h'.Ns s4.heap.objs.size (fun y => if y = ".0" then some (.ref it) else none) → Heap.SameBut s4.heap.objs.size (s4.heap.push { cls := .type "frame", data := .dict #[] }) h' →
        Q' (.ref h'.objs.size) { s4 with
          gens := s4.gens.push (.fresh (.compStart (.GeneratorExp elt [⟨tg, iter, ifs, 0⟩] scope gpos) 0 (.ref it) .none (genEnv scope (cloFrom X.env.cells scope.names []) s4.heap.objs.size code bi X.env)))
          toks := s4.toks + 1 + 1 + 1
          heap := h'.push { cls := .type "generator", data := .fields #[.int s4.gens.size 0, .str "<genexpr>" (s4.toks + 1), .str (X.env.qual ++ "<genexpr>") (s4.toks + 1 + 1)] } }) X.xe { s2 with heap := h3, toks := tk } := by
    intro code h3 tk ps' hx hsz hP3 ⟨more, em⟩ tro'
    obtain ⟨bm, ob, e1, e2, e3, e4, e5, e6, e7, e8⟩ := TB.bm
    have keep3 : ∀ b u, b ≠ P → s2.heap.get? b = some u → h3.get? b = some u := fun b u hb z => hx b u hb z
    refine wpAny_builtinsFor (m := X.mg) (by rw [I2.ok.glob]; exact (I2.mod.glob.keeps I2.bk).extBut hx TB.gP) e1 e2 (keep3 _ _ e4 (I2.bk _ _ e5)) e6 e7 e8 ?_
    intro h' hns hsame
    have J4 := GxR.inv_tab (more := more) (h' := h3) (g' := s2.gens) (d' := s2.drawn) (t' := tk) I2 hP keep3 (by rw [← em]; exact hP3) I2.bare
    have tabbed : GxR.Tabbed P H2 (upd H2 P (.tbl (ps ++ more))) := ⟨⟨ps ++ more, upd_same, by rw [← em]; exact tro'⟩, fun b hb => upd_ne hb⟩
    obtain ⟨W, ⟨m0, w0⟩, turn⟩ := q _ tabbed
    have hsz' : h'.objs.size = h3.objs.size + 1 := by rw [hsame.1, Heap.size_push]
    have kp5 : ∀ (go : Obj) b o, h3.get? b = some o → (h'.push go).get? b = some o := fun go b o eo => Heap.get?_push_of_some _ (hsame.extBut b o (Nat.ne_of_lt (Heap.lt_size eo)) (Heap.get?_push_of_some _ eo))
    have fpP : ∀ b ∈ fp, b ≠ P := fun b hb z => by
      have := (f2 b hb).1
      rw [z, hP] at this
      cases this
    have nf : ∀ b ∈ fp, upd H2 P (.tbl (ps ++ more)) b = none := fun b hb => by rw [upd_ne (fpP b hb)]; exact (f2 b hb).1
    have f3 : ∀ b ∈ fp, FpOk X pins (upd H2 P (.tbl (ps ++ more))) b ∧ b < h3.objs.size := fun b hb => ⟨⟨nf b hb, (f2 b hb).2⟩, Nat.lt_of_lt_of_le (szf b hb) hsz⟩
    refine hQ _ _ ?_
    show GxReady X pins σ e _ _ h'.objs.size { s2 with
      gens := s2.gens.push (.fresh (.compStart (.GeneratorExp elt [⟨tg, iter, ifs, 0⟩] scope gpos) 0 (.ref it) .none (genEnv scope (cloFrom X.env.cells scope.names []) h3.objs.size code builtinsNs X.env)))
      toks := tk + 1 + 1 + 1
      heap := h'.push { cls := .type "generator", data := .fields #[.int s2.gens.size 0, .str "<genexpr>" (tk + 1), .str (X.env.qual ++ "<genexpr>") (tk + 1 + 1)] } }
    generalize hgo : ({ cls := .type "generator", data := .fields #[.int s2.gens.size 0, .str "<genexpr>" (tk + 1), .str (X.env.qual ++ "<genexpr>") (tk + 1 + 1)] } : Obj) = go
    have goC : go.cls = .type "generator" := by rw [← hgo]
    have goD : go.data = .fields #[.int s2.gens.size 0, .str "<genexpr>" (tk + 1), .str (X.env.qual ++ "<genexpr>") (tk + 1 + 1)] := by rw [← hgo]
    have goS : go.slots = #[] := by rw [← hgo]
    have at5 : (h'.push go).get? h'.objs.size = some go := by rw [← hgo]; exact Heap.get?_push_size _ rfl
    have isG : ∀ h : Heap, h.get? h'.objs.size = some go → h.IsGen h'.objs.size s2.gens.size := fun h eo => ⟨go, _, _, eo, goC, goD, goS⟩
    generalize hst : GenState.fresh (.compStart (.GeneratorExp elt [⟨tg, iter, ifs, 0⟩] scope gpos) 0 (.ref it) .none (genEnv scope (cloFrom X.env.cells scope.names []) h3.objs.size code builtinsNs X.env)) = fr
    have bare5 : AllBare (s2.gens.push fr) := I2.bare.push (by rw [← hst]; rfl)
    have rm := gx_room (elt := elt) (tg := tg) (iter := iter) (ifs := ifs) (scope := scope) (gpos := gpos) (it := it) (ce := genEnv scope (cloFrom X.env.cells scope.names []) h3.objs.size code builtinsNs X.env) hr
    obtain ⟨ce, hce⟩ : ∃ ce, ce = genEnv scope (cloFrom X.env.cells scope.names []) h3.objs.size code builtinsNs X.env := ⟨_, rfl⟩
    obtain ⟨s4, hs4⟩ : ∃ s4 : Shared, s4 = { s2 with heap := h3, gens := s2.gens, drawn := s2.drawn, toks := tk } := ⟨_, rfl⟩
    obtain ⟨H4, hH4⟩ : ∃ H4, H4 = upd H2 P (.tbl (ps ++ more)) := ⟨_, rfl⟩
    obtain ⟨Z, hZ⟩ : ∃ Z, Z = gxZ X X.A.in1.in1 s4 H4 ce fp [(h'.objs.size, go)] elt tg iter ifs scope gpos it := ⟨_, rfl⟩
    have J4' : Inv X pins σ H4 s4 := by rw [hs4, hH4]; exact J4
    have Z0 : Inv Z [] (wipe σ (own.map (·.2))) H4 { s2 with heap := h'.push go, gens := s2.gens.push fr, toks := tk + 1 + 1 + 1 } := by
      rw [hZ, hs4, hH4, hce]
      exact gx_start (A := X.A.in1.in1.over (gxCode elt tg iter ifs scope gpos it (genEnv scope (cloFrom X.env.cells scope.names []) h3.objs.size code builtinsNs X.env)) []) (a := h'.objs.size) (go := go) (h5 := h'.push go) (g5 := s2.gens.push fr) (t5 := tk + 1 + 1 + 1) (code := code) J4 hN ok nocell rm.hd (gx_frames J4.ok.frames) f3 (hns.push _) (kp5 go) at5 (by show h3.objs.size < _; omega) (fun v z => by rw [goD] at z; cases z) bare5
    rw [← hH4] at w0
    refine ⟨s2.gens.size, m0 + 1, Z, wipe σ (own.map (·.2)), by rw [hZ]; rfl, by rw [hZ]; rfl, isG _ at5, Z0.nolimit, fun {σ' H' s'} IZ => ?_, ⟨fr, Array.getElem?_push_size .., ?_⟩, fun s' H' os bare un hok => ?_⟩
    · refine isG _ (IZ.pin (h'.objs.size, go) (List.mem_append_left _ ?_)).1
      rw [hZ]
      exact List.mem_cons_self
    · rw [← hst, show Z.prog = X.prog by rw [hZ]; rfl, show Z.w = X.w by rw [hZ]; rfl, ← hce]
      refine ⟨rfl, seg_gx0 (H := H4) hZ (fun p hp z => ?_) (by rw [hce]; exact hco) T (by rw [hZ, hce]; exact hg _ _ _ _ _ _ _ _ _ rm) (by rw [hZ, hce]; exact ht _ _ _ _ _ _ _ _ _ rm) (by rw [hZ, hce]; exact he _ _ _ _ _ _ _ _ _ rm) turn (Nat.lt_succ_self _) w0 (inv_sh Z0 rfl rfl (allBare_setGen (by show AllBare (s2.gens.push _); rw [hce, hst]; exact bare5) rfl)) ?_ fun b hb => by rw [hH4]; exact nf b hb⟩
      · rw [List.mem_singleton.mp hp] at z
        have z1 := (f3 _ z).2
        have z2 : h'.objs.size < h3.objs.size := z1
        omega
      · exact T.keep _ _ _ st2 fun b hb o eo => kp5 go b o (keep3 b o (fpP b hb) eo)
    · refine J4'.call' (ch := fp) ?_ ?_ ?_ bare fun b hb => ?_
      · rw [os, hZ]
        rfl
      · rw [hZ] at un
        exact un
      · rw [hZ] at hok
        exact hok
      · have z := (f3 b hb).1
        exact ⟨z.2.2.2.1, z.2.1, z.2.2.2.2.1, z.2.2.2.2.2⟩
  cases hf : codeAmong gpos ps.toList with
  | none =>
    refine wpAny_genexprCodeX hcode (cd.code hPs tro) (cd.tab hPs) hf fun c' h' tk hx hge hlt hco' _ htab' _ => ?_
    obtain ⟨o1, us, y1, y2, y3, y4, y5, y6, y7, y8, _, _, _, _, _, _, _, _, _, htr, _⟩ := hco'
    exact cont _ h' tk _ hx (Nat.le_trans hge (Nat.le_of_lt hlt)) htab'.2 ⟨_, rfl⟩ htr
  | some cv =>
    refine wpAny_genexprCode_hit hcode (cd.code hPs tro) hf ?_
    exact cont cv s2.heap s2.toks ps (Heap.ExtBut.refl _ _) (Nat.le_refl _) hPs ⟨#[], by simp⟩ tro
end
section
variable {X : Cx} {c P : Addr} {elt tg iter : Expr} {ifs : List Expr} {scope : Scope} {own : List (Str × Nat)} {p pos gpos : Pos} {wi : TI} {g : TG} {tt : TT} {te : TE} {k : Nat}
theorem pe_allG (hN : X.N.Nodup) (hr : Room (k + 1) X.A) (hg : Gl X "all") (hm : X.mg "all" = none) (hb : bootBuiltins "all" = some (.builtin "all")) (TB : LamX.TabB X.base X.mg c P) (hcode : X.env.code = .ref c) (ok : BlkOk X.N X.env.scope scope own) (nocell : ∀ y ∈ scope.names, y.2 ≠ .cell) (hco : scope.isCoroutine = false) (dot : scope.names.lookup (".0" : Str) = some NameKind.local)
    (hi : PI X tg iter wi)
    (pg : ∀ (A : Around) (s : Shared) (H : Hp) (cl : List (Str × Addr)) (C : Addr) (code : Value) (bi : Addr) (fp : List Addr) (pn : List (Addr × Obj)), Room k A → PG (gxCx X A s H (genEnv scope cl C code bi X.env) fp pn) tg g)
    (pt : ∀ (A : Around) (s : Shared) (H : Hp) (cl : List (Str × Addr)) (C : Addr) (code : Value) (bi : Addr) (fp : List Addr) (pn : List (Addr × Obj)), Room k A → PTs (gxCx X A s H (genEnv scope cl C code bi X.env) fp pn) ifs tt)
    (pe : ∀ (A : Around) (s : Shared) (H : Hp) (cl : List (Str × Addr)) (C : Addr) (code : Value) (bi : Addr) (fp : List Addr) (pn : List (Addr × Obj)), Room k A → PE (gxCx X A s H (genEnv scope cl C code bi X.env) fp pn) elt te)
    (hs : ∀ v, genFold iter X.env v = pure v)
    (he : starEach [.GeneratorExp elt [⟨tg, iter, ifs, 0⟩] scope gpos] X.env = (false, eval (.GeneratorExp elt [⟨tg, iter, ifs, 0⟩] scope gpos) X.env) :: starEach [] X.env := by rfl) :
    PE X (.Call (.Name "all" p) [.GeneratorExp elt [⟨tg, iter, ifs, 0⟩] scope gpos] [] pos) (tQuant P wi g tt te (own.map (·.2)) true) := by
  refine ⟨fun pins s σ H Q I h => ?_⟩
  refine wpAny_Call_Name_kw (ld_blt I hg hm hb ?_)
  refine PyProof.Rows.callWith_builtin1 ?_ he (by rfl)
  rw [he]
  show wpAny _ _ (spliced ((false, eval (.GeneratorExp elt [⟨tg, iter, ifs, 0⟩] scope gpos) X.env) :: backTo pos (starEach [] X.env))) _ _ s
  refine Calls.spliced_cons (gx_eval hN hr TB hcode ok nocell hco dot hi pg pt pe hs I h fun a s5 hR => ?_)
  obtain ⟨gi, m, Z, σ0, e1, e2, isG, nl, isG', goes, back⟩ := hR
  refine Calls.spliced_nil ?_
  refine call_function_tree F.kind_all F.plain_all F.entry_all (F.args_all1 _) ?_
  unfold Builtin.«all»
  refine wpAny_bind ?_
  show wpAny _ _ (pure (Value.ref a)) _ _ s5
  refine wpAny_pure (wpAny_bind (wpAny_pyIter_gen isG (wpAny_pure ⟨plainId_quiet F.plain_all_loop _, ?_⟩)))
  rw [← e1, ← e2]
  exact gx_all hr.hd (by have := hr.dp; omega) isG' (fun s' H' o1 o2 o3 o4 q => ⟨.bl true, H', back s' H' o1 o2 o3 o4, rfl, q⟩) (fun s' H' o1 o2 o3 o4 q => ⟨.bl false, H', back s' H' o1 o2 o3 o4, rfl, q⟩) m s5 isG nl goes
theorem pe_anyG (hN : X.N.Nodup) (hr : Room (k + 1) X.A) (hg : Gl X "any") (hm : X.mg "any" = none) (hb : bootBuiltins "any" = some (.builtin "any")) (TB : LamX.TabB X.base X.mg c P) (hcode : X.env.code = .ref c) (ok : BlkOk X.N X.env.scope scope own) (nocell : ∀ y ∈ scope.names, y.2 ≠ .cell) (hco : scope.isCoroutine = false) (dot : scope.names.lookup (".0" : Str) = some NameKind.local)
    (hi : PI X tg iter wi)
    (pg : ∀ (A : Around) (s : Shared) (H : Hp) (cl : List (Str × Addr)) (C : Addr) (code : Value) (bi : Addr) (fp : List Addr) (pn : List (Addr × Obj)), Room k A → PG (gxCx X A s H (genEnv scope cl C code bi X.env) fp pn) tg g)
    (pt : ∀ (A : Around) (s : Shared) (H : Hp) (cl : List (Str × Addr)) (C : Addr) (code : Value) (bi : Addr) (fp : List Addr) (pn : List (Addr × Obj)), Room k A → PTs (gxCx X A s H (genEnv scope cl C code bi X.env) fp pn) ifs tt)
    (pe : ∀ (A : Around) (s : Shared) (H : Hp) (cl : List (Str × Addr)) (C : Addr) (code : Value) (bi : Addr) (fp : List Addr) (pn : List (Addr × Obj)), Room k A → PE (gxCx X A s H (genEnv scope cl C code bi X.env) fp pn) elt te)
    (hs : ∀ v, genFold iter X.env v = pure v)
    (he : starEach [.GeneratorExp elt [⟨tg, iter, ifs, 0⟩] scope gpos] X.env = (false, eval (.GeneratorExp elt [⟨tg, iter, ifs, 0⟩] scope gpos) X.env) :: starEach [] X.env := by rfl) :
    PE X (.Call (.Name "any" p) [.GeneratorExp elt [⟨tg, iter, ifs, 0⟩] scope gpos] [] pos) (tQuant P wi g tt te (own.map (·.2)) false) := by
  refine ⟨fun pins s σ H Q I h => ?_⟩
  refine wpAny_Call_Name_kw (ld_blt I hg hm hb ?_)
  refine PyProof.Rows.callWith_builtin1 ?_ he (by rfl)
  rw [he]
  show wpAny _ _ (spliced ((false, eval (.GeneratorExp elt [⟨tg, iter, ifs, 0⟩] scope gpos) X.env) :: backTo pos (starEach [] X.env))) _ _ s
  refine Calls.spliced_cons (gx_eval hN hr TB hcode ok nocell hco dot hi pg pt pe hs I h fun a s5 hR => ?_)
  obtain ⟨gi, m, Z, σ0, e1, e2, isG, nl, isG', goes, back⟩ := hR
  refine Calls.spliced_nil ?_
  refine call_function_tree F.kind_any F.plain_any F.entry_any (F.args_any1 _) ?_
  unfold Builtin.«any»
  refine wpAny_bind ?_
  show wpAny _ _ (pure (Value.ref a)) _ _ s5
  refine wpAny_pure (wpAny_bind (wpAny_pyIter_gen isG (wpAny_pure ⟨plainId_quiet F.plain_any_loop _, ?_⟩)))
  rw [← e1, ← e2]
  exact gx_any hr.hd (by have := hr.dp; omega) isG' (fun s' H' o1 o2 o3 o4 q => ⟨.bl false, H', back s' H' o1 o2 o3 o4, rfl, q⟩) (fun s' H' o1 o2 o3 o4 q => ⟨.bl true, H', back s' H' o1 o2 o3 o4, rfl, q⟩) m s5 isG nl goes
end
def TabsG (PT : List Addr) (H : Hp) : Prop := ∀ P ∈ PT, GxR.TabG H P
theorem TabsG.same {PT : List Addr} {H H' : Hp} (t : TabsG PT H) (s : Same H H') : TabsG PT H' := fun P hP => by
  obtain ⟨ps, h, ok⟩ := t P hP
  exact ⟨ps, s _ _ h, ok⟩
theorem tabbed_ext {P : Addr} {H H' : Hp} (t : GxR.TabG H P) (b : GxR.Tabbed P H H') : LamX.ExtN H H' := fun c o h n => by
  by_cases e : c = P
  · subst e
    obtain ⟨ps, h', _⟩ := t
    rw [h] at h'
    cases h'
    exact absurd rfl (n ps)
  · rw [b.2 c e]
    exact h
theorem TabsG.tabbed {PT : List Addr} {P : Addr} {H H' : Hp} (t : TabsG PT H) (b : GxR.Tabbed P H H') : TabsG PT H' := fun Q hQ => by
  by_cases e : Q = P
  · rw [e]
    exact b.1
  · obtain ⟨ps, h, ok⟩ := t Q hQ
    exact ⟨ps, by rw [b.2 Q e]; exact h, ok⟩
theorem gx_tup {K : PySem.W.Frag} {a : Addr} {xs : List V} {g : TG} {tt : TT} {te : TE} {vs : List Nat} {σ0 : L2.St} {e : Bool} {Qe Qn : Hp → Prop} {H : Hp} (Pv : Nat → Hp → Prop) (h0 : Pv 0 H) (hl : ∀ i H, i ≤ xs.length → Pv i H → SqT K H a xs)
    (hs : ∀ i x H, xs[i]? = some x → Pv i H → g x σ0 H fun σ2 H2 => wipe σ2 vs = σ0 ∧ tt σ2 H2 fun b H3 => if b = true then te σ2 H3 fun y H4 => ∃ c, y = .bl c ∧ (c = e → Pv (i + 1) H4) ∧ (c ≠ e → Qn H4) else Pv (i + 1) H3) (hd : ∀ H, Pv xs.length H → Qe H) :
    ∃ W : Nat → Nat → Hp → Prop, (∃ m, W 0 m H) ∧ gxTurn (Itt K a) g tt te vs σ0 e Qe Qn W := by
  refine ⟨fun i m H => m = xs.length - i ∧ i ≤ xs.length ∧ Pv i H, ⟨xs.length, by simp, Nat.zero_le _, h0⟩, ?_⟩
  rintro i m H ⟨rfl, hi, p⟩
  have q := hl i H hi p
  by_cases hlt : i < xs.length
  · refine .inr ⟨⟨xs, xs[i], q, by simp [hlt]⟩, Pv (i + 1), fun H' p' => ⟨xs.length - (i + 1), by omega, rfl, hlt, p'⟩, fun x H' y => ?_⟩
    obtain ⟨e, y⟩ := y
    subst e
    exact hs i x _ (y xs q) p
  · have e : i = xs.length := by omega
    subst e
    exact .inl ⟨⟨xs, q, Nat.le_refl _⟩, hd H p⟩
theorem sqT_ext {K : PySem.W.Frag} {H H' : Hp} (e : LamX.ExtN H H') {a : Addr} {xs : List V} (h : SqT K H a xs) : SqT K H' a xs := by
  rcases h with (z | ⟨o, z⟩) | z
  · exact .inl (.inl (e _ _ z fun ps q => by cases q))
  · exact .inl (.inr ⟨o, e _ _ z fun ps q => by cases q⟩)
  · exact .inr z
theorem yesG {σ : L2.St} {H : Hp} {R : Bool → Hp → Prop} (h : R true H) : tYes σ H R := h
theorem all_take {α : Type} {p : α → Bool} {l : List α} {i : Nat} {x : α} (h : l[i]? = some x) : (l.take (i + 1)).all p = ((l.take i).all p && p x) := by
  have hi : i < l.length := by
    obtain ⟨q, _⟩ := List.getElem?_eq_some_iff.mp h
    exact q
  rw [List.take_add_one, h]
  simp [List.all_append]
abbrev rLen (K : PySem.W.Frag) : List V → Hp → VK → Prop := fun xs H Q => ∃ p ys, xs = [.ref p] ∧ (SqL K H p ys ∨ SqT K H p ys) ∧ Q (.int ys.length) H
theorem bulk_mem : ∀ {l : List PyData} {x : PyData}, x ∈ l → x.bulk + 1 ≤ PyData.bulkAll l
  | u :: v, x, h => by
    simp only [PyData.bulkAll]
    rcases List.mem_cons.mp h with rfl | h
    · omega
    · have := bulk_mem h
      omega
def strD : PyData → Bool
  | .str _ => true
  | _ => false
theorem kit_str {K : PySem.W.Frag} (d : PyData) : PySem.W.kitOne K (.type (kindD d)) (.type "str") = some (strD d) := by
  cases d with
  | none => exact kit_ty (show kitB "NoneType" "str" = some false by decide +kernel)
  | bool _ => exact kit_ty (show kitB "bool" "str" = some false by decide +kernel)
  | int _ => exact kit_ty (show kitB "int" "str" = some false by decide +kernel)
  | str _ => exact kit_ty (show kitB "str" "str" = some true by decide +kernel)
  | list _ => exact kit_ty (show kitB "list" "str" = some false by decide +kernel)
  | tuple _ => exact kit_ty (show kitB "tuple" "str" = some false by decide +kernel)
  | dict _ => exact kit_ty (show kitB "dict" "str" = some false by decide +kernel)
theorem pe_globI {X : Cx} {x : Str} {n : Int} {pos : Pos} (hg : Gl X x) (h : ∃ t, X.mg x = some (.int n t)) (hd : (x == ("__debug__" : Str)) = false := by decide) : PE X (.Name x pos) (tC (.int n)) := by
  obtain ⟨t, h⟩ := h
  exact pe_glob hg h ⟨t, rfl⟩ hd
def optV : Option Nat → V
  | none => .non
  | some n => .int n
def sumO (f : PyData → Option Nat) : List PyData → Option Nat
  | [] => some 0
  | x :: r => match f x with
    | none => none
    | some a => match sumO f r with
      | none => none
      | some b => some (a + b)
theorem sumO_none {f : PyData → Option Nat} : ∀ {l : List PyData} {x : PyData}, x ∈ l → f x = none → sumO f l = none
  | y :: r, x, hm, h => by
    rcases List.mem_cons.mp hm with rfl | hm
    · simp only [sumO, h]
    · have ih := sumO_none hm h
      simp only [sumO, ih]
      cases f y <;> rfl
theorem sumO_snoc {f : PyData → Option Nat} : ∀ {l : List PyData} {x : PyData} {s a : Nat}, sumO f l = some s → f x = some a → sumO f (l ++ [x]) = some (s + a)
  | [], x, s, a, h, hx => by
    simp only [sumO, Option.some.injEq] at h
    subst h
    simp [sumO, hx]
  | y :: r, x, s, a, h, hx => by
    simp only [sumO] at h
    cases hy : f y with
    | none => rw [hy] at h; cases h
    | some b =>
      rw [hy] at h
      cases hr : sumO f r with
      | none => rw [hr] at h; cases h
      | some c =>
        rw [hr] at h
        have ih := sumO_snoc hr hx
        simp only [Option.some.injEq] at h
        subst h
        show sumO f (y :: (r ++ [x])) = _
        simp only [sumO, hy, ih]
        congr 1
        omega
theorem sumO_mem {f : PyData → Option Nat} {l : List PyData} {x : PyData} {s : Nat} (h : sumO f l = some s) (hm : x ∈ l) : ∃ a, f x = some a := by
  cases e : f x with
  | none => rw [sumO_none hm e] at h; cases h
  | some a => exact ⟨a, rfl⟩
theorem take_more {α : Type} {l : List α} {i : Nat} {x : α} (h : l[i]? = some x) : l.take (i + 1) = l.take i ++ [x] := by
  rw [List.take_add_one, h]
  rfl
section
variable {P : Program} {w : World} {K : PySem.W.Frag} {mg : Str → Option Value} {base : Heap} {f : Addr} {fd : FuncData}
def spTuple (K : PySem.W.Frag) : Sp := fun vs H Q _ => ∃ (x : V) (d : PyData) (lo hi : Int), vs = [x, .int lo, .int hi] ∧ Dp K H x d ∧ Q (.bl (tupD lo hi d)) H
theorem scTuple : FnScope ["thing", "least", "most"] ["thing", "least", "most"] (defScope sTuple) := ⟨rfl, rfl, rfl, by decide +kernel, rfl, by decide +kernel, by decide +kernel⟩
theorem ok_tuple {k : Nat} (F : Fun K "is_tuple" "is_tuple" sTuple f fd) (T : Free mg) : FnOk P w K mg base CX0 (k + 1) f fd ["thing", "least", "most"] (spTuple K) := by
  refine F.ok scTuple (fun vs H Q E h => ?_) (fun cdv A outer s H vs Q E hr h => ?_)
  · obtain ⟨x, d, lo, hi, rfl, _⟩ := h
    rfl
  obtain ⟨x, d, lo, hi, rfl, hx, q⟩ := h
  refine ⟨_, pss_one (ps_ret (pe_and (pe_callB call_isi rfl T.isi (by decide +kernel) (pa_cons (pv 0) (pa_cons (pe_bltn (v := .ty "tuple") rfl T.tuple (by decide +kernel) rfl) pa_nil)))
    (pe_one (pe_chain op_le op_le (pv 1) (pe_callB call_len_seq rfl T.len PySem.boot_len (pa_cons (pv 0) pa_nil)) (pv 2))))), ?_⟩
  have ht := ty_of hx
  refine ⟨_, rfl, x, _, _, _, _, rfl, .ty "tuple", ht, kit_tuple d, _, rfl, ?_⟩
  cases d with
  | tuple ds =>
    cases hx with
    | tup hs ha =>
      refine ifT rfl ⟨_, rfl, _, rfl, _, _, rfl, .inr hs, _, _, rfl, rfl, _, rfl, ?_⟩
      rw [dpAll_len ha]
      have e : tupD lo hi (.tuple ds) = (decide (lo ≤ (ds.length : Int)) && decide ((ds.length : Int) ≤ hi)) := rfl
      rw [e] at q
      by_cases c : lo ≤ (ds.length : Int)
      · refine ifT (decide_eq_true c) ⟨_, rfl, _, _, rfl, rfl, ?_⟩
        rw [decide_eq_true c, Bool.true_and] at q
        exact q
      · refine ifF (decide_eq_false c) ?_
        rw [decide_eq_false c, Bool.false_and] at q
        exact q
  | int _ => exact ifF rfl q
  | bool b => exact ifF rfl q
  | none => exact ifF rfl q
  | str _ => exact ifF rfl q
  | list _ => exact ifF rfl q
  | dict _ => exact ifF rfl q
end
/-! names -/
def smallB (c : Nat) : Bool := decide (97 ≤ c) && decide (c ≤ 122)
theorem gx_str {x : Str} {g : TG} {tt : TT} {te : TE} {vs : List Nat} {σ0 : L2.St} {e : Bool} {Qe Qn : Hp → Prop} {H : Hp} (Pv : Nat → Hp → Prop) (h0 : Pv 0 H)
    (hs : ∀ i c H, x.cps[i]? = some c → Pv i H → g (.str ⟨#[c]⟩) σ0 H fun σ2 H2 => wipe σ2 vs = σ0 ∧ tt σ2 H2 fun b H3 => if b = true then te σ2 H3 fun y H4 => ∃ c, y = .bl c ∧ (c = e → Pv (i + 1) H4) ∧ (c ≠ e → Qn H4) else Pv (i + 1) H3) (hd : ∀ H, Pv x.cps.size H → Qe H) :
    ∃ W : Nat → Nat → Hp → Prop, (∃ m, W 0 m H) ∧ gxTurn (Its x) g tt te vs σ0 e Qe Qn W := by
  refine ⟨fun i m H => m = x.cps.size - i ∧ i ≤ x.cps.size ∧ Pv i H, ⟨x.cps.size, rfl, Nat.zero_le _, h0⟩, ?_⟩
  rintro i m H ⟨rfl, hi, p⟩
  by_cases hlt : i < x.cps.size
  · refine .inr ⟨hlt, Pv (i + 1), fun H' p' => ⟨x.cps.size - (i + 1), by omega, rfl, hlt, p'⟩, fun v H' y => ?_⟩
    obtain ⟨rfl, c, hc, rfl⟩ := y
    exact hs i c _ hc p
  · have e : i = x.cps.size := by omega
    exact .inl ⟨by show x.cps.size ≤ i; omega, hd H (by rw [← e]; exact p)⟩
def areSmall (x : Str) : Bool := x.cps.toList.all smallB
theorem lt_one (a b : Nat) : decide (([a] : List Nat) < [b]) = decide (a < b) := by
  rw [Bool.eq_iff_iff, decide_eq_true_eq, decide_eq_true_eq]
  constructor
  · intro h
    cases h with
    | rel h => exact h
    | cons h => cases h
  · intro h
    exact List.Lex.rel h
section
open PySem.Spec PyProof.Rows LamX
variable {P : Program} {w : World} {K : PySem.W.Frag} {mg : Str → Option Value} {base : Heap} {f : Addr} {fd : FuncData}
def spSmall (K : PySem.W.Frag) (PT : List Addr) : Sp := fun vs H Q _ => ∃ x : Str, vs = [.str x] ∧ TabsG PT H ∧ ∀ H', ExtN H H' → TabsG PT H' → Q (.bl (areSmall x)) H'
theorem scSmall : FnScope ["text", "sign"] ["text"] (defScope sSmall) := ⟨rfl, rfl, rfl, by decide +kernel, rfl, by decide +kernel, by decide +kernel⟩
theorem ok_small {k : Nat} {c Pc : Addr} {PT : List Addr} (F : Fun K "are_small" "are_small" sSmall f fd) (hc : fd.code = .ref c) (TB : LamX.TabB base mg c Pc) (hPT : Pc ∈ PT) (hA : mg "all" = none) : FnOk P w K mg base CX0 (k + 2) f fd ["text"] (spSmall K PT) := by
  refine okC F hc scSmall (fun vs H Q E h => ?_) (fun A outer s H vs Q E hr h => ?_)
  · obtain ⟨x, rfl, _⟩ := h
    rfl
  obtain ⟨x, rfl, tb, q⟩ := h
  refine ⟨_, pss_one (ps_ret (pe_allG (own := [("sign", 1)]) (wi := iStr (tVar 0)) (g := gName 1) (tt := tYes) (te := tChain (fun x y H Q => ∃ i j, x = .str i ∧ y = .str j ∧ Q (.bl (!decide (j.cps.toList < i.cps.toList))) H) (fun x y H Q => ∃ i j, x = .str i ∧ y = .str j ∧ Q (.bl (!decide (j.cps.toList < i.cps.toList))) H) (tC (.str "a")) (tVar 1) (tC (.str "z"))) scSmall.nd hr rfl hA (by decide +kernel) TB rfl
      (blkOk_by (own := [("sign", 1)]) (N := ["text", "sign"]) (sc := defScope sSmall) (by decide +kernel)) (by decide +kernel) rfl rfl (pi_str (pv 0))
      (fun _ _ _ _ _ _ _ _ _ _ => pg_name (i := 1) scSmall.nd rfl (Or.inl rfl)) (fun _ _ _ _ _ _ _ _ _ _ => pts_nil)
      (fun _ _ _ _ _ _ _ _ _ hr' => pe_chain op_le_str op_le_str pe_str (pv 1) pe_str) (fun _ => rfl))), ?_⟩
  refine ⟨_, rfl, x, rfl, tb Pc hPT, fun H2 b2 => ?_⟩
  have e2 := tabbed_ext (tb Pc hPT) b2
  have t2 := tb.tabbed b2
  refine gx_str (x := x) (fun i G => G = H2 ∧ (x.cps.toList.take i).all smallB = true) ⟨rfl, rfl⟩ (fun i c G hc h => ?_) (fun G h => ?_)
  · obtain ⟨rfl, all⟩ := h
    have hc' : x.cps.toList[i]? = some c := by rw [← hc]; simp
    have no : smallB c = false → Q (.bl false) G := fun z => by
      have r := q G e2 t2
      have e : areSmall x = false := by
        cases y : areSmall x with
        | false => rfl
        | true =>
          have := List.all_eq_true.mp y c (List.mem_of_getElem? hc')
          rw [z] at this
          cases this
      rw [e] at r
      exact r
    refine ⟨rfl, yesG ⟨_, rfl, _, _, rfl, rfl, _, rfl, ?_⟩⟩
    have e1 : (!decide (([c] : List Nat) < [97])) = decide (97 ≤ c) := by rw [lt_one]; by_cases z : 97 ≤ c <;> simp [z] <;> omega
    have e3 : (!decide (([122] : List Nat) < [c])) = decide (c ≤ 122) := by rw [lt_one]; by_cases z : c ≤ 122 <;> simp [z] <;> omega
    show if (!decide (([c] : List Nat) < [97])) = true then _ else _
    rw [e1]
    by_cases c1 : 97 ≤ c
    · refine ifT (decide_eq_true c1) ⟨_, _, rfl, rfl, ?_⟩
      refine ⟨decide (c ≤ 122), congrArg V.bl e3, fun z => ⟨rfl, ?_⟩, fun z => no ?_⟩
      · rw [all_take hc', all]
        unfold smallB
        rw [decide_eq_true c1, z]
        rfl
      · unfold smallB
        rw [decide_eq_true c1, Bool.true_and]
        exact Bool.eq_false_iff.mpr z
    · refine ifF (decide_eq_false c1) ⟨false, rfl, (fun z => by cases z), (fun _ => no ?_)⟩
      unfold smallB
      rw [decide_eq_false c1, Bool.false_and]
  · obtain ⟨rfl, all⟩ := h
    have e : areSmall x = true := by
      rw [show x.cps.size = x.cps.toList.length by simp, List.take_length] at all
      exact all
    have r := q G e2 t2
    rw [e] at r
    exact r
/-! is_number_name -/
structure Cst (mg : Str → Option Value) : Prop where
  mostSigns : ∃ t, mg "MOST_SIGNS" = some (.int 6 t)
  mostInBlock : ∃ t, mg "MOST_IN_BLOCK" = some (.int 12 t)
  mostWithin : ∃ t, mg "MOST_WITHIN" = some (.int 4 t)
  mostStatements : ∃ t, mg "MOST_STATEMENTS" = some (.int 40 t)
  mostChannels : ∃ t, mg "MOST_CHANNELS" = some (.int 6 t)
  mostActors : ∃ t, mg "MOST_ACTORS" = some (.int 4 t)
  places : ∃ t, mg "PLACES" = some (.int 3 t)
  greatest : ∃ t, mg "GREATEST" = some (.int 9999 t)
/-- texts of it are no longer than a line -/
def TxtOk (d : PyData) : Prop := ∀ x, d = .str x → x.length ≤ sizeLine
def numNameD : PyData → Bool
  | .str x => decide (1 ≤ x.length) && decide (x.length ≤ 6) && areSmall x
  | _ => false
def spName (K : PySem.W.Frag) (PT : List Addr) (fn : PyData → Bool) : Sp := fun vs H Q _ => ∃ (x : V) (d : PyData), vs = [x] ∧ Dp K H x d ∧ TxtOk d ∧ TabsG PT H ∧ ∀ H', ExtN H H' → TabsG PT H' → Q (.bl (fn d)) H'
theorem scNumName : FnScope ["thing"] ["thing"] (defScope sNumName) := ⟨rfl, rfl, rfl, by decide +kernel, rfl, by decide +kernel, by decide +kernel⟩
theorem ok_numName {k : Nat} {PT : List Addr} (F : Fun K "is_number_name" "is_number_name" sNumName f fd) (T : Free mg) (hS : mg "str" = none) (C : Cst mg) (cS : Cal P w K mg base "are_small" k ["text"] (spSmall K PT)) : FnOk P w K mg base CX0 (k + 1) f fd ["thing"] (spName K PT numNameD) := by
  refine F.ok scNumName (fun vs H Q E h => ?_) (fun cdv A outer s H vs Q E hr h => ?_)
  · obtain ⟨x, d, rfl, _⟩ := h
    rfl
  obtain ⟨x, d, rfl, hx, ht, tb, q⟩ := h
  refine ⟨_, pss_one (ps_ret (pe_and (pe_callB call_isi rfl T.isi (by decide +kernel) (pa_cons (pv 0) (pa_cons (pe_bltn (v := .ty "str") rfl hS (by decide +kernel) rfl) pa_nil)))
    (pe_and (pe_chain op_le op_le pe_int (pe_callB call_len_str rfl T.len PySem.boot_len (pa_cons (pv 0) pa_nil)) (pe_globI rfl C.mostSigns)) (pe_one (pe_cal cS hr rfl (pa_cons (pv 0) pa_nil)))))), ?_⟩
  refine ⟨_, rfl, x, _, _, _, _, rfl, .ty "str", ty_of hx, kit_str d, _, rfl, ?_⟩
  cases hs : strD d with
  | false =>
    have e : numNameD d = false := by cases d <;> first | rfl | cases hs
    rw [e] at q
    exact ifF rfl (q H (ExtN.refl _) tb)
  | true =>
    obtain ⟨z, rfl⟩ : ∃ z, d = .str z := by cases d <;> first | exact ⟨_, rfl⟩ | cases hs
    have q : ∀ H', ExtN H H' → TabsG PT H' → Q (.bl (decide (1 ≤ z.length) && decide (z.length ≤ 6) && areSmall z)) H' := q
    cases hx
    refine ifT rfl ⟨_, rfl, z, rfl, ht z rfl, _, _, rfl, rfl, _, rfl, ?_⟩
    by_cases c1 : 1 ≤ z.length
    · refine ifT (decide_eq_true (by omega)) ⟨_, _, rfl, rfl, _, rfl, ?_⟩
      by_cases c2 : z.length ≤ 6
      · refine ifT (decide_eq_true (by omega)) ⟨_, rfl, z, rfl, tb, fun H' e t => ?_⟩
        have r := q H' e t
        rw [decide_eq_true c1, decide_eq_true c2] at r
        exact r
      · refine ifF (decide_eq_false (by omega)) ?_
        have r := q H (ExtN.refl _) tb
        rw [decide_eq_false c2, Bool.and_false, Bool.false_and] at r
        exact r
    · refine ifF (decide_eq_false (by omega)) ⟨_, rfl, ifF rfl ?_⟩
      have r := q H (ExtN.refl _) tb
      rw [decide_eq_false c1, Bool.false_and, Bool.false_and] at r
      exact r
/-! is_graph_name -/
def bigB (c : Nat) : Bool := decide (65 ≤ c) && decide (c ≤ 90)
def graphNameD : PyData → Bool
  | .str x => decide (1 ≤ x.length) && decide (x.length ≤ 6) && (bigB (x.cps.toList.headD 0) && areSmall (cutS x (some 1) none))
  | _ => false
theorem scGraphName : FnScope ["thing"] ["thing"] (defScope sGraphName) := ⟨rfl, rfl, rfl, by decide +kernel, rfl, by decide +kernel, by decide +kernel⟩
theorem ok_graphName {k : Nat} {PT : List Addr} (F : Fun K "is_graph_name" "is_graph_name" sGraphName f fd) (T : Free mg) (hS : mg "str" = none) (C : Cst mg) (cS : Cal P w K mg base "are_small" k ["text"] (spSmall K PT)) : FnOk P w K mg base CX0 (k + 1) f fd ["thing"] (spName K PT graphNameD) := by
  refine F.ok scGraphName (fun vs H Q E h => ?_) (fun cdv A outer s H vs Q E hr h => ?_)
  · obtain ⟨x, d, rfl, _⟩ := h
    rfl
  obtain ⟨x, d, rfl, hx, ht, tb, q⟩ := h
  refine ⟨_, pss_cons (ps_if (PW.pt (pw_or (pt_not (pt_val (pe_callB call_isi rfl T.isi (by decide +kernel) (pa_cons (pv 0) (pa_cons (pe_bltn (v := .ty "str") rfl hS (by decide +kernel) rfl) pa_nil))))) (pw_or1 (pt_not (pt_chain op_le op_le pe_int (pe_callB call_len_str rfl T.len PySem.boot_len (pa_cons (pv 0) pa_nil)) (pe_globI rfl C.mostSigns)))))) (pss_one (ps_ret pe_bl)) pss_nil)
    (pss_one (ps_ret (pe_and (pe_chain op_le_str op_le_str pe_str (pe_ix ix_str (pv 0) pe_int (fun _ _ => rfl)) pe_str) (pe_one (pe_cal cS hr rfl (pa_cons (pe_slice sl_str (pv 0) (po_some pe_int) po_none) pa_nil)))))), ?_⟩
  have q0 : graphNameD d = false → Q (.bl false) H := fun e => by
    have r := q H (ExtN.refl _) tb
    rw [e] at r
    exact r
  refine ⟨_, rfl, x, _, _, _, _, rfl, .ty "str", ty_of hx, kit_str d, _, rfl, ?_⟩
  cases hs : strD d with
  | false => exact ifT rfl (ifT rfl (q0 (by cases d <;> first | rfl | cases hs)))
  | true =>
    obtain ⟨z, rfl⟩ : ∃ z, d = .str z := by cases d <;> first | exact ⟨_, rfl⟩ | cases hs
    have q : ∀ H', ExtN H H' → TabsG PT H' → Q (.bl (decide (1 ≤ z.length) && decide (z.length ≤ 6) && (bigB (z.cps.toList.headD 0) && areSmall (cutS z (some 1) none)))) H' := q
    have q0 : (decide (1 ≤ z.length) && decide (z.length ≤ 6) && (bigB (z.cps.toList.headD 0) && areSmall (cutS z (some 1) none))) = false → Q (.bl false) H := q0
    cases hx
    refine ifF rfl ⟨_, rfl, z, rfl, ht z rfl, _, _, rfl, rfl, _, rfl, ?_⟩
    by_cases c1 : 1 ≤ z.length
    · refine ifT (decide_eq_true (by omega)) ⟨_, _, rfl, rfl, _, rfl, ?_⟩
      by_cases c2 : z.length ≤ 6
      · rw [decide_eq_true c1, decide_eq_true c2] at q q0
        refine ifF (by rw [decide_eq_true (show (z.length : Int) ≤ 6 by omega)]; rfl) ?_
        have l0 : 0 < z.cps.toList.length := by
          have : z.cps.toList.length = z.length := by simp [Str.length]
          omega
        obtain ⟨c, r, e⟩ : ∃ c r, z.cps.toList = c :: r := by
          cases h : z.cps.toList with
          | nil => rw [h] at l0; cases l0
          | cons c r => exact ⟨c, r, rfl⟩
        rw [e] at q q0
        have e1 : (!decide (([c] : List Nat) < [65])) = decide (65 ≤ c) := by rw [lt_one]; by_cases z : 65 ≤ c <;> simp [z] <;> omega
        have e3 : (!decide (([90] : List Nat) < [c])) = decide (c ≤ 90) := by rw [lt_one]; by_cases z : c ≤ 90 <;> simp [z] <;> omega
        refine ⟨_, rfl, z, 0, c, rfl, rfl, ht z rfl, by rw [e]; exact atI_at (by decide) rfl, _, _, rfl, rfl, _, rfl, ?_⟩
        show if (!decide (([c] : List Nat) < [65])) = true then _ else _
        rw [e1]
        by_cases c3 : 65 ≤ c
        · refine ifT (decide_eq_true c3) ⟨_, _, rfl, rfl, decide (c ≤ 90), congrArg V.bl e3, ?_⟩
          by_cases c4 : c ≤ 90
          · have hb : bigB ((c :: r).headD 0) = true := by
              show (decide (65 ≤ c) && decide (c ≤ 90)) = true
              rw [decide_eq_true c3, decide_eq_true c4]; rfl
            rw [hb] at q
            exact ifT (decide_eq_true c4) ⟨_, rfl, _, rfl, z, rfl, ht z rfl, _, rfl, tb, fun H' e t => q H' e t⟩
          · refine ifF (decide_eq_false c4) (q0 ?_)
            show (true && true && ((decide (65 ≤ c) && decide (c ≤ 90)) && _)) = false
            rw [decide_eq_false c4, Bool.and_false, Bool.false_and, Bool.and_false]
        · refine ifF (decide_eq_false c3) ⟨false, rfl, ifF rfl (q0 ?_)⟩
          show (true && true && ((decide (65 ≤ c) && decide (c ≤ 90)) && _)) = false
          rw [decide_eq_false c3, Bool.false_and, Bool.false_and, Bool.and_false]
      · refine ifT (by rw [decide_eq_false (show ¬ (z.length : Int) ≤ 6 by omega)]; rfl) (q0 ?_)
        rw [decide_eq_false c2, Bool.and_false, Bool.false_and]
    · refine ifF (decide_eq_false (by omega)) ⟨_, rfl, ifT rfl (q0 ?_)⟩
      rw [decide_eq_false c1, Bool.false_and, Bool.false_and]
end
/-! word_of, is_number, is_place -/
def wordD : PyData → Str
  | .tuple (.str x :: _) => x
  | _ => ""
section
variable {P : Program} {w : World} {K : PySem.W.Frag} {mg : Str → Option Value} {base : Heap} {f : Addr} {fd : FuncData}
def spWordOf (K : PySem.W.Frag) : Sp := fun vs H Q _ => ∃ (x : V) (d : PyData), vs = [x] ∧ Dp K H x d ∧ Q (.str (wordD d)) H
theorem scWordOf : FnScope ["thing"] ["thing"] (defScope sWordOf) := ⟨rfl, rfl, rfl, by decide +kernel, rfl, by decide +kernel, by decide +kernel⟩
theorem ok_wordOf {k : Nat} (F : Fun K "word_of" "word_of" sWordOf f fd) (T : Free mg) (hS : mg "str" = none) : FnOk P w K mg base CX0 (k + 1) f fd ["thing"] (spWordOf K) := by
  refine F.ok scWordOf (fun vs H Q E h => ?_) (fun cdv A outer s H vs Q E hr h => ?_)
  · obtain ⟨x, d, rfl, _⟩ := h
    rfl
  obtain ⟨x, d, rfl, hx, q⟩ := h
  refine ⟨_, pss_cons (ps_if (PW.pt (pw_and (pt_val (pe_callB call_isi rfl T.isi (by decide +kernel) (pa_cons (pv 0) (pa_cons (pe_bltn (v := .ty "tuple") rfl T.tuple (by decide +kernel) rfl) pa_nil)))) (pw_and (pt_cmpR op_gt (pe_callB call_len_seq rfl T.len PySem.boot_len (pa_cons (pv 0) pa_nil)) pe_int (nomark _)) (pw_and1 (pt_val (pe_callB call_isi rfl T.isi (by decide +kernel) (pa_cons (pe_ix ix_tup (pv 0) pe_int (fun _ _ => rfl)) (pa_cons (pe_bltn (v := .ty "str") rfl hS (by decide +kernel) rfl) pa_nil))))))))
      (pss_one (ps_ret (pe_ix ix_tup (pv 0) pe_int (fun _ _ => rfl)))) pss_nil)
    (pss_one (ps_ret pe_str)), ?_⟩
  refine ⟨_, rfl, x, _, _, _, _, rfl, .ty "tuple", ty_of hx, kit_tuple d, _, rfl, ?_⟩
  cases ht : tupleD d with
  | false =>
    have e : wordD d = "" := by cases d <;> first | rfl | cases ht
    rw [e] at q
    exact ifF rfl (ifF rfl q)
  | true =>
    obtain ⟨es, rfl⟩ : ∃ es, d = .tuple es := by cases d <;> first | exact ⟨_, rfl⟩ | cases ht
    cases hx with
    | @tup a xs _ at_ each =>
      refine ifT rfl ⟨_, rfl, a, xs, rfl, .inr at_, _, _, rfl, rfl, _, rfl, ?_⟩
      cases each with
      | nil => exact ifF rfl (ifF rfl q)
      | @cons y ys e es h1 h2 =>
        refine ifT (decide_eq_true (by show (0 : Int) < ((y :: ys).length : Nat); rw [List.length_cons]; omega)) ⟨_, rfl, a, y :: ys, 0, y, rfl, rfl, at_, atI_at (by decide) rfl, y, _, _, _, _, rfl, .ty "str", ty_of h1, kit_str e, _, rfl, ?_⟩
        cases hs : strD e with
        | false =>
          have e' : wordD (.tuple (e :: es)) = "" := by cases e <;> first | rfl | cases hs
          rw [e'] at q
          exact ifF rfl q
        | true =>
          obtain ⟨z, rfl⟩ : ∃ z, e = .str z := by cases e <;> first | exact ⟨_, rfl⟩ | cases hs
          cases h1
          exact ifT rfl ⟨_, rfl, a, _, 0, _, rfl, rfl, at_, atI_at (by decide) rfl, q⟩
def spNumber (K : PySem.W.Frag) : Sp := fun vs H Q _ => ∃ (x : V) (d : PyData), vs = [x] ∧ Dp K H x d ∧ Q (.bl (withinD (-9999) 9999 d)) H
theorem scNumber : FnScope ["thing"] ["thing"] (defScope sNumber) := ⟨rfl, rfl, rfl, by decide +kernel, rfl, by decide +kernel, by decide +kernel⟩
theorem ok_number {k : Nat} (F : Fun K "is_number" "is_number" sNumber f fd) (C : Cst mg) (cW : Cal P w K mg base "is_within" k ["thing", "least", "most"] (spWithin K)) : FnOk P w K mg base CX0 (k + 1) f fd ["thing"] (spNumber K) := by
  refine F.ok scNumber (fun vs H Q E h => ?_) (fun cdv A outer s H vs Q E hr h => ?_)
  · obtain ⟨x, d, rfl, _⟩ := h
    rfl
  obtain ⟨x, d, rfl, hx, q⟩ := h
  refine ⟨_, pss_one (ps_ret (pe_cal cW hr rfl (pa_cons (pv 0) (pa_cons (pe_un un_neg (pe_globI rfl C.greatest)) (pa_cons (pe_globI rfl C.greatest) pa_nil))))), ?_⟩
  exact ⟨_, rfl, _, rfl, x, d, -9999, 9999, rfl, hx, q⟩
def spPlaceD (K : PySem.W.Frag) : Sp := fun vs H Q _ => ∃ (x : V) (d : PyData), vs = [x] ∧ Dp K H x d ∧ Q (.bl (withinD 0 2 d)) H
theorem scPlace : FnScope ["thing"] ["thing"] (defScope sPlace) := ⟨rfl, rfl, rfl, by decide +kernel, rfl, by decide +kernel, by decide +kernel⟩
theorem ok_placeD {k : Nat} (F : Fun K "is_place" "is_place" sPlace f fd) (C : Cst mg) (cW : Cal P w K mg base "is_within" k ["thing", "least", "most"] (spWithin K)) : FnOk P w K mg base CX0 (k + 1) f fd ["thing"] (spPlaceD K) := by
  refine F.ok scPlace (fun vs H Q E h => ?_) (fun cdv A outer s H vs Q E hr h => ?_)
  · obtain ⟨x, d, rfl, _⟩ := h
    rfl
  obtain ⟨x, d, rfl, hx, q⟩ := h
  refine ⟨_, pss_one (ps_ret (pe_cal cW hr rfl (pa_cons (pv 0) (pa_cons pe_int (pa_cons (pe_op op_sub (pe_globI rfl C.places) pe_int) pa_nil))))), ?_⟩
  exact ⟨_, rfl, _, _, rfl, rfl, x, d, 0, 2, rfl, hx, q⟩
end
/-! tuple(.. for ..), whatever is walked; the items go to the list at D -/
section
open PySem.Spec PyProof.Rows
def GtE (Z : Cx) (σ0 : L2.St) (Qe : Hp → Prop) : Nat → Shared → Shared → Prop := fun _ _ s1 => ∃ H, Inv Z [] σ0 H s1 ∧ Qe H
def GtY (Z : Cx) (D : Addr) : Protocol := fun _ _ v s kap => ∃ (y : V) (xs : List V) (H : Hp) (σ' : L2.St), RelV y v ∧ Inv Z [] σ' H s ∧ H D = some (.lst xs) ∧ xs.length < sizeLine ∧ ∀ s' : Shared, (∀ b o, b ≠ D → s.heap.get? b = some o → s'.heap.get? b = some o) → Inv Z [] σ' (upd H D (.lst (xs ++ [y]))) s' → kap (.send .none) s'
abbrev gtTurn (J : It) (g : TG) (tt : TT) (te : TE) (vs : List Nat) (σ0 : L2.St) (D : Addr) (Qe : Hp → Prop) (W : Nat → Nat → Hp → Prop) : Prop :=
  ∀ i m H, W i m H → (J.stop i H ∧ Qe H) ∨ (J.go i H ∧ ∃ Nx : Hp → Prop, (∀ H', Nx H' → ∃ m', m' < m ∧ W (i + 1) m' H') ∧ ∀ x H', J.yld i H x H' → g x σ0 H' fun σ2 H2 => wipe σ2 vs = σ0 ∧ tt σ2 H2 fun b H3 =>
    if b = true then te σ2 H3 fun y H4 => ∃ acc, H4 D = some (.lst acc) ∧ acc.length < sizeLine ∧ Nx (upd H4 D (.lst (acc ++ [y]))) else Nx H3)
section
variable {X : Cx} {A0 : Around} {s1 : Shared} {H1 : Hp} {ce : Env} {fp : List Addr} {pn : List (Addr × Obj)} {elt tg iter : Expr} {ifs : List Expr} {scope : Scope} {gpos : Pos} {it : Addr} {tn : Nat → Heap → Prop} {J : It} {g : TG} {tt : TT} {te : TE} {vs : List Nat} {σ0 : L2.St} {D : Addr} {Qe : Hp → Prop} {W : Nat → Nat → Hp → Prop}
theorem seg_gt {Z : Cx} (hZ : Z = gxZ X A0 s1 H1 ce fp pn elt tg iter ifs scope gpos it) (hpn : ∀ p ∈ pn, p.1 ∉ fp) (hco : ce.scope.isCoroutine = false) (T : Turn X.prog X.w X.K tg J fp it tn) (pg : PG Z tg g) (pt : PTs Z ifs tt) (pe : PE Z elt te) (turn : gtTurn J g tt te vs σ0 D Qe W) :
    ∀ (m i n : Nat) (s₀ s : Shared) (H : Hp), m < n → W i m H → Inv Z [] σ0 H s → tn i s.heap → (∀ b ∈ fp, H b = none) →
      Seg (model X.prog X.w) A0 (fun n s₀ r s1 => r = .ok .next ∧ GtE Z σ0 Qe n s₀ s1) (GtY Z D) n s₀ (gxCode elt tg iter ifs scope gpos it ce) ((model X.prog X.w).den (gxCode elt tg iter ifs scope gpos it ce)) [] s := by
  intro m
  induction m using Nat.strongRecOn with
  | ind m ih =>
    intro i n s₀ s H hmn w0 I st nf
    have fpo := gx_fp hZ hpn I nf
    show Seg _ A0 _ _ _ s₀ _ ((compTurn (.GeneratorExp elt [⟨tg, iter, ifs, 0⟩] scope gpos) 0 (.ref it) .none ce).onRaise (leaving ce)) [] s
    rw [compTurn_gen, Sem.onRaise_eq_wrap]
    refine seg_bind_wrap (wpAny_standAt ?_)
    rcases turn i m H w0 with ⟨stop, qe⟩ | ⟨go, Nx, hNx, step⟩
    · have td := T.done Z (by rw [hZ]; rfl) (by rw [hZ]; rfl) (by rw [hZ]; rfl) (by rw [hZ]; rfl) i [] s σ0 H (fun _ _ => False) I fpo st stop
      have hA : Z.A = A0.over (gxCode elt tg iter ifs scope gpos it ce) [] := by rw [hZ]; rfl
      rw [hA] at td
      refine seg_bind_wrap (wpAny_mono td (fun r s2 hr => ?_) fun _ _ z => z.elim)
      obtain ⟨rfl, I2⟩ := hr
      exact seg_end (.ok .next) ⟨rfl, H, I2, qe⟩
    · have hA : Z.A = A0.over (gxCode elt tg iter ifs scope gpos it ce) [] := by rw [hZ]; rfl
      have hE : Z.env = ce := by rw [hZ]; rfl
      have hPr : Z.prog = X.prog := by rw [hZ]; rfl
      have hWd : Z.w = X.w := by rw [hZ]; rfl
      have hXe : Z.xe = fun _ _ => False := by rw [hZ]; rfl
      have ti := T.item Z hPr hWd (by rw [hZ]; rfl) (by rw [hZ]; rfl) i [] s σ0 H (fun _ _ => False) I fpo st go
      rw [hA] at ti
      refine seg_bind_wrap (wpAny_mono ti (fun r s2 hr => ?_) fun _ _ z => z.elim)
      obtain ⟨u, rfl, ti⟩ := hr
      refine seg_bind_wrap (wpAny_mono ti (fun _ s7 h7 => ?_) fun _ _ z => z.elim)
      obtain ⟨x, H7, I7, r7, y7, st7, n7⟩ := h7
      have I7' := I7.pinned (gx_fp hZ hpn I7 n7) (T.obj _ _ st7)
      have ta := pg.run _ s7 _ H7 x u _ I7' r7 (step x H7 y7)
      rw [hPr, hWd, hA, hE, hXe] at ta
      refine seg_bind_wrap (wpAny_mono ta (fun _ s8 h8 => ?_) fun _ _ z => z.elim)
      obtain ⟨σ8, H8, I8, hw8, q8⟩ := h8
      have tt' := pt.run _ s8 σ8 H8 _ I8 q8
      rw [hPr, hWd, hA, hE, hXe] at tt'
      refine seg_bind_wrap (wpAny_mono tt' (fun b s9 h9 => ?_) fun _ _ z => z.elim)
      obtain ⟨H9, I9, q9⟩ := h9
      -- what stands at the next turn
      have next : ∀ {sn s' : Shared} {H' : Hp}, Inv Z ([] ++ pinsAt fp s7.heap) σ8 H' sn → s'.heap = sn.heap → s'.os = sn.os → AllBare s'.gens → Inv Z [] σ0 H' s' ∧ tn (i + 1) s'.heap ∧ ∀ b ∈ fp, H' b = none := fun {sn s' H'} I' e1 e2 e3 => by
        have pin' : ∀ b ∈ fp, ∀ o, s7.heap.get? b = some o → sn.heap.get? b = some o ∧ H' b = none := fun b hb o eo =>
          let z := I'.pin (b, o) (List.mem_append_right _ (List.mem_append_right _ (mem_pinsAt hb eo)))
          ⟨z.1, z.2.1⟩
        have hl : σ0.length = σ8.length := by rw [← hw8, wipe_length]
        have I'' : Inv Z [] σ0 H' sn := (I'.unpinned (pins := [])).weak hl fun j v ev => by
          rw [← hw8] at ev
          exact (wipe_some ev).1
        refine ⟨inv_sh I'' e1 e2 e3, ?_, fun b hb => ?_⟩
        · rw [e1]
          exact T.keep _ _ _ st7 fun b hb o eo => (pin' b hb o eo).1
        · obtain ⟨o, eo, _⟩ := T.obj _ _ st7 b hb
          exact (pin' b hb o eo).2
      cases b with
      | false =>
        simp only [Bool.false_eq_true, if_false] at q9 ⊢
        obtain ⟨m', hm, w'⟩ := hNx _ q9
        obtain ⟨J1, J2, J3⟩ := next I9 rfl rfl I9.bare
        exact seg_again rfl (ih m' hm (i + 1) n s₀ s9 H9 (by omega) w' J1 J2 J3)
      | true =>
        simp only [if_true] at q9 ⊢
        have out : ∀ v, yieldOut ce v = yieldValue v := fun v => by simp only [yieldOut, hco, Bool.false_eq_true, if_false]
        simp only [out]
        rw [Sem.bind_eq_wrap', Sem.bind_eq_wrap']; rw [Sem.wrap_wrap, Sem.wrap_wrap]
        have tel := pe.run _ s9 σ8 H9 _ I9 q9
        rw [hPr, hWd, hA, hE, hXe] at tel
        refine seg_wrap (wpAny_mono tel (fun y s10 h10 => ?_) fun _ _ z => z.elim)
        obtain ⟨yv, H10, I10, r10, acc, hD, hz, nx⟩ := h10
        obtain ⟨n', rfl⟩ : ∃ n', n = n' + 1 := ⟨n - 1, by omega⟩
        refine seg_at (seg_yield rfl rfl rfl ⟨yv, acc, H10, σ8, r10, I10.unpinned, hD, hz, fun s' e1 I' => ?_⟩)
        obtain ⟨m', hm, w'⟩ := hNx _ nx
        have pin' : ∀ b ∈ fp, ∀ o, s7.heap.get? b = some o → b ≠ D ∧ s'.heap.get? b = some o ∧ H10 b = none := fun b hb o eo => by
          have z := I10.pin (b, o) (List.mem_append_right _ (List.mem_append_right _ (mem_pinsAt hb eo)))
          have nb : b ≠ D := fun q => by
            have := z.2.1
            rw [show (b, o).1 = D from q, hD] at this
            cases this
          exact ⟨nb, e1 b o nb z.1, z.2.1⟩
        have hl : σ0.length = σ8.length := by rw [← hw8, wipe_length]
        have J1 : Inv Z [] σ0 (upd H10 D (.lst (acc ++ [yv]))) s' := I'.weak hl fun j v ev => by
          rw [← hw8] at ev
          exact (wipe_some ev).1
        refine seg_again rfl (ih m' hm (i + 1) n' s' s' _ (by omega) w' J1 (T.keep _ _ _ st7 fun b hb o eo => (pin' b hb o eo).2.1) fun b hb => ?_)
        obtain ⟨o, eo, _⟩ := T.obj _ _ st7 b hb
        rw [upd_ne (pin' b hb o eo).1]
        exact (pin' b hb o eo).2.2
theorem seg_gt0 {Z : Cx} (hZ : Z = gxZ X A0 s1 H1 ce fp pn elt tg iter ifs scope gpos it) (hpn : ∀ p ∈ pn, p.1 ∉ fp) (hco : ce.scope.isCoroutine = false) (T : Turn X.prog X.w X.K tg J fp it tn) (pg : PG Z tg g) (pt : PTs Z ifs tt) (pe : PE Z elt te) (turn : gtTurn J g tt te vs σ0 D Qe W)
    {m n : Nat} {s₀ s : Shared} {H : Hp} (hmn : m < n) (w0 : W 0 m H) (I : Inv Z [] σ0 H s) (st : tn 0 s.heap) (nf : ∀ b ∈ fp, H b = none) :
    Seg (model X.prog X.w) A0 (fun n s₀ r s1 => r = .ok .next ∧ GtE Z σ0 Qe n s₀ s1) (GtY Z D) n s₀ (.compStart (.GeneratorExp elt [⟨tg, iter, ifs, 0⟩] scope gpos) 0 (.ref it) .none ce) ((model X.prog X.w).den (.compStart (.GeneratorExp elt [⟨tg, iter, ifs, 0⟩] scope gpos) 0 (.ref it) .none ce)) [] s := by
  have loop := seg_gt hZ hpn hco T pg pt pe turn m 0 n s₀ s H hmn w0 I st nf
  show Seg _ A0 _ _ _ s₀ _ ((compStart (.GeneratorExp elt [⟨tg, iter, ifs, 0⟩] scope gpos) 0 (.ref it) .none ce).onRaise (leaving ce)) [] s
  unfold compStart
  rw [Sem.onRaise_eq_wrap]
  show Seg _ A0 _ _ _ s₀ _ ((ask >>= _).wrap _ _ _ _) [] s
  refine seg_bind_wrap (wpAny_askSetting ?_)
  split
  · exact seg_again rfl loop
  · refine seg_bind_wrap (wpAny_rule ?_)
    show Seg _ A0 _ _ _ s₀ _ ((standAt iter.pos >>= _).wrap _ _ _ _) [] s
    exact seg_bind_wrap (wpAny_standAt (seg_bind_wrap (T.self _ 0 s _ _ st (seg_again rfl loop))))
end
/-- list.extend.loop over it -/
theorem gt_loop {Z : Cx} {A : Around} {a D : Addr} {g : Nat} {σ0 : L2.St} {Qe : Hp → Prop} {res : Value} {R : Result → Shared → Prop} (hh : A.handled = none) (hd : A.depth < recursionLimit) (isG : ∀ {σ' : L2.St} {H' : Hp} {s' : Shared}, Inv Z [] σ' H' s' → s'.heap.IsGen a g)
    (hE : ∀ (s' : Shared) (H' : Hp), s'.os = Z.s_0.os → AllBare s'.gens → Un Z.fs Z.ex Z.H_0 H' Z.s_0.heap s'.heap → HOk Z.prog Z.w H' s'.heap → Qe H' → R (.ok (.ret res)) s') :
    ∀ (m : Nat) (s : Shared), s.heap.IsGen a g → s.heap.NoLimit → (∃ gs, s.gens[g]? = some gs ∧ gs.Goes (model Z.prog Z.w) A.in1.in1 (fun n s₀ r s1 => r = .ok .next ∧ GtE Z σ0 Qe n s₀ s1) (GtY Z D) m (.send .none) (s.setGen g .running)) →
      codeAny (model Z.prog Z.w) A (.builtin "list.extend.loop" ⟨[.ref D, .ref a, res], []⟩) R s := by
  intro m
  induction m with
  | zero =>
    intro s hg hl ⟨gs, hgs, goes⟩
    refine codeAny_builtin F.entry_extend_loop ?_
    rw [Around.under_plainId F.plain_extend_loop _]
    show wpAny _ A.in1 (pyNext (.ref a) >>= _) _ _ s
    refine wpAny_bind (wpAny_pyNext_genexpQ (A := A.in1) hh hl hd hg hgs goes (fun v s1 gs' hbare hv => ?_) (fun s1 hp h' hk => ?_))
    · obtain ⟨y, xs, H', σ', ry, I, hD, hz, more⟩ := hv
      obtain ⟨_, its, n, rv, _, e⟩ := I.lstM hD
      refine False.elim (more _ ?_ (I.lset (t' := s1.toks) (f := (·.push v)) (its' := its ++ [v]) hD e (by simp) (rv.append (.cons ry .nil)) (by rw [List.length_append, List.length_singleton]; omega)))
      exact fun b o hb q => (Heap.get?_update_other _ _ (Ne.symm hb)).trans q
    · obtain ⟨H', I, q⟩ := hp
      exact wpAny_pure (hE _ H' I.os (allBare_setGen I.bare rfl) (un_kept I.base hk) (I.hok.kept hk) q)
  | succ m ih =>
    intro s hg hl ⟨gs, hgs, goes⟩
    have hgl : g < s.gens.size := (Array.getElem?_eq_some_iff.mp hgs).1
    refine codeAny_builtin F.entry_extend_loop ?_
    rw [Around.under_plainId F.plain_extend_loop _]
    show wpAny _ A.in1 (pyNext (.ref a) >>= _) _ _ s
    refine wpAny_bind (GenW.wpAny_gsz (n := g + 1) hgl (wpAny_pyNext_genexpQ (A := A.in1) hh hl hd hg hgs goes (fun v s1 gs' hbare hv => ?_) (fun s1 hp h' hk => ?_)))
    · intro hsz
      obtain ⟨y, xs, H', σ', ry, I, hD, hz, more⟩ := hv
      obtain ⟨_, its, n, rv, hlen, e⟩ := I.lstM hD
      have b1 := allBare_setGen (g := g) I.bare hbare
      have I2 := I.lset (t' := s1.toks) (f := (·.push v)) (its' := its ++ [v]) hD e (by simp) (rv.append (.cons ry .nil)) (by rw [List.length_append, List.length_singleton]; omega)
      show wpAny _ A.in1 (updateSeq D (·.push v) >>= _) _ _ _
      refine wpAny_bind ?_
      refine wpAny_updateSeq e rfl (wpAny_pure ⟨plainId_quiet F.plain_extend_loop _, ?_⟩) (by rw [List.size_toArray]; omega) (by show (its.toArray.push v).size ≤ sizeLine + 1; rw [Array.size_push, List.size_toArray]; omega)
      have hsz1 : g < s1.gens.size := by
        have q : (s1.setGen g gs').gens.size = s1.gens.size := GenW.setGen_size _ _ _
        have hsz' : g + 1 ≤ (s1.setGen g gs').gens.size := hsz
        omega
      have g2 := isG I2
      have n2 := I2.nolimit
      refine ih { s1.setGen g gs' with heap := s1.heap.update D (Obj.mapSeq (·.push v)) } g2 n2 ⟨gs', setGen_at hsz1, ?_⟩
      exact more _ (fun b o hb q => (Heap.get?_update_other _ _ (Ne.symm hb)).trans q) (inv_sh I2 rfl rfl (allBare_setGen (s := { s1.setGen g gs' with heap := s1.heap.update D (Obj.mapSeq (·.push v)) }) b1 rfl))
    · intro hsz
      obtain ⟨H', I, q⟩ := hp
      exact wpAny_pure (hE _ H' I.os (allBare_setGen I.bare rfl) (un_kept I.base hk) (I.hok.kept hk) q)
abbrev gtEnd (D : Addr) (Q : VK) : Hp → Prop := fun H => ∃ acc, H D = some (.lst acc) ∧ ∀ p, H p = none → Q (.ref p) (upd H p (.tup acc))
/-- the generator stands ready to be walked -/
def GtReady (X : Cx) (B : Around) (pins : List (Addr × Obj)) (σ : L2.St) (Q : VK) (a : Addr) (s5 : Shared) : Prop :=
  ∃ (g : Nat) (Z : Cx) (σ0 : L2.St) (H4 : Hp) (gs : GenState), Z.prog = X.prog ∧ Z.w = X.w ∧ s5.heap.IsGen a g ∧ s5.gens[g]? = some gs ∧ Inv Z [] σ0 H4 s5 ∧ (∀ {σ' : L2.St} {H' : Hp} {s' : Shared}, Inv Z [] σ' H' s' → s'.heap.IsGen a g) ∧
    (∀ D, H4 D = none → ∃ m, ∀ s', Inv Z [] σ0 (upd H4 D (.lst [])) s' → (∀ b o, s5.heap.get? b = some o → s'.heap.get? b = some o) → D ≥ s5.heap.objs.size →
      gs.Goes (model Z.prog Z.w) B (fun n s₀ r s1 => r = .ok .next ∧ GtE Z σ0 (gtEnd D Q) n s₀ s1) (GtY Z D) m (.send .none) s') ∧
    ∀ (s' : Shared) (H' : Hp), s'.os = Z.s_0.os → AllBare s'.gens → Un Z.fs Z.ex Z.H_0 H' Z.s_0.heap s'.heap → HOk Z.prog Z.w H' s'.heap → Inv X pins σ H' s'
theorem gt_room {A : Around} {k : Nat} {elt tg iter : Expr} {ifs : List Expr} {scope : Scope} {gpos : Pos} {it : Addr} {ce : Env} (r : Room (k + 1) A) : Room k (A.in1.in1.in1.in1.over (gxCode elt tg iter ifs scope gpos it ce) []) :=
  ⟨r.hd, by have := r.dp; show A.depth + 1 + 3 * k + 5 < _; omega, by have := r.un; show A.units + 1 + 1 + 1 + 1 + 3 + 16 * k + 200 < _; omega⟩
theorem gt_frames {A : Around} {st : List Env} {elt tg iter : Expr} {ifs : List Expr} {scope : Scope} {gpos : Pos} {it : Addr} {ce : Env} (h : A.frames = some st) : (A.in1.in1.in1.in1.over (gxCode elt tg iter ifs scope gpos it ce) []).frames = some (ce :: st) := by
  obtain ⟨hd, d, fr, gs, u⟩ := A
  obtain rfl : fr = some st := h
  rfl
abbrev tTupG (P : Addr) (wi : TI) (g : TG) (tt : TT) (te : TE) (vs : List Nat) : TE := fun σ H Q => wi σ H fun J H1 => GxR.TabG H1 P ∧ ∀ H2, GxR.Tabbed P H1 H2 → ∀ D, H2 D = none → ∃ W : Nat → Nat → Hp → Prop, (∃ m, W 0 m (upd H2 D (.lst []))) ∧ gtTurn J g tt te vs (wipe σ vs) D (gtEnd D Q) W
theorem gt_eval {X : Cx} {pins : List (Addr × Obj)} {σ : L2.St} {H : Hp} {s : Shared} {c P : Addr} {elt tg iter : Expr} {ifs : List Expr} {scope : Scope} {own : List (Str × Nat)} {gpos : Pos} {wi : TI} {g : TG} {tt : TT} {te : TE} {k : Nat} {Q : VK} {Q' : Value → Shared → Prop}
    (hN : X.N.Nodup) (hr : Room (k + 1) X.A) (TB : LamX.TabB X.base X.mg c P) (hcode : X.env.code = .ref c) (ok : BlkOk X.N X.env.scope scope own) (nocell : ∀ y ∈ scope.names, y.2 ≠ .cell) (hco : scope.isCoroutine = false) (dot : scope.names.lookup (".0" : Str) = some NameKind.local)
    (hi : PI X tg iter wi)
    (hg : ∀ (A : Around) (s : Shared) (H : Hp) (cl : List (Str × Addr)) (C : Addr) (code : Value) (bi : Addr) (fp : List Addr) (pn : List (Addr × Obj)), Room k A → PG (gxCx X A s H (genEnv scope cl C code bi X.env) fp pn) tg g)
    (ht : ∀ (A : Around) (s : Shared) (H : Hp) (cl : List (Str × Addr)) (C : Addr) (code : Value) (bi : Addr) (fp : List Addr) (pn : List (Addr × Obj)), Room k A → PTs (gxCx X A s H (genEnv scope cl C code bi X.env) fp pn) ifs tt)
    (he : ∀ (A : Around) (s : Shared) (H : Hp) (cl : List (Str × Addr)) (C : Addr) (code : Value) (bi : Addr) (fp : List Addr) (pn : List (Addr × Obj)), Room k A → PE (gxCx X A s H (genEnv scope cl C code bi X.env) fp pn) elt te)
    (hs : ∀ v, genFold iter X.env v = pure v) (I : Inv X pins σ H s) (h : tTupG P wi g tt te (own.map (·.2)) σ H Q)
    (hQ : ∀ a s5, GtReady X X.A.in1.in1.in1.in1 pins σ Q a s5 → Q' (.ref a) s5) :
    wpAny (model X.prog X.w) X.A (eval (.GeneratorExp elt [⟨tg, iter, ifs, 0⟩] scope gpos) X.env) Q' X.xe s := by
  have hfree : ∀ y ∈ scope.names, y.2 = .free → ∃ c, X.env.cells.lookup y.1 = some c := fun y hy ey => by
    rcases ok.free y hy ey with z | z
    · exact I.ok.has _ (.inl z)
    · exact I.ok.has _ (.inr z)
  refine wpAny_GeneratorExp_make hco (closure_ok hfree) nocell dot ok.kind hr.depth ?_ hs
  refine thn (hi.run pins s σ H _ I h) fun xv s1 hx => thn hx fun itv s2 h2 => ?_
  obtain ⟨it, fp, tn, J, H2, rfl, I2, T, st2, f2, ⟨ps, hP, tro⟩, q⟩ := h2
  refine ⟨I2.nolimit, ?_⟩
  have hPs : s2.heap.get? P = some { cls := .none, data := .fields ps } := I2.hok P _ hP
  have cd : PySem.W.CodeHd s2.heap c P := TB.code.keeps fun b u z => I2.bk b u z
  have szf : ∀ b ∈ fp, b < s2.heap.objs.size := fun b hb => by
    obtain ⟨o, eo, _⟩ := T.obj _ _ st2 b hb
    exact Heap.lt_size eo
  -- behind the code object
  have cont : ∀ (code : Value) (h3 : Heap) (tk : Nat) (ps' : Array Value), Heap.ExtBut P s2.heap h3 → s2.heap.objs.size ≤ h3.objs.size → h3.get? P = some { cls := .none, data := .fields ps' } → (∃ more, ps' = ps ++ more) → TriplesOk ps'.toList →
      wpAny (model X.prog X.w) X.A (builtinsFor X.env.globals X.env.builtins) (fun bi s4 => ∀ h', h'.Ns s4.heap.objs.size (fun y => if y = ".0" then some (.ref it) else none) → Heap.SameBut s4.heap.objs.size (s4.heap.push { cls := .type "frame", data := .dict #[] }) h' →
        Q' (.ref h'.objs.size) { s4 with
          gens := s4.gens.push (.fresh (.compStart (.GeneratorExp elt [⟨tg, iter, ifs, 0⟩] scope gpos) 0 (.ref it) .none (genEnv scope (cloFrom X.env.cells scope.names []) s4.heap.objs.size code bi X.env)))
          toks := s4.toks + 1 + 1 + 1
          heap := h'.push { cls := .type "generator", data := .fields #[.int s4.gens.size 0, .str "<genexpr>" (s4.toks + 1), .str (X.env.qual ++ "<genexpr>") (s4.toks + 1 + 1)] } }) X.xe { s2 with heap := h3, toks := tk } := by
    intro code h3 tk ps' hx hsz hP3 ⟨more, em⟩ tro'
    obtain ⟨bm, ob, e1, e2, e3, e4, e5, e6, e7, e8⟩ := TB.bm
    have keep3 : ∀ b u, b ≠ P → s2.heap.get? b = some u → h3.get? b = some u := fun b u hb z => hx b u hb z
    refine wpAny_builtinsFor (m := X.mg) (by rw [I2.ok.glob]; exact (I2.mod.glob.keeps I2.bk).extBut hx TB.gP) e1 e2 (keep3 _ _ e4 (I2.bk _ _ e5)) e6 e7 e8 ?_
    intro h' hns hsame
    have J4 := GxR.inv_tab (more := more) (h' := h3) (g' := s2.gens) (d' := s2.drawn) (t' := tk) I2 hP keep3 (by rw [← em]; exact hP3) I2.bare
    have tabbed : GxR.Tabbed P H2 (upd H2 P (.tbl (ps ++ more))) := ⟨⟨ps ++ more, upd_same, by rw [← em]; exact tro'⟩, fun b hb => upd_ne hb⟩
    have q := q _ tabbed
    have hsz' : h'.objs.size = h3.objs.size + 1 := by rw [hsame.1, Heap.size_push]
    have kp5 : ∀ (go : Obj) b o, h3.get? b = some o → (h'.push go).get? b = some o := fun go b o eo => Heap.get?_push_of_some _ (hsame.extBut b o (Nat.ne_of_lt (Heap.lt_size eo)) (Heap.get?_push_of_some _ eo))
    have fpP : ∀ b ∈ fp, b ≠ P := fun b hb z => by
      have := (f2 b hb).1
      rw [z, hP] at this
      cases this
    have nf : ∀ b ∈ fp, upd H2 P (.tbl (ps ++ more)) b = none := fun b hb => by rw [upd_ne (fpP b hb)]; exact (f2 b hb).1
    have f3 : ∀ b ∈ fp, FpOk X pins (upd H2 P (.tbl (ps ++ more))) b ∧ b < h3.objs.size := fun b hb => ⟨⟨nf b hb, (f2 b hb).2⟩, Nat.lt_of_lt_of_le (szf b hb) hsz⟩
    refine hQ _ _ ?_
    show GtReady X X.A.in1.in1.in1.in1 pins σ Q h'.objs.size { s2 with
      gens := s2.gens.push (.fresh (.compStart (.GeneratorExp elt [⟨tg, iter, ifs, 0⟩] scope gpos) 0 (.ref it) .none (genEnv scope (cloFrom X.env.cells scope.names []) h3.objs.size code builtinsNs X.env)))
      toks := tk + 1 + 1 + 1
      heap := h'.push { cls := .type "generator", data := .fields #[.int s2.gens.size 0, .str "<genexpr>" (tk + 1), .str (X.env.qual ++ "<genexpr>") (tk + 1 + 1)] } }
    generalize hgo : ({ cls := .type "generator", data := .fields #[.int s2.gens.size 0, .str "<genexpr>" (tk + 1), .str (X.env.qual ++ "<genexpr>") (tk + 1 + 1)] } : Obj) = go
    have goC : go.cls = .type "generator" := by rw [← hgo]
    have goD : go.data = .fields #[.int s2.gens.size 0, .str "<genexpr>" (tk + 1), .str (X.env.qual ++ "<genexpr>") (tk + 1 + 1)] := by rw [← hgo]
    have goS : go.slots = #[] := by rw [← hgo]
    have at5 : (h'.push go).get? h'.objs.size = some go := by rw [← hgo]; exact Heap.get?_push_size _ rfl
    have isG : ∀ h : Heap, h.get? h'.objs.size = some go → h.IsGen h'.objs.size s2.gens.size := fun h eo => ⟨go, _, _, eo, goC, goD, goS⟩
    generalize hst : GenState.fresh (.compStart (.GeneratorExp elt [⟨tg, iter, ifs, 0⟩] scope gpos) 0 (.ref it) .none (genEnv scope (cloFrom X.env.cells scope.names []) h3.objs.size code builtinsNs X.env)) = fr
    have bare5 : AllBare (s2.gens.push fr) := I2.bare.push (by rw [← hst]; rfl)
    have rm := gt_room (elt := elt) (tg := tg) (iter := iter) (ifs := ifs) (scope := scope) (gpos := gpos) (it := it) (ce := genEnv scope (cloFrom X.env.cells scope.names []) h3.objs.size code builtinsNs X.env) hr
    obtain ⟨ce, hce⟩ : ∃ ce, ce = genEnv scope (cloFrom X.env.cells scope.names []) h3.objs.size code builtinsNs X.env := ⟨_, rfl⟩
    obtain ⟨s4, hs4⟩ : ∃ s4 : Shared, s4 = { s2 with heap := h3, gens := s2.gens, drawn := s2.drawn, toks := tk } := ⟨_, rfl⟩
    obtain ⟨H4, hH4⟩ : ∃ H4, H4 = upd H2 P (.tbl (ps ++ more)) := ⟨_, rfl⟩
    obtain ⟨Z, hZ⟩ : ∃ Z, Z = gxZ X X.A.in1.in1.in1.in1 s4 H4 ce fp [(h'.objs.size, go)] elt tg iter ifs scope gpos it := ⟨_, rfl⟩
    have J4' : Inv X pins σ H4 s4 := by rw [hs4, hH4]; exact J4
    have Z0 : Inv Z [] (wipe σ (own.map (·.2))) H4 { s2 with heap := h'.push go, gens := s2.gens.push fr, toks := tk + 1 + 1 + 1 } := by
      rw [hZ, hs4, hH4, hce]
      exact gx_start (A := X.A.in1.in1.in1.in1.over (gxCode elt tg iter ifs scope gpos it (genEnv scope (cloFrom X.env.cells scope.names []) h3.objs.size code builtinsNs X.env)) []) (a := h'.objs.size) (go := go) (h5 := h'.push go) (g5 := s2.gens.push fr) (t5 := tk + 1 + 1 + 1) (code := code) J4 hN ok nocell rm.hd (gt_frames J4.ok.frames) f3 (hns.push _) (kp5 go) at5 (by show h3.objs.size < _; omega) (fun v z => by rw [goD] at z; cases z) bare5
    rw [← hH4] at q
    have nf4 : ∀ b ∈ fp, H4 b = none := fun b hb => by rw [hH4]; exact nf b hb
    refine ⟨s2.gens.size, Z, wipe σ (own.map (·.2)), H4, fr, by rw [hZ]; rfl, by rw [hZ]; rfl, isG _ at5, Array.getElem?_push_size .., Z0, fun {σ' H' s'} IZ => ?_, fun D hD => ?_, fun s' H' os bare un hok => ?_⟩
    · refine isG _ (IZ.pin (h'.objs.size, go) (List.mem_append_left _ ?_)).1
      rw [hZ]
      exact List.mem_cons_self
    · obtain ⟨W, ⟨m0, w0⟩, turn⟩ := q D hD
      refine ⟨m0 + 1, fun s' IZ kp' hge => ?_⟩
      have hge : h'.objs.size + 1 ≤ D := by
        have z : (h'.push go).objs.size ≤ D := hge
        rw [Heap.size_push] at z
        exact z
      have nD : ∀ b ∈ fp, b ≠ D := fun b hb z => by
        have z1 := (f3 b hb).2
        have z2 : b < h3.objs.size := z1
        rw [z] at z2
        have z3 : D < h3.objs.size := z2
        have z4 : h'.objs.size + 1 ≤ D := hge
        rw [hsz'] at z4
        exact absurd (Nat.lt_of_lt_of_le z3 (Nat.le_trans (Nat.le_succ _) (Nat.le_trans (Nat.le_succ _) z4))) (Nat.lt_irrefl _)
      rw [← hst, show Z.prog = X.prog by rw [hZ]; rfl, show Z.w = X.w by rw [hZ]; rfl, ← hce]
      refine ⟨rfl, seg_gt0 (H := upd H4 D (.lst [])) hZ (fun p hp z => ?_) (by rw [hce]; exact hco) T (by rw [hZ, hce]; exact hg _ _ _ _ _ _ _ _ _ rm) (by rw [hZ, hce]; exact ht _ _ _ _ _ _ _ _ _ rm) (by rw [hZ, hce]; exact he _ _ _ _ _ _ _ _ _ rm) turn (Nat.lt_succ_self _) w0 IZ ?_ fun b hb => by rw [upd_ne (nD b hb)]; exact nf4 b hb⟩
      · rw [List.mem_singleton.mp hp] at z
        have z1 := (f3 _ z).2
        have z2 : h'.objs.size < h3.objs.size := z1
        omega
      · exact T.keep _ _ _ st2 fun b hb o eo => kp' b o (kp5 go b o (keep3 b o (fpP b hb) eo))
    · refine J4'.call' (ch := fp) ?_ ?_ ?_ bare fun b hb => ?_
      · rw [os, hZ]
        rfl
      · rw [hZ] at un
        exact un
      · rw [hZ] at hok
        exact hok
      · have z := (f3 b hb).1
        exact ⟨z.2.2.2.1, z.2.1, z.2.2.2.2.1, z.2.2.2.2.2⟩
  cases hf : codeAmong gpos ps.toList with
  | none =>
    refine wpAny_genexprCodeX hcode (cd.code hPs tro) (cd.tab hPs) hf fun c' h' tk hx hge hlt hco' _ htab' _ => ?_
    obtain ⟨o1, us, y1, y2, y3, y4, y5, y6, y7, y8, _, _, _, _, _, _, _, _, _, htr, _⟩ := hco'
    exact cont _ h' tk _ hx (Nat.le_trans hge (Nat.le_of_lt hlt)) htab'.2 ⟨_, rfl⟩ htr
  | some cv =>
    refine wpAny_genexprCode_hit hcode (cd.code hPs tro) hf ?_
    exact cont cv s2.heap s2.toks ps (Heap.ExtBut.refl _ _) (Nat.le_refl _) hPs ⟨#[], by simp⟩ tro
end
section
variable {X : Cx} {c P : Addr} {elt tg iter : Expr} {ifs : List Expr} {scope : Scope} {own : List (Str × Nat)} {p pos gpos : Pos} {wi : TI} {g : TG} {tt : TT} {te : TE} {k : Nat}
/-- the items of it, as a list -/
theorem gt_collect {X : Cx} {A : Around} {pins : List (Addr × Obj)} {σ : L2.St} {Q : VK} {a : Addr} {s5 : Shared} {Q' : List Value → Shared → Prop} {E : Value → Shared → Prop} (hh : A.handled = none) (hd : A.depth < recursionLimit) (hR : GtReady X A.in1.in1 pins σ Q a s5)
    (hQ : ∀ s' H' xs us, Inv X pins σ H' s' → Vals xs us → xs.length ≤ sizeLine → (∀ p, H' p = none → Q (.ref p) (upd H' p (.tup xs))) → Q' us s') : wpAny (model X.prog X.w) A (collect (.ref a)) Q' E s5 := by
  obtain ⟨gi, Z, σ0, H4, gs, e1, e2, isG, hgs, Z0, isG', goes, back⟩ := hR
  rw [← e1, ← e2]
  have hlt : a < s5.heap.objs.size := let ⟨o, _, _, ho, _⟩ := isG; Heap.lt_size ho
  have hSa : s5.heap.objs.size ≠ a := Nat.ne_of_gt hlt
  obtain ⟨m, goes⟩ := goes s5.heap.objs.size (Z0.hok.fresh (Nat.le_refl _))
  unfold collect
  refine wpAny_bind (wpAny_runValue (codeAny_builtin F.entry_proto_collect ?_))
  rw [Around.under_plainId F.plain_proto_collect _]
  show wpAny _ A.in1 (newList [] >>= fun l => again (.builtin "list.__iadd__" ⟨[l, .ref a], []⟩)) _ _ s5
  refine wpAny_bind (wpAny_newObj_type ?_)
  refine wpAny_pure ⟨plainId_quiet F.plain_list_iadd _, codeAny_builtin F.entry_list_iadd ?_⟩
  rw [Around.under_plainId F.plain_list_iadd _]
  show wpAny _ A.in1 (Builtin.List.listExtendWith (.ref s5.heap.objs.size) (.ref a) (.ref s5.heap.objs.size)) _ _ _
  unfold Builtin.List.listExtendWith
  have k1 : ∀ b o, s5.heap.get? b = some o → (s5.heap.push { cls := .type "list", data := .seq ([] : List Value).toArray }).get? b = some o := fun b o e => Heap.get?_push_of_some _ e
  have gty : ∀ {h : Heap}, (∀ b o, s5.heap.get? b = some o → h.get? b = some o) → h.IsGen a gi := fun {h} q => isG.keeps q
  refine wpAny_bind (wpAny_typeOf (Heap.IsGen.typeIs (s := { s5 with heap := _ }) (gty k1)) ?_)
  have h1 : Builtin.List.listSameRef (.ref s5.heap.objs.size) (.ref a) = false := by simp [Builtin.List.listSameRef, hSa]
  have h2 : (Value.type "generator" == Value.type "list") = false := by decide
  have h3 : (Value.type "generator" == Value.type "tuple") = false := by decide
  simp only [h1, h2, h3, Bool.or_false, Bool.false_eq_true, if_false]
  refine wpAny_bind (wpAny_pyIter_gen (s := { s5 with heap := _ }) (gty k1) ?_)
  refine wpAny_bind (wpAny_holding ?_)
  unfold Builtin.List.listLengthHint
  refine wpAny_bind (wpAny_specialOf (Heap.IsGen.typeIs (s := { s5 with heap := _ }) (gty k1)) F.gen_no_len ?_)
  show wpAny _ A.in1 (specialOf (Value.ref a) (Str.ofString "__length_hint__") >>= _) _ _ _
  refine wpAny_bind (wpAny_specialOf (Heap.IsGen.typeIs (s := { s5 with heap := _ }) (gty k1)) F.gen_no_hint ?_)
  refine wpAny_pure ?_
  show wpAny _ A.in1 (rule "list.extend.makes-room" >>= fun _ => Builtin.List.listTouch (.ref s5.heap.objs.size) >>= fun _ =>
    again (.builtin "list.extend.loop" ⟨[.ref s5.heap.objs.size, .ref a, .ref s5.heap.objs.size], []⟩)) _ _ _
  refine wpAny_bind (wpAny_rule ?_)
  have hS₁ : (s5.heap.push { cls := .type "list", data := .seq ([] : List Value).toArray }).get? s5.heap.objs.size = some { cls := .type "list", data := .seq ([] : List Value).toArray } := Heap.get?_push_size _ rfl
  refine wpAny_bind ?_
  show wpAny _ A.in1 (updateSeq s5.heap.objs.size (·.push .none) >>= fun _ => updateSeq s5.heap.objs.size (·.pop)) _ _ _
  refine wpAny_bind (wpAny_updateSeq hS₁ rfl ?_)
  have hS₂ := Heap.get?_update_self (Obj.mapSeq (·.push Value.none)) hS₁ rfl
  refine wpAny_updateSeq hS₂ rfl ?_
  have hS₃ := Heap.get?_update_self (Obj.mapSeq (·.pop)) hS₂ rfl
  have up : ∀ (h : Heap) (f : Obj → Obj), (∀ b o, s5.heap.get? b = some o → h.get? b = some o) → ∀ b o, s5.heap.get? b = some o → (h.update s5.heap.objs.size f).get? b = some o := fun h f q b o e =>
    (Heap.get?_update_other _ _ (Ne.symm (Nat.ne_of_lt (Heap.lt_size e)))).trans (q b o e)
  have k3 := up _ (Obj.mapSeq (·.pop)) (up _ (Obj.mapSeq (·.push Value.none)) k1)
  have I3 : Inv Z [] σ0 (upd H4 s5.heap.objs.size (.lst [])) { s5 with heap := _ } := Z0.laid (t' := s5.toks) k3 (Nat.le_refl _) ⟨Nat.zero_le _, [], _, .nil, hS₃⟩
  refine wpAny_pure ⟨plainId_quiet F.plain_extend_loop _, gt_loop (Z := Z) (D := s5.heap.objs.size) (σ0 := σ0) (Qe := gtEnd s5.heap.objs.size Q) (g := gi) hh hd isG' (fun s' H' o1 o2 o3 o4 q => ?_) m _ (gty k3) I3.nolimit ⟨gs, hgs, ?_⟩⟩
  · obtain ⟨acc, hD, q⟩ := q
    have I4 := back s' H' o1 o2 o3 o4
    obtain ⟨z, its, n, rv, hl, e⟩ := I4.lstM hD
    show wpAny _ A (load s5.heap.objs.size >>= _) _ _ s'
    refine wpAny_bind (wpAny_load e (wpAny_pure ?_))
    exact hQ s' H' acc _ I4 (by simpa using rv) z q
  · exact goes _ (inv_sh I3 rfl rfl (allBare_setGen (s := { s5 with heap := _ }) I3.bare rfl)) k3 (Nat.le_refl _)
theorem pe_tupG (hN : X.N.Nodup) (hr : Room (k + 1) X.A) (hg : Gl X "tuple") (hm : X.mg "tuple" = none) (hb : bootBuiltins "tuple" = some (.type "tuple")) (TB : LamX.TabB X.base X.mg c P) (hcode : X.env.code = .ref c) (ok : BlkOk X.N X.env.scope scope own) (nocell : ∀ y ∈ scope.names, y.2 ≠ .cell) (hco : scope.isCoroutine = false) (dot : scope.names.lookup (".0" : Str) = some NameKind.local)
    (hi : PI X tg iter wi)
    (pg : ∀ (A : Around) (s : Shared) (H : Hp) (cl : List (Str × Addr)) (C : Addr) (code : Value) (bi : Addr) (fp : List Addr) (pn : List (Addr × Obj)), Room k A → PG (gxCx X A s H (genEnv scope cl C code bi X.env) fp pn) tg g)
    (pt : ∀ (A : Around) (s : Shared) (H : Hp) (cl : List (Str × Addr)) (C : Addr) (code : Value) (bi : Addr) (fp : List Addr) (pn : List (Addr × Obj)), Room k A → PTs (gxCx X A s H (genEnv scope cl C code bi X.env) fp pn) ifs tt)
    (pe : ∀ (A : Around) (s : Shared) (H : Hp) (cl : List (Str × Addr)) (C : Addr) (code : Value) (bi : Addr) (fp : List Addr) (pn : List (Addr × Obj)), Room k A → PE (gxCx X A s H (genEnv scope cl C code bi X.env) fp pn) elt te)
    (hs : ∀ v, genFold iter X.env v = pure v)
    (he : starEach [.GeneratorExp elt [⟨tg, iter, ifs, 0⟩] scope gpos] X.env = (false, eval (.GeneratorExp elt [⟨tg, iter, ifs, 0⟩] scope gpos) X.env) :: starEach [] X.env := by rfl) :
    PE X (.Call (.Name "tuple" p) [.GeneratorExp elt [⟨tg, iter, ifs, 0⟩] scope gpos] [] pos) (tTupG P wi g tt te (own.map (·.2))) := by
  refine ⟨fun pins s σ H Q I h => ?_⟩
  refine wpAny_Call_Name_kw (ld_blt I hg hm hb ?_)
  refine PyProof.Rows.callWith_type1 ?_ he (by rfl)
  rw [he]
  show wpAny _ _ (spliced ((false, eval (.GeneratorExp elt [⟨tg, iter, ifs, 0⟩] scope gpos) X.env) :: backTo pos (starEach [] X.env))) _ _ s
  refine Calls.spliced_cons (gt_eval hN hr TB hcode ok nocell hco dot hi pg pt pe hs I h fun a s5 hR => ?_)
  refine Calls.spliced_nil ?_
  have hT : s5.TypeIs (.ref a) "generator" := by
    obtain ⟨gi, Z, σ0, H4, gs, e1, e2, isG, _⟩ := hR
    exact Heap.IsGen.typeIs isG
  refine callType_codes (Q₁ := fun obj s₁ => s₁.TypeIs obj "tuple" ∧ EP X pins σ Q obj s₁) F.called_tuple (F.typeCall_tuple_1 _) F.entry_object_init ?_ fun obj s₁ h₁ => ?_
  · refine codeAny_of_tree ?_
    show wpAny _ X.A.in1.in1 (do checkBuiltinCall "tuple.__new__" ⟨[.type "tuple", .ref a], []⟩; again (.builtin "tuple.__new__" ⟨[.type "tuple", .ref a], []⟩)) _ _ s5
    refine wpAny_bind (wpAny_of_eq (F.newCall_tuple_1 _) (wpAny_pure ⟨plainId_quiet F.plain_tuple_new _, codeAny_builtin F.entry_tuple_new ?_⟩))
    rw [Around.under_plainId F.plain_tuple_new _]
    have hsub := sub_tuple_self
    have hinit := init_tuple_lookup
    have hmh := madeHere_tuple
    wp_walk using wpAny_typeOf hT, gt_collect (A := X.A.in1.in1) hr.hd (by have := hr.dp; show X.A.depth < _; omega) hR
    intro s' H' xs us I' rv hz q
    show wpAny _ _ (Builtin.Tuple.tupleExact us.toArray >>= fun v => ret v) _ _ _
    unfold Builtin.Tuple.tupleExact
    have hl := rv.length
    refine wpAny_bind (wpAny_newObj_type ?_ (by show us.toArray.size ≤ sizeLine; rw [List.size_toArray]; omega))
    refine wpAny_pure ?_
    have new : ObjOk X.prog X.w (upd H' s'.heap.objs.size (.tup xs)) (s'.heap.push { cls := .type "tuple", data := .seq us.toArray }) s'.heap.objs.size (.tup xs) :=
      ⟨hz, us, rv, ⟨_, Heap.get?_push_size _ rfl, rfl, _, rfl⟩⟩
    exact ⟨⟨_, Heap.get?_push_size _ rfl, rfl⟩, .ref s'.heap.objs.size, _, I'.laid (t' := s'.toks) (fun b o e => Heap.get?_push_of_some _ e) (Nat.le_refl _) new, rfl, q _ (I'.hok.fresh (Nat.le_refl _))⟩
  · exact ⟨h₁.1, F.args_object_init_2 obj _, object_init_meets F.called_tuple.init.lookup F.called_tuple.made (by decide) X.prog X.w X.A.in1 _ s₁ ⟨h₁.1, rfl, h₁.2⟩⟩
end
/-! any data against any data: some truth comes -/
section
open PySem.SeqAt PySem.W
open AutoSeq1 (wpAny_loadPart')
theorem dd_none (l : Addr) (es : Array DictEntry) (n : Nat)  :
    Meets (Builtin.«dict.__eq__» ⟨[.ref l, .none], []⟩) (fun _ R s => s.heap.get? l = some { cls := .type "dict", data := .dict es n } ∧ R (.ok (.ret .notImplemented)) s) :=
  .of_wp fun prog w A R s h => by obtain ⟨hp, g, d, tk, os⟩ := s; obtain ⟨hl, h⟩ := h; have f1 := F.sub_NoneType_dict; wp_walk using wpAny_loadPart' hl; exact ⟨_, rfl, h⟩
theorem rc_dict_none' {A : Around} {s : Shared} {l : Addr} {es : Array DictEntry} {n : Nat}  (ho : s.heap.get? l = some { cls := .type "dict", data := .dict es n }) (hu : A.units < cLine) : RcAt A s (.ref l) .none false := fun prog w E Q h =>
  rc_eq_decline_or (k := false) ⟨_, ho, rfl⟩ rfl (by decide) F.sub_NoneType_dict F.slot_dict_eq F.slot_NoneType_eq_refl
    (fun _ hq => call_meets F.slot_dict_eq ⟨_, ho, rfl⟩ F.entry_dict_eq (F.args_dict_eq_2 _ _) (dd_none l es n ) ⟨ho, hq⟩)
    (fun _ hq => call_gives F.slot_NoneType_eq_refl rfl F.entry_NoneType_eq (F.args_NoneType_eq_2 _ _) (NoneType___eq___none_ref_0 l) hq)
    (fun _ hq => wpAny_of_eq (rfl : isSame (.ref l) .none = pure false) hq) (.inr hu) h
theorem rc_none_dict' {A : Around} {s : Shared} {l : Addr} {es : Array DictEntry} {n : Nat}  (ho : s.heap.get? l = some { cls := .type "dict", data := .dict es n }) (hu : A.units < cLine) : RcAt A s .none (.ref l) false := fun prog w E Q h =>
  rc_eq_decline_or (k := false) rfl ⟨_, ho, rfl⟩ (by decide) F.sub_dict_NoneType F.slot_NoneType_eq F.slot_dict_eq_refl
    (fun _ hq => call_gives F.slot_NoneType_eq rfl F.entry_NoneType_eq (F.args_NoneType_eq_2 _ _) (NoneType___eq___none_ref_0 l) hq)
    (fun _ hq => call_meets F.slot_dict_eq_refl ⟨_, ho, rfl⟩ F.entry_dict_eq (F.args_dict_eq_2 _ _) (dd_none l es n ) ⟨ho, hq⟩)
    (fun _ hq => wpAny_of_eq (rfl : isSame .none (.ref l) = pure false) hq) (.inr hu) h
theorem dd_bool (l : Addr) (es : Array DictEntry) (n : Nat) (b : Bool) :
    Meets (Builtin.«dict.__eq__» ⟨[.ref l, .bool b], []⟩) (fun _ R s => s.heap.get? l = some { cls := .type "dict", data := .dict es n } ∧ R (.ok (.ret .notImplemented)) s) :=
  .of_wp fun prog w A R s h => by obtain ⟨hp, g, d, tk, os⟩ := s; obtain ⟨hl, h⟩ := h; have f1 := F.sub_bool_dict; wp_walk using wpAny_loadPart' hl; exact ⟨_, rfl, h⟩
theorem bool_dd (l : Addr) (es : Array DictEntry) (n : Nat) (b : Bool) :
    Meets (Builtin.«int.__eq__» ⟨[.bool b, .ref l], []⟩) (fun _ R s => s.heap.get? l = some { cls := .type "dict", data := .dict es n } ∧ R (.ok (.ret .notImplemented)) s) :=
  .of_wp fun prog w A R s h => by obtain ⟨hp, g, d, tk, os⟩ := s; obtain ⟨hl, h⟩ := h; wp_walk using wpAny_loadPart' hl, wpAny_load hl; exact ⟨_, rfl, h⟩
theorem rc_dict_bool' {A : Around} {s : Shared} {l : Addr} {es : Array DictEntry} {n : Nat} (b : Bool) (ho : s.heap.get? l = some { cls := .type "dict", data := .dict es n }) (hu : A.units < cLine) : RcAt A s (.ref l) (.bool b) false := fun prog w E Q h =>
  rc_eq_decline_or (k := false) ⟨_, ho, rfl⟩ rfl (by decide) F.sub_bool_dict F.slot_dict_eq F.slot_bool_eq_refl
    (fun _ hq => call_meets F.slot_dict_eq ⟨_, ho, rfl⟩ F.entry_dict_eq (F.args_dict_eq_2 _ _) (dd_bool l es n b) ⟨ho, hq⟩)
    (fun _ hq => call_meets F.slot_bool_eq_refl rfl F.entry_int_eq (F.args_int_eq_2 _ _) (bool_dd l es n b) ⟨ho, hq⟩)
    (fun _ hq => wpAny_of_eq (rfl : isSame (.ref l) (.bool b) = pure false) hq) (.inr hu) h
theorem rc_bool_dict' {A : Around} {s : Shared} {l : Addr} {es : Array DictEntry} {n : Nat} (b : Bool) (ho : s.heap.get? l = some { cls := .type "dict", data := .dict es n }) (hu : A.units < cLine) : RcAt A s (.bool b) (.ref l) false := fun prog w E Q h =>
  rc_eq_decline_or (k := false) rfl ⟨_, ho, rfl⟩ (by decide) F.sub_dict_bool F.slot_bool_eq F.slot_dict_eq_refl
    (fun _ hq => call_meets F.slot_bool_eq rfl F.entry_int_eq (F.args_int_eq_2 _ _) (bool_dd l es n b) ⟨ho, hq⟩)
    (fun _ hq => call_meets F.slot_dict_eq_refl ⟨_, ho, rfl⟩ F.entry_dict_eq (F.args_dict_eq_2 _ _) (dd_bool l es n b) ⟨ho, hq⟩)
    (fun _ hq => wpAny_of_eq (rfl : isSame (.bool b) (.ref l) = pure false) hq) (.inr hu) h
theorem dd_int (l : Addr) (es : Array DictEntry) (n : Nat) (b : Int) (u : Tok) :
    Meets (Builtin.«dict.__eq__» ⟨[.ref l, .int b u], []⟩) (fun _ R s => s.heap.get? l = some { cls := .type "dict", data := .dict es n } ∧ R (.ok (.ret .notImplemented)) s) :=
  .of_wp fun prog w A R s h => by obtain ⟨hp, g, d, tk, os⟩ := s; obtain ⟨hl, h⟩ := h; have f1 := F.sub_int_dict; wp_walk using wpAny_loadPart' hl; exact ⟨_, rfl, h⟩
theorem int_dd (l : Addr) (es : Array DictEntry) (n : Nat) (b : Int) (u : Tok) :
    Meets (Builtin.«int.__eq__» ⟨[.int b u, .ref l], []⟩) (fun _ R s => s.heap.get? l = some { cls := .type "dict", data := .dict es n } ∧ R (.ok (.ret .notImplemented)) s) :=
  .of_wp fun prog w A R s h => by obtain ⟨hp, g, d, tk, os⟩ := s; obtain ⟨hl, h⟩ := h; wp_walk using wpAny_loadPart' hl, wpAny_load hl; exact ⟨_, rfl, h⟩
theorem rc_dict_int' {A : Around} {s : Shared} {l : Addr} {es : Array DictEntry} {n : Nat} (b : Int) (u : Tok) (ho : s.heap.get? l = some { cls := .type "dict", data := .dict es n }) (hu : A.units < cLine) : RcAt A s (.ref l) (.int b u) false := fun prog w E Q h =>
  rc_eq_decline_or (k := false) ⟨_, ho, rfl⟩ (typeIs_int s b u) (by decide) F.sub_int_dict F.slot_dict_eq F.slot_int_eq_refl
    (fun _ hq => call_meets F.slot_dict_eq ⟨_, ho, rfl⟩ F.entry_dict_eq (F.args_dict_eq_2 _ _) (dd_int l es n b u) ⟨ho, hq⟩)
    (fun _ hq => call_meets F.slot_int_eq_refl (typeIs_int s b u) F.entry_int_eq (F.args_int_eq_2 _ _) (int_dd l es n b u) ⟨ho, hq⟩)
    (fun _ hq => wpAny_of_eq (rfl : isSame (.ref l) (.int b u) = pure false) hq) (.inr hu) h
theorem rc_int_dict' {A : Around} {s : Shared} {l : Addr} {es : Array DictEntry} {n : Nat} (b : Int) (u : Tok) (ho : s.heap.get? l = some { cls := .type "dict", data := .dict es n }) (hu : A.units < cLine) : RcAt A s (.int b u) (.ref l) false := fun prog w E Q h =>
  rc_eq_decline_or (k := false) (typeIs_int s b u) ⟨_, ho, rfl⟩ (by decide) F.sub_dict_int F.slot_int_eq F.slot_dict_eq_refl
    (fun _ hq => call_meets F.slot_int_eq (typeIs_int s b u) F.entry_int_eq (F.args_int_eq_2 _ _) (int_dd l es n b u) ⟨ho, hq⟩)
    (fun _ hq => call_meets F.slot_dict_eq_refl ⟨_, ho, rfl⟩ F.entry_dict_eq (F.args_dict_eq_2 _ _) (dd_int l es n b u) ⟨ho, hq⟩)
    (fun _ hq => wpAny_of_eq (rfl : isSame (.int b u) (.ref l) = pure false) hq) (.inr hu) h
theorem dd_str (l : Addr) (es : Array DictEntry) (n : Nat) (b : Str) (u : Tok) :
    Meets (Builtin.«dict.__eq__» ⟨[.ref l, .str b u], []⟩) (fun _ R s => s.heap.get? l = some { cls := .type "dict", data := .dict es n } ∧ R (.ok (.ret .notImplemented)) s) :=
  .of_wp fun prog w A R s h => by obtain ⟨hp, g, d, tk, os⟩ := s; obtain ⟨hl, h⟩ := h; have f1 := F.sub_str_dict; wp_walk using wpAny_loadPart' hl; exact ⟨_, rfl, h⟩
theorem str_dd (l : Addr) (es : Array DictEntry) (n : Nat) (b : Str) (u : Tok) :
    Meets (Builtin.«str.__eq__» ⟨[.str b u, .ref l], []⟩) (fun _ R s => s.heap.get? l = some { cls := .type "dict", data := .dict es n } ∧ R (.ok (.ret .notImplemented)) s) :=
  .of_wp fun prog w A R s h => by obtain ⟨hp, g, d, tk, os⟩ := s; obtain ⟨hl, h⟩ := h; wp_walk using wpAny_loadPart' hl, wpAny_load hl; exact ⟨_, rfl, h⟩
theorem rc_dict_str' {A : Around} {s : Shared} {l : Addr} {es : Array DictEntry} {n : Nat} (b : Str) (u : Tok) (ho : s.heap.get? l = some { cls := .type "dict", data := .dict es n }) (hu : A.units < cLine) : RcAt A s (.ref l) (.str b u) false := fun prog w E Q h =>
  rc_eq_decline_or (k := false) ⟨_, ho, rfl⟩ (typeIs_str s b u) (by decide) F.sub_str_dict F.slot_dict_eq F.slot_str_eq_refl
    (fun _ hq => call_meets F.slot_dict_eq ⟨_, ho, rfl⟩ F.entry_dict_eq (F.args_dict_eq_2 _ _) (dd_str l es n b u) ⟨ho, hq⟩)
    (fun _ hq => call_meets F.slot_str_eq_refl (typeIs_str s b u) F.entry_str_eq (F.args_str_eq_2 _ _) (str_dd l es n b u) ⟨ho, hq⟩)
    (fun _ hq => wpAny_of_eq (rfl : isSame (.ref l) (.str b u) = pure false) hq) (.inr hu) h
theorem rc_str_dict' {A : Around} {s : Shared} {l : Addr} {es : Array DictEntry} {n : Nat} (b : Str) (u : Tok) (ho : s.heap.get? l = some { cls := .type "dict", data := .dict es n }) (hu : A.units < cLine) : RcAt A s (.str b u) (.ref l) false := fun prog w E Q h =>
  rc_eq_decline_or (k := false) (typeIs_str s b u) ⟨_, ho, rfl⟩ (by decide) F.sub_dict_str F.slot_str_eq F.slot_dict_eq_refl
    (fun _ hq => call_meets F.slot_str_eq (typeIs_str s b u) F.entry_str_eq (F.args_str_eq_2 _ _) (str_dd l es n b u) ⟨ho, hq⟩)
    (fun _ hq => call_meets F.slot_dict_eq_refl ⟨_, ho, rfl⟩ F.entry_dict_eq (F.args_dict_eq_2 _ _) (dd_str l es n b u) ⟨ho, hq⟩)
    (fun _ hq => wpAny_of_eq (rfl : isSame (.str b u) (.ref l) = pure false) hq) (.inr hu) h
theorem dd_list (l b : Addr) (es : Array DictEntry) (n : Nat) (items : Array Value) (m : Nat) (dd : Option Addr) (sl : Array (Option Value)) :
    Meets (Builtin.«dict.__eq__» ⟨[.ref l, .ref b], []⟩) (fun _ R s => s.heap.get? l = some { cls := .type "dict", data := .dict es n } ∧ s.heap.get? b = some { cls := .type "list", dict := dd, data := .seq items m, slots := sl } ∧ R (.ok (.ret .notImplemented)) s) :=
  .of_wp fun prog w A R s h => by obtain ⟨hp, g, d, tk, os⟩ := s; obtain ⟨hl, hb, h⟩ := h; have f1 := F.sub_list_dict; wp_walk using wpAny_loadPart' hl, wpAny_loadPart' hb; exact ⟨_, rfl, h⟩
theorem list_dd (l b : Addr) (es : Array DictEntry) (n : Nat) (items : Array Value) (m : Nat) (dd : Option Addr) (sl : Array (Option Value)) :
    Meets (Builtin.«list.__eq__» ⟨[.ref b, .ref l], []⟩) (fun _ R s => s.heap.get? l = some { cls := .type "dict", data := .dict es n } ∧ s.heap.get? b = some { cls := .type "list", dict := dd, data := .seq items m, slots := sl } ∧ R (.ok (.ret .notImplemented)) s) :=
  .of_wp fun prog w A R s h => by obtain ⟨hp, g, d, tk, os⟩ := s; obtain ⟨hl, hb, h⟩ := h; have f1 := F.sub_dict_list; wp_walk using wpAny_loadPart' hl, wpAny_loadPart' hb; exact ⟨_, rfl, h⟩
theorem ne_dict_list {s : Shared} {l b : Addr} {es : Array DictEntry} {n : Nat} {items : Array Value} (ho : s.heap.get? l = some { cls := .type "dict", data := .dict es n }) (hb : s.heap.IsList b items) : l ≠ b := fun e => by
  subst e
  obtain ⟨o, h1, h2, _⟩ := hb
  rw [ho] at h1
  cases h1
  exact absurd h2 (by simp)
theorem rc_dict_list' {A : Around} {s : Shared} {l b : Addr} {es : Array DictEntry} {n : Nat} {items : Array Value} (ho : s.heap.get? l = some { cls := .type "dict", data := .dict es n }) (hb : s.heap.IsList b items) (hu : A.units < cLine) : RcAt A s (.ref l) (.ref b) false := fun prog w E Q h => by
  have hne := ne_dict_list ho hb
  obtain ⟨⟨cls, dd, data, sl⟩, ho2, hc, m, hd⟩ := id hb
  simp only at hc hd
  subst hc hd
  exact rc_eq_decline_or (k := false) ⟨_, ho, rfl⟩ ⟨_, ho2, rfl⟩ (by decide) F.sub_list_dict F.slot_dict_eq F.slot_list_eq_refl
    (fun _ hq => call_meets F.slot_dict_eq ⟨_, ho, rfl⟩ F.entry_dict_eq (F.args_dict_eq_2 _ _) (dd_list l b es n items m dd sl) ⟨ho, ho2, hq⟩)
    (fun _ hq => call_meets F.slot_list_eq_refl ⟨_, ho2, rfl⟩ F.entry_list_eq (F.args_list_eq_2 _ _) (list_dd l b es n items m dd sl) ⟨ho, ho2, hq⟩)
    (fun _ hq => wpAny_isSame_ref_other hne ho ho2 (by simp) hq) (.inr hu) h
theorem rc_list_dict' {A : Around} {s : Shared} {l b : Addr} {es : Array DictEntry} {n : Nat} {items : Array Value} (ho : s.heap.get? l = some { cls := .type "dict", data := .dict es n }) (hb : s.heap.IsList b items) (hu : A.units < cLine) : RcAt A s (.ref b) (.ref l) false := fun prog w E Q h => by
  have hne := ne_dict_list ho hb
  obtain ⟨⟨cls, dd, data, sl⟩, ho2, hc, m, hd⟩ := id hb
  simp only at hc hd
  subst hc hd
  exact rc_eq_decline_or (k := false) ⟨_, ho2, rfl⟩ ⟨_, ho, rfl⟩ (by decide) F.sub_dict_list F.slot_list_eq F.slot_dict_eq_refl
    (fun _ hq => call_meets F.slot_list_eq ⟨_, ho2, rfl⟩ F.entry_list_eq (F.args_list_eq_2 _ _) (list_dd l b es n items m dd sl) ⟨ho, ho2, hq⟩)
    (fun _ hq => call_meets F.slot_dict_eq_refl ⟨_, ho, rfl⟩ F.entry_dict_eq (F.args_dict_eq_2 _ _) (dd_list l b es n items m dd sl) ⟨ho, ho2, hq⟩)
    (fun _ hq => wpAny_isSame_ref_other' hne.symm ho2 ho (by simp) hq) (.inr hu) h
theorem dd_tuple (l b : Addr) (es : Array DictEntry) (n : Nat) (items : Array Value) (m : Nat) (dd : Option Addr) (sl : Array (Option Value)) :
    Meets (Builtin.«dict.__eq__» ⟨[.ref l, .ref b], []⟩) (fun _ R s => s.heap.get? l = some { cls := .type "dict", data := .dict es n } ∧ s.heap.get? b = some { cls := .type "tuple", dict := dd, data := .seq items m, slots := sl } ∧ R (.ok (.ret .notImplemented)) s) :=
  .of_wp fun prog w A R s h => by obtain ⟨hp, g, d, tk, os⟩ := s; obtain ⟨hl, hb, h⟩ := h; have f1 := F.sub_tuple_dict; wp_walk using wpAny_loadPart' hl, wpAny_loadPart' hb; exact ⟨_, rfl, h⟩
theorem tuple_dd (l b : Addr) (es : Array DictEntry) (n : Nat) (items : Array Value) (m : Nat) (dd : Option Addr) (sl : Array (Option Value)) :
    Meets (Builtin.«tuple.__eq__» ⟨[.ref b, .ref l], []⟩) (fun _ R s => s.heap.get? l = some { cls := .type "dict", data := .dict es n } ∧ s.heap.get? b = some { cls := .type "tuple", dict := dd, data := .seq items m, slots := sl } ∧ R (.ok (.ret .notImplemented)) s) :=
  .of_wp fun prog w A R s h => by obtain ⟨hp, g, d, tk, os⟩ := s; obtain ⟨hl, hb, h⟩ := h; have f1 := F.sub_dict_tuple; wp_walk using wpAny_loadPart' hl, wpAny_loadPart' hb; exact ⟨_, rfl, h⟩
theorem ne_dict_tuple {s : Shared} {l b : Addr} {es : Array DictEntry} {n : Nat} {items : Array Value} (ho : s.heap.get? l = some { cls := .type "dict", data := .dict es n }) (hb : s.heap.IsTuple b items) : l ≠ b := fun e => by
  subst e
  obtain ⟨o, h1, h2, _⟩ := hb
  rw [ho] at h1
  cases h1
  exact absurd h2 (by simp)
theorem rc_dict_tuple' {A : Around} {s : Shared} {l b : Addr} {es : Array DictEntry} {n : Nat} {items : Array Value} (ho : s.heap.get? l = some { cls := .type "dict", data := .dict es n }) (hb : s.heap.IsTuple b items) (hu : A.units < cLine) : RcAt A s (.ref l) (.ref b) false := fun prog w E Q h => by
  have hne := ne_dict_tuple ho hb
  obtain ⟨⟨cls, dd, data, sl⟩, ho2, hc, m, hd⟩ := id hb
  simp only at hc hd
  subst hc hd
  exact rc_eq_decline_or (k := false) ⟨_, ho, rfl⟩ ⟨_, ho2, rfl⟩ (by decide) F.sub_tuple_dict F.slot_dict_eq F.slot_tuple_eq_refl
    (fun _ hq => call_meets F.slot_dict_eq ⟨_, ho, rfl⟩ F.entry_dict_eq (F.args_dict_eq_2 _ _) (dd_tuple l b es n items m dd sl) ⟨ho, ho2, hq⟩)
    (fun _ hq => call_meets F.slot_tuple_eq_refl ⟨_, ho2, rfl⟩ F.entry_tuple_eq (F.args_tuple_eq_2 _ _) (tuple_dd l b es n items m dd sl) ⟨ho, ho2, hq⟩)
    (fun _ hq => wpAny_isSame_ref_other hne ho ho2 (by simp) hq) (.inr hu) h
theorem rc_tuple_dict' {A : Around} {s : Shared} {l b : Addr} {es : Array DictEntry} {n : Nat} {items : Array Value} (ho : s.heap.get? l = some { cls := .type "dict", data := .dict es n }) (hb : s.heap.IsTuple b items) (hu : A.units < cLine) : RcAt A s (.ref b) (.ref l) false := fun prog w E Q h => by
  have hne := ne_dict_tuple ho hb
  obtain ⟨⟨cls, dd, data, sl⟩, ho2, hc, m, hd⟩ := id hb
  simp only at hc hd
  subst hc hd
  exact rc_eq_decline_or (k := false) ⟨_, ho2, rfl⟩ ⟨_, ho, rfl⟩ (by decide) F.sub_dict_tuple F.slot_tuple_eq F.slot_dict_eq_refl
    (fun _ hq => call_meets F.slot_tuple_eq ⟨_, ho2, rfl⟩ F.entry_tuple_eq (F.args_tuple_eq_2 _ _) (tuple_dd l b es n items m dd sl) ⟨ho, ho2, hq⟩)
    (fun _ hq => call_meets F.slot_dict_eq_refl ⟨_, ho, rfl⟩ F.entry_dict_eq (F.args_dict_eq_2 _ _) (dd_tuple l b es n items m dd sl) ⟨ho, ho2, hq⟩)
    (fun _ hq => wpAny_isSame_ref_other' hne.symm ho2 ho (by simp) hq) (.inr hu) h
theorem eqAt_rc {A : Around} {s : Shared} {v u : Value} {k : Bool} (hv : v = .none ∨ (∃ b, v = .bool b) ∨ (∃ i t, v = .int i t) ∨ (∃ i t, v = .str i t) ∨ ∃ a, v = .ref a) (hne : (v == u) = false) (h : RcAt A s v u k) : EqAt A s v u k := fun prog w E Q hq => by
  unfold eqBool
  refine wpAny_holding ?_
  refine wpAny_ite_split (fun hab => absurd hab (by rw [hne]; decide)) (fun _ => ?_)
  rcases hv with rfl | ⟨_, rfl⟩ | ⟨_, _, rfl⟩ | ⟨_, _, rfl⟩ | ⟨_, rfl⟩ <;> exact wpAny_bind (h prog w E _ (wpAny_truthy_bool hq))
/-- what a value is, whatever it is -/
inductive Shp (P : Program) (w : World) (s : Shared) : PyData → Value → Prop
  | non : Shp P w s .none .none
  | bl (t : Bool) : Shp P w s (.bool t) (.bool t)
  | int (n : Int) (t : Tok) : Shp P w s (.int n) (.int n t)
  | str (z : Str) (t : Tok) : Shp P w s (.str z) (.str z t)
  | lst {r : Addr} {its : Array Value} {es : List PyData} (at_ : s.heap.IsList r its) : Shp P w s (.list es) (.ref r)
  | tup {r : Addr} {its : Array Value} {es : List PyData} (at_ : s.heap.IsTuple r its) : Shp P w s (.tuple es) (.ref r)
  | dct {r : Addr} {es : Array DictEntry} {n : Nat} {ds : List (PyData × PyData)} (at_ : s.heap.get? r = some { cls := .type "dict", data := .dict es n }) : Shp P w s (.dict ds) (.ref r)
end
section
open PySem.SeqAt PySem.W
variable {X : Cx} {pins : List (Addr × Obj)} {σ : L2.St} {H : Hp} {s : Shared}
theorem dct_at (I : Inv X pins σ H s) {r : Addr} {ms : List (Int × Int)} (h : H r = some (.dK (dictK ms))) : ∃ es n, s.heap.get? r = some { cls := .type "dict", data := .dict es n } := by
  obtain ⟨⟨oc, od, oda, osl⟩, es, n, g, ⟨e1, e2, e3⟩, e4, _, _⟩ := dct_reads I h
  dsimp only at e1 e2 e3 e4
  subst e1 e2 e3 e4
  exact ⟨es, n, g⟩
theorem dp_shp (I : Inv X pins σ H s) {d : PyData} {x : V} {v : Value} (h : Dp X.K H x d) (r : RelV x v) : Shp X.prog X.w s d v := by
  cases h with
  | non => cases r; exact .non
  | bl b => cases r; exact .bl b
  | int i => obtain ⟨t, rfl⟩ := r; exact .int i t
  | str z => obtain ⟨t, rfl⟩ := r; exact .str z t
  | lst at_ each => cases r; obtain ⟨its, rv, pl, _⟩ := I.list at_; exact .lst pl.isList
  | tup at_ each => cases r; obtain ⟨its, rv, pl, _⟩ := I.tuple at_; exact .tup pl
  | dct at_ => cases r; obtain ⟨es, n, g⟩ := dct_at I at_; exact .dct g
def sameD : PyData → PyData → Bool
  | .list _, .list _ => true
  | .tuple _, .tuple _ => true
  | .dict _, .dict _ => true
  | _, _ => false
theorem shp_rc {P : Program} {w : World} {d e : PyData} {v u : Value} (hd : Shp P w s d v) (he : Shp P w s e u) (hn : sameD d e = false) : ∃ k, (∀ i j, d = .int i → e = .int j → k = decide (i = j)) ∧ ∀ A : Around, A.units < cLine → RcAt A s v u k := by
  cases hd with
  | non =>
    cases he with
    | non => exact ⟨_, (fun i j e1 e2 => by cases e1), fun A hu => SeqAt.RcAt.none_none⟩
    | bl a2 => exact ⟨_, (fun i j e1 e2 => by first | (cases e1; done) | (cases e2; done)), fun A hu => SeqAt.RcAt.none_bool  a2⟩
    | int a2 t2 => exact ⟨_, (fun i j e1 e2 => by first | (cases e1; done) | (cases e2; done)), fun A hu => SeqAt.RcAt.none_int  a2 t2⟩
    | str a2 t2 => exact ⟨_, (fun i j e1 e2 => by first | (cases e1; done) | (cases e2; done)), fun A hu => SeqAt.RcAt.none_str  a2 t2⟩
    | lst h2 => exact ⟨_, (fun i j e1 e2 => by first | (cases e1; done) | (cases e2; done)), fun A hu => SeqAt.RcAt.none_list  h2 hu⟩
    | tup h2 => exact ⟨_, (fun i j e1 e2 => by first | (cases e1; done) | (cases e2; done)), fun A hu => SeqAt.RcAt.none_tuple  h2 hu⟩
    | dct h2 => exact ⟨_, (fun i j e1 e2 => by first | (cases e1; done) | (cases e2; done)), fun A hu => rc_none_dict'  h2 hu⟩
  | bl a1 =>
    cases he with
    | non => exact ⟨_, (fun i j e1 e2 => by first | (cases e1; done) | (cases e2; done)), fun A hu => SeqAt.RcAt.bool_none a1 ⟩
    | bl a2 => exact ⟨_, (fun i j e1 e2 => by first | (cases e1; done) | (cases e2; done)), fun A hu => SeqAt.RcAt.bool_bool a1 a2⟩
    | int a2 t2 => exact ⟨_, (fun i j e1 e2 => by first | (cases e1; done) | (cases e2; done)), fun A hu => SeqAt.RcAt.bool_int a1 a2 t2⟩
    | str a2 t2 => exact ⟨_, (fun i j e1 e2 => by first | (cases e1; done) | (cases e2; done)), fun A hu => SeqAt.RcAt.bool_str a1 a2 t2⟩
    | lst h2 => exact ⟨_, (fun i j e1 e2 => by first | (cases e1; done) | (cases e2; done)), fun A hu => SeqAt.RcAt.bool_list a1 h2 hu⟩
    | tup h2 => exact ⟨_, (fun i j e1 e2 => by first | (cases e1; done) | (cases e2; done)), fun A hu => SeqAt.RcAt.bool_tuple a1 h2 hu⟩
    | dct h2 => exact ⟨_, (fun i j e1 e2 => by first | (cases e1; done) | (cases e2; done)), fun A hu => rc_bool_dict' a1 h2 hu⟩
  | int a1 t1 =>
    cases he with
    | non => exact ⟨_, (fun i j e1 e2 => by first | (cases e1; done) | (cases e2; done)), fun A hu => SeqAt.RcAt.int_none a1 t1 ⟩
    | bl a2 => exact ⟨_, (fun i j e1 e2 => by first | (cases e1; done) | (cases e2; done)), fun A hu => SeqAt.RcAt.int_bool a1 t1 a2⟩
    | int a2 t2 => exact ⟨_, (fun i j e1 e2 => by cases e1; cases e2; show _ = decide _; rw [Bool.eq_iff_iff]; simp), fun A hu => SeqAt.RcAt.int_int a1 t1 a2 t2⟩
    | str a2 t2 => exact ⟨_, (fun i j e1 e2 => by first | (cases e1; done) | (cases e2; done)), fun A hu => SeqAt.RcAt.int_str a1 t1 a2 t2⟩
    | lst h2 => exact ⟨_, (fun i j e1 e2 => by first | (cases e1; done) | (cases e2; done)), fun A hu => SeqAt.RcAt.int_list a1 t1 h2 hu⟩
    | tup h2 => exact ⟨_, (fun i j e1 e2 => by first | (cases e1; done) | (cases e2; done)), fun A hu => SeqAt.RcAt.int_tuple a1 t1 h2 hu⟩
    | dct h2 => exact ⟨_, (fun i j e1 e2 => by first | (cases e1; done) | (cases e2; done)), fun A hu => rc_int_dict' a1 t1 h2 hu⟩
  | str a1 t1 =>
    cases he with
    | non => exact ⟨_, (fun i j e1 e2 => by first | (cases e1; done) | (cases e2; done)), fun A hu => SeqAt.RcAt.str_none a1 t1 ⟩
    | bl a2 => exact ⟨_, (fun i j e1 e2 => by first | (cases e1; done) | (cases e2; done)), fun A hu => SeqAt.RcAt.str_bool a1 t1 a2⟩
    | int a2 t2 => exact ⟨_, (fun i j e1 e2 => by first | (cases e1; done) | (cases e2; done)), fun A hu => SeqAt.RcAt.str_int a1 t1 a2 t2⟩
    | str a2 t2 => exact ⟨_, (fun i j e1 e2 => by first | (cases e1; done) | (cases e2; done)), fun A hu => SeqAt.RcAt.str_str a1 t1 a2 t2⟩
    | lst h2 => exact ⟨_, (fun i j e1 e2 => by first | (cases e1; done) | (cases e2; done)), fun A hu => SeqAt.RcAt.str_list a1 t1 h2 hu⟩
    | tup h2 => exact ⟨_, (fun i j e1 e2 => by first | (cases e1; done) | (cases e2; done)), fun A hu => SeqAt.RcAt.str_tuple a1 t1 h2 hu⟩
    | dct h2 => exact ⟨_, (fun i j e1 e2 => by first | (cases e1; done) | (cases e2; done)), fun A hu => rc_str_dict' a1 t1 h2 hu⟩
  | lst h1 =>
    cases he with
    | non => exact ⟨_, (fun i j e1 e2 => by first | (cases e1; done) | (cases e2; done)), fun A hu => SeqAt.RcAt.list_none  h1 hu⟩
    | bl a2 => exact ⟨_, (fun i j e1 e2 => by first | (cases e1; done) | (cases e2; done)), fun A hu => SeqAt.RcAt.list_bool a2 h1 hu⟩
    | int a2 t2 => exact ⟨_, (fun i j e1 e2 => by first | (cases e1; done) | (cases e2; done)), fun A hu => SeqAt.RcAt.list_int a2 t2 h1 hu⟩
    | str a2 t2 => exact ⟨_, (fun i j e1 e2 => by first | (cases e1; done) | (cases e2; done)), fun A hu => SeqAt.RcAt.list_str a2 t2 h1 hu⟩
    | lst h2 => exact absurd hn (by simp [sameD])
    | tup h2 => exact ⟨_, (fun i j e1 e2 => by first | (cases e1; done) | (cases e2; done)), fun A hu => SeqAt.RcAt.list_tuple h1 h2 hu⟩
    | dct h2 => exact ⟨_, (fun i j e1 e2 => by first | (cases e1; done) | (cases e2; done)), fun A hu => rc_list_dict' h2 h1 hu⟩
  | tup h1 =>
    cases he with
    | non => exact ⟨_, (fun i j e1 e2 => by first | (cases e1; done) | (cases e2; done)), fun A hu => SeqAt.RcAt.tuple_none  h1 hu⟩
    | bl a2 => exact ⟨_, (fun i j e1 e2 => by first | (cases e1; done) | (cases e2; done)), fun A hu => SeqAt.RcAt.tuple_bool a2 h1 hu⟩
    | int a2 t2 => exact ⟨_, (fun i j e1 e2 => by first | (cases e1; done) | (cases e2; done)), fun A hu => SeqAt.RcAt.tuple_int a2 t2 h1 hu⟩
    | str a2 t2 => exact ⟨_, (fun i j e1 e2 => by first | (cases e1; done) | (cases e2; done)), fun A hu => SeqAt.RcAt.tuple_str a2 t2 h1 hu⟩
    | lst h2 => exact ⟨_, (fun i j e1 e2 => by first | (cases e1; done) | (cases e2; done)), fun A hu => SeqAt.RcAt.tuple_list h1 h2 hu⟩
    | tup h2 => exact absurd hn (by simp [sameD])
    | dct h2 => exact ⟨_, (fun i j e1 e2 => by first | (cases e1; done) | (cases e2; done)), fun A hu => rc_tuple_dict' h2 h1 hu⟩
  | dct h1 =>
    cases he with
    | non => exact ⟨_, (fun i j e1 e2 => by first | (cases e1; done) | (cases e2; done)), fun A hu => rc_dict_none'  h1 hu⟩
    | bl a2 => exact ⟨_, (fun i j e1 e2 => by first | (cases e1; done) | (cases e2; done)), fun A hu => rc_dict_bool' a2 h1 hu⟩
    | int a2 t2 => exact ⟨_, (fun i j e1 e2 => by first | (cases e1; done) | (cases e2; done)), fun A hu => rc_dict_int' a2 t2 h1 hu⟩
    | str a2 t2 => exact ⟨_, (fun i j e1 e2 => by first | (cases e1; done) | (cases e2; done)), fun A hu => rc_dict_str' a2 t2 h1 hu⟩
    | lst h2 => exact ⟨_, (fun i j e1 e2 => by first | (cases e1; done) | (cases e2; done)), fun A hu => rc_dict_list' h1 h2 hu⟩
    | tup h2 => exact ⟨_, (fun i j e1 e2 => by first | (cases e1; done) | (cases e2; done)), fun A hu => rc_dict_tuple' h1 h2 hu⟩
    | dct h2 => exact absurd hn (by simp [sameD])
theorem shp_eq {P : Program} {w : World} {d e : PyData} {v u : Value} (hd : Shp P w s d v) (he : Shp P w s e u) (hn : sameD d e = false) : ∃ k, ∀ A : Around, A.units < cLine → EqAt A s v u k := by
  by_cases hvu : (v == u) = true
  · obtain rfl : v = u := eq_of_beq hvu
    exact ⟨true, fun A _ => .same v⟩
  · obtain ⟨k, _, h⟩ := shp_rc hd he hn
    exact ⟨k, fun A hu => eqAt_rc (by cases hd <;> simp) (Bool.eq_false_iff.mpr hvu) (h A hu)⟩
theorem valK {ms : List (Int × Int)} {vs : List (Key × Value)} (r : KV (dictK ms) vs) : ∀ k v, (k, v) ∈ vs → ∃ i t, v = .int i t := by
  induction ms generalizing vs with
  | nil =>
    cases r
    intro k v h
    cases h
  | cons m ms ih =>
    cases r with
    | cons h1 h2 =>
      intro k v h
      rcases List.mem_cons.mp h with h | h
      · obtain ⟨_, t, e⟩ := h1
        rw [← h] at e
        exact ⟨_, t, e⟩
      · exact ih h2 k v h
theorem valK' {ms : List (Int × Int)} {vs : List (Key × Value)} (r : KV (dictK ms) vs) {k : Key} {y : Value} (h : valueAt vs k = some y) : ∃ i t, y = .int i t := by
  unfold valueAt at h
  cases hf : vs.find? (fun p => decide (p.1 = k)) with
  | none => simp [hf] at h
  | some p =>
    have e : p.2 = y := by simpa [hf] using h
    obtain ⟨i, t, q⟩ := valK r p.1 p.2 (List.mem_of_find?_eq_some hf)
    exact ⟨i, t, e ▸ q⟩
theorem nodupL {vs : List (Key × Value)} (hn : (vs.map (·.1)).Nodup) {k : Key} {v v' : Value} (h : (k, v) ∈ vs) (h' : (k, v') ∈ vs) : v = v' := by
  induction vs with
  | nil => cases h
  | cons p vs ih =>
    rw [List.map_cons, List.nodup_cons] at hn
    rcases List.mem_cons.mp h with e | e <;> rcases List.mem_cons.mp h' with e' | e'
    · rw [← e] at e'; cases e'; rfl
    · exact absurd (List.mem_map.mpr ⟨_, e', by rw [← e]⟩) hn.1
    · exact absurd (List.mem_map.mpr ⟨_, e, by rw [← e']⟩) hn.1
    · exact ih hn.2 e e'
theorem nodupK {P : Program} {w : World} {h : Heap} {a : Addr} {vs : List (Key × Value)} (p : h.DictOf (mixKind P w) a vs) {k : Key} {v v' : Value} (h1 : (k, v) ∈ vs) (h2 : (k, v') ∈ vs) : v = v' := by
  obtain ⟨_, _, _, _, _, _, _, _, hn⟩ := p
  exact nodupL hn h1 h2
theorem dpAll_at {H : Hp} {K : PySem.W.Frag} {es : List PyData} {ys : List V} {us : List Value} (h : DpAll K H ys es) (r : Vals ys us) {j : Nat} (hj : j < us.toArray.size) : ∃ y e, Dp K H y e ∧ RelV y us.toArray[j] ∧ e ∈ es := by
  have hj' : j < us.length := by simpa using hj
  have l1 := r.length
  have l2 := dpAll_len h
  obtain ⟨e, he⟩ : ∃ e, es[j]? = some e := ⟨es[j]'(by omega), by simp⟩
  obtain ⟨y, hy, hd⟩ := dpAll_get h he
  obtain ⟨u, hu, ru⟩ := r.get hy
  refine ⟨y, e, hd, ?_, List.mem_of_getElem? he⟩
  rw [List.getElem?_eq_getElem hj'] at hu
  cases hu
  simpa using ru
theorem dAll_mem : ∀ {l : List PyData} {z : PyData}, z ∈ l → z.depth ≤ PyData.depthAll l
  | [], z, h => by cases h
  | e :: l, z, h => by
    rcases List.mem_cons.mp h with rfl | h
    · simp only [PyData.depthAll]; omega
    · have := dAll_mem h
      simp only [PyData.depthAll]; omega
theorem int_tree {n : Nat} {v u : Value} (h1 : ∃ i t, v = .int i t) (h2 : ∃ i t, u = .int i t) : ∃ b, EqTree X.prog X.w s n v u b := by
  obtain ⟨i, t, rfl⟩ := h1
  obtain ⟨j, t', rfl⟩ := h2
  exact ⟨_, .leaf fun A hu => .int_int i t j t'⟩
/-- the choice of an answer at each place -/
theorem eq_tree (I : Inv X pins σ H s) : ∀ (n : Nat) (d e : PyData) (x y : V) (v u : Value), d.depth ≤ n → Dp X.K H x d → Dp X.K H y e → RelV x v → RelV y u → ∃ b, EqTree X.prog X.w s n v u b := by
  intro n
  induction n with
  | zero =>
    intro d e x y v u hn hd he rx ry
    have sx := dp_shp I hd rx
    have sy := dp_shp I he ry
    have nd : sameD d e = false := by cases d <;> cases e <;> first | rfl | (simp only [PyData.depth] at hn; omega)
    obtain ⟨k, h⟩ := shp_eq sx sy nd
    exact ⟨k, .leaf fun A hu => h A (by omega)⟩
  | succ n ih =>
    intro d e x y v u hn hd he rx ry
    have sx := dp_shp I hd rx
    have sy := dp_shp I he ry
    by_cases nd : sameD d e = false
    · obtain ⟨k, h⟩ := shp_eq sx sy nd
      exact ⟨k, .leaf fun A hu => h A (by omega)⟩
    by_cases hvu : v = u
    · subst hvu
      exact ⟨true, .same⟩
    cases hd with
    | lst a1 e1 =>
      cases he with
      | lst a2 e2 =>
        cases rx
        cases ry
        obtain ⟨its, rv, pl, _⟩ := I.list a1
        obtain ⟨its2, rv2, pl2, _⟩ := I.list a2
        have hne : _ ≠ _ := fun z => hvu (congrArg Value.ref z)
        by_cases hsz : its.toArray.size = its2.toArray.size
        · have ch : ∀ j, ∃ b, ∀ (h1 : j < its.toArray.size) (h2 : j < its2.toArray.size), EqTree X.prog X.w s n its.toArray[j] its2.toArray[j] b := fun j => by
            by_cases h1 : j < its.toArray.size
            · have h2 : j < its2.toArray.size := hsz ▸ h1
              obtain ⟨y1, d1, q1, r1, m1⟩ := dpAll_at e1 rv h1
              obtain ⟨y2, d2, q2, r2, m2⟩ := dpAll_at e2 rv2 h2
              obtain ⟨b, t⟩ := ih d1 d2 y1 y2 _ _ (by have := dAll_mem m1; simp only [PyData.depth] at hn; omega) q1 q2 r1 r2
              exact ⟨b, fun _ _ => t⟩
            · exact ⟨true, fun z => absurd z h1⟩
          exact ⟨_, .lists (e := fun j => (ch j).choose) hne pl.isList pl2.isList hsz fun j h1 h2 => (ch j).choose_spec h1 h2⟩
        · exact ⟨false, .listsLen hne pl.isList pl2.isList (by simpa using hsz)⟩
      | _ => exact absurd rfl nd
    | tup a1 e1 =>
      cases he with
      | tup a2 e2 =>
        cases rx
        cases ry
        obtain ⟨its, rv, pl, _⟩ := I.tuple a1
        obtain ⟨its2, rv2, pl2, _⟩ := I.tuple a2
        have hne : _ ≠ _ := fun z => hvu (congrArg Value.ref z)
        have ch : ∀ j, ∃ b, ∀ (h1 : j < its.toArray.size) (h2 : j < its2.toArray.size), EqTree X.prog X.w s n its.toArray[j] its2.toArray[j] b := fun j => by
          by_cases h : j < its.toArray.size ∧ j < its2.toArray.size
          · obtain ⟨h1, h2⟩ := h
            obtain ⟨y1, d1, q1, r1, m1⟩ := dpAll_at e1 rv h1
            obtain ⟨y2, d2, q2, r2, m2⟩ := dpAll_at e2 rv2 h2
            obtain ⟨b, t⟩ := ih d1 d2 y1 y2 _ _ (by have := dAll_mem m1; simp only [PyData.depth] at hn; omega) q1 q2 r1 r2
            exact ⟨b, fun _ _ => t⟩
          · exact ⟨true, fun z z' => absurd ⟨z, z'⟩ h⟩
        exact ⟨_, .tuples (e := fun j => (ch j).choose) hne pl pl2 fun j h1 h2 => (ch j).choose_spec h1 h2⟩
      | _ => exact absurd rfl nd
    | dct a1 =>
      cases he with
      | dct a2 =>
        cases rx
        cases ry
        obtain ⟨_, ns1, vs1, kv1, p1⟩ := (show ObjOk X.prog X.w H s.heap _ (.dK _) from I.hok _ _ a1)
        obtain ⟨_, ns2, vs2, kv2, p2⟩ := (show ObjOk X.prog X.w H s.heap _ (.dK _) from I.hok _ _ a2)
        have hne : _ ≠ _ := fun z => hvu (congrArg Value.ref z)
        have ch : ∀ k, ∃ b, ∀ v y, (k, v) ∈ vs1 → valueAt vs2 k = some y → EqTree X.prog X.w s n v y b := fun k => by
          by_cases h : ∃ v y, (k, v) ∈ vs1 ∧ valueAt vs2 k = some y
          · obtain ⟨v, y, h1, h2⟩ := h
            obtain ⟨i, t, rfl⟩ := valK kv1 k v h1
            obtain ⟨j, t2, rfl⟩ := valK' kv2 h2
            refine ⟨i == j, fun v' y' h1' h2' => ?_⟩
            rw [h2] at h2'
            cases h2'
            have ev : v' = .int i t := nodupK p1 h1' h1
            subst ev
            exact .leaf fun A hu => .int_int i t j t2
          · exact ⟨true, fun v y h1 h2 => absurd ⟨v, y, h1, h2⟩ h⟩
        exact ⟨_, .dicts (e := fun k => (ch k).choose) hne ns1 ns2 p1 p2 fun k v y h1 h2 => (ch k).choose_spec v y h1 h2⟩
      | _ => exact absurd rfl nd
    | _ => exact absurd rfl (by first | exact nd | (cases he <;> exact nd))
/-- any data against any data; of whole numbers the truth is known -/
def rEqA (K : PySem.W.Frag) : R2 := fun x y H Q => ∃ d e, Dp K H x d ∧ Dp K H y e ∧ d.depth ≤ 60 ∧ ∀ b, (∀ i j, d = .int i → e = .int j → b = decide (i = j)) → Q (.bl b) H
theorem op_eqA (hu : X.A.units + 64 < cLine) : OpR X (compareOp .Eq) (rEqA X.K) := by
  intro pins s σ H x y v u Q I rx ry h
  obtain ⟨d, e, hd, he, hn, q⟩ := h
  have sx := dp_shp I hd rx
  have sy := dp_shp I he ry
  have fin : ∀ b, sameD d e = true → Q (.bl b) H := fun b z => q b fun i j e1 e2 => by subst e1; cases z
  by_cases nd : sameD d e = false
  · obtain ⟨k, hk, rc⟩ := shp_rc sx sy nd
    exact rc X.A (by omega) X.prog X.w _ _ ⟨.bl k, H, I, rfl, q k hk⟩
  have nd : sameD d e = true := by simpa using nd
  cases hd with
  | lst a1 e1 =>
    cases he with
    | lst a2 e2 =>
      cases rx
      cases ry
      obtain ⟨its, rv, pl, _⟩ := I.list a1
      obtain ⟨its2, rv2, pl2, _⟩ := I.list a2
      by_cases hsz : its.toArray.size = its2.toArray.size
      · have ch : ∀ j, ∃ b, ∀ (h1 : j < its.toArray.size) (h2 : j < its2.toArray.size), EqTree X.prog X.w s 60 its.toArray[j] its2.toArray[j] b := fun j => by
          by_cases h1 : j < its.toArray.size
          · have h2 : j < its2.toArray.size := hsz ▸ h1
            obtain ⟨y1, d1, q1, r1, m1⟩ := dpAll_at e1 rv h1
            obtain ⟨y2, d2, q2, r2, m2⟩ := dpAll_at e2 rv2 h2
            obtain ⟨b, t⟩ := eq_tree I 60 d1 d2 y1 y2 _ _ (by have := dAll_mem m1; simp only [PyData.depth] at hn; omega) q1 q2 r1 r2
            exact ⟨b, fun _ _ => t⟩
          · exact ⟨true, fun z => absurd z h1⟩
        exact eq_listsT (n := 60) (e := fun j => (ch j).choose) pl.isList pl2.isList hsz (fun j h1 h2 => (ch j).choose_spec h1 h2) (by omega) ⟨.bl _, H, I, rfl, fin _ rfl⟩
      · exact RcAt.lists_lengths pl.isList pl2.isList (by simpa using hsz) (by omega) X.prog X.w _ _ ⟨.bl _, H, I, rfl, fin _ rfl⟩
    | _ => cases nd
  | tup a1 e1 =>
    cases he with
    | tup a2 e2 =>
      cases rx
      cases ry
      obtain ⟨its, rv, pl, _⟩ := I.tuple a1
      obtain ⟨its2, rv2, pl2, _⟩ := I.tuple a2
      have ch : ∀ j, ∃ b, ∀ (h1 : j < its.toArray.size) (h2 : j < its2.toArray.size), EqTree X.prog X.w s 60 its.toArray[j] its2.toArray[j] b := fun j => by
        by_cases h : j < its.toArray.size ∧ j < its2.toArray.size
        · obtain ⟨h1, h2⟩ := h
          obtain ⟨y1, d1, q1, r1, m1⟩ := dpAll_at e1 rv h1
          obtain ⟨y2, d2, q2, r2, m2⟩ := dpAll_at e2 rv2 h2
          obtain ⟨b, t⟩ := eq_tree I 60 d1 d2 y1 y2 _ _ (by have := dAll_mem m1; simp only [PyData.depth] at hn; omega) q1 q2 r1 r2
          exact ⟨b, fun _ _ => t⟩
        · exact ⟨true, fun z z' => absurd ⟨z, z'⟩ h⟩
      exact eq_tuplesT (n := 60) (e := fun j => (ch j).choose) pl pl2 (fun j h1 h2 => (ch j).choose_spec h1 h2) (by omega) ⟨.bl _, H, I, rfl, fin _ rfl⟩
    | _ => cases nd
  | dct a1 =>
    cases he with
    | dct a2 =>
      cases rx
      cases ry
      obtain ⟨_, ns1, vs1, kv1, p1⟩ := (show ObjOk X.prog X.w H s.heap _ (.dK _) from I.hok _ _ a1)
      obtain ⟨_, ns2, vs2, kv2, p2⟩ := (show ObjOk X.prog X.w H s.heap _ (.dK _) from I.hok _ _ a2)
      have ch : ∀ k, ∃ b, ∀ v y, (k, v) ∈ vs1 → valueAt vs2 k = some y → EqTree X.prog X.w s 60 v y b := fun k => by
        by_cases h : ∃ v y, (k, v) ∈ vs1 ∧ valueAt vs2 k = some y
        · obtain ⟨v, y, h1, h2⟩ := h
          obtain ⟨i, t, rfl⟩ := valK kv1 k v h1
          obtain ⟨j, t2, rfl⟩ := valK' kv2 h2
          refine ⟨i == j, fun v' y' h1' h2' => ?_⟩
          rw [h2] at h2'
          cases h2'
          have ev : v' = .int i t := nodupK p1 h1' h1
          subst ev
          exact .leaf fun A hu => .int_int i t j t2
        · exact ⟨true, fun v y h1 h2 => absurd ⟨v, y, h1, h2⟩ h⟩
      exact eq_dictsT (n := 60) (e := fun k => (ch k).choose) ns1 ns2 p1 p2 (fun k v y h1 h2 => (ch k).choose_spec v y h1 h2) (by omega) ⟨.bl _, H, I, rfl, fin _ rfl⟩
    | _ => cases nd
  | _ => cases nd
def isStrD (z : Str) : PyData → Bool
  | .str y => decide (y = z)
  | _ => false
def inTq (d : PyData) (u : Value) : Bool := match u with
  | .str z _ => isStrD z d
  | _ => false
theorem strs_mem : ∀ {zs : List Str} {us : List Value}, Vals (zs.map V.str) us → ∀ w ∈ us, ∃ z t, w = .str z t
  | [], _, .nil, w, h => by cases h
  | z :: zs, _ :: us, .cons r t, w, h => by
    rcases List.mem_cons.mp h with rfl | h
    · exact ⟨z, r⟩
    · exact strs_mem t w h
theorem strs_any (d : PyData) : ∀ {zs : List Str} {us : List Value}, Vals (zs.map V.str) us → us.any (inTq d) = zs.any fun z => isStrD z d
  | [], _, .nil => rfl
  | z :: zs, _ :: us, .cons r t => by
    obtain ⟨t', rfl⟩ := r
    rw [List.any_cons, List.any_cons, strs_any d t]
    rfl
theorem beq_sd (z z' : Str) : (z == z') = decide (z' = z) := by
  by_cases h : z' = z
  · subst h
    rw [decide_eq_true rfl]
    exact beq_self_eq_true _
  · rw [decide_eq_false h]
    exact beq_eq_false_iff_ne.mpr (Ne.symm h)
/-- any data in a tuple of texts -/
def rInT (K : PySem.W.Frag) : R2 := fun x y H Q => ∃ (d : PyData) (p : Addr) (zs : List Str), Dp K H x d ∧ y = .ref p ∧ SqT K H p (zs.map V.str) ∧ Q (.bl (zs.any fun z => isStrD z d)) H
theorem op_inT (hu : X.A.units + 64 < cLine) : OpR X (compareOp .In) (rInT X.K) := by
  intro pins s σ H x y v u Q I rx ry h
  obtain ⟨d, p, zs, hd, rfl, hp, q⟩ := h
  cases ry
  obtain ⟨its, rv, pl, _⟩ := I.tuple hp
  have sx := dp_shp I hd rx
  refine SeqAt.in_tupleAt (inTq d) pl (fun w hw => ?_) ⟨.bl _, H, I, rfl, ?_⟩
  · obtain ⟨z, t, rfl⟩ := strs_mem rv w (by simpa using hw)
    show EqAt _ _ _ _ (isStrD z d)
    have hu' : X.A.in1.units < cLine := by show X.A.units + 1 < cLine; omega
    cases sx with
    | non => exact SeqAt.EqAt.str_none z t
    | bl b => exact SeqAt.EqAt.str_bool z t b
    | int i t' => exact SeqAt.EqAt.str_int z t i t'
    | str z' t' =>
      show EqAt _ _ _ _ (decide (z' = z))
      rw [← beq_sd]
      exact SeqAt.EqAt.str_str z t z' t'
    | lst h => exact SeqAt.EqAt.str_list z t h hu'
    | tup h => exact SeqAt.EqAt.str_tuple z t h hu'
    | dct h => exact eqAt_rc (by simp) (by rfl) (rc_str_dict' z t h hu')
  · rw [show its.toArray.any (inTq d) = its.any (inTq d) by simp, strs_any d rv]
    exact q
end
/-! fits -/
inductive Kd | name | graph | number | place | sign | into | out
deriving DecidableEq
def kdS : Kd → Str
  | .name => "name"
  | .graph => "graph"
  | .number => "number"
  | .place => "place"
  | .sign => "sign"
  | .into => "into"
  | .out => "from"
def signs : List Str := ["+", "-", "*", "<", "="]
def intIn (ns : List Int) : PyData → Bool
  | .int i => decide (i ∈ ns)
  | _ => false
def fitD (ss ts : List Int) (k : Kd) (d : PyData) : Bool := match k with
  | .name => numNameD d
  | .graph => graphNameD d
  | .number => withinD (-9999) 9999 d
  | .place => withinD 0 2 d
  | .sign => signs.any fun z => isStrD z d
  | .into => intIn ss d
  | .out => intIn ts d
theorem inV_ints (i : Int) : ∀ ns : List Int, inV (.int i) (ns.map V.int) = decide (i ∈ ns)
  | [] => rfl
  | n :: ns => by
    have h := inV_ints i ns
    unfold inV at h ⊢
    rw [List.map_cons, List.any_cons, h]
    show ((n == i) || decide (i ∈ ns)) = decide (i ∈ n :: ns)
    by_cases e : n = i
    · subst e
      rw [beq_self_eq_true, decide_eq_true List.mem_cons_self]
      rfl
    · rw [beq_eq_false_iff_ne.mpr e, Bool.false_or]
      refine decide_eq_decide.mpr ⟨fun h => List.mem_cons_of_mem _ h, fun h => ?_⟩
      rcases List.mem_cons.mp h with h | h
      · exact absurd h.symm e
      · exact h
theorem flat_ints (ns : List Int) : (ns.map V.int).all flatV = true := by
  rw [List.all_eq_true]
  intro x hx
  obtain ⟨n, _, rfl⟩ := List.mem_map.mp hx
  rfl
theorem op_inTI {X : Cx} : OpR X (compareOp .In) (fun x y H Q => ∃ (i : Int) (p : Addr) (ns : List Int), x = .int i ∧ y = .ref p ∧ SqT X.K H p (ns.map V.int) ∧ Q (.bl (decide (i ∈ ns))) H) := by
  intro pins s σ H x y v u Q I rx ry h
  obtain ⟨i, p, ns, rfl, rfl, hp, q⟩ := h
  refine op_in_seq pins s σ H _ _ v u Q I rx ry ⟨p, ns.map V.int, rfl, .inr hp, rfl, flat_ints ns, ?_⟩
  show Q (.bl (inV (.int i) (ns.map V.int))) H
  rw [inV_ints]
  exact q
section
open PySem.Spec PyProof.Rows LamX
variable {P : Program} {w : World} {K : PySem.W.Frag} {mg : Str → Option Value} {base : Heap} {f : Addr} {fd : FuncData}
/-- a tuple of the top -/
def SqK (K : PySem.W.Frag) (a : Addr) (xs : List V) : Prop := ∃ (o : Obj) (its : Array Value) (n : Nat), K.lookup a = some o ∧ o.cls = .type "tuple" ∧ o.data = .seq its n ∧ its.size ≤ sizeLine ∧ Vals xs its.toList
theorem SqK.at {a : Addr} {xs : List V} (h : SqK K a xs) (H : Hp) : SqT K H a xs := .inr h
def spFits (K : PySem.W.Frag) (PT : List Addr) : Sp := fun vs H Q _ => ∃ (k : Kd) (x : V) (d : PyData) (a b : Addr) (ss ts : List Int), vs = [.str (kdS k), x, .ref a, .ref b] ∧ Dp K H x d ∧ TxtOk d ∧ SqT K H a (ss.map V.int) ∧ SqT K H b (ts.map V.int) ∧ TabsG PT H ∧ ∀ H', ExtN H H' → TabsG PT H' → Q (.bl (fitD ss ts k d)) H'
theorem scFits : FnScope ["kind", "part", "sends", "takes"] ["kind", "part", "sends", "takes"] (defScope sFits) := ⟨rfl, rfl, rfl, by decide +kernel, rfl, by decide +kernel, by decide +kernel⟩
theorem ok_fits {k : Nat} {PT : List Addr} {sg : Addr} (F : Fun K "fits" "fits" sFits f fd) (hG : mg "SIGNS" = some (.ref sg)) (hS : SqK K sg (signs.map V.str))
    (cN : Cal P w K mg base "is_number_name" k ["thing"] (spName K PT numNameD)) (cG : Cal P w K mg base "is_graph_name" k ["thing"] (spName K PT graphNameD)) (cI : Cal P w K mg base "is_number" k ["thing"] (spNumber K)) (cP : Cal P w K mg base "is_place" k ["thing"] (spPlaceD K)) (cW : Cal P w K mg base "is_whole" k ["thing"] (spWhole K)) :
    FnOk P w K mg base CX0 (k + 1) f fd ["kind", "part", "sends", "takes"] (spFits K PT) := by
  refine F.ok scFits (fun vs H Q E h => ?_) (fun cdv A outer s H vs Q E hr h => ?_)
  · obtain ⟨k, x, d, a, b, ss, ts, rfl, _⟩ := h
    rfl
  obtain ⟨kd, x, d, a, b, ss, ts, rfl, hx, ht, ha, hb, tb, q⟩ := h
  refine ⟨_, pss_cons (ps_if (pt_cmpR op_eq (pv 0) pe_str (nomark _)) (pss_one (ps_ret (pe_cal cN hr rfl (pa_cons (pv 1) pa_nil)))) pss_nil)
    (pss_cons (ps_if (pt_cmpR op_eq (pv 0) pe_str (nomark _)) (pss_one (ps_ret (pe_cal cG hr rfl (pa_cons (pv 1) pa_nil)))) pss_nil)
    (pss_cons (ps_if (pt_cmpR op_eq (pv 0) pe_str (nomark _)) (pss_one (ps_ret (pe_cal cI hr rfl (pa_cons (pv 1) pa_nil)))) pss_nil)
    (pss_cons (ps_if (pt_cmpR op_eq (pv 0) pe_str (nomark _)) (pss_one (ps_ret (pe_cal cP hr rfl (pa_cons (pv 1) pa_nil)))) pss_nil)
    (pss_cons (ps_if (pt_cmpR op_eq (pv 0) pe_str (nomark _)) (pss_one (ps_ret (pe_cmpR (op_inT hr.units) (pv 1) (pe_glob (v := .ref sg) rfl hG rfl) rfl))) pss_nil)
    (pss_one (ps_ret (pe_and (pe_cal cW hr rfl (pa_cons (pv 1) pa_nil)) (pe_one (pe_cmpR op_inTI (pv 1) (pe_ifExp (pt_cmpR op_eq (pv 0) pe_str (nomark _)) (pv 2) (pv 3)) rfl))))))))), ?_⟩
  cases kd with
  | name =>
    refine ⟨_, rfl, rfl, _, rfl, ?_⟩
    refine ifT (by decide +kernel) ?_
    exact ⟨_, rfl, x, d, rfl, hx, ht, tb, q⟩
  | graph =>
    refine ⟨_, rfl, rfl, _, rfl, ?_⟩
    refine ifF (by decide +kernel) ?_
    refine ⟨_, rfl, rfl, _, rfl, ?_⟩
    refine ifT (by decide +kernel) ?_
    exact ⟨_, rfl, x, d, rfl, hx, ht, tb, q⟩
  | number =>
    refine ⟨_, rfl, rfl, _, rfl, ?_⟩
    refine ifF (by decide +kernel) ?_
    refine ⟨_, rfl, rfl, _, rfl, ?_⟩
    refine ifF (by decide +kernel) ?_
    refine ⟨_, rfl, rfl, _, rfl, ?_⟩
    refine ifT (by decide +kernel) ?_
    exact ⟨_, rfl, x, d, rfl, hx, q H (ExtN.refl _) tb⟩
  | place =>
    refine ⟨_, rfl, rfl, _, rfl, ?_⟩
    refine ifF (by decide +kernel) ?_
    refine ⟨_, rfl, rfl, _, rfl, ?_⟩
    refine ifF (by decide +kernel) ?_
    refine ⟨_, rfl, rfl, _, rfl, ?_⟩
    refine ifF (by decide +kernel) ?_
    refine ⟨_, rfl, rfl, _, rfl, ?_⟩
    refine ifT (by decide +kernel) ?_
    exact ⟨_, rfl, x, d, rfl, hx, q H (ExtN.refl _) tb⟩
  | sign =>
    refine ⟨_, rfl, rfl, _, rfl, ?_⟩
    refine ifF (by decide +kernel) ?_
    refine ⟨_, rfl, rfl, _, rfl, ?_⟩
    refine ifF (by decide +kernel) ?_
    refine ⟨_, rfl, rfl, _, rfl, ?_⟩
    refine ifF (by decide +kernel) ?_
    refine ⟨_, rfl, rfl, _, rfl, ?_⟩
    refine ifF (by decide +kernel) ?_
    refine ⟨_, rfl, rfl, _, rfl, ?_⟩
    refine ifT (by decide +kernel) ?_
    exact ⟨_, rfl, d, sg, signs, hx, rfl, hS.at H, q H (ExtN.refl _) tb⟩
  | into =>
    refine ⟨_, rfl, rfl, _, rfl, ?_⟩
    refine ifF (by decide +kernel) ?_
    refine ⟨_, rfl, rfl, _, rfl, ?_⟩
    refine ifF (by decide +kernel) ?_
    refine ⟨_, rfl, rfl, _, rfl, ?_⟩
    refine ifF (by decide +kernel) ?_
    refine ⟨_, rfl, rfl, _, rfl, ?_⟩
    refine ifF (by decide +kernel) ?_
    refine ⟨_, rfl, rfl, _, rfl, ?_⟩
    refine ifF (by decide +kernel) ?_
    refine ⟨_, rfl, x, d, rfl, hx, _, rfl, ?_⟩
    cases hw : wholeD d with
    | false =>
      have e : fitD ss ts .into d = false := by cases d <;> first | rfl | cases hw
      have r := q H (ExtN.refl _) tb
      rw [e] at r
      exact ifF rfl r
    | true =>
      obtain ⟨i, rfl⟩ : ∃ i, d = .int i := by cases d <;> first | exact ⟨_, rfl⟩ | cases hw
      cases hx
      exact ifT rfl ⟨_, rfl, _, rfl, rfl, _, rfl, ifT (by decide +kernel) ⟨_, rfl, i, _, _, rfl, rfl, ha, q H (ExtN.refl _) tb⟩⟩
  | out =>
    refine ⟨_, rfl, rfl, _, rfl, ?_⟩
    refine ifF (by decide +kernel) ?_
    refine ⟨_, rfl, rfl, _, rfl, ?_⟩
    refine ifF (by decide +kernel) ?_
    refine ⟨_, rfl, rfl, _, rfl, ?_⟩
    refine ifF (by decide +kernel) ?_
    refine ⟨_, rfl, rfl, _, rfl, ?_⟩
    refine ifF (by decide +kernel) ?_
    refine ⟨_, rfl, rfl, _, rfl, ?_⟩
    refine ifF (by decide +kernel) ?_
    refine ⟨_, rfl, x, d, rfl, hx, _, rfl, ?_⟩
    cases hw : wholeD d with
    | false =>
      have e : fitD ss ts .out d = false := by cases d <;> first | rfl | cases hw
      have r := q H (ExtN.refl _) tb
      rw [e] at r
      exact ifF rfl r
    | true =>
      obtain ⟨i, rfl⟩ : ∃ i, d = .int i := by cases d <;> first | exact ⟨_, rfl⟩ | cases hw
      cases hx
      exact ifT rfl ⟨_, rfl, _, rfl, rfl, _, rfl, ifF (by decide +kernel) ⟨_, rfl, i, _, _, rfl, rfl, hb, q H (ExtN.refl _) tb⟩⟩
end
/-! is_deed -/
def deedL : List (Str × List Kd) := [("num", [.name, .number]), ("sum", [.name, .name, .sign, .name]), ("new", [.graph]), ("let", [.graph, .graph]), ("add", [.graph, .name]), ("put", [.graph, .name, .place, .name]), ("tie", [.graph, .name, .place, .name]), ("hang", [.graph, .name, .place, .graph]),
  ("get", [.name, .graph, .name, .place]), ("sort", [.name, .graph, .name, .place]), ("pick", [.graph, .graph, .name, .place]), ("send", [.into, .graph]), ("take", [.graph, .out]), ("tell", [.name]), ("show", [.graph])]
def deedK (z : Str) : Option (List Kd) := deedL.lookup z
def unlikeL : List Str := ["let", "hang"]
def txtNe : PyData → PyData → Bool
  | .str a, .str b => !decide (a = b)
  | _, _ => true
def fitsAll (ss ts : List Int) : List Kd → List PyData → Bool
  | k :: ks, d :: ds => fitD ss ts k d && fitsAll ss ts ks ds
  | _, _ => true
def unlikeB (z : Str) (ds : List PyData) : Bool := !decide (z ∈ unlikeL) || txtNe (ds.headD .none) (ds.getLastD .none)
def deedB (ss ts : List Int) (z : Str) (ds : List PyData) : Bool := match deedK z with
  | none => false
  | some ks => decide (ds.length = ks.length) && (fitsAll ss ts ks ds && unlikeB z ds)
def deedD (ss ts : List Int) : PyData → Bool
  | .tuple (.str z :: ds) => deedB ss ts z ds
  | _ => false
/-- the table of deeds -/
structure DeedT (K : PySem.W.Frag) (w : World) (d : Addr) : Prop where
  kd : ∃ es n, KDict K w d es n
  no : ∀ z, deedK z = none → PySem.W.nsIn K d z = some none
  yes : ∀ z ks, deedK z = some ks → ∃ a, PySem.W.nsIn K d z = some (some (.ref a)) ∧ SqK K a (ks.map fun k => V.str (kdS k))
theorem inV_strs (z : Str) : ∀ zs : List Str, inV (.str z) (zs.map V.str) = decide (z ∈ zs)
  | [] => rfl
  | n :: ns => by
    have h := inV_strs z ns
    unfold inV at h ⊢
    rw [List.map_cons, List.any_cons, h]
    show ((n == z) || decide (z ∈ ns)) = decide (z ∈ n :: ns)
    by_cases e : n = z
    · subst e
      rw [beq_self_eq_true, decide_eq_true List.mem_cons_self]
      rfl
    · rw [beq_eq_false_iff_ne.mpr e, Bool.false_or]
      refine decide_eq_decide.mpr ⟨fun h => List.mem_cons_of_mem _ h, fun h => ?_⟩
      rcases List.mem_cons.mp h with h | h
      · exact absurd h.symm e
      · exact h
theorem flat_strs (zs : List Str) : (zs.map V.str).all flatV = true := by
  rw [List.all_eq_true]
  intro x hx
  obtain ⟨n, _, rfl⟩ := List.mem_map.mp hx
  rfl
theorem op_ninTS {X : Cx} : OpR X (compareOp .NotIn) (fun x y H Q => ∃ (z : Str) (p : Addr) (zs : List Str), x = .str z ∧ y = .ref p ∧ (SqL X.K H p (zs.map V.str) ∨ SqT X.K H p (zs.map V.str)) ∧ Q (.bl (!decide (z ∈ zs))) H) := by
  intro pins s σ H x y v u Q I rx ry h
  obtain ⟨i, p, ns, rfl, rfl, hp, q⟩ := h
  refine op_notIn_seq pins s σ H _ _ v u Q I rx ry ⟨p, ns.map V.str, rfl, hp, rfl, flat_strs ns, ?_⟩
  show Q (.bl (!inV (.str i) (ns.map V.str))) H
  rw [inV_strs]
  exact q
theorem op_inTS {X : Cx} : OpR X (compareOp .In) (fun x y H Q => ∃ (z : Str) (p : Addr) (zs : List Str), x = .str z ∧ y = .ref p ∧ (SqL X.K H p (zs.map V.str) ∨ SqT X.K H p (zs.map V.str)) ∧ Q (.bl (decide (z ∈ zs))) H) := by
  intro pins s σ H x y v u Q I rx ry h
  obtain ⟨i, p, ns, rfl, rfl, hp, q⟩ := h
  refine op_in_seq pins s σ H _ _ v u Q I rx ry ⟨p, ns.map V.str, rfl, hp, rfl, flat_strs ns, ?_⟩
  show Q (.bl (inV (.str i) (ns.map V.str))) H
  rw [inV_strs]
  exact q
theorem cut1 (y : V) (ys : List V) : cutV (y :: ys) (some 1) none = ys := by
  unfold cutV HT.sIx
  simp
theorem sl1 (y : V) (ys : List V) : ¬ (HT.sIx (y :: ys).length 0 (some 1) = 0 ∧ HT.sIx (y :: ys).length (y :: ys).length none = (y :: ys).length) := by
  unfold HT.sIx
  simp
def BkOk (d : PyData) : Prop := d.bulk ≤ 1000000
theorem bk_txt {d : PyData} (h : BkOk d) : TxtOk d := fun x e => by
  subst e
  unfold BkOk at h
  simp only [PyData.bulk] at h
  refine Nat.le_trans ?_ (show 1000000 ≤ sizeLine by decide)
  show x.cps.size ≤ 1000000
  omega
theorem bk_mem {ds : List PyData} {e : PyData} (h : BkOk (.tuple ds)) (hm : e ∈ ds) : BkOk e := by
  have z := bulk_mem hm
  unfold BkOk at h ⊢
  simp only [PyData.bulk] at h
  omega
theorem gx_zipT {K : PySem.W.Frag} {a b : Addr} {xs ys : List V} (hlen : xs.length = ys.length) {g : TG} {tt : TT} {te : TE} {vs : List Nat} {σ0 : L2.St} {e : Bool} {Qe Qn : Hp → Prop} {H : Hp} (Pv : Nat → Hp → Prop) (h0 : Pv 0 H) (hl : ∀ i H, i ≤ xs.length → Pv i H → SqT K H a xs ∧ SqT K H b ys)
    (hs : ∀ i x y T H, xs[i]? = some x → ys[i]? = some y → Pv i H → H T = none → g (.ref T) σ0 (upd H T (.tup [x, y])) fun σ2 H2 => wipe σ2 vs = σ0 ∧ tt σ2 H2 fun b H3 => if b = true then te σ2 H3 fun y H4 => ∃ c, y = .bl c ∧ (c = e → Pv (i + 1) H4) ∧ (c ≠ e → Qn H4) else Pv (i + 1) H3) (hd : ∀ H, Pv xs.length H → Qe H) :
    ∃ W : Nat → Nat → Hp → Prop, (∃ m, W 0 m H) ∧ gxTurn (RZ.ItzT K a b) g tt te vs σ0 e Qe Qn W := by
  refine ⟨fun i m H => m = xs.length - i ∧ i ≤ xs.length ∧ Pv i H, ⟨xs.length, by simp, Nat.zero_le _, h0⟩, ?_⟩
  rintro i m H ⟨rfl, hi, p⟩
  have q := hl i H hi p
  by_cases hlt : i < xs.length
  · refine .inr ⟨⟨xs, ys, xs[i], ys[i]'(by omega), q.1, q.2, by simp [hlt], by simp [show i < ys.length by omega]⟩, Pv (i + 1), fun H' p' => ⟨xs.length - (i + 1), by omega, rfl, hlt, p'⟩, fun x H' y => ?_⟩
    obtain ⟨T, x0, y0, rfl, hT, rfl, hx, hy⟩ := y
    exact hs i x0 y0 T H (hx xs q.1) (hy ys q.2) p hT
  · have e : i = xs.length := by omega
    subst e
    exact .inl ⟨⟨xs, ys, q.1, q.2, .inl (Nat.le_refl _)⟩, hd H p⟩
theorem fitsAll_take {ss ts : List Int} : ∀ {ks : List Kd} {ds : List PyData} {i : Nat} {k : Kd} {d : PyData}, ks[i]? = some k → ds[i]? = some d → fitsAll ss ts (ks.take (i + 1)) (ds.take (i + 1)) = (fitsAll ss ts (ks.take i) (ds.take i) && fitD ss ts k d)
  | k :: ks, d :: ds, 0, _, _, h1, h2 => by
    cases h1
    cases h2
    show (fitD ss ts k d && fitsAll ss ts [] []) = (fitsAll ss ts [] [] && fitD ss ts k d)
    show (fitD ss ts k d && true) = (true && fitD ss ts k d)
    rw [Bool.and_true, Bool.true_and]
  | k :: ks, d :: ds, i + 1, _, _, h1, h2 => by
    show (fitD ss ts k d && fitsAll ss ts (ks.take (i + 1)) (ds.take (i + 1))) = ((fitD ss ts k d && fitsAll ss ts (ks.take i) (ds.take i)) && _)
    rw [fitsAll_take (show ks[i]? = _ from h1) (show ds[i]? = _ from h2), Bool.and_assoc]
theorem fitsAll_no {ss ts : List Int} : ∀ {ks : List Kd} {ds : List PyData} {i : Nat} {k : Kd} {d : PyData}, ks[i]? = some k → ds[i]? = some d → fitD ss ts k d = false → fitsAll ss ts ks ds = false
  | k :: ks, d :: ds, 0, _, _, h1, h2, h => by
    cases h1
    cases h2
    show (fitD ss ts k d && _) = false
    rw [h, Bool.false_and]
  | k :: ks, d :: ds, i + 1, _, _, h1, h2, h => by
    show (_ && fitsAll ss ts ks ds) = false
    rw [fitsAll_no (show ks[i]? = _ from h1) (show ds[i]? = _ from h2) h, Bool.and_false]
theorem graph_str {d : PyData} (h : graphNameD d = true) : ∃ z, d = .str z := by
  cases d <;> first | exact ⟨_, rfl⟩ | cases h
theorem and3 {a b : Bool} (h : (a && b) = true) : a = true ∧ b = true := by
  cases a <;> cases b <;> first | exact ⟨rfl, rfl⟩ | cases h
theorem decV (u v : Str) : decide (V.str u = V.str v) = decide (u = v) := decide_eq_decide.mpr ⟨fun h => by injection h, fun h => by rw [h]⟩
/-- first and last of an unlike pair are texts -/
theorem unlike_txt {ss ts : List Int} {z : Str} {ks : List Kd} {ds : List PyData} (hz : z ∈ unlikeL) (hk : deedK z = some ks) (hl : ds.length = ks.length) (hf : fitsAll ss ts ks ds = true) : ∃ (u v : Str) (r : List PyData), (ds = [.str u, .str v] ∨ ∃ d2 d3, ds = [.str u, d2, d3, .str v]) := by
  have e : z = "let" ∨ z = "hang" := by simpa [unlikeL] using hz
  rcases e with rfl | rfl
  · have ek : ks = [.graph, .graph] := by
      have : deedK "let" = some [.graph, .graph] := by decide +kernel
      rw [this] at hk
      exact (Option.some.inj hk).symm
    subst ek
    match ds, hl with
    | [d1, d2], _ =>
      obtain ⟨h1, h2⟩ := and3 (show (graphNameD d1 && (graphNameD d2 && true)) = true from hf)
      obtain ⟨u, rfl⟩ := graph_str h1
      obtain ⟨v, rfl⟩ := graph_str (and3 h2).1
      exact ⟨u, v, [], .inl rfl⟩
  · have ek : ks = [.graph, .name, .place, .graph] := by
      have : deedK "hang" = some [.graph, .name, .place, .graph] := by decide +kernel
      rw [this] at hk
      exact (Option.some.inj hk).symm
    subst ek
    match ds, hl with
    | [d1, d2, d3, d4], _ =>
      obtain ⟨h1, h2⟩ := and3 (show (graphNameD d1 && (numNameD d2 && (withinD 0 2 d3 && (graphNameD d4 && true)))) = true from hf)
      obtain ⟨u, rfl⟩ := graph_str h1
      obtain ⟨v, rfl⟩ := graph_str (and3 (and3 (and3 h2).2).2).1
      exact ⟨u, v, [], .inr ⟨d2, d3, rfl⟩⟩
section
open PySem.Spec PyProof.Rows LamX
variable {P : Program} {w : World} {K : PySem.W.Frag} {mg : Str → Option Value} {base : Heap} {f : Addr} {fd : FuncData}
def spIsDeed (K : PySem.W.Frag) (PT : List Addr) : Sp := fun vs H Q _ => ∃ (x : V) (d : PyData) (a b : Addr) (ss ts : List Int), vs = [x, .ref a, .ref b] ∧ Dp K H x d ∧ BkOk d ∧ SqT K H a (ss.map V.int) ∧ SqT K H b (ts.map V.int) ∧ TabsG PT H ∧ ∀ H', ExtN H H' → TabsG PT H' → Q (.bl (deedD ss ts d)) H'
abbrev NDeed : List Str := ["thing", "sends", "takes", "word", "wanted", "kind", "part"]
theorem scIsDeed : FnScope NDeed ["thing", "sends", "takes"] (defScope sIsDeed) := ⟨rfl, rfl, rfl, by decide +kernel, rfl, by decide +kernel, by decide +kernel⟩
theorem ok_isDeed {k : Nat} {c Pc : Addr} {PT : List Addr} {dt ul : Addr} (F : Fun K "is_deed" "is_deed" sIsDeed f fd) (hc : fd.code = .ref c) (TB : LamX.TabB base mg c Pc) (hPT : Pc ∈ PT) (T : Free mg) (hA : mg "all" = none) (hZ : mg "zip" = none)
    (hD : mg "DEEDS" = some (.ref dt)) (DT : DeedT K w dt) (hU : mg "UNLIKE" = some (.ref ul)) (hUL : SqK K ul (unlikeL.map V.str))
    (cWo : Cal P w K mg base "word_of" k ["thing"] (spWordOf K)) (cF : Cal P w K mg base "fits" k ["kind", "part", "sends", "takes"] (spFits K PT)) : FnOk P w K mg base CX0 (k + 2) f fd ["thing", "sends", "takes"] (spIsDeed K PT) := by
  refine okC F hc scIsDeed (fun vs H Q E h => ?_) (fun A outer s H vs Q E hr h => ?_)
  · obtain ⟨x, d, a, b, ss, ts, rfl, _⟩ := h
    rfl
  obtain ⟨x, d, a, b, ss, ts, rfl, hx, hk, ha, hb, tb, q⟩ := h
  obtain ⟨es, n, KD⟩ := DT.kd
  have cWo' := cWo.mono (Nat.le_succ k)
  refine ⟨_, pss_cons (ps_set (i := 3) scIsDeed.nd rfl (.inl rfl) (pe_cal cWo' hr rfl (pa_cons (pv 0) pa_nil)))
    (pss_cons (ps_if (pt_cmpR (op_notIn_kd KD) (pv 3) (pe_glob (v := .ref dt) rfl hD rfl) rfl) (pss_one (ps_ret pe_bl)) pss_nil)
    (pss_cons (ps_set (i := 4) scIsDeed.nd rfl (.inl rfl) (pe_ix ix_kdict (pe_glob (v := .ref dt) rfl hD rfl) (pv 3) (fun _ _ => rfl)))
    (pss_cons (ps_if (pt_cmpR op_ne (pe_callB call_len_seq rfl T.len PySem.boot_len (pa_cons (pv 0) pa_nil)) (pe_op op_add (pe_callB call_len_seq rfl T.len PySem.boot_len (pa_cons (pv 4) pa_nil)) pe_int) (nomark _)) (pss_one (ps_ret pe_bl)) pss_nil)
    (pss_cons (ps_if (pt_not (pt_val (pe_allG (own := [("kind", 5), ("part", 6)]) (wi := RZ.iZipA K (tCons (tVar 4) (tCons (L2.tSl (rSlT K) (tVar 0) (tPart (tC (.int 1))) tNoPart) tNil))) (g := gTup K 2 (gCons (gName 5) (gCons (gName 6) gNil))) (tt := tYes) (te := tCall (spFits K PT) [] E0 (tCons (tVar 5) (tCons (tVar 6) (tCons (tVar 1) (tCons (tVar 2) tNil))))) scIsDeed.nd hr rfl hA (by decide +kernel) TB rfl
        (blkOk_by (own := [("kind", 5), ("part", 6)]) (N := NDeed) (sc := defScope sIsDeed) (by decide +kernel)) (by decide +kernel) rfl rfl (RZ.pi_zipA rfl hZ (pa_cons (pv 4) (pa_cons (pe_slice sl_tup (pv 0) (po_some pe_int) po_none) pa_nil)))
        (fun _ _ _ _ _ _ _ _ _ _ => pg_tup rfl (pgs_cons (pg_name (i := 5) scIsDeed.nd rfl (Or.inl rfl)) (pgs_cons (pg_name (i := 6) scIsDeed.nd rfl (Or.inl rfl)) pgs_nil))) (fun _ _ _ _ _ _ _ _ _ _ => pts_nil)
        (fun _ _ _ _ _ _ _ _ _ hr' => pe_cal cF hr' rfl (pa_cons (pv 5) (pa_cons (pv 6) (pa_cons (pv 1) (pa_cons (pv 2) pa_nil))))) (fun _ => rfl)))) (pss_one (ps_ret pe_bl)) pss_nil)
    (pss_one (ps_ret (pe_or (pe_cmpR op_ninTS (pv 3) (pe_glob (v := .ref ul) rfl hU rfl) rfl) (pe_one (pe_cmpR op_ne (pe_ix ix_tup (pv 0) pe_int (fun _ _ => rfl)) (pe_ix ix_tup (pv 0) (pe_un un_neg pe_int) (fun _ _ => rfl)) (nomark _))))))))))
    , ?_⟩
  refine ⟨_, rfl, _, d, rfl, hx, ?_⟩
  refine ⟨_, rfl, ?_⟩
  have no : deedD ss ts d = false → ∀ H', ExtN H H' → TabsG PT H' → Q (.bl false) H' := fun e H' e1 t1 => by
    have r := q H' e1 t1
    rw [e] at r
    exact r
  have bare : deedK (wordD d) = none → deedD ss ts d = false := fun e => by
    unfold deedD
    split
    · rename_i z ds
      show deedB ss ts z ds = false
      unfold deedB
      rw [show deedK z = none from e]
    · rfl
  cases hw : deedK (wordD d) with
  | none =>
    exact ⟨_, none, rfl, rfl, DT.no _ hw, _, rfl, ifT rfl (no (bare hw) H (ExtN.refl _) tb)⟩
  | some ks =>
    obtain ⟨wa, hwn, hwt⟩ := DT.yes _ ks hw
    refine ⟨_, some (.ref wa), rfl, rfl, hwn, _, rfl, ifF rfl ?_⟩
    obtain ⟨z, ds, rfl⟩ : ∃ z ds, d = .tuple (.str z :: ds) := by
      unfold wordD at hw
      split at hw
      · exact ⟨_, _, rfl⟩
      · rw [show deedK "" = none by decide +kernel] at hw
        cases hw
    have hw : deedK z = some ks := hw
    have dd : deedD ss ts (.tuple (.str z :: ds)) = (decide (ds.length = ks.length) && (fitsAll ss ts ks ds && unlikeB z ds)) := by
      show deedB ss ts z ds = _
      unfold deedB
      rw [hw]
    refine ⟨_, rfl, dt, z, .ref wa, rfl, rfl, ⟨es, n, _, KD.at_, KD.lit, hwn, rfl⟩, ?_⟩
    cases hx with
    | @tup ta xs _ at_ each =>
      cases each with
      | @cons y ys _ _ h1 h2 =>
        cases h1
        have ly := dpAll_len h2
        refine ⟨_, rfl, ta, _, rfl, .inr at_, _, rfl, wa, _, rfl, .inr (hwt.at H), _, _, rfl, rfl, rfl, _, rfl, ?_⟩
        by_cases hl : ds.length = ks.length
        · refine ifF (by rw [Bool.not_eq_false', decide_eq_true_eq]; congr 1; rw [List.length_map, List.length_cons]; omega) ?_
          rw [decide_eq_true hl, Bool.true_and] at dd
          refine ⟨_, rfl, _, rfl, _, rfl, ta, _, rfl, at_, sl1 _ _, fun p hp => ?_⟩
          have e0 : ExtN H (upd H p (.tup (cutV (V.str z :: ys) (some 1) none))) := ext_same (same_new hp _)
          have tb0 := tb.same (same_new hp (.tup (cutV (V.str z :: ys) (some 1) none)))
          rw [cut1] at e0 tb0 ⊢
          refine ⟨wa, p, _, ys, rfl, .inr ⟨hwt.at _, .of upd_same, tb0 Pc hPT, fun H2 b2 => ?_⟩⟩
          have e2 := e0.trans (tabbed_ext (tb0 Pc hPT) b2)
          have p2 : SqT K H2 p ys := sqT_ext (tabbed_ext (tb0 Pc hPT) b2) (.of upd_same)
          refine gx_zipT (xs := ks.map fun k => V.str (kdS k)) (ys := ys) (by rw [List.length_map]; omega) (fun i H' => ExtN H H' ∧ SqT K H' p ys ∧ TabsG PT H' ∧ fitsAll ss ts (ks.take i) (ds.take i) = true) ⟨e2, p2, tb0.tabbed b2, rfl⟩ (fun i H' _ h => ⟨hwt.at _, h.2.1⟩) (fun i x y T H' hxi hyi h hT => ?_) (fun H' h => ?_)
          · obtain ⟨e3, p3, t3, a3⟩ := h
            rw [List.getElem?_map] at hxi
            obtain ⟨kd, hkd, rfl⟩ := Option.map_eq_some_iff.mp hxi
            obtain ⟨d, hd, hdy⟩ := dpAll_get' h2 hyi
            have e4 := e3.trans (ext_same (same_new hT (.tup [V.str (kdS kd), y])))
            have p4 := sqT_ext (ext_same (same_new hT (.tup [V.str (kdS kd), y]))) p3
            have t4 := t3.same (same_new hT (.tup [V.str (kdS kd), y]))
            have bm : BkOk d := bk_mem hk (List.mem_cons_of_mem _ (List.mem_of_getElem? hd))
            refine ⟨T, _, rfl, .of upd_same, rfl, _, _, rfl, _, _, rfl, ?_⟩
            refine ⟨rfl, rfl, yesG ⟨_, rfl, _, rfl, _, rfl, _, rfl, kd, y, d, a, b, ss, ts, rfl, dp_ext e4 _ _ hdy, bk_txt bm, sqT_ext e4 ha, sqT_ext e4 hb, t4, fun H5 e5 t5 => ?_⟩⟩
            refine ⟨_, rfl, fun c => ⟨e4.trans e5, sqT_ext e5 p4, t5, ?_⟩, fun c => ?_⟩
            · rw [fitsAll_take hkd hd, a3, c]
              rfl
            · have ef := fitsAll_no (ss := ss) (ts := ts) hkd hd (Bool.eq_false_iff.mpr c)
              rw [ef, Bool.false_and] at dd
              exact ⟨_, rfl, ifT rfl (no dd H5 (e4.trans e5) t5)⟩
          · obtain ⟨e3, p3, t3, a3⟩ := h
            have a3 : fitsAll ss ts ks ds = true := by
              rw [List.length_map, List.take_length, ← hl, List.take_length] at a3
              exact a3
            rw [a3, Bool.true_and] at dd
            refine ⟨_, rfl, ifF rfl ?_⟩
            refine ⟨_, rfl, z, ul, unlikeL, rfl, rfl, .inr (hUL.at H'), _, rfl, ?_⟩
            by_cases hz : z ∈ unlikeL
            · refine ifF (by rw [decide_eq_true hz]; rfl) ?_
              obtain ⟨u, v, _, hds⟩ := unlike_txt hz hw hl a3
              have r := q H' e3 t3
              rw [dd] at r
              unfold unlikeB at r
              rw [decide_eq_true hz, Bool.not_true, Bool.false_or] at r
              rcases hds with rfl | ⟨d2, d3, rfl⟩
              · cases h2 with
                | cons i1 i2 =>
                  cases i2 with
                  | cons i3 i4 =>
                    cases i4
                    cases i1
                    cases i3
                    exact ⟨_, rfl, ta, _, 1, _, rfl, rfl, sqT_ext e3 at_, atI_at (by decide) rfl, _, rfl, _, rfl, ta, _, -1, _, rfl, rfl, sqT_ext e3 at_, rfl, rfl, by rw [decV]; exact r⟩
              · cases h2 with
                | cons i1 i2 =>
                  cases i2 with
                  | cons i3 i4 =>
                    cases i4 with
                    | cons i5 i6 =>
                      cases i6 with
                      | cons i7 i8 =>
                        cases i8
                        cases i1
                        cases i7
                        exact ⟨_, rfl, ta, _, 1, _, rfl, rfl, sqT_ext e3 at_, atI_at (by decide) rfl, _, rfl, _, rfl, ta, _, -1, _, rfl, rfl, sqT_ext e3 at_, rfl, rfl, by rw [decV]; exact r⟩
            · refine ifT (by rw [decide_eq_false hz]; rfl) ?_
              have r := q H' e3 t3
              rw [dd] at r
              unfold unlikeB at r
              rw [decide_eq_false hz, Bool.not_false, Bool.true_or] at r
              exact r
        · refine ifT (by rw [Bool.not_eq_true', decide_eq_false_iff_not]; intro z; injection z with z; rw [List.length_map, List.length_cons] at z; omega) ?_
          rw [decide_eq_false hl, Bool.false_and] at dd
          exact no dd H (ExtN.refl _) tb
end
/-! is_branch -/
def brK (z : Str) : Option Nat := if z = "if" then some 2 else if z = "while" then some 1 else none
def branchB (z : Str) (ds : List PyData) : Bool := match brK z with
  | none => false
  | some n => decide (ds.length = n + 1) && numNameD (ds.headD .none)
def branchD : PyData → Bool
  | .tuple (.str z :: ds) => branchB z ds
  | _ => false
theorem branch_shape {d : PyData} (h : branchD d = true) : ∃ z d1 ds m, d = .tuple (.str z :: d1 :: ds) ∧ brK z = some m ∧ ds.length = m ∧ numNameD d1 = true := by
  unfold branchD at h
  split at h
  · rename_i z ds
    unfold branchB at h
    split at h
    · cases h
    · rename_i m hm
      cases ds with
      | nil => cases h
      | cons d1 ds =>
        have h2 : (decide (ds.length + 1 = m + 1) && numNameD d1) = true := h
        rw [Bool.and_eq_true, decide_eq_true_eq] at h2
        exact ⟨z, d1, ds, m, rfl, hm, by omega, h2.2⟩
  · cases h
structure BranchT (K : PySem.W.Frag) (w : World) (d : Addr) : Prop where
  kd : ∃ es n, KDict K w d es n
  no : ∀ z, brK z = none → PySem.W.nsIn K d z = some none
  yes : ∀ z n, brK z = some n → ∃ t, PySem.W.nsIn K d z = some (some (.int (n : Nat) t))
def argsD : PyData → List PyData
  | .tuple (_ :: _ :: ds) => ds
  | _ => []
def stOf (ss ts : List Int) (bl : PyData → Option Nat) (d : PyData) : Option Nat := if deedD ss ts d = true then some 1 else if branchD d = true then (sumO bl (argsD d)).map (1 + ·) else none
def fit40 : Option Nat → Option Nat
  | none => none
  | some t => if t ≤ 40 then some t else none
def blkT (ss ts : List Int) (bl : PyData → Option Nat) (ds : List PyData) : Option Nat := if ds.length ≤ 12 then fit40 (sumO (stOf ss ts bl) ds) else none
def blkD (ss ts : List Int) : Nat → PyData → Option Nat
  | n + 1, .tuple ds => blkT ss ts (blkD ss ts n) ds
  | _, _ => none
section
open PySem.Spec PyProof.Rows LamX
variable {P : Program} {w : World} {K : PySem.W.Frag} {mg : Str → Option Value} {base : Heap} {f : Addr} {fd : FuncData}
def spIsBranch (K : PySem.W.Frag) (PT : List Addr) : Sp := fun vs H Q _ => ∃ (x : V) (d : PyData), vs = [x] ∧ Dp K H x d ∧ BkOk d ∧ TabsG PT H ∧ ∀ H', ExtN H H' → TabsG PT H' → Q (.bl (branchD d)) H'
theorem scIsBranch : FnScope ["thing", "word"] ["thing"] (defScope sIsBranch) := ⟨rfl, rfl, rfl, by decide +kernel, rfl, by decide +kernel, by decide +kernel⟩
theorem ok_isBranch {k : Nat} {PT : List Addr} {bt : Addr} (F : Fun K "is_branch" "is_branch" sIsBranch f fd) (T : Free mg) (hB : mg "BRANCHES" = some (.ref bt)) (BT : BranchT K w bt)
    (cWo : Cal P w K mg base "word_of" k ["thing"] (spWordOf K)) (cN : Cal P w K mg base "is_number_name" k ["thing"] (spName K PT numNameD)) : FnOk P w K mg base CX0 (k + 1) f fd ["thing"] (spIsBranch K PT) := by
  refine F.ok scIsBranch (fun vs H Q E h => ?_) (fun cdv A outer s H vs Q E hr h => ?_)
  · obtain ⟨x, d, rfl, _⟩ := h
    rfl
  obtain ⟨x, d, rfl, hx, hk, tb, q⟩ := h
  obtain ⟨es, n, KD⟩ := BT.kd
  refine ⟨_, pss_cons (ps_set (i := 1) scIsBranch.nd rfl (.inl rfl) (pe_cal cWo hr rfl (pa_cons (pv 0) pa_nil)))
    (pss_one (ps_ret (pe_and (pe_cmpR (op_in_kd KD) (pv 1) (pe_glob (v := .ref bt) rfl hB rfl) rfl) (pe_and (pe_cmpR op_eq (pe_callB call_len_seq rfl T.len PySem.boot_len (pa_cons (pv 0) pa_nil)) (pe_op op_add pe_int (pe_ix ix_kdict (pe_glob (v := .ref bt) rfl hB rfl) (pv 1) (fun _ _ => rfl))) (nomark _))
      (pe_one (pe_cal cN hr rfl (pa_cons (pe_ix ix_tup (pv 0) pe_int (fun _ _ => rfl)) pa_nil))))))), ?_⟩
  refine ⟨_, rfl, _, d, rfl, hx, _, rfl, ?_⟩
  cases hw : brK (wordD d) with
  | none =>
    have e : branchD d = false := by
      unfold branchD
      split
      · rename_i z ds
        unfold branchB
        rw [show brK z = none from hw]
      · rfl
    have r := q H (ExtN.refl _) tb
    rw [e] at r
    exact ⟨_, none, rfl, rfl, BT.no _ hw, _, rfl, ifF rfl r⟩
  | some m =>
    obtain ⟨t, hwn⟩ := BT.yes _ m hw
    refine ⟨_, some (.int (m : Nat) t), rfl, rfl, hwn, _, rfl, ifT rfl ?_⟩
    obtain ⟨z, ds, rfl⟩ : ∃ z ds, d = .tuple (.str z :: ds) := by
      unfold wordD at hw
      split at hw
      · exact ⟨_, _, rfl⟩
      · rw [show brK "" = none by decide +kernel] at hw
        cases hw
    have hw : brK z = some m := hw
    have dd : branchD (.tuple (.str z :: ds)) = (decide (ds.length = m + 1) && numNameD (ds.headD .none)) := by
      show branchB z ds = _
      unfold branchB
      rw [hw]
    cases hx with
    | @tup ta xs _ at_ each =>
      cases each with
      | @cons y ys _ _ h1 h2 =>
        have ly := dpAll_len h2
        refine ⟨_, rfl, ta, _, rfl, .inr at_, _, rfl, bt, z, .int (m : Nat), rfl, rfl, ⟨es, n, _, KD.at_, KD.lit, hwn, t, rfl⟩, _, _, rfl, rfl, rfl, _, rfl, ?_⟩
        by_cases hl : ds.length = m + 1
        · refine ifT (by rw [decide_eq_true_eq]; congr 1; rw [List.length_cons]; omega) ?_
          rw [decide_eq_true hl, Bool.true_and] at dd
          cases h2 with
          | nil => cases hl
          | @cons y2 ys2 d2 ds2 h3 h4 =>
            exact ⟨_, rfl, ta, _, 1, y2, rfl, rfl, at_, atI_at (by decide) rfl, y2, d2, rfl, h3, bk_txt (bk_mem hk (List.mem_cons_of_mem _ List.mem_cons_self)), tb, fun H' e1 t1 => by have r := q H' e1 t1; rw [dd] at r; exact r⟩
        · refine ifF (by rw [decide_eq_false_iff_not]; intro z; injection z with z; rw [List.length_cons] at z; omega) ?_
          rw [decide_eq_false hl, Bool.false_and] at dd
          have r := q H (ExtN.refl _) tb
          rw [dd] at r
          exact r
/-! statement_size, block_size -/
def spBlk (K : PySem.W.Frag) (PT : List Addr) (n : Nat) : Sp := fun vs H Q _ => ∃ (x : V) (d : PyData) (lv : Int) (a b : Addr) (ss ts : List Int), vs = [x, .int lv, .ref a, .ref b] ∧ lv = 5 - (n : Int) ∧ Dp K H x d ∧ BkOk d ∧ SqT K H a (ss.map V.int) ∧ SqT K H b (ts.map V.int) ∧ TabsG PT H ∧ ∀ H', ExtN H H' → TabsG PT H' → Q (optV (blkD ss ts n d)) H'
def spStm (K : PySem.W.Frag) (PT : List Addr) (n : Nat) : Sp := fun vs H Q _ => ∃ (x : V) (d : PyData) (lv : Int) (a b : Addr) (ss ts : List Int), vs = [x, .int lv, .ref a, .ref b] ∧ lv = 4 - (n : Int) ∧ Dp K H x d ∧ BkOk d ∧ SqT K H a (ss.map V.int) ∧ SqT K H b (ts.map V.int) ∧ TabsG PT H ∧ ∀ H', ExtN H H' → TabsG PT H' → Q (optV (stOf ss ts (blkD ss ts n) d)) H'
theorem scStm : FnScope ["thing", "level", "sends", "takes", "total", "block", "many"] ["thing", "level", "sends", "takes"] (defScope sStSize) := ⟨rfl, rfl, rfl, by decide +kernel, rfl, by decide +kernel, by decide +kernel⟩
theorem scBlk : FnScope ["thing", "level", "sends", "takes", "total", "statement", "many"] ["thing", "level", "sends", "takes"] (defScope sBlSize) := ⟨rfl, rfl, rfl, by decide +kernel, rfl, by decide +kernel, by decide +kernel⟩
theorem cut2 (x y : V) (ys : List V) : cutV (x :: y :: ys) (some 2) none = ys := by
  unfold cutV HT.sIx
  simp
theorem sl2 (x y : V) (ys : List V) : ¬ (HT.sIx (x :: y :: ys).length 0 (some 2) = 0 ∧ HT.sIx (x :: y :: ys).length (x :: y :: ys).length none = (x :: y :: ys).length) := by
  unfold HT.sIx
  simp
theorem ok_stm {k n : Nat} {PT : List Addr} (F : Fun K "statement_size" "statement_size" sStSize f fd) (cD : Cal P w K mg base "is_deed" k ["thing", "sends", "takes"] (spIsDeed K PT)) (cB : Cal P w K mg base "is_branch" k ["thing"] (spIsBranch K PT)) (cS : Cal P w K mg base "block_size" k ["thing", "level", "sends", "takes"] (spBlk K PT n)) :
    FnOk P w K mg base CX0 (k + 1) f fd ["thing", "level", "sends", "takes"] (spStm K PT n) := by
  refine F.ok scStm (fun vs H Q E h => ?_) (fun cdv A outer s H vs Q E hr h => ?_)
  · obtain ⟨x, d, lv, a, b, ss, ts, rfl, _⟩ := h
    rfl
  obtain ⟨x, d, lv, a, b, ss, ts, rfl, hlv, hx, hk, ha, hb, tb, q⟩ := h
  refine ⟨_, pss_cons (ps_if (pt_val (pe_cal cD hr rfl (pa_cons (pv 0) (pa_cons (pv 2) (pa_cons (pv 3) pa_nil))))) (pss_one (ps_ret pe_int)) pss_nil)
    (pss_cons (ps_if (pt_not (pt_val (pe_cal cB hr rfl (pa_cons (pv 0) pa_nil)))) (pss_one (ps_ret pe_non)) pss_nil)
    (pss_cons (ps_set (i := 4) scStm.nd rfl (.inl rfl) pe_int)
    (pss_cons (ps_for PassesOwn.never rfl (pi_tup (pe_slice sl_tup (pv 0) (po_some pe_int) po_none)) (pg_name (i := 5) scStm.nd rfl (.inl rfl))
      (pss_cons (ps_set (i := 6) scStm.nd rfl (.inl rfl) (pe_cal cS hr rfl (pa_cons (pv 5) (pa_cons (pe_op op_add (pv 1) pe_int) (pa_cons (pv 2) (pa_cons (pv 3) pa_nil))))))
      (pss_cons (ps_if (pt_cmpR op_isN (pv 6) pe_non (nomark _)) (pss_one (ps_ret pe_non)) pss_nil)
      (pss_one (ps_aug (i := 4) scStm.nd rfl (.inl rfl) (pv 6) ip_add)))))
    (pss_one (ps_ret (pv 4)))))), ?_⟩
  refine ⟨_, rfl, _, rfl, _, rfl, x, d, a, b, ss, ts, rfl, hx, hk, ha, hb, tb, fun H1 e1 t1 => ⟨_, rfl, ?_⟩⟩
  cases hdd : deedD ss ts d with
  | true =>
    refine ifT rfl ?_
    have r := q H1 e1 t1
    unfold stOf at r
    rw [if_pos hdd] at r
    exact r
  | false =>
    refine ifF rfl ?_
    refine ⟨_, rfl, x, d, rfl, dp_ext e1 _ _ hx, hk, t1, fun H2 e2 t2 => ⟨_, rfl, ?_⟩⟩
    have e02 := e1.trans e2
    cases hbd : branchD d with
    | false =>
      refine ifT rfl ?_
      have r := q H2 e02 t2
      unfold stOf at r
      rw [if_neg (by rw [hdd]; decide), if_neg (by rw [hbd]; decide)] at r
      exact r
    | true =>
      refine ifF rfl ?_
      have q : ∀ H', ExtN H H' → TabsG PT H' → Q (optV ((sumO (blkD ss ts n) (argsD d)).map (1 + ·))) H' := fun H' e t => by
        have r := q H' e t
        unfold stOf at r
        rw [if_neg (by rw [hdd]; decide), if_pos hbd] at r
        exact r
      obtain ⟨z, d1, ds, m, rfl, _⟩ := branch_shape hbd
      have q : ∀ H', ExtN H H' → TabsG PT H' → Q (optV ((sumO (blkD ss ts n) ds).map (1 + ·))) H' := q
      cases dp_ext e02 _ _ hx with
      | @tup ta xs _ at_ each =>
        cases each with
        | @cons y ys _ _ h1 h2 =>
          cases h2 with
          | @cons y2 ys2 _ _ h3 h4 =>
            refine ⟨_, rfl, _, rfl, ta, _, rfl, at_, sl2 _ _ _, fun p hp => ?_⟩
            have s3 := same_new hp (.tup (cutV (y :: y2 :: ys2) (some 2) none))
            have p3 : SqT K (upd H2 p (.tup (cutV (y :: y2 :: ys2) (some 2) none))) p (cutV (y :: y2 :: ys2) (some 2) none) := .of upd_same
            rw [cut2] at s3 p3 ⊢
            have ly := dpAll_len h4
            refine ⟨p, rfl, ⟨ys2, p3⟩, ?_⟩
            refine for_tup (xs := ys2) (fun i σ G => ∃ (sm : Nat) (o5 o6 : Option V), sumO (blkD ss ts n) (ds.take i) = some sm ∧ σ = [some (.ref ta), some (.int lv), some (.ref a), some (.ref b), some (.int (1 + (sm : Int))), o5, o6] ∧ ExtN H2 G ∧ SqT K G p ys2 ∧ TabsG PT G)
              ⟨0, none, none, rfl, rfl, ext_same s3, p3, t2.same s3⟩ (fun i σ G _ h => by obtain ⟨_, _, _, _, _, _, h, _⟩ := h; exact h) (fun i y3 σ G hyi h => ?_) (fun σ G h => ?_)
            · obtain ⟨sm, o5, o6, hsm, rfl, eG, pG, tG⟩ := h
              obtain ⟨d3, hd3, hdp⟩ := dpAll_get' h4 hyi
              have m3 : d3 ∈ ds := List.mem_of_getElem? hd3
              have b3 : BkOk d3 := bk_mem hk (List.mem_cons_of_mem _ (List.mem_cons_of_mem _ m3))
              refine ⟨_, rfl, _, rfl, _, _, rfl, rfl, _, rfl, _, rfl, y3, d3, lv + 1, a, b, ss, ts, rfl, by omega, dp_ext eG _ _ hdp, b3, sqT_ext (e02.trans eG) ha, sqT_ext (e02.trans eG) hb, tG, fun G' e' t' => ?_⟩
              cases hv : blkD ss ts n d3 with
              | none =>
                refine ⟨_, rfl, rfl, _, rfl, ifT (decide_eq_true rfl) ?_⟩
                have r := q G' (e02.trans (eG.trans e')) t'
                rw [sumO_none m3 hv] at r
                exact r
              | some v =>
                refine ⟨_, rfl, rfl, _, rfl, ifF (decide_eq_false (fun z => by cases z)) ?_⟩
                refine ⟨_, rfl, _, rfl, _, _, rfl, rfl, sm + v, some y3, some (.int v), ?_, ?_, eG.trans e', sqT_ext e' pG, t'⟩
                · rw [take_more hd3]
                  exact sumO_snoc hsm hv
                · rw [show (1 : Int) + ((sm + v : Nat) : Int) = 1 + (sm : Int) + (v : Int) by omega]
                  rfl
            · obtain ⟨sm, o5, o6, hsm, rfl, eG, pG, tG⟩ := h
              rw [ly, List.take_length] at hsm
              have r := q G (e02.trans eG) tG
              rw [hsm] at r
              refine ⟨_, rfl, ?_⟩
              have r : Q (.int ((1 + sm : Nat) : Int)) G := r
              rw [show ((1 + sm : Nat) : Int) = 1 + (sm : Int) by omega] at r
              exact r
theorem blk_not {ss ts : List Int} {n : Nat} {d : PyData} (h : tupD 0 12 d = false) : blkD ss ts n d = none := by
  cases n with
  | zero => cases d <;> rfl
  | succ n =>
    cases d with
    | tuple ds =>
      have h : (decide ((0 : Int) ≤ (ds.length : Int)) && decide ((ds.length : Int) ≤ 12)) = false := h
      rw [decide_eq_true (by omega), Bool.true_and] at h
      show blkT ss ts _ ds = none
      unfold blkT
      rw [if_neg (fun z => by have := of_decide_eq_false h; omega)]
    | _ => rfl
theorem ok_blk0 {k : Nat} {PT : List Addr} (F : Fun K "block_size" "block_size" sBlSize f fd) (C : Cst mg) (cT : Cal P w K mg base "is_tuple" k ["thing", "least", "most"] (spTuple K)) :
    FnOk P w K mg base CX0 (k + 1) f fd ["thing", "level", "sends", "takes"] (spBlk K PT 0) := by
  refine F.ok scBlk (fun vs H Q E h => ?_) (fun cdv A outer s H vs Q E hr h => ?_)
  · obtain ⟨x, d, lv, a, b, ss, ts, rfl, _⟩ := h
    rfl
  obtain ⟨x, d, lv, a, b, ss, ts, rfl, hlv, hx, hk, ha, hb, tb, q⟩ := h
  refine ⟨_, pss_cons (ps_if (PW.pt (pw_or (pt_cmpR op_gt (pv 1) (pe_globI rfl C.mostWithin) (nomark _)) (pw_or1 (pt_not (pt_val (pe_cal cT hr rfl (pa_cons (pv 0) (pa_cons pe_int (pa_cons (pe_globI rfl C.mostInBlock) pa_nil))))))))) (pss_one (ps_ret pe_non)) pss_nil) pss_never, ?_⟩
  have r := q H (ExtN.refl _) tb
  have e : blkD ss ts 0 d = none := by cases d <;> rfl
  rw [e] at r
  exact ⟨_, rfl, _, _, rfl, rfl, _, rfl, ifT (decide_eq_true (by omega)) (ifT rfl r)⟩
theorem ok_blk {k n : Nat} {PT : List Addr} (hn : n ≤ 3) (F : Fun K "block_size" "block_size" sBlSize f fd) (C : Cst mg) (cT : Cal P w K mg base "is_tuple" k ["thing", "least", "most"] (spTuple K)) (cS : Cal P w K mg base "statement_size" k ["thing", "level", "sends", "takes"] (spStm K PT n)) :
    FnOk P w K mg base CX0 (k + 1) f fd ["thing", "level", "sends", "takes"] (spBlk K PT (n + 1)) := by
  refine F.ok scBlk (fun vs H Q E h => ?_) (fun cdv A outer s H vs Q E hr h => ?_)
  · obtain ⟨x, d, lv, a, b, ss, ts, rfl, _⟩ := h
    rfl
  obtain ⟨x, d, lv, a, b, ss, ts, rfl, hlv, hx, hk, ha, hb, tb, q⟩ := h
  refine ⟨_, pss_cons (ps_if (PW.pt (pw_or (pt_cmpR op_gt (pv 1) (pe_globI rfl C.mostWithin) (nomark _)) (pw_or1 (pt_not (pt_val (pe_cal cT hr rfl (pa_cons (pv 0) (pa_cons pe_int (pa_cons (pe_globI rfl C.mostInBlock) pa_nil))))))))) (pss_one (ps_ret pe_non)) pss_nil)
    (pss_cons (ps_set (i := 4) scBlk.nd rfl (.inl rfl) pe_int)
    (pss_cons (ps_for PassesOwn.never rfl (pi_tup (pv 0)) (pg_name (i := 5) scBlk.nd rfl (.inl rfl))
      (pss_cons (ps_set (i := 6) scBlk.nd rfl (.inl rfl) (pe_cal cS hr rfl (pa_cons (pv 5) (pa_cons (pv 1) (pa_cons (pv 2) (pa_cons (pv 3) pa_nil))))))
      (pss_cons (ps_if (pt_cmpR op_isN (pv 6) pe_non (nomark _)) (pss_one (ps_ret pe_non)) pss_nil)
      (pss_one (ps_aug (i := 4) scBlk.nd rfl (.inl rfl) (pv 6) ip_add)))))
    (pss_one (ps_ret (pe_ifExp (pt_cmpR op_le (pv 4) (pe_globI rfl C.mostStatements) (nomark _)) (pv 4) pe_non))))), ?_⟩
  refine ⟨_, rfl, _, _, rfl, rfl, _, rfl, ifF (decide_eq_false (by omega)) ⟨_, rfl, x, d, 0, 12, rfl, hx, _, rfl, ?_⟩⟩
  cases ht : tupD 0 12 d with
  | false =>
    have r := q H (ExtN.refl _) tb
    rw [blk_not ht] at r
    exact ifT rfl r
  | true =>
    refine ifF rfl ?_
    obtain ⟨ds, rfl⟩ : ∃ ds, d = .tuple ds := by cases d <;> first | exact ⟨_, rfl⟩ | cases ht
    have hl : ds.length ≤ 12 := by
      have h := and3 (show (decide ((0 : Int) ≤ (ds.length : Int)) && decide ((ds.length : Int) ≤ 12)) = true from ht)
      have := of_decide_eq_true h.2
      omega
    have q : ∀ H', ExtN H H' → TabsG PT H' → Q (optV (fit40 (sumO (stOf ss ts (blkD ss ts n)) ds))) H' := fun H' e t => by
      have r : Q (optV (blkT ss ts (blkD ss ts n) ds)) H' := q H' e t
      unfold blkT at r
      rw [if_pos hl] at r
      exact r
    cases hx with
    | @tup ta xs _ at_ each =>
      have lx := dpAll_len each
      refine ⟨_, rfl, ta, rfl, ⟨xs, at_⟩, ?_⟩
      refine for_tup (xs := xs) (fun i σ G => ∃ (sm : Nat) (o5 o6 : Option V), sumO (stOf ss ts (blkD ss ts n)) (ds.take i) = some sm ∧ σ = [some (.ref ta), some (.int lv), some (.ref a), some (.ref b), some (.int (sm : Int)), o5, o6] ∧ ExtN H G ∧ TabsG PT G)
        ⟨0, none, none, rfl, rfl, ExtN.refl _, tb⟩ (fun i σ G _ h => by obtain ⟨_, _, _, _, _, h, _⟩ := h; exact sqT_ext h at_) (fun i y3 σ G hyi h => ?_) (fun σ G h => ?_)
      · obtain ⟨sm, o5, o6, hsm, rfl, eG, tG⟩ := h
        obtain ⟨d3, hd3, hdp⟩ := dpAll_get' each hyi
        have m3 : d3 ∈ ds := List.mem_of_getElem? hd3
        refine ⟨_, rfl, _, rfl, _, rfl, _, rfl, y3, d3, lv, a, b, ss, ts, rfl, by omega, dp_ext eG _ _ hdp, bk_mem hk m3, sqT_ext eG ha, sqT_ext eG hb, tG, fun G' e' t' => ?_⟩
        cases hv : stOf ss ts (blkD ss ts n) d3 with
        | none =>
          refine ⟨_, rfl, rfl, _, rfl, ifT (decide_eq_true rfl) ?_⟩
          have r := q G' (eG.trans e') t'
          rw [sumO_none m3 hv] at r
          exact r
        | some v =>
          refine ⟨_, rfl, rfl, _, rfl, ifF (decide_eq_false (fun z => by cases z)) ?_⟩
          refine ⟨_, rfl, _, rfl, _, _, rfl, rfl, sm + v, some y3, some (.int v), ?_, ?_, eG.trans e', t'⟩
          · rw [take_more hd3]
            exact sumO_snoc hsm hv
          · rw [show ((sm + v : Nat) : Int) = (sm : Int) + (v : Int) by omega]
            rfl
      · obtain ⟨sm, o5, o6, hsm, rfl, eG, tG⟩ := h
        rw [lx, List.take_length] at hsm
        have r := q G eG tG
        rw [hsm] at r
        refine ⟨_, rfl, _, _, rfl, rfl, _, rfl, ?_⟩
        have r : Q (optV (if sm ≤ 40 then some sm else none)) G := r
        by_cases h40 : sm ≤ 40
        · rw [if_pos h40] at r
          exact ifT (decide_eq_true (by omega)) ⟨_, rfl, r⟩
        · rw [if_neg h40] at r
          exact ifF (decide_eq_false (by omega)) r
/-- the two, one by the other -/
theorem all_blk {k : Nat} {PT : List Addr} {fs : Addr} {fds : FuncData} (F : Fun K "block_size" "block_size" sBlSize f fd) (Fs : Fun K "statement_size" "statement_size" sStSize fs fds) (hm : mg "block_size" = some (.ref f)) (hms : mg "statement_size" = some (.ref fs)) (hb : Binds K fd ["thing", "level", "sends", "takes"] []) (hbs : Binds K fds ["thing", "level", "sends", "takes"] [])
    (C : Cst mg) (cT : Cal P w K mg base "is_tuple" k ["thing", "least", "most"] (spTuple K)) (cD : Cal P w K mg base "is_deed" k ["thing", "sends", "takes"] (spIsDeed K PT)) (cB : Cal P w K mg base "is_branch" k ["thing"] (spIsBranch K PT)) :
    ∀ n, n ≤ 4 → FnOk P w K mg base CX0 (k + 2 * n + 1) f fd ["thing", "level", "sends", "takes"] (spBlk K PT n)
  | 0, _ => ok_blk0 F C cT
  | n + 1, hn => by
    have ih := all_blk F Fs hm hms hb hbs C cT cD cB n (by omega)
    have st := ok_stm (k := k + 2 * n + 1) (n := n) (PT := PT) Fs (cD.mono (by omega)) (cB.mono (by omega)) ⟨f, fd, ih, hm, F.kp, hb⟩
    exact ok_blk (k := k + 2 * n + 1 + 1) (by omega) F C (cT.mono (by omega)) ⟨fs, fds, st, hms, Fs.kp, hbs⟩
end
/-! is_channel, sends_of, takes_of, is_net -/
def mkCh (c : Int × Int) : PyData := .tuple [.int c.1, .int c.2]
def intNe : PyData → PyData → Bool
  | .int i, .int j => !decide (i = j)
  | _, _ => true
def chanD (m : Int) : PyData → Bool
  | .tuple [p, r] => (withinD 0 (m - 1) p && withinD 0 (m - 1) r) && intNe p r
  | _ => false
def sideN (sd : Int × Int → Int) (chs : List (Int × Int)) (me : Int) (n : Nat) : List Int := ((List.range n).filter fun m => decide (sd (chs.getD m (0, 0)) = me)).map fun (m : Nat) => (m : Int)
def sideL (sd : Int × Int → Int) (chs : List (Int × Int)) (me : Int) : List Int := sideN sd chs me chs.length
theorem sideN_yes {sd : Int × Int → Int} {chs : List (Int × Int)} {me : Int} {n : Nat} {c : Int × Int} (h : chs[n]? = some c) (e : sd c = me) : sideN sd chs me (n + 1) = sideN sd chs me n ++ [(n : Int)] := by
  unfold sideN
  rw [List.range_succ, List.filter_append, List.map_append]
  congr 1
  have z : decide (sd (chs.getD n (0, 0)) = me) = true := by
    rw [List.getD_eq_getElem?_getD, h]
    exact decide_eq_true e
  rw [List.filter_cons, if_pos z]
  rfl
theorem sideN_no {sd : Int × Int → Int} {chs : List (Int × Int)} {me : Int} {n : Nat} {c : Int × Int} (h : chs[n]? = some c) (e : sd c ≠ me) : sideN sd chs me (n + 1) = sideN sd chs me n := by
  unfold sideN
  rw [List.range_succ, List.filter_append, List.map_append]
  have z : decide (sd (chs.getD n (0, 0)) = me) = false := by
    rw [List.getD_eq_getElem?_getD, h]
    exact decide_eq_false e
  rw [List.filter_cons, if_neg (by rw [z]; decide)]
  simp
theorem sideN_len (sd : Int × Int → Int) (chs : List (Int × Int)) (me : Int) (n : Nat) : (sideN sd chs me n).length ≤ n := by
  unfold sideN
  rw [List.length_map]
  have h := List.length_filter_le (fun m => decide (sd (chs.getD m (0, 0)) = me)) (List.range n)
  rw [List.length_range] at h
  exact h
theorem tabsG_upd {PT : List Addr} {H : Hp} {D : Addr} {l l' : List V} (t : TabsG PT H) (h : H D = some (.lst l)) : TabsG PT (upd H D (.lst l')) := fun P hP => by
  obtain ⟨ps, h1, h2⟩ := t P hP
  refine ⟨ps, ?_, h2⟩
  rw [upd_ne (fun e => by rw [e, h] at h1; cases h1)]
  exact h1
theorem chs_at {K : PySem.W.Frag} {H : Hp} : ∀ {chs : List (Int × Int)} {xs : List V} {m : Nat} {x : V}, DpAll K H xs (chs.map mkCh) → xs[m]? = some x → ∃ c r, chs[m]? = some c ∧ x = .ref r ∧ SqT K H r [.int c.1, .int c.2]
  | [], _, m, x, .nil, h => by cases h
  | c :: chs, _ :: xs, 0, x, .cons one more, h => by
    cases h
    cases one with
    | @tup r us _ at_ each =>
      cases each with
      | cons i1 i2 =>
        cases i2 with
        | cons i3 i4 =>
          cases i4
          cases i1
          cases i3
          exact ⟨c, r, rfl, rfl, at_⟩
  | c :: chs, _ :: xs, m + 1, x, .cons one more, h => by
    obtain ⟨c', r, h1, h2⟩ := chs_at (m := m) more h
    exact ⟨c', r, h1, h2⟩
section
open PySem.Spec PyProof.Rows LamX
variable {P : Program} {w : World} {K : PySem.W.Frag} {mg : Str → Option Value} {base : Heap} {f : Addr} {fd : FuncData}
def spSide (K : PySem.W.Frag) (PT : List Addr) (sd : Int × Int → Int) : Sp := fun vs H Q _ => ∃ (x : V) (chs : List (Int × Int)) (me : Int), vs = [x, .int me] ∧ Dp K H x (.tuple (chs.map mkCh)) ∧ chs.length ≤ 100 ∧ TabsG PT H ∧ ∀ p H', ExtN H H' → TabsG PT H' → SqT K H' p ((sideL sd chs me).map V.int) → Q (.ref p) H'
theorem scSends : FnScope ["channels", "actor", "m"] ["channels", "actor"] (defScope sSends) := ⟨rfl, rfl, rfl, by decide +kernel, rfl, by decide +kernel, by decide +kernel⟩
theorem ok_sSends {k : Nat} {c Pc : Addr} {PT : List Addr} (F : Fun K "sends_of" "sends_of" sSends f fd) (hc : fd.code = .ref c) (TB : LamX.TabB base mg c Pc) (hPT : Pc ∈ PT) (T : Free mg) : FnOk P w K mg base CX0 (k + 2) f fd ["channels", "actor"] (spSide K PT Prod.fst) := by
  refine okC F hc scSends (fun vs H Q E h => ?_) (fun A outer s H vs Q E hr h => ?_)
  · obtain ⟨x, chs, me, rfl, _⟩ := h
    rfl
  obtain ⟨x, chs, me, rfl, hx, hl, tb, q⟩ := h
  refine ⟨_, pss_one (ps_ret (pe_tupG (k := k) (own := [("m", 2)]) (wi := iRng1 (tCons (tCB (fun xs H Q => ∃ p ys, xs = [V.ref p] ∧ (SqL K H p ys ∨ SqT K H p ys) ∧ Q (.int ys.length) H) (tCons (tVar 0) tNil)) tNil)) (g := gName 2) (tt := tTest (tOp rEq (tOp (rIxT K) (tOp (rIxT K) (tVar 0) (tVar 2)) (tC (.int 0))) (tVar 1))) (te := tVar 2) scSends.nd hr rfl T.tuple (by decide +kernel) TB rfl
      (blkOk_by (own := [("m", 2)]) (N := ["channels", "actor", "m"]) (sc := defScope sSends) (by decide +kernel)) (by decide +kernel) rfl rfl (pi_range1 rfl T.range (pa_cons (pe_callB call_len_seq rfl T.len PySem.boot_len (pa_cons (pv 0) pa_nil)) pa_nil))
      (fun _ _ _ _ _ _ _ _ _ _ => pg_name (i := 2) scSends.nd rfl (Or.inl rfl)) (fun _ _ _ _ _ _ _ _ _ _ => pts_one (pt_cmpR op_eq (pe_ix ix_tup (pe_ix ix_tup (pv 0) (pv 2) (fun _ _ => rfl)) pe_int (fun _ _ => rfl)) (pv 1) (nomark _)))
      (fun _ _ _ _ _ _ _ _ _ hr' => pv 2) (fun _ => rfl))), ?_⟩
  cases hx with
  | @tup ta xs _ at_ each =>
    have lx := dpAll_len each
    rw [List.length_map] at lx
    refine ⟨_, rfl, ta, xs, rfl, .inr at_, _, rfl, by omega, by omega, tb Pc hPT, fun H2 b2 D hD => ?_⟩
    have e2 := tabbed_ext (tb Pc hPT) b2
    have t2 := tb.tabbed b2
    have e3 : ∀ l, ExtN H (upd H2 D (.lst l)) := fun l => e2.trans (ext_same (same_new hD _))
    have hHD : ∀ u, H D = some u → ∃ ps, u = .tbl ps := fun u hu => by
      by_cases h : ∃ ps, u = .tbl ps
      · exact h
      · have z := e2 D u hu (fun ps e => h ⟨ps, e⟩)
        rw [hD] at z
        cases z
    rw [show ((xs.length : Int)).toNat = chs.length by omega]
    refine lc_range (fun i G => ExtN H G ∧ TabsG PT G ∧ G D = some (.lst ((sideN Prod.fst chs me i).map V.int))) ⟨e3 _, t2.same (same_new hD _), by rw [upd_same]; rfl⟩ (fun i G hi h => ?_) (fun G h => ?_)
    · obtain ⟨eG, tG, gD⟩ := h
      obtain ⟨y, hy⟩ : ∃ y, xs[i]? = some y := ⟨xs[i]'(by omega), by simp⟩
      have eG' := dp_exts eG _ _ each
      obtain ⟨c, r, hcm, rfl, hr2⟩ := chs_at eG' hy
      have ei : (0 : Int) + (i : Nat) = (i : Int) := by omega
      rw [ei]
      refine ⟨rfl, _, rfl, _, rfl, ta, xs, i, _, rfl, rfl, sqT_ext eG at_, atI_nat hy, r, _, 0, .int c.1, rfl, rfl, hr2, atI_at (by decide) rfl, _, rfl, rfl, _, rfl, ?_⟩
      by_cases hcd : c.1 = me
      · refine ifT (by rw [hcd]; exact decide_eq_true rfl) ?_
        refine ⟨_, rfl, _, gD, ?_, ext_upd eG hHD, tabsG_upd tG gD, ?_⟩
        · rw [List.length_map]
          have := sideN_len Prod.fst chs me i
          exact Nat.lt_of_lt_of_le (show _ < 1000 by omega) (show 1000 ≤ sizeLine by decide)
        · rw [upd_same, sideN_yes hcm hcd, List.map_append]
          rfl
      · refine ifF (decide_eq_false (fun z => hcd (by injection z))) ?_
        refine ⟨eG, tG, ?_⟩
        rw [sideN_no hcm hcd]
        exact gD
    · obtain ⟨eG, tG, gD⟩ := h
      refine ⟨_, gD, fun p hp => q p _ (eG.trans (ext_same (same_new hp _))) (tG.same (same_new hp _)) (.of upd_same)⟩
theorem scTakes : FnScope ["channels", "actor", "m"] ["channels", "actor"] (defScope sTakes) := ⟨rfl, rfl, rfl, by decide +kernel, rfl, by decide +kernel, by decide +kernel⟩
theorem ok_sTakes {k : Nat} {c Pc : Addr} {PT : List Addr} (F : Fun K "takes_of" "takes_of" sTakes f fd) (hc : fd.code = .ref c) (TB : LamX.TabB base mg c Pc) (hPT : Pc ∈ PT) (T : Free mg) : FnOk P w K mg base CX0 (k + 2) f fd ["channels", "actor"] (spSide K PT Prod.snd) := by
  refine okC F hc scTakes (fun vs H Q E h => ?_) (fun A outer s H vs Q E hr h => ?_)
  · obtain ⟨x, chs, me, rfl, _⟩ := h
    rfl
  obtain ⟨x, chs, me, rfl, hx, hl, tb, q⟩ := h
  refine ⟨_, pss_one (ps_ret (pe_tupG (k := k) (own := [("m", 2)]) (wi := iRng1 (tCons (tCB (fun xs H Q => ∃ p ys, xs = [V.ref p] ∧ (SqL K H p ys ∨ SqT K H p ys) ∧ Q (.int ys.length) H) (tCons (tVar 0) tNil)) tNil)) (g := gName 2) (tt := tTest (tOp rEq (tOp (rIxT K) (tOp (rIxT K) (tVar 0) (tVar 2)) (tC (.int 1))) (tVar 1))) (te := tVar 2) scTakes.nd hr rfl T.tuple (by decide +kernel) TB rfl
      (blkOk_by (own := [("m", 2)]) (N := ["channels", "actor", "m"]) (sc := defScope sTakes) (by decide +kernel)) (by decide +kernel) rfl rfl (pi_range1 rfl T.range (pa_cons (pe_callB call_len_seq rfl T.len PySem.boot_len (pa_cons (pv 0) pa_nil)) pa_nil))
      (fun _ _ _ _ _ _ _ _ _ _ => pg_name (i := 2) scTakes.nd rfl (Or.inl rfl)) (fun _ _ _ _ _ _ _ _ _ _ => pts_one (pt_cmpR op_eq (pe_ix ix_tup (pe_ix ix_tup (pv 0) (pv 2) (fun _ _ => rfl)) pe_int (fun _ _ => rfl)) (pv 1) (nomark _)))
      (fun _ _ _ _ _ _ _ _ _ hr' => pv 2) (fun _ => rfl))), ?_⟩
  cases hx with
  | @tup ta xs _ at_ each =>
    have lx := dpAll_len each
    rw [List.length_map] at lx
    refine ⟨_, rfl, ta, xs, rfl, .inr at_, _, rfl, by omega, by omega, tb Pc hPT, fun H2 b2 D hD => ?_⟩
    have e2 := tabbed_ext (tb Pc hPT) b2
    have t2 := tb.tabbed b2
    have e3 : ∀ l, ExtN H (upd H2 D (.lst l)) := fun l => e2.trans (ext_same (same_new hD _))
    have hHD : ∀ u, H D = some u → ∃ ps, u = .tbl ps := fun u hu => by
      by_cases h : ∃ ps, u = .tbl ps
      · exact h
      · have z := e2 D u hu (fun ps e => h ⟨ps, e⟩)
        rw [hD] at z
        cases z
    rw [show ((xs.length : Int)).toNat = chs.length by omega]
    refine lc_range (fun i G => ExtN H G ∧ TabsG PT G ∧ G D = some (.lst ((sideN Prod.snd chs me i).map V.int))) ⟨e3 _, t2.same (same_new hD _), by rw [upd_same]; rfl⟩ (fun i G hi h => ?_) (fun G h => ?_)
    · obtain ⟨eG, tG, gD⟩ := h
      obtain ⟨y, hy⟩ : ∃ y, xs[i]? = some y := ⟨xs[i]'(by omega), by simp⟩
      have eG' := dp_exts eG _ _ each
      obtain ⟨c, r, hcm, rfl, hr2⟩ := chs_at eG' hy
      have ei : (0 : Int) + (i : Nat) = (i : Int) := by omega
      rw [ei]
      refine ⟨rfl, _, rfl, _, rfl, ta, xs, i, _, rfl, rfl, sqT_ext eG at_, atI_nat hy, r, _, 1, .int c.2, rfl, rfl, hr2, atI_at (by decide) rfl, _, rfl, rfl, _, rfl, ?_⟩
      by_cases hcd : c.2 = me
      · refine ifT (by rw [hcd]; exact decide_eq_true rfl) ?_
        refine ⟨_, rfl, _, gD, ?_, ext_upd eG hHD, tabsG_upd tG gD, ?_⟩
        · rw [List.length_map]
          have := sideN_len Prod.snd chs me i
          exact Nat.lt_of_lt_of_le (show _ < 1000 by omega) (show 1000 ≤ sizeLine by decide)
        · rw [upd_same, sideN_yes hcm hcd, List.map_append]
          rfl
      · refine ifF (decide_eq_false (fun z => hcd (by injection z))) ?_
        refine ⟨eG, tG, ?_⟩
        rw [sideN_no hcm hcd]
        exact gD
    · obtain ⟨eG, tG, gD⟩ := h
      refine ⟨_, gD, fun p hp => q p _ (eG.trans (ext_same (same_new hp _))) (tG.same (same_new hp _)) (.of upd_same)⟩
def spIsChan (K : PySem.W.Frag) (PT : List Addr) : Sp := fun vs H Q _ => ∃ (x : V) (d : PyData) (m : Int), vs = [x, .int m] ∧ Dp K H x d ∧ TabsG PT H ∧ ∀ H', ExtN H H' → TabsG PT H' → Q (.bl (chanD m d)) H'
theorem scIsChan : FnScope ["thing", "actors", "actor"] ["thing", "actors"] (defScope sIsChan) := ⟨rfl, rfl, rfl, by decide +kernel, rfl, by decide +kernel, by decide +kernel⟩
theorem tup22 {d : PyData} (h : tupD 2 2 d = true) : ∃ p r, d = .tuple [p, r] := by
  cases d with
  | tuple ds =>
    have h := and3 (show (decide ((2 : Int) ≤ (ds.length : Int)) && decide ((ds.length : Int) ≤ 2)) = true from h)
    have h1 := of_decide_eq_true h.1
    have h2 := of_decide_eq_true h.2
    match ds, (show ds.length = 2 by omega) with
    | [p, r], _ => exact ⟨p, r, rfl⟩
  | _ => cases h
theorem chan_not {m : Int} {d : PyData} (h : tupD 2 2 d = false) : chanD m d = false := by
  unfold chanD
  split
  · exact absurd h (fun z => by cases z)
  · rfl
theorem within_int {lo hi : Int} {d : PyData} (h : withinD lo hi d = true) : ∃ i, d = .int i ∧ lo ≤ i ∧ i ≤ hi := by
  cases d with
  | int i =>
    have h := and3 (show (decide (lo ≤ i) && decide (i ≤ hi)) = true from h)
    exact ⟨i, rfl, of_decide_eq_true h.1, of_decide_eq_true h.2⟩
  | _ => cases h
theorem decI (i j : Int) : decide (V.int i = V.int j) = decide (i = j) := decide_eq_decide.mpr ⟨fun h => by injection h, fun h => by rw [h]⟩
theorem ok_isChan {k : Nat} {c Pc : Addr} {PT : List Addr} (F : Fun K "is_channel" "is_channel" sIsChan f fd) (hc : fd.code = .ref c) (TB : LamX.TabB base mg c Pc) (hPT : Pc ∈ PT) (hA : mg "all" = none) (cT : Cal P w K mg base "is_tuple" k ["thing", "least", "most"] (spTuple K)) (cW : Cal P w K mg base "is_within" k ["thing", "least", "most"] (spWithin K)) :
    FnOk P w K mg base CX0 (k + 2) f fd ["thing", "actors"] (spIsChan K PT) := by
  refine okC F hc scIsChan (fun vs H Q E h => ?_) (fun A outer s H vs Q E hr h => ?_)
  · obtain ⟨x, d, m, rfl, _⟩ := h
    rfl
  obtain ⟨x, d, m, rfl, hx, tb, q⟩ := h
  have cT' := cT.mono (Nat.le_succ k)
  refine ⟨_, pss_cons (ps_if (PW.pt (pw_or (pt_not (pt_val (pe_cal cT' hr rfl (pa_cons (pv 0) (pa_cons pe_int (pa_cons pe_int pa_nil)))))) (pw_or1 (pt_not (pt_val (pe_allG (own := [("actor", 2)]) (wi := iTup K (tVar 0)) (g := gName 2) (tt := tYes) (te := tCall (spWithin K) [] E0 (tCons (tVar 2) (tCons (tC (.int 0)) (tCons (tOp (rI0 fun i j => .int (i - j)) (tVar 1) (tC (.int 1))) tNil)))) scIsChan.nd hr rfl hA (by decide +kernel) TB rfl
      (blkOk_by (own := [("actor", 2)]) (N := ["thing", "actors", "actor"]) (sc := defScope sIsChan) (by decide +kernel)) (by decide +kernel) rfl rfl (pi_tup (pv 0))
      (fun _ _ _ _ _ _ _ _ _ _ => pg_name (i := 2) scIsChan.nd rfl (Or.inl rfl)) (fun _ _ _ _ _ _ _ _ _ _ => pts_nil)
      (fun _ _ _ _ _ _ _ _ _ hr' => pe_cal cW hr' rfl (pa_cons (pv 2) (pa_cons pe_int (pa_cons (pe_op op_sub (pv 1) pe_int) pa_nil)))) (fun _ => rfl))))))) (pss_one (ps_ret pe_bl)) pss_nil)
    (pss_one (ps_ret (pe_cmpR op_ne (pe_ix ix_tup (pv 0) pe_int (fun _ _ => rfl)) (pe_ix ix_tup (pv 0) pe_int (fun _ _ => rfl)) (nomark _)))), ?_⟩
  have no : chanD m d = false → ∀ H', ExtN H H' → TabsG PT H' → Q (.bl false) H' := fun e H' e1 t1 => by
    have r := q H' e1 t1
    rw [e] at r
    exact r
  refine ⟨_, rfl, x, d, 2, 2, rfl, hx, _, rfl, ?_⟩
  cases ht : tupD 2 2 d with
  | false => exact ifT rfl (ifT rfl (no (chan_not ht) H (ExtN.refl _) tb))
  | true =>
    refine ifF rfl ?_
    obtain ⟨p, r, rfl⟩ := tup22 ht
    have dd : chanD m (.tuple [p, r]) = ((withinD 0 (m - 1) p && withinD 0 (m - 1) r) && intNe p r) := rfl
    cases hx with
    | @tup ta xs _ at_ each =>
      have lx := dpAll_len each
      refine ⟨_, rfl, ta, rfl, ⟨xs, at_⟩, tb Pc hPT, fun H2 b2 => ?_⟩
      have e2 := tabbed_ext (tb Pc hPT) b2
      refine gx_tup (xs := xs) (fun i H' => H' = H2 ∧ ([p, r].take i).all (withinD 0 (m - 1)) = true) ⟨rfl, rfl⟩ (fun i H' _ h => ?_) (fun i y H' hy h => ?_) (fun H' h => ?_)
      · rw [h.1]
        exact sqT_ext e2 at_
      · obtain ⟨rfl, all3⟩ := h
        obtain ⟨d, hd, hdy⟩ := dpAll_get' each hy
        refine ⟨rfl, yesG ⟨_, rfl, _, rfl, _, _, rfl, rfl, y, d, 0, m - 1, rfl, dp_ext e2 _ _ hdy, _, rfl, fun c => ⟨rfl, ?_⟩, fun c => ?_⟩⟩
        · rw [all_take hd, all3, c]
          rfl
        · have e : (withinD 0 (m - 1) p && withinD 0 (m - 1) r) = false := by
            cases z : (withinD 0 (m - 1) p && withinD 0 (m - 1) r) with
            | false => rfl
            | true =>
              have z := and3 z
              have hm : d ∈ [p, r] := List.mem_of_getElem? hd
              rcases List.mem_cons.mp hm with rfl | hm
              · exact absurd z.1 c
              · rw [List.mem_singleton.mp hm] at c
                exact absurd z.2 c
          rw [e, Bool.false_and] at dd
          exact ⟨_, rfl, ifT rfl (no dd _ e2 (tb.tabbed b2))⟩
      · obtain ⟨rfl, all3⟩ := h
        rw [lx, List.take_length] at all3
        have all3 : (withinD 0 (m - 1) p && (withinD 0 (m - 1) r && true)) = true := all3
        rw [Bool.and_true] at all3
        rw [all3, Bool.true_and] at dd
        obtain ⟨i, rfl, _⟩ := within_int (and3 all3).1
        obtain ⟨j, rfl, _⟩ := within_int (and3 all3).2
        refine ⟨_, rfl, ifF rfl ?_⟩
        cases each with
        | cons i1 i2 =>
          cases i2 with
          | cons i3 i4 =>
            cases i4
            cases i1
            cases i3
            have r := q _ e2 (tb.tabbed b2)
            rw [dd] at r
            have r : Q (.bl (!decide (i = j))) _ := r
            rw [← decI] at r
            exact ⟨_, rfl, ta, _, 0, _, rfl, rfl, sqT_ext e2 at_, atI_at (by decide) rfl, _, rfl, ta, _, 1, _, rfl, rfl, sqT_ext e2 at_, atI_at (by decide) rfl, rfl, r⟩
end
/-! for i, x in enumerate(t), t a tuple -/
section
open PySem.Spec PyProof.Rows
abbrev tupIt (t : Addr) : Obj := { cls := .type "tuple_iterator", data := .fields #[.ref t, .int 0 0] }
abbrev enumO (it : Addr) : Obj := { cls := .type "enumerate", data := .fields #[.none, .bool false, .ref it, rawInt 0, .none, .none] }
set_option maxHeartbeats 1000000 in
theorem meets_enumT (t : Addr) (its : Array Value) :
    Meets (Builtin.«enumerate.__new__» ⟨[.type "enumerate", .ref t], []⟩) (fun _ R s => s.heap.IsTuple t its ∧ R (.ok (.ret (.ref (s.heap.push (tupIt t)).objs.size))) { s with heap := (s.heap.push (tupIt t)).push (enumO s.heap.objs.size) }) :=
  .of_wp fun prog w A R s h => by
    obtain ⟨hp, g, d, tk, os⟩ := s
    obtain ⟨h1, h⟩ := h
    have f1 := sub_enumerate
    have q1 : ∀ {A' : Around} {E : Value → Shared → Prop} {Q : Value → Shared → Prop}, Q (.ref hp.objs.size) ⟨hp.push (tupIt t), g, d, tk, os⟩ → wpAny (model prog w) A' (pyIter (.ref t)) Q E ⟨hp, g, d, tk, os⟩ := fun q => wpAny_pyIter_tuple h1 q
    wp_walk using q1
    refine wpAny_stack_any fun st => wpAny_pure ?_
    split
    · rename_i c _ _ _ _ _
      cases (c == Value.type "enumerate") <;> (wp_walk using q1; exact ⟨_, rfl, h⟩)
    · wp_walk using q1
      exact ⟨_, rfl, h⟩
theorem call_enumT {prog : Program} {w : World} {A : Around} {E : Value → Shared → Prop} {s : Shared} {t : Addr} {its : Array Value} {Q : Value → Shared → Prop} (hT : s.heap.IsTuple t its)
    (h : ∀ h', IsEnum h' (s.heap.objs.size + 1) s.heap.objs.size 0 .none → h'.IsTupleIter s.heap.objs.size t 0 → h'.objs.size = s.heap.objs.size + 2 → (∀ b o, s.heap.get? b = some o → h'.get? b = some o) → Q (.ref (s.heap.objs.size + 1)) { s with heap := h' }) :
    wpAny (model prog w) A (call (.type "enumerate") [.ref t]) Q E s := by
  refine callType_new F.called_enumerate (by decide) (F.typeCall_enumerate_1 _) (F.newCall_enumerate_1 _) (fun obj => F.args_object_init_2 obj _) F.entry_enumerate_new (meets_enumT t its) ⟨hT, ?_⟩
  have sz : (s.heap.push (tupIt t)).objs.size = s.heap.objs.size + 1 := Heap.size_push ..
  have atE : ((s.heap.push (tupIt t)).push (enumO s.heap.objs.size)).get? (s.heap.objs.size + 1) = some (enumO s.heap.objs.size) := by
    rw [← sz]
    exact Heap.get?_push_size _ rfl
  show _ ∧ _
  rw [sz]
  exact ⟨⟨_, atE, rfl⟩, h _ atE ⟨_, Heap.get?_push_of_some _ (Heap.get?_push_size _ rfl), rfl, rfl⟩ (by rw [Heap.size_push, sz]) fun b o x => Heap.get?_push_of_some _ (Heap.get?_push_of_some _ x)⟩
/-- each item in a new pair -/
def Ienum (K : PySem.W.Frag) (a : Addr) : It :=
  ⟨fun i H => ∃ (xs : List V) (x : V), SqT K H a xs ∧ xs[i]? = some x, fun i H v H' => ∃ T x, v = .ref T ∧ H T = none ∧ H' = upd H T (.tup [.int (i : Nat), x]) ∧ ∀ xs, SqT K H a xs → xs[i]? = some x, fun i H => ∃ xs : List V, SqT K H a xs ∧ xs.length = i⟩
theorem turn_enumT {P : Program} {w : World} {K : PySem.W.Frag} {elts : List Expr} {kk : Nat} {tpos : Pos} (a e it : Addr) (hae : a ≠ e) (hai : a ≠ it) :
    Turn P w K (.Tuple elts kk tpos) (Ienum K a) [e, it] e (fun i h => (∃ old, IsEnum h e it ((i : Nat) : Int) old) ∧ h.IsTupleIter it a i ∧ e ≠ it) where
  mem := by simp
  obj := fun i h st b hb => by
    obtain ⟨⟨old, he⟩, ⟨o, ho, hc, hd⟩, _⟩ := st
    rcases List.mem_cons.mp hb with z | z
    · rw [z]; exact ⟨_, he, fun v q => nomatch q⟩
    · rw [List.mem_singleton.mp z]; exact ⟨o, ho, fun v q => by rw [hd] at q; cases q⟩
  keep := fun i h h' ⟨⟨old, he⟩, hi, hne⟩ k => ⟨⟨old, k e (by simp) _ he⟩, hi.at fun o q => k it (by simp) o q, hne⟩
  item := by
    intro X hP hw hK hc i pins s σ H E I hf st hg
    subst hP hw hK
    obtain ⟨⟨old, he⟩, hit, hne⟩ := st
    obtain ⟨xs, x, hq, hx⟩ := hg
    obtain ⟨its, rv, p, hz⟩ := I.tuple hq
    obtain ⟨u, hu, ru⟩ := rv.get hx
    have isT : s.heap.IsTuple a its.toArray := let ⟨o1, g1, c1, n1, d1⟩ := p; ⟨o1, g1, c1, n1, d1⟩
    have le : e < s.heap.objs.size := Heap.lt_size he
    have li : it < s.heap.objs.size := by obtain ⟨_, q, _⟩ := hit; exact Heap.lt_size q
    have hlt : i < its.toArray.size := by
      rw [List.size_toArray]
      exact (List.getElem?_eq_some_iff.mp hu).1
    have D : Draws X.prog X.w X.A.in1 it [it, a] its.toArray.size (fun i v => its.toArray[i]? = some v) (fun i h => h.IsTupleIter it a i ∧ h.IsTuple a its.toArray) := Draws.tuple (by show X.A.handled = none; exact I.ok.hd hc) it a hai its.toArray
    refine wpAny_pyNext_enum_itemD D he ⟨hit, isT⟩ hlt hne (by simp only [List.mem_cons, List.mem_singleton, List.not_mem_nil, or_false, not_or]; exact ⟨hne, fun z => hae z.symm⟩) fun x' h' tk hx' out st' hT sz hk => ?_
    have ex : x' = u := by
      have z : its.toArray[i]? = some u := by simpa using hu
      rw [z] at hx'
      exact (Option.some.inj hx').symm
    subst ex
    refine ⟨_, rfl, wpAny_letOwnedTupleGo_enum (s := { s with heap := h', toks := tk + 1 }) out fun h'' he' sb => ?_⟩
    have at2 : h''.get? s.heap.objs.size = some { cls := .type "tuple", data := .seq #[.int i tk, x'] } := (sb.2 _ (Nat.ne_of_gt le)).trans hT
    have new : ObjOk X.prog X.w (upd H s.heap.objs.size (.tup [.int (i : Nat), x])) h'' s.heap.objs.size (.tup [.int (i : Nat), x]) := ⟨by show 2 ≤ sizeLine; decide, [.int i tk, x'], .cons ⟨_, rfl⟩ (.cons ru .nil), ⟨_, at2, rfl, _, rfl⟩⟩
    have I1 : Inv X pins σ (upd H s.heap.objs.size (.tup [.int (i : Nat), x])) { s with heap := h'', toks := tk + 1 } :=
      I.turnedNew (ch := [e, it]) (fun b ob hb q => (sb.2 b (fun z => hb (by simp [z]))).trans (hk b ob (fun z => hb (by simp [z])) (fun z => hb (by simp [z])) q)) hf (Nat.le_refl _) new
    refine ⟨.ref s.heap.objs.size, _, I1, rfl, ⟨_, x, rfl, I.hok.fresh (Nat.le_refl _), rfl, fun ys hy => ?_⟩, ⟨⟨x', ?_⟩, st'.1.at fun o q => (sb.2 it (Ne.symm hne)).trans q, hne⟩, fun b hb => ?_⟩
    · rw [I.tuple_inj hy hq]
      exact hx
    · rw [show ((i + 1 : Nat) : Int) = (i : Int) + 1 by omega]
      exact he'
    · have hb' : b < s.heap.objs.size := by
        rcases List.mem_cons.mp hb with z | z
        · rw [z]; exact le
        · rw [List.mem_singleton.mp z]; exact li
      rw [upd_ne (Nat.ne_of_lt hb')]
      exact (hf b hb).1
  done := by
    intro X hP hw hK hc i pins s σ H E I hf st hg
    subst hP hw hK
    obtain ⟨⟨old, he⟩, hit, hne⟩ := st
    obtain ⟨xs, hq, hx⟩ := hg
    obtain ⟨its, rv, p, hz⟩ := I.tuple hq
    have isT : s.heap.IsTuple a its.toArray := let ⟨o1, g1, c1, n1, d1⟩ := p; ⟨o1, g1, c1, n1, d1⟩
    obtain ⟨f0, f1, f2, f3, f4, f5⟩ := hf it (by simp)
    have D : Draws X.prog X.w X.A.in1 it [it, a] its.toArray.size (fun i v => its.toArray[i]? = some v) (fun i h => h.IsTupleIter it a i ∧ h.IsTuple a its.toArray) := Draws.tuple (by show X.A.handled = none; exact I.ok.hd hc) it a hai its.toArray
    have en : its.toArray.size = i := by rw [List.size_toArray, ← rv.length]; exact hx
    refine wpAny_pyNext_enum_endD D he ⟨by rw [en]; exact hit, isT⟩ fun h' eb => ⟨rfl, I.turned (t' := s.toks) (fun b o hb q => eb b o hb q) f0 f1 f3 f4 f5⟩
  self := fun A i s Q E ⟨⟨_, he⟩, _⟩ h => wpAny_pyIter_enum he h
def iEnumT (K : PySem.W.Frag) (ta : TA) : TI := fun σ H R => ta σ H fun vs H1 => ∃ a xs, vs = [.ref a] ∧ SqT K H1 a xs ∧ R (Ienum K a) H1
theorem pi_enumT {X : Cx} {e : Expr} {ta : TA} {p pos tpos : Pos} {elts : List Expr} {kk : Nat} (hg : Gl X "enumerate") (hm : X.mg "enumerate" = none) (ha : PA X [e] ta) (hs : starEach [e] X.env = [(false, eval e X.env)] := by rfl) :
    PI X (.Tuple elts kk tpos) (.Call (.Name "enumerate" p) [e] [] pos) (iEnumT X.K ta) := by
  refine ⟨fun pins s σ H R I h => ?_⟩
  refine Call_ (ld_blt I hg hm boot_enumerate (callWith_type1 (thn (ha.run pos pins s σ H _ I h) fun us s1 ⟨vs, H1, I1, r1, q1⟩ => ?_) hs rfl))
  obtain ⟨a, xs, rfl, hq, q⟩ := q1
  obtain ⟨u, rfl, ru⟩ := vals1 r1
  cases ru
  obtain ⟨its, rv, tp, hz⟩ := I1.tuple hq
  have lt : a < s1.heap.objs.size := tp.lt
  refine call_enumT (its := its.toArray) (let ⟨o1, g1, c1, n1, d1⟩ := tp; ⟨o1, g1, c1, n1, d1⟩) fun h' he hit sz hk => wpAny_pyIter_enum he ?_
  have I2 : Inv X pins σ H1 { s1 with heap := h' } := I1.kept (t' := s1.toks) hk
  refine ⟨s1.heap.objs.size + 1, [s1.heap.objs.size + 1, s1.heap.objs.size], _, _, H1, rfl, I2, turn_enumT a (s1.heap.objs.size + 1) s1.heap.objs.size (Nat.ne_of_lt (Nat.lt_succ_of_lt lt)) (Nat.ne_of_lt lt), ⟨⟨.none, he⟩, hit, Nat.succ_ne_self _⟩, fun b hb => ?_, q⟩
  have hle : s1.heap.objs.size ≤ b := by
    rcases List.mem_cons.mp hb with z | z
    · rw [z]; exact Nat.le_add_right _ _
    · rw [List.mem_singleton.mp z]; exact Nat.le_refl _
  exact I1.fpOk hle (I1.hok.fresh hle)
/-- a loop over it -/
theorem for_enumT {K : PySem.W.Frag} {a : Addr} {xs : List V} {g : TG} {tb : TS} {D : Ends} {σ : L2.St} {H : Hp} (Pv : Nat → L2.St → Hp → Prop) (h0 : Pv 0 σ H) (hl : ∀ i σ H, i ≤ xs.length → Pv i σ H → SqT K H a xs)
    (hs : ∀ i x T σ H, xs[i]? = some x → Pv i σ H → H T = none → g (.ref T) σ (upd H T (.tup [.int (i : Nat), x])) fun σ2 H2 => tb { D with nx := Pv (i + 1), ct := Pv (i + 1), bk := D.nx } σ2 H2) (hd : ∀ σ H, Pv xs.length σ H → D.nx σ H) :
    ∃ W : Nat → Nat → L2.St → Hp → Prop, (∃ m, W 0 m σ H) ∧ ∀ i m σ H, W i m σ H →
      ((Ienum K a).stop i H ∧ D.nx σ H) ∨ ((Ienum K a).go i H ∧ ∃ N : L2.St → Hp → Prop, (∀ σ' H', N σ' H' → ∃ m', m' < m ∧ W (i + 1) m' σ' H') ∧ ∀ x H', (Ienum K a).yld i H x H' → g x σ H' fun σ2 H2 => tb { D with nx := N, ct := N, bk := D.nx } σ2 H2) := by
  refine ⟨fun i m σ H => m = xs.length - i ∧ i ≤ xs.length ∧ Pv i σ H, ⟨xs.length, by simp, Nat.zero_le _, h0⟩, ?_⟩
  rintro i m σ H ⟨rfl, hi, p⟩
  have q := hl i σ H hi p
  by_cases hlt : i < xs.length
  · have hx := List.getElem?_eq_getElem hlt
    refine .inr ⟨⟨xs, _, q, hx⟩, Pv (i + 1), fun σ' H' p' => ⟨xs.length - (i + 1), by omega, rfl, hlt, p'⟩, fun v H' y => ?_⟩
    obtain ⟨T, x, rfl, hT, rfl, y⟩ := y
    exact hs i x T σ H (y xs q) p hT
  · have e : i = xs.length := by omega
    exact .inl ⟨⟨xs, q, e.symm⟩, hd σ H (by rw [← e]; exact p)⟩
end
/-! is_net -/
def pairD : PyData → Int × Int
  | .tuple [.int i, .int j] => (i, j)
  | _ => (0, 0)
def actsB (chs : List (Int × Int)) : Int → List PyData → Bool
  | _, [] => true
  | me, d :: ds => (blkD (sideL Prod.fst chs me) (sideL Prod.snd chs me) 4 d).isSome && actsB chs (me + 1) ds
def netB (cs as : List PyData) : Bool := (decide (cs.length ≤ 6) && (decide (1 ≤ as.length) && decide (as.length ≤ 4))) && (cs.all (chanD as.length) && actsB (cs.map pairD) 0 as)
def netD : PyData → Bool
  | .tuple [.tuple cs, .tuple as] => netB cs as
  | _ => false
theorem chans_of {m : Int} : ∀ {cs : List PyData}, cs.all (chanD m) = true → cs = (cs.map pairD).map mkCh
  | [], _ => rfl
  | c :: cs, h => by
    rw [List.all_cons] at h
    have h := and3 h
    rw [List.map_cons, List.map_cons, ← chans_of h.2]
    congr 1
    have h1 := h.1
    unfold chanD at h1
    split at h1
    · obtain ⟨i, rfl, _⟩ := within_int (and3 (and3 h1).1).1
      obtain ⟨j, rfl, _⟩ := within_int (and3 (and3 h1).1).2
      rfl
    · cases h1
theorem acts_no {chs : List (Int × Int)} : ∀ {as : List PyData} {me : Int} {i : Nat} {d : PyData}, as[i]? = some d → blkD (sideL Prod.fst chs (me + i)) (sideL Prod.snd chs (me + i)) 4 d = none → actsB chs me as = false
  | d :: as, me, 0, _, h, e => by
    cases h
    rw [show me + ((0 : Nat) : Int) = me by omega] at e
    show ((blkD _ _ 4 d).isSome && _) = false
    rw [e]
    rfl
  | d :: as, me, i + 1, _, h, e => by
    rw [show me + ((i + 1 : Nat) : Int) = (me + 1) + (i : Nat) by omega] at e
    show (_ && actsB chs (me + 1) as) = false
    rw [acts_no (show as[i]? = _ from h) e, Bool.and_false]
theorem acts_yes {chs : List (Int × Int)} : ∀ {as : List PyData} {me : Int}, (∀ (i : Nat) d, as[i]? = some d → (blkD (sideL Prod.fst chs (me + i)) (sideL Prod.snd chs (me + i)) 4 d).isSome = true) → actsB chs me as = true
  | [], me, _ => rfl
  | d :: as, me, h => by
    have h0 := h 0 d rfl
    rw [show me + ((0 : Nat) : Int) = me by omega] at h0
    show ((blkD _ _ 4 d).isSome && actsB chs (me + 1) as) = true
    rw [h0, acts_yes (fun i d' hd => by
      have z := h (i + 1) d' hd
      rw [show me + ((i + 1 : Nat) : Int) = (me + 1) + (i : Nat) by omega] at z
      exact z)]
    rfl
theorem tupD_is {lo hi : Int} {d : PyData} (h : tupD lo hi d = true) : ∃ ds, d = .tuple ds ∧ lo ≤ (ds.length : Int) ∧ (ds.length : Int) ≤ hi := by
  cases d with
  | tuple ds =>
    have h := and3 (show (decide (lo ≤ (ds.length : Int)) && decide ((ds.length : Int) ≤ hi)) = true from h)
    exact ⟨ds, rfl, of_decide_eq_true h.1, of_decide_eq_true h.2⟩
  | _ => cases h
theorem net_not {d : PyData} (h : tupD 2 2 d = false) : netD d = false := by
  unfold netD
  split
  · exact absurd h (fun z => by cases z)
  · rfl
theorem net_notc {p r : PyData} (h : tupD 0 6 p = false) : netD (.tuple [p, r]) = false := by
  unfold netD
  split
  · rename_i cs as e
    cases e
    have h : (decide ((0 : Int) ≤ (cs.length : Int)) && decide ((cs.length : Int) ≤ 6)) = false := h
    rw [decide_eq_true (by omega), Bool.true_and] at h
    have := of_decide_eq_false h
    unfold netB
    rw [decide_eq_false (show ¬ cs.length ≤ 6 by omega)]
    rfl
  · rfl
theorem net_nota {p r : PyData} (h : tupD 1 4 r = false) : netD (.tuple [p, r]) = false := by
  unfold netD
  split
  · rename_i cs as e
    cases e
    have h : (decide ((1 : Int) ≤ (as.length : Int)) && decide ((as.length : Int) ≤ 4)) = false := h
    have e : (decide (1 ≤ as.length) && decide (as.length ≤ 4)) = false := by
      rw [← h, show decide (1 ≤ as.length) = decide ((1 : Int) ≤ (as.length : Int)) from decide_eq_decide.mpr (by omega), show decide (as.length ≤ 4) = decide ((as.length : Int) ≤ 4) from decide_eq_decide.mpr (by omega)]
    unfold netB
    rw [e, Bool.and_false, Bool.false_and]
  · rfl
section
open PySem.Spec PyProof.Rows LamX
variable {P : Program} {w : World} {K : PySem.W.Frag} {mg : Str → Option Value} {base : Heap} {f : Addr} {fd : FuncData}
def spIsNet (K : PySem.W.Frag) (PT : List Addr) : Sp := fun vs H Q _ => ∃ (x : V) (d : PyData), vs = [x] ∧ Dp K H x d ∧ BkOk d ∧ TabsG PT H ∧ ∀ H', ExtN H H' → TabsG PT H' → Q (.bl (netD d)) H'
abbrev NIsNet : List Str := ["thing", "channels", "actors", "channel", "actor", "block"]
theorem scIsNet : FnScope NIsNet ["thing"] (defScope sIsNet) := ⟨rfl, rfl, rfl, by decide +kernel, rfl, by decide +kernel, by decide +kernel⟩
theorem ok_isNet {k : Nat} {c Pc : Addr} {PT : List Addr} (F : Fun K "is_net" "is_net" sIsNet f fd) (hc : fd.code = .ref c) (TB : LamX.TabB base mg c Pc) (hPT : Pc ∈ PT) (T : Free mg) (C : Cst mg) (hA : mg "all" = none) (hE : mg "enumerate" = none) (cT : Cal P w K mg base "is_tuple" k ["thing", "least", "most"] (spTuple K)) (cC : Cal P w K mg base "is_channel" k ["thing", "actors"] (spIsChan K PT))
    (cS : Cal P w K mg base "sends_of" k ["channels", "actor"] (spSide K PT Prod.fst)) (cTk : Cal P w K mg base "takes_of" k ["channels", "actor"] (spSide K PT Prod.snd)) (cB : Cal P w K mg base "block_size" k ["thing", "level", "sends", "takes"] (spBlk K PT 4)) :
    FnOk P w K mg base CX0 (k + 2) f fd ["thing"] (spIsNet K PT) := by
  refine okC F hc scIsNet (fun vs H Q E h => ?_) (fun A outer s H vs Q E hr h => ?_)
  · obtain ⟨x, d, rfl, _⟩ := h
    rfl
  obtain ⟨x, d, rfl, hx, hk, tb, q⟩ := h
  have cT' := cT.mono (Nat.le_succ k)
  have cS' := cS.mono (Nat.le_succ k)
  have cTk' := cTk.mono (Nat.le_succ k)
  have cB' := cB.mono (Nat.le_succ k)
  refine ⟨_, pss_cons (ps_if (pt_not (pt_val (pe_cal cT' hr rfl (pa_cons (pv 0) (pa_cons pe_int (pa_cons pe_int pa_nil)))))) (pss_one (ps_ret pe_bl)) pss_nil)
    (pss_cons (ps_asg (pv 0) (pg_tup rfl (pgs_cons (pg_name (i := 1) scIsNet.nd rfl (.inl rfl)) (pgs_cons (pg_name (i := 2) scIsNet.nd rfl (.inr rfl)) pgs_nil))))
    (pss_cons (ps_if (PW.pt (pw_or (pt_not (pt_val (pe_cal cT' hr rfl (pa_cons (pv 1) (pa_cons pe_int (pa_cons (pe_globI rfl C.mostChannels) pa_nil)))))) (pw_or1 (pt_not (pt_val (pe_cal cT' hr rfl (pa_cons (pv 2) (pa_cons pe_int (pa_cons (pe_globI rfl C.mostActors) pa_nil))))))))) (pss_one (ps_ret pe_bl)) pss_nil)
    (pss_cons (ps_if (pt_not (pt_val (pe_allG (own := [("channel", 3)]) (wi := iTup K (tVar 1)) (g := gName 3) (tt := tYes) (te := tCall (spIsChan K PT) [] E0 (tCons (tVar 3) (tCons (tCB (rLen K) (tCons (tVar 2) tNil)) tNil))) scIsNet.nd hr rfl hA (by decide +kernel) TB rfl
        (blkOk_by (own := [("channel", 3)]) (N := NIsNet) (sc := defScope sIsNet) (by decide +kernel)) (by decide +kernel) rfl rfl (pi_tup (pv 1))
        (fun _ _ _ _ _ _ _ _ _ _ => pg_name (i := 3) scIsNet.nd rfl (Or.inl rfl)) (fun _ _ _ _ _ _ _ _ _ _ => pts_nil)
        (fun _ _ _ _ _ _ _ _ _ hr' => pe_cal cC hr' rfl (pa_cons (pv 3) (pa_cons (pe_callB call_len_seq rfl T.len PySem.boot_len (pa_cons (pv 2) pa_nil)) pa_nil))) (fun _ => rfl)))) (pss_one (ps_ret pe_bl)) pss_nil)
    (pss_cons (ps_for PassesOwn.never rfl (pi_enumT rfl hE (pa_cons (pv 2) pa_nil)) (pg_tup rfl (pgs_cons (pg_name (i := 4) scIsNet.nd rfl (.inl rfl)) (pgs_cons (pg_name (i := 5) scIsNet.nd rfl (.inl rfl)) pgs_nil)))
      (pss_one (ps_if (pt_cmpR op_isN (pe_cal cB' hr rfl (pa_cons (pv 5) (pa_cons pe_int (pa_cons (pe_cal cS' hr rfl (pa_cons (pv 1) (pa_cons (pv 4) pa_nil))) (pa_cons (pe_cal cTk' hr rfl (pa_cons (pv 1) (pa_cons (pv 4) pa_nil))) pa_nil))))) pe_non (nomark _)) (pss_one (ps_ret pe_bl)) pss_nil)))
    (pss_one (ps_ret pe_bl)))))), ?_⟩
  have no : netD d = false → ∀ H', ExtN H H' → TabsG PT H' → Q (.bl false) H' := fun e H' e1 t1 => by
    have r := q H' e1 t1
    rw [e] at r
    exact r
  refine ⟨_, rfl, x, d, 2, 2, rfl, hx, _, rfl, ?_⟩
  cases ht : tupD 2 2 d with
  | false => exact ifT rfl (no (net_not ht) H (ExtN.refl _) tb)
  | true =>
    refine ifF rfl ?_
    obtain ⟨p, r, rfl⟩ := tup22 ht
    cases hx with
    | @tup ta xs _ at_ each =>
      cases each with
      | @cons y1 _ _ _ hp i2 =>
        cases i2 with
        | @cons y2 _ _ _ hr2 i4 =>
          cases i4
          refine ⟨_, rfl, ta, _, rfl, at_, rfl, _, _, rfl, _, _, rfl, rfl, ?_⟩
          refine ⟨_, rfl, y1, p, 0, 6, rfl, hp, _, rfl, ?_⟩
          cases h6 : tupD 0 6 p with
          | false => exact ifT rfl (ifT rfl (no (net_notc h6) H (ExtN.refl _) tb))
          | true =>
            refine ifF rfl ⟨_, rfl, y2, r, 1, 4, rfl, hr2, _, rfl, ?_⟩
            cases h4 : tupD 1 4 r with
            | false => exact ifT rfl (no (net_nota h4) H (ExtN.refl _) tb)
            | true =>
              refine ifF rfl ?_
              obtain ⟨cs, rfl, _, c6⟩ := tupD_is h6
              obtain ⟨as, rfl, a1, a4⟩ := tupD_is h4
              have dd : netD (.tuple [.tuple cs, .tuple as]) = (cs.all (chanD as.length) && actsB (cs.map pairD) 0 as) := by
                show netB cs as = _
                unfold netB
                rw [decide_eq_true (show cs.length ≤ 6 by omega), decide_eq_true (show 1 ≤ as.length by omega), decide_eq_true (show as.length ≤ 4 by omega)]
                rfl
              have bkp := bk_mem hk List.mem_cons_self
              have bkr := bk_mem hk (List.mem_cons_of_mem _ List.mem_cons_self)
              cases hp with
              | @tup ca cvs _ cat ceach =>
                cases hr2 with
                | @tup aa avs _ aat aeach =>
                  have lc := dpAll_len ceach
                  have la := dpAll_len aeach
                  refine ⟨_, rfl, ca, rfl, ⟨cvs, cat⟩, tb Pc hPT, fun H2 b2 => ?_⟩
                  have e2 := tabbed_ext (tb Pc hPT) b2
                  refine gx_tup (xs := cvs) (fun i H' => ExtN H H' ∧ TabsG PT H' ∧ (cs.take i).all (chanD as.length) = true) ⟨e2, tb.tabbed b2, rfl⟩ (fun i H' _ h => ?_) (fun i y H' hy h => ?_) (fun H' h => ?_)
                  · exact sqT_ext h.1 cat
                  · obtain ⟨e3, t3, all3⟩ := h
                    obtain ⟨d, hd, hdy⟩ := dpAll_get' ceach hy
                    refine ⟨rfl, yesG ⟨_, rfl, _, rfl, aa, avs, rfl, .inr (sqT_ext e3 aat), y, d, _, rfl, dp_ext e3 _ _ hdy, t3, fun H4 e4 t4 => ⟨_, rfl, fun c => ⟨e3.trans e4, t4, ?_⟩, fun c => ?_⟩⟩⟩
                    · rw [la] at c
                      rw [all_take hd, all3, c]
                      rfl
                    · rw [la] at c
                      have e : cs.all (chanD as.length) = false := by
                        cases z : cs.all (chanD as.length) with
                        | false => rfl
                        | true => exact absurd (List.all_eq_true.mp z d (List.mem_of_getElem? hd)) c
                      rw [e, Bool.false_and] at dd
                      exact ⟨_, rfl, ifT rfl (no dd H4 (e3.trans e4) t4)⟩
                  · obtain ⟨e3, t3, all3⟩ := h
                    rw [lc, List.take_length] at all3
                    rw [all3, Bool.true_and] at dd
                    have hcs := chans_of all3
                    refine ⟨_, rfl, ifF rfl ?_⟩
                    refine ⟨_, rfl, aa, avs, rfl, sqT_ext e3 aat, ?_⟩
                    refine for_enumT (xs := avs) (fun i σ G => ∃ o3 o4 o5, σ = [some (.ref ta), some (.ref ca), some (.ref aa), o3, o4, o5] ∧ ExtN H G ∧ TabsG PT G ∧ ∀ (j : Nat) d, j < i → as[j]? = some d → (blkD (sideL Prod.fst (cs.map pairD) (0 + j)) (sideL Prod.snd (cs.map pairD) (0 + j)) 4 d).isSome = true)
                      ⟨_, _, _, rfl, e3, t3, fun j d h => absurd h (Nat.not_lt_zero _)⟩ (fun i σ G _ h => by obtain ⟨_, _, _, _, h, _⟩ := h; exact sqT_ext h aat) (fun i v T0 σ G hv h hT => ?_) (fun σ G h => ?_)
                    · obtain ⟨o3, o4, o5, rfl, eG, tG, all⟩ := h
                      obtain ⟨d, hd, hdv⟩ := dpAll_get' aeach hv
                      have nT := same_new hT (.tup [.int (i : Nat), v])
                      have e5 := eG.trans (ext_same nT)
                      have t5 := tG.same nT
                      have cdp : ∀ G', ExtN H G' → Dp K G' (.ref ca) (.tuple ((cs.map pairD).map mkCh)) := fun G' e => by
                        rw [← hcs]
                        exact .tup (sqT_ext e cat) (dp_exts e _ _ ceach)
                      have l100 : (cs.map pairD).length ≤ 100 := by rw [List.length_map]; omega
                      refine ⟨T0, _, rfl, SqT.of upd_same, rfl, _, _, rfl, _, _, rfl, rfl, ?_⟩
                      refine ⟨_, rfl, _, rfl, _, rfl, .ref ca, cs.map pairD, i, rfl, cdp _ e5, l100, t5, fun p6 H6 e6 t6 s6 => ?_⟩
                      have e06 := e5.trans e6
                      refine ⟨_, rfl, _, rfl, .ref ca, cs.map pairD, i, rfl, cdp _ e06, l100, t6, fun p7 H7 e7 t7 s7 => ?_⟩
                      have e07 := e06.trans e7
                      refine ⟨v, d, 1, p6, p7, _, _, rfl, by decide, dp_ext e07 _ _ hdv, bk_mem bkr (List.mem_of_getElem? hd), sqT_ext e7 s6, s7, t7, fun H8 e8 t8 => ?_⟩
                      have e08 := e07.trans e8
                      cases hb : blkD (sideL Prod.fst (cs.map pairD) i) (sideL Prod.snd (cs.map pairD) i) 4 d with
                      | none =>
                        refine ⟨rfl, _, rfl, ifT (decide_eq_true rfl) ?_⟩
                        rw [acts_no (me := 0) hd (by rw [show (0 : Int) + (i : Nat) = (i : Int) by omega]; exact hb)] at dd
                        exact no dd H8 e08 t8
                      | some v' =>
                        refine ⟨rfl, _, rfl, ifF (decide_eq_false (fun z => by cases z)) ?_⟩
                        refine ⟨_, _, _, rfl, e08, t8, fun j d' hj hd' => ?_⟩
                        rcases Nat.lt_or_ge j i with hji | hji
                        · exact all j d' hji hd'
                        · have ej : j = i := by omega
                          subst ej
                          rw [hd] at hd'
                          cases hd'
                          rw [show (0 : Int) + (j : Nat) = (j : Int) by omega, hb]
                          rfl
                    · obtain ⟨o3, o4, o5, rfl, eG, tG, all⟩ := h
                      rw [acts_yes (me := 0) (fun j d hd => all j d (by rw [la]; exact (List.getElem?_eq_some_iff.mp hd).1) hd)] at dd
                      have r := q G eG tG
                      rw [dd] at r
                      exact r
end
/-! what is written down, laid anew -/
def dif (H H' : Hp) : Hp := fun b => match H b with
  | none => H' b
  | some _ => none
theorem dif_at {H H' : Hp} {p : Addr} {o : HO} (h : H p = none) (h' : H' p = some o) : dif H H' p = some o := by
  unfold dif
  rw [h]
  exact h'
theorem dif_some {H H' : Hp} {p : Addr} {o : HO} (h : dif H H' p = some o) : H p = none ∧ H' p = some o := by
  unfold dif at h
  cases e : H p with
  | none =>
    rw [e] at h
    exact ⟨rfl, h⟩
  | some u =>
    rw [e] at h
    cases h
theorem dif_l {H H1 H2 : Hp} (s : Same H1 H2) : Same (dif H H1) (dif H H2) := fun b o h => by
  obtain ⟨h1, h2⟩ := dif_some h
  exact dif_at h1 (s _ _ h2)
theorem dif_r {H H1 H2 : Hp} (s : Same H H1) : Same (dif H1 H2) (dif H H2) := fun b o h => by
  obtain ⟨h1, h2⟩ := dif_some h
  exact dif_at (s.free h1) h2
theorem dif_in {H H' : Hp} : Same (dif H H') H' := fun b o h => (dif_some h).2
theorem dp_same {K : PySem.W.Frag} {H H' : Hp} (s : Same H H') {d : PyData} {v : V} (h : Dp K H v d) : Dp K H' v d := dp_ext (ext_same s) d v h
theorem dps_same {K : PySem.W.Frag} {H H' : Hp} (s : Same H H') {ds : List PyData} {vs : List V} (h : DpAll K H vs ds) : DpAll K H' vs ds := dp_exts (ext_same s) ds vs h
def tLit (K : PySem.W.Frag) (d : PyData) : TE := fun _ H Q => ∀ v H', Same H H' → Dp K (dif H H') v d → Q v H'
def tLits (K : PySem.W.Frag) (ds : List PyData) : TA := fun _ H Q => ∀ vs H', Same H H' → DpAll K (dif H H') vs ds → Q vs H'
theorem pe_imp {X : Cx} {e : Expr} {t t' : TE} (h : PE X e t) (w : ∀ σ H Q, t' σ H Q → t σ H Q) : PE X e t' := ⟨fun pins s σ H Q I q => h.run pins s σ H Q I (w _ _ _ q)⟩
theorem pa_imp {X : Cx} {es : List Expr} {t t' : TA} (h : PA X es t) (w : ∀ σ H Q, t' σ H Q → t σ H Q) : PA X es t' := ⟨fun pos pins s σ H Q I q => h.run pos pins s σ H Q I (w _ _ _ q)⟩
section
variable {X : Cx}
theorem lits_nil : PA X [] (tLits X.K []) := pa_imp pa_nil fun σ H Q q => q [] H (Same.refl _) .nil
theorem lits_cons {e : Expr} {es : List Expr} {d : PyData} {ds : List PyData} (h : PE X e (tLit X.K d)) (hs : PA X es (tLits X.K ds)) (hst : starEach (e :: es) X.env = (false, eval e X.env) :: starEach es X.env := by rfl) : PA X (e :: es) (tLits X.K (d :: ds)) :=
  pa_imp (pa_cons h hs hst) fun σ H Q q v H1 s1 d1 vs H2 s2 d2 => q (v :: vs) H2 (s1.trans s2) (.cons (dp_same (dif_l s2) d1) (dps_same (dif_r s1) d2))
theorem lit_int {i : Int} {j : Nat} {pos : Pos} : PE X (.Constant (.int i) j pos) (tLit X.K (.int i)) := pe_imp pe_int fun σ H Q q => q _ H (Same.refl _) (.int _)
theorem lit_str {x : Str} {j : Nat} {pos : Pos} : PE X (.Constant (.str x) j pos) (tLit X.K (.str x)) := pe_imp pe_str fun σ H Q q => q _ H (Same.refl _) (.str _)
theorem lit_bl {b : Bool} {j : Nat} {pos : Pos} : PE X (.Constant (.bool b) j pos) (tLit X.K (.bool b)) := pe_imp pe_bl fun σ H Q q => q _ H (Same.refl _) (.bl _)
theorem lit_non {j : Nat} {pos : Pos} : PE X (.Constant .none j pos) (tLit X.K .none) := pe_imp pe_non fun σ H Q q => q _ H (Same.refl _) .non
theorem lit_neg {e : Expr} {i : Int} {pos : Pos} (h : PE X e (tC (.int i))) : PE X (.UnaryOp .USub e pos) (tLit X.K (.int (-i))) := pe_imp (pe_un un_neg h) fun σ H Q q => ⟨i, rfl, q _ H (Same.refl _) (.int _)⟩
theorem lit_tup {es : List Expr} {ds : List PyData} {x1 : Nat} {pos : Pos} (h : PA X es (tLits X.K ds)) (hl : ds.length ≤ 1000) : PE X (.Tuple es x1 pos) (tLit X.K (.tuple ds)) :=
  pe_imp (pe_tup h) fun σ H Q q vs H1 s1 d1 => ⟨small (by rw [dpAll_len d1]; exact hl), fun p hp => q _ _ (s1.trans (same_new hp _)) (.tup (SqT.of (dif_at (s1.free hp) upd_same)) (dps_same (dif_l (same_new hp _)) d1))⟩
theorem lit_lst {es : List Expr} {ds : List PyData} {pos : Pos} (h : PA X es (tLits X.K ds)) (hl : ds.length ≤ 1000) : PE X (.List es pos) (tLit X.K (.list ds)) :=
  pe_imp (pe_lst h) fun σ H Q q vs H1 s1 d1 => ⟨small (by rw [dpAll_len d1]; exact hl), fun p hp => q _ _ (s1.trans (same_new hp _)) (.lst (SqL.of (dif_at (s1.free hp) upd_same)) (dps_same (dif_l (same_new hp _)) d1))⟩
theorem lit_dict0 {pos : Pos} : PE X (.Dict [] [] pos) (tLit X.K (.dict (dictD []))) := pe_imp pe_dnewK fun σ H Q q p hp => q _ _ (same_new hp _) (.dct (ms := []) (dif_at hp upd_same))
theorem lit_dict1 {i k : Int} {j1 j2 : Nat} {p1 p2 pos : Pos} : PE X (.Dict [some (.Constant (.int i) j1 p1)] [.Constant (.int k) j2 p2] pos) (tLit X.K (.dict (dictD [(i, k)]))) :=
  pe_imp (pe_disp (pps_cons pe_int pe_int pps_nil) rfl rfl (by simp) (by show 1 ≤ 15; decide)) fun σ H Q q p hp => ⟨upd_same, [(Sum.inl i, V.int k)], rfl, by show 1 ≤ 15; decide, by
    rw [upd_upd]
    exact q _ _ (same_new hp _) (.dct (ms := [(i, k)]) (dif_at hp upd_same))⟩
end
section
variable {X : Cx}
theorem lit_big {j1 j2 : Nat} {p1 p2 pos : Pos} : PE X (.BinOp (.Constant (.int 10) j1 p1) .Pow (.Constant (.int 29) j2 p2) pos) (tLit X.K (.int (10 ^ 29))) := pe_imp (pe_op op_pow pe_int pe_int) fun σ H Q q => ⟨_, _, rfl, rfl, ⟨by decide, by decide, by decide⟩, q _ H (Same.refl _) (.int _)⟩
theorem lit_low {j0 j1 j2 : Nat} {p0 p1 p2 p3 pos : Pos} : PE X (.BinOp (.Constant (.int 0) j0 p0) .Sub (.BinOp (.Constant (.int 10) j1 p1) .Pow (.Constant (.int 29) j2 p2) p3) pos) (tLit X.K (.int (0 - 10 ^ 29))) := pe_imp (pe_op op_sub pe_int (pe_op op_pow pe_int pe_int)) fun σ H Q q => ⟨_, _, rfl, rfl, ⟨by decide, by decide, by decide⟩, _, _, rfl, rfl, q _ H (Same.refl _) (.int _)⟩
end
/-- all but the state's list -/
def mn (st : Addr) (H : Hp) : Hp := fun b => if b = st then none else H b
theorem mn_at {st p : Addr} {H : Hp} {o : HO} (n : p ≠ st) (h : H p = some o) : mn st H p = some o := by
  unfold mn
  rw [if_neg n]
  exact h
theorem mn_some {st p : Addr} {H : Hp} {o : HO} (h : mn st H p = some o) : p ≠ st ∧ H p = some o := by
  unfold mn at h
  by_cases e : p = st
  · rw [if_pos e] at h
    cases h
  · rw [if_neg e] at h
    exact ⟨e, h⟩
theorem mn_kp {st : Addr} {H H' : Hp} (k : Kp st H H') : Same (mn st H) (mn st H') := fun b o h => by
  obtain ⟨n, h⟩ := mn_some h
  exact mn_at n (k b o n h)
theorem mn_in {st : Addr} {H : Hp} : Same (mn st H) H := fun b o h => (mn_some h).2
theorem mn_dif {st : Addr} {H H' : Hp} (s : ∃ l, H st = some l) : Same (dif H H') (mn st H') := fun b o h => by
  obtain ⟨h1, h2⟩ := dif_some h
  obtain ⟨l, hl⟩ := s
  exact mn_at (ne_of_none hl h1).symm h2
/-! tuples cut and put together, the tokens of the empty and the whole ones told alike -/
section
variable {K : PySem.W.Frag}
theorem catA_run {H : Hp} {a b : Addr} {xs ys : List V} {Q : VK} (ha : SqT K H a xs) (hb : SqT K H b ys) (hz : xs.length + ys.length ≤ 1000) (q : ∀ r H', Same H H' → SqT K H' r (xs ++ ys) → Q (.ref r) H') : rCatA K (.ref a) (.ref b) H Q := by
  refine ⟨a, b, xs, ys, rfl, rfl, ha, hb, small hz, fun e => ?_, fun _ e => ?_, fun _ _ p hp => q p _ (same_new hp _) (SqT.of upd_same)⟩
  · subst e
    exact q b H (Same.refl _) hb
  · subst e
    exact q a H (Same.refl _) (by rw [List.append_nil]; exact ha)
theorem slA_run {H : Hp} {a : Addr} {xs : List V} {lo hi : Option Int} {Q : VK} (ha : SqT K H a xs) (q : ∀ r H', Same H H' → SqT K H' r (cutV xs lo hi) → Q (.ref r) H') : rSlA K (.ref a) lo hi H Q := by
  refine ⟨a, xs, rfl, ha, fun wh => ?_, fun _ p hp => q p _ (same_new hp _) (SqT.of upd_same)⟩
  refine q a H (Same.refl _) ?_
  unfold cutV
  rw [wh.1, wh.2, Nat.sub_zero, List.drop_zero, List.take_length]
  exact ha
theorem cut_to {xs : List V} {b : Int} (h0 : 0 ≤ b) (h1 : b ≤ xs.length) : cutV xs none (some b) = xs.take b.toNat := by
  obtain ⟨n, rfl⟩ : ∃ n : Nat, b = n := ⟨b.toNat, by omega⟩
  unfold cutV
  rw [HT.sIx_none, HT.sIx_nat, List.drop_zero, Nat.sub_zero, Nat.min_eq_left (by omega)]
  rfl
theorem cut_from {xs : List V} {b : Int} (h0 : 0 ≤ b) (h1 : b ≤ xs.length) : cutV xs (some b) none = xs.drop b.toNat := by
  obtain ⟨n, rfl⟩ : ∃ n : Nat, b = n := ⟨b.toNat, by omega⟩
  unfold cutV
  rw [HT.sIx_none, HT.sIx_nat, Nat.min_eq_left (by omega)]
  have e : xs.length - n = (xs.drop n).length := by rw [List.length_drop]
  rw [e, List.take_length]
  rfl
theorem set_split {α : Type} : ∀ (xs : List α) (b : Nat) (v : α), b < xs.length → xs.take b ++ [v] ++ xs.drop (b + 1) = xs.set b v
  | x :: r, 0, v, _ => rfl
  | x :: r, b + 1, v, h => by
    have ih := set_split r b v (by simpa using h)
    simp only [List.take_succ_cons, List.cons_append, List.drop_succ_cons, List.set_cons_succ]
    rw [ih]
theorem dpAll_set {H : Hp} {v : V} {d : PyData} (h : Dp K H v d) : ∀ {xs : List V} {ds : List PyData} (i : Nat), DpAll K H xs ds → DpAll K H (xs.set i v) (ds.set i d)
  | _, _, _, .nil => .nil
  | _, _, 0, .cons _ t => .cons h t
  | _, _, i + 1, .cons a t => .cons a (dpAll_set h i t)
end
section
theorem depth_all {k : Nat} : ∀ {l : List PyData}, (∀ z ∈ l, z.depth ≤ k) → PyData.depthAll l ≤ k
  | [], _ => by simp only [PyData.depthAll]; exact Nat.zero_le _
  | u :: v, h => by
    have h1 := h u List.mem_cons_self
    have h2 := depth_all (l := v) fun z hz => h z (List.mem_cons_of_mem _ hz)
    simp only [PyData.depthAll]
    omega
theorem short_all {B : Nat} : ∀ {l : List PyData}, (∀ z ∈ l, z.leavesShort B = true) → PyData.leavesShortAll B l = true
  | [], _ => by simp only [PyData.leavesShortAll]
  | u :: v, h => by
    simp only [PyData.leavesShortAll, Bool.and_eq_true]
    exact ⟨h u List.mem_cons_self, short_all fun z hz => h z (List.mem_cons_of_mem _ hz)⟩
theorem show_all : ∀ {l : List PyData}, (∀ z ∈ l, z.showable = true) → PyData.showableAll l = true
  | [], _ => by simp only [PyData.showableAll]
  | u :: v, h => by
    simp only [PyData.showableAll, Bool.and_eq_true]
    exact ⟨h u List.mem_cons_self, show_all fun z hz => h z (List.mem_cons_of_mem _ hz)⟩
theorem bulk_all {k : Nat} : ∀ {l : List PyData}, (∀ z ∈ l, z.bulk ≤ k) → PyData.bulkAll l ≤ (k + 1) * l.length
  | [], _ => by simp only [PyData.bulkAll]; exact Nat.zero_le _
  | u :: v, h => by
    have h1 := h u List.mem_cons_self
    have h2 := bulk_all (l := v) fun z hz => h z (List.mem_cons_of_mem _ hz)
    simp only [PyData.bulkAll, List.length_cons]
    rw [Nat.mul_add]
    omega
theorem bulk_app : ∀ (a b : List PyData), PyData.bulkAll (a ++ b) = PyData.bulkAll a + PyData.bulkAll b
  | [], b => by simp [PyData.bulkAll]
  | x :: a, b => by
    simp only [List.cons_append, PyData.bulkAll]
    rw [bulk_app a b]
    omega
theorem bulk_set : ∀ {l : List PyData} {i : Nat} {e e' : PyData}, l[i]? = some e → PyData.bulkAll (l.set i e') + e.bulk = PyData.bulkAll l + e'.bulk
  | x :: l, 0, e, e', h => by
    cases h
    simp only [List.set_cons_zero, PyData.bulkAll]
    omega
  | x :: l, i + 1, e, e', h => by
    have := bulk_set (l := l) (i := i) (e := e) (e' := e') h
    simp only [List.set_cons_succ, PyData.bulkAll]
    omega
theorem bulk_cut (l : List PyData) (i : Nat) : PyData.bulkAll (l.take i) + PyData.bulkAll (l.drop i) = PyData.bulkAll l := by
  rw [← bulk_app, List.take_append_drop]
theorem bulk_drop (l : List PyData) (i : Nat) : PyData.bulkAll (l.drop i) ≤ PyData.bulkAll l := by
  have := bulk_cut l i
  omega
theorem sqT_mn {K : PySem.W.Frag} {H : Hp} {st r : Addr} {xs : List V} (sa : StAt H st) (h : SqT K H r xs) : SqT K (mn st H) r xs := by
  obtain ⟨l, hl⟩ := sa.some
  rcases h with (h | ⟨o, h⟩) | h
  · exact .inl (.inl (mn_at (fun e => by rw [e, hl] at h; cases h) h))
  · exact .inl (.inr ⟨o, mn_at (fun e => by rw [e, hl] at h; cases h) h⟩)
  · exact .inr h
theorem sqT_same {K : PySem.W.Frag} {H H' : Hp} {r : Addr} {xs : List V} (s : Same H H') (h : SqT K H r xs) : SqT K H' r xs := sqT_kt (KT.of_same s) h
theorem dpAll_take {K : PySem.W.Frag} {H : Hp} : ∀ {vs : List V} {ds : List PyData} (i : Nat), DpAll K H vs ds → DpAll K H (vs.take i) (ds.take i)
  | _, _, 0, _ => by simp only [List.take_zero]; exact .nil
  | _, _, i + 1, .nil => .nil
  | _, _, i + 1, .cons a t => by simp only [List.take_succ_cons]; exact .cons a (dpAll_take i t)
theorem dpAll_drop {K : PySem.W.Frag} {H : Hp} : ∀ {vs : List V} {ds : List PyData} (i : Nat), DpAll K H vs ds → DpAll K H (vs.drop i) (ds.drop i)
  | _, _, 0, h => by simp only [List.drop_zero]; exact h
  | _, _, i + 1, .nil => .nil
  | _, _, i + 1, .cons a t => by simp only [List.drop_succ_cons]; exact dpAll_drop i t
theorem cut_from0 {xs : List V} {b : Int} (h0 : 0 ≤ b) : cutV xs (some b) none = xs.drop b.toNat := by
  by_cases h1 : b ≤ xs.length
  · exact cut_from h0 h1
  · obtain ⟨n, rfl⟩ : ∃ n : Nat, b = n := ⟨b.toNat, by omega⟩
    unfold cutV
    rw [HT.sIx_none, HT.sIx_nat, Nat.min_eq_right (by omega), Nat.sub_self, List.take_zero]
    exact (List.drop_eq_nil_of_le (by omega)).symm
theorem noP {σ : L2.St} {H : Hp} {Q : Option Int → Hp → Prop} (h : Q none H) : tNoPart σ H Q := h
theorem pick_dp {K : PySem.W.Frag} {H : Hp} {vs : List V} {ds : List PyData} {r : Int} (h : DpAll K H vs ds) (r0 : 0 ≤ r) (r1 : r < ds.length) : ∃ v d, atI vs r = some v ∧ Dp K H v d ∧ d ∈ ds := by
  have hl := dpAll_len h
  have hr : r.toNat < vs.length := by omega
  obtain ⟨d, hd, hdp⟩ := dpAll_get' h (List.getElem?_eq_getElem hr)
  exact ⟨_, d, atI_at r0 (List.getElem?_eq_getElem hr), hdp, List.mem_of_getElem? hd⟩
theorem pss_imp {X : Cx} {sts : List Stmt} {t t' : TS} (h : PSs X sts t) (w : ∀ D σ H, t' D σ H → t D σ H) : PSs X sts t' := ⟨fun pins s σ H D I q => h.run pins s σ H D I (w _ _ _ q)⟩
end
/-! a tuple against the empty one, a list against the empty one -/
section
variable {X : Cx}
def rNeE (K : PySem.W.Frag) : R2 := fun x y H Q => ∃ a b xs, x = .ref a ∧ y = .ref b ∧ SqT K H a xs ∧ SqT K H b [] ∧ Q (.bl (!xs.isEmpty)) H
theorem op_neE (hu : X.A.units + 64 < cLine) : OpR X (compareOp .NotEq) (rNeE X.K) := by
  intro pins s σ H x y v u Q I rx ry h
  obtain ⟨a, b, xs, rfl, rfl, ha, hb, q⟩ := h
  cases rx
  cases ry
  obtain ⟨its, r1, ⟨o1, g1, c1, n1, d1⟩, _⟩ := I.tuple ha
  obtain ⟨its2, r2, ⟨o2, g2, c2, n2, d2⟩, _⟩ := I.tuple hb
  cases r2
  refine SeqAt.RcNeAt.tuples (e := fun _ => true) ⟨o1, g1, c1, n1, d1⟩ ⟨o2, g2, c2, n2, d2⟩ (by omega) (fun j _ h2 => absurd h2 (by simp)) X.prog X.w _ _ ⟨.bl (!xs.isEmpty), H, I, ?_, q⟩
  have l := r1.length
  cases xs with
  | nil =>
    cases r1
    rfl
  | cons z zs =>
    cases r1 with
    | cons _ _ => rfl
def rNeLE (K : PySem.W.Frag) : R2 := fun x y H Q => ∃ a b xs, x = .ref a ∧ y = .ref b ∧ SqL K H a xs ∧ SqL K H b [] ∧ Q (.bl (!xs.isEmpty)) H
theorem op_neLE (hu : X.A.units + 64 < cLine) : OpR X (compareOp .NotEq) (rNeLE X.K) := by
  intro pins s σ H x y v u Q I rx ry h
  obtain ⟨a, b, xs, rfl, rfl, ha, hb, q⟩ := h
  cases rx
  cases ry
  obtain ⟨its, r1, ⟨o1, n1, g1, c1, _, d1⟩, _⟩ := I.list ha
  obtain ⟨its2, r2, ⟨o2, n2, g2, c2, _, d2⟩, _⟩ := I.list hb
  cases r2
  cases xs with
  | nil =>
    cases r1
    exact SeqAt.RcNeAt.lists (e := fun _ => true) ⟨o1, g1, c1, n1, d1⟩ ⟨o2, g2, c2, n2, d2⟩ rfl (by omega) (fun j _ h2 => absurd h2 (by simp)) X.prog X.w _ _ ⟨.bl false, H, I, rfl, q⟩
  | cons z zs =>
    cases r1 with
    | cons _ _ => exact SeqAt.RcNeAt.lists_lengths ⟨o1, g1, c1, n1, d1⟩ ⟨o2, g2, c2, n2, d2⟩ (by simp) (by omega) X.prog X.w _ _ ⟨.bl true, H, I, rfl, q⟩
end
/-! t[::-1] -/
section
open PySem.Spec PyProof.Rows
theorem fm_congr {α β : Type} {f g : α → Option β} : ∀ {l : List α}, (∀ k ∈ l, f k = g k) → l.filterMap f = l.filterMap g
  | [], _ => rfl
  | x :: r, h => by rw [List.filterMap_cons, List.filterMap_cons, h x List.mem_cons_self, fm_congr fun k hk => h k (List.mem_cons_of_mem _ hk)]
theorem rev_pick (xs : Array Value) : ((List.range xs.size).filterMap fun (k : Nat) => xs[(((xs.size : Int) - 1) + (k : Int) * (-1)).toNat]?) = xs.toList.reverse := by
  have e : ∀ k ∈ List.range xs.size, xs[(((xs.size : Int) - 1) + (k : Int) * (-1)).toNat]? = some (xs.toList.reverse.getD k .none) := fun k hk => by
    have hk : k < xs.size := List.mem_range.mp hk
    have e1 : (((xs.size : Int) - 1) + (k : Int) * (-1)).toNat = xs.size - 1 - k := by omega
    have h2 : k < xs.toList.reverse.length := by simpa using hk
    rw [e1, List.getD_eq_getElem?_getD, List.getElem?_eq_getElem h2, List.getElem_reverse, Array.getElem?_eq_getElem (by omega)]
    simp
  rw [fm_congr e]
  refine List.ext_getElem? fun i => ?_
  rw [show (fun k => some (xs.toList.reverse.getD k Value.none)) = (some ∘ fun k => xs.toList.reverse.getD k Value.none) from rfl, List.filterMap_eq_map, List.getElem?_map]
  by_cases hi : i < xs.size
  · have h2 : i < xs.toList.reverse.length := by simpa using hi
    rw [List.getElem?_range hi, List.getElem?_eq_getElem h2]
    simp [List.getD_eq_getElem?_getD, List.getElem?_eq_getElem h2]
  · rw [List.getElem?_eq_none (by simpa using hi), List.getElem?_eq_none (by simpa using hi)]
    rfl
variable {prog : Program} {w : World} {A : Around} {E : Value → Shared → Prop} {s : Shared}
theorem getItem_tuple_rev {t sl : Addr} {items : Array Value} {u : Tok} {Q : Value → Shared → Prop} (ht : IsTup s.heap t items) (hs : s.heap.IsSliceOf sl .none .none (.int (-1) u))
    (h : Q (.ref s.heap.objs.size) { s with heap := s.heap.push { cls := .type "tuple", data := .seq items.toList.reverse.toArray } })
    (hsz : items.size ≤ sizeLine) : wpAny (model prog w) A (getItem (.ref t) (.ref sl)) Q E s := by
  have htake : sizeOk (.seq items.toList.reverse.toArray) := by
    show items.toList.reverse.toArray.size ≤ sizeLine
    rw [List.size_toArray, List.length_reverse, Array.length_toList]
    exact hsz
  obtain ⟨so, so1, so2, so3⟩ := id hs
  have slot := PyProof.Rows.slot_tuple_getitem
  have tt := ht.typeIs
  unfold getItem; (try with_reducible refine wpAny_holding ?_); (first | refine wpAny_bind (wpAny_pure ?_) | skip); refine wpAny_bind (wpAny_sequenceKey tt (by decide) ?_)
  refine wpAny_bind (wpAny_callSpecial?_slot (name := Str.ofString "__getitem__") tt slot (wpAny_call_entry slot tt entry_tuple_getitem ?_ (args_tuple_getitem _ _)))
  show wpAny _ _ (Builtin.Tuple.tupleItemsOf (.ref t) >>= _) _ _ s; refine wpAny_bind (tupleItemsOf_ ht (wpAny_bind (wpAny_typeOf ⟨so, so1, so2⟩ ?_))); rw [if_pos (by decide)]
  have places : Builtin.Slice.slicePlaces ((items.size : Int) - 1) (-1) (-1) = items.size := by
    unfold Builtin.Slice.slicePlaces
    rw [if_neg (by decide)]
    by_cases c : (items.size : Int) - 1 > -1
    · rw [if_pos c]
      show (((items.size : Int) - 1 - -1 - 1) / 1 + 1).toNat = _
      rw [Int.ediv_one]
      omega
    · rw [if_neg c]
      omega
  have applied : ∀ {Q : Int × Int × Nat → Shared → Prop}, Q ((items.size : Int) - 1, -1, items.size) s → wpAny (model prog w) A.in1 (Builtin.Slice.sliceApplied (.ref sl) (pure (items.size : Int))) Q E s := fun {Q} h => by
    unfold Builtin.Slice.sliceApplied Builtin.Slice.sliceFields
    refine wpAny_bind (wpAny_bind (wpAny_field so1 so3 (x := .none) rfl (wpAny_bind (wpAny_field so1 so3 (x := .none) rfl (wpAny_bind (wpAny_field so1 so3 (x := .int (-1) u) rfl (wpAny_pure ?_)))))))
    refine wpAny_bind (slicePart_int ?_)
    show wpAny _ _ (if ((-1 : Int) == 0) = true then _ else _) _ _ s
    rw [if_neg (by decide)]
    refine wpAny_bind (slicePart_none (wpAny_bind (slicePart_none (wpAny_bind (wpAny_pure ?_)))))
    show wpAny _ _ (pure ((items.size : Int) - 1, (-1 : Int), Builtin.Slice.slicePlaces ((items.size : Int) - 1) (-1) (-1))) _ _ s
    rw [places]
    exact wpAny_pure h
  refine wpAny_bind (applied ?_)
  show wpAny _ _ (if ((items.size : Int) - 1 == 0 && (-1 : Int) == 1 && items.size == items.size) = true then _ else _) _ _ s
  rw [if_neg (by simp), rev_pick]
  refine wpAny_bind (m := Builtin.Tuple.tupleExact _) (wpAny_newObj_type (wpAny_pure ⟨_, rfl, wpAny_pure h⟩) htake)
end
section
open PySem.Spec PyProof.Rows
def tRev (K : PySem.W.Frag) (te : TE) : TE := fun σ H Q => te σ H fun x H1 => ∃ a xs, x = .ref a ∧ SqT K H1 a xs ∧ ∀ p, H1 p = none → Q (.ref p) (upd H1 p (.tup xs.reverse))
theorem pe_rev {X : Cx} {e : Expr} {te : TE} {j : Nat} {p1 p2 p3 pos : Pos} (he : PE X e te) : PE X (.Subscript e (.Slice none none (some (.UnaryOp .USub (.Constant (.int 1) j p1) p2)) p3) pos) (tRev X.K te) := by
  refine ⟨fun pins s σ H Q I h => ?_⟩
  refine Subscript_ (thn (he.run pins s σ H _ I h) fun v s1 ⟨x, H1, I1, r1, q1⟩ => ?_)
  obtain ⟨a, xs, rfl, hx, q⟩ := q1
  cases r1
  refine wpAny_Slice ?_
  rw [evalPart_none, evalPart_some]
  refine wpAny_pure (wpAny_pure ?_)
  refine thn ((pe_un (X := X) un_neg (pe_int (X := X) (i := 1) (j := j) (pos := p1))).run pins s1 σ H1 (fun v H' => v = .int (-1) ∧ H' = H1) I1 ⟨1, rfl, rfl, rfl⟩) fun u s2 ⟨z, H2, I2, r2, e1, e2⟩ => ?_
  subst e1 e2
  obtain ⟨t, rfl⟩ := r2
  have I4 : Inv X pins σ H2 { s2 with heap := s2.heap.push { cls := .type "slice", data := .fields #[.none, .none, .int (-1) t] } } := I2.kept (t' := s2.toks) fun b ob q => Heap.get?_push_of_some _ q
  obtain ⟨its, r, ht, hz⟩ := I4.tuple hx
  have hlen : its.toArray.size = xs.length := by rw [List.size_toArray]; exact r.length.symm
  refine tail_any (ops := [.ref a, .ref s2.heap.objs.size]) ht.typeIs PyProof.Rows.slot_tuple_getitem.lookup ?_ (by with_unfolding_all rfl)
  refine getItem_tuple_rev ht (Heap.IsSliceOf.new ..) ?_ (by rw [hlen]; exact hz)
  refine ⟨.ref _, _, I4.laid (t' := s2.toks) (o := .tup xs.reverse) (fun b ob q => Heap.get?_push_of_some _ q) (Nat.le_refl _) ?_, rfl, q _ (I4.hok.fresh (Nat.le_refl _))⟩
  exact ⟨by rw [List.length_reverse]; exact hz, _, r.reverse, IsTup.new _ _⟩
end
/-! flat code: tests, deeds with a last part, rows -/
def handL : List Str := ["let", "hang", "pick", "send"]
def wayL : List Str := ["copy", "give"]
def testD : PyData → Bool
  | .tuple [.str z, e] => decide (z = "test") && numNameD e
  | _ => false
def flatD (ss ts : List Int) : PyData → Bool
  | .tuple (.str z :: ds) => if z ∈ handL then (wayL.any fun y => isStrD y ((PyData.str z :: ds).getLastD .none)) && deedD ss ts (.tuple (PyData.str z :: ds).dropLast) else deedB ss ts z ds
  | _ => false
theorem word_tup {d : PyData} (h : wordD d ≠ "") : ∃ z ds, d = .tuple (.str z :: ds) ∧ wordD d = z := by
  unfold wordD at h ⊢
  split at h
  · exact ⟨_, _, rfl, rfl⟩
  · exact absurd rfl h
theorem hand_ne {z : Str} (h : z ∈ handL) : z ≠ "" := fun e => by
  rw [e] at h
  exact absurd h (by decide +kernel)
theorem last_snoc {α : Type} (x : α) (xs : List α) (d : α) : ∃ (ys : List α) (y : α), x :: xs = ys ++ [y] ∧ (x :: xs).getLastD d = y ∧ (x :: xs).dropLast = ys := by
  refine ⟨(x :: xs).dropLast, (x :: xs).getLast (by simp), (List.dropLast_concat_getLast (by simp)).symm, ?_, rfl⟩
  rw [List.getLastD_eq_getLast?, List.getLast?_eq_some_getLast (by simp)]
  rfl
theorem dpAll_split {K : PySem.W.Frag} {H : Hp} : ∀ {es : List PyData} {e : PyData} {vs : List V}, DpAll K H vs (es ++ [e]) → ∃ us u, vs = us ++ [u] ∧ DpAll K H us es ∧ Dp K H u e
  | [], e, _, .cons h1 h2 => by
    cases h2
    exact ⟨[], _, rfl, .nil, h1⟩
  | d :: es, e, _, .cons h1 h2 => by
    obtain ⟨us, u, rfl, a, b⟩ := dpAll_split h2
    exact ⟨_ :: us, u, rfl, .cons h1 a, b⟩
theorem cut_last (us : List V) (u : V) : cutV (us ++ [u]) none (some (-1)) = us := by
  unfold cutV HT.sIx
  simp only [List.length_append, List.length_singleton]
  have e : ((-1 : Int) + ((us.length + 1 : Nat) : Int)).toNat = us.length := by omega
  simp [show (-1 + ((us.length : Int) + 1)).toNat = us.length by omega]
theorem sl_last (us : List V) (u : V) : ¬ (HT.sIx (us ++ [u]).length 0 none = 0 ∧ HT.sIx (us ++ [u]).length (us ++ [u]).length (some (-1)) = (us ++ [u]).length) := by
  unfold HT.sIx
  simp
  omega
theorem at_last (us : List V) (u : V) : atI (us ++ [u]) (-1) = some u := by
  have e : ixN (us ++ [u]).length (-1) = some us.length := by
    unfold ixN
    rw [if_neg (by decide), if_pos (by rw [List.length_append, List.length_singleton]; omega)]
    congr 1
    rw [List.length_append, List.length_singleton]
    omega
  unfold atI
  rw [e]
  simp
theorem bk_sub {es : List PyData} {e : PyData} (h : BkOk (.tuple (es ++ [e]))) : BkOk (.tuple es) := by
  unfold BkOk at h ⊢
  simp only [PyData.bulk] at h ⊢
  rw [bulk_app] at h
  omega
theorem andT2 {a b : Bool} (h1 : a = true) (h2 : b = true) : (a && b) = true := by rw [h1, h2]; rfl
section
open PySem.Spec PyProof.Rows LamX
variable {P : Program} {w : World} {K : PySem.W.Frag} {mg : Str → Option Value} {base : Heap} {f : Addr} {fd : FuncData}
/-! hands_on -/
def spHands (K : PySem.W.Frag) : Sp := fun vs H Q _ => ∃ (x : V) (z : Str) (ds : List PyData), vs = [x] ∧ Dp K H x (.tuple (.str z :: ds)) ∧ Q (.bl (decide (z ∈ handL))) H
def spTest (K : PySem.W.Frag) (PT : List Addr) : Sp := fun vs H Q _ => ∃ (x : V) (d : PyData), vs = [x] ∧ Dp K H x d ∧ BkOk d ∧ TabsG PT H ∧ ∀ H', ExtN H H' → TabsG PT H' → Q (.bl (testD d)) H'
def spFlatDeed (K : PySem.W.Frag) (PT : List Addr) : Sp := fun vs H Q _ => ∃ (x : V) (d : PyData) (a b : Addr) (ss ts : List Int), vs = [x, .ref a, .ref b] ∧ Dp K H x d ∧ BkOk d ∧ SqT K H a (ss.map V.int) ∧ SqT K H b (ts.map V.int) ∧ TabsG PT H ∧ ∀ H', ExtN H H' → TabsG PT H' → Q (.bl (flatD ss ts d)) H'
def rowD (r : PyData × List Int) : PyData := .tuple [r.1, .tuple (r.2.map .int)]
def rowsD (rs : List (PyData × List Int)) : PyData := .tuple (rs.map rowD)
abbrev NIsRow : List Str := ["thing", "many", "sends", "takes", "deed", "nexts", "wanted", "after"]
/-- from `wanted` on -/
def tRowT (K : PySem.W.Frag) (PT : List Addr) : TS := fun D σ H => ∃ (x y1 y2 : V) (v2 v3 v6 v7 : Option V) (many : Int) (d : PyData) (ns : List Int), σ = [some x, some (.int many), v2, v3, some y1, some y2, v6, v7] ∧ Dp K H y1 d ∧ Dp K H y2 (.tuple (ns.map .int)) ∧ BkOk d ∧ ((testD d = true ∧ ns.length = 2) ∨ (testD d = false ∧ ns.length = 1)) ∧ (∀ n ∈ ns, -1 ≤ n ∧ n ≤ many - 1) ∧ TabsG PT H ∧ ∀ H', ExtN H H' → TabsG PT H' → D.rt (.bl true) H'
end
theorem Mv.trans {st : Addr} {H H1 H2 : Hp} (a : Mv st H H1) (b : Mv st H1 H2) : Mv st H H2 := ⟨a.kp.trans b.kp, b.sa⟩
theorem big {n : Nat} (h : n ≤ 1000000) : n ≤ sizeLine := Nat.le_trans h (by decide)
theorem none_of_same {H G : Hp} {p : Addr} (s : Same H G) (h : G p = none) : H p = none := by
  cases e : H p with
  | none => rfl
  | some u => rw [s p u e] at h; cases h
theorem same_upd2 {H G : Hp} {D : Addr} {o : HO} (s : Same H G) (h : H D = none) : Same H (upd G D o) := fun b u hb => by
  rw [upd_ne (fun e => by rw [e, h] at hb; cases hb)]
  exact s b u hb
inductive Bd (c wd : Nat) : PyData → Prop
  | non : Bd c wd .none
  | bl {t : Bool} : Bd c wd (.bool t)
  | int {i : Int} (h : i.natAbs < c) : Bd c wd (.int i)
  | str {x : Str} (h : ∀ z ∈ x.cps.toList, z < 128) : Bd c wd (.str x)
  | lst {es : List PyData} (len : es.length ≤ wd) (each : ∀ z ∈ es, Bd c wd z) : Bd c wd (.list es)
  | tup {es : List PyData} (len : es.length ≤ wd) (each : ∀ z ∈ es, Bd c wd z) : Bd c wd (.tuple es)
  | dct {kvs : List (PyData × PyData)} (h1 : (PyData.dict kvs).showable = true) (h2 : (PyData.dict kvs).leavesShort 40 = true) : Bd c wd (.dict kvs)
theorem Bd.mono {c c' wd wd' : Nat} (h : c ≤ c') (h' : wd ≤ wd') {d : PyData} (b : Bd c wd d) : Bd c' wd' d := by
  induction b with
  | non => exact .non
  | bl => exact .bl
  | int q => exact .int (Nat.lt_of_lt_of_le q h)
  | str q => exact .str q
  | lst l _ ih => exact .lst (Nat.le_trans l h') ih
  | tup l _ ih => exact .tup (Nat.le_trans l h') ih
  | dct a b => exact .dct a b
theorem Bd.shw {c wd : Nat} (hc : c ≤ 10 ^ 35) {d : PyData} (b : Bd c wd d) : d.showable = true := by
  induction b with
  | non => simp only [PyData.showable]
  | bl => simp only [PyData.showable]
  | @int i q =>
    simp only [PyData.showable, decide_eq_true_eq]
    by_cases z : i.natAbs = 0
    · rw [z]
      decide
    · exact Nat.lt_of_lt_of_le ((Nat.log2_lt z).mpr (Nat.lt_of_lt_of_le (Nat.lt_of_lt_of_le q hc) (show 10 ^ 35 ≤ 2 ^ 120 by decide))) (by decide)
  | str q => simp only [PyData.showable]
  | lst _ _ ih => simp only [PyData.showable]; exact show_all ih
  | tup _ _ ih => simp only [PyData.showable]; exact show_all ih
  | dct a b => exact a
theorem Bd.sho {c wd : Nat} (hc : c ≤ 10 ^ 35) {d : PyData} (b : Bd c wd d) : d.leavesShort 40 = true := by
  induction b with
  | non => simp only [PyData.leavesShort]
  | bl => simp only [PyData.leavesShort]
  | @int i q =>
    simp only [PyData.leavesShort, decide_eq_true_eq]
    have e := PySem.int_text_length_le10 (k := 35) (by decide) (Nat.lt_of_lt_of_le q hc)
    show (Str.ofString (toString i)).length ≤ 40
    rw [ofString_length]
    exact Nat.le_trans e (by decide)
  | str q =>
    simp only [PyData.leavesShort, List.all_eq_true, decide_eq_true_eq]
    intro z hz
    exact Nat.lt_of_lt_of_le (q z hz) (by decide)
  | lst _ _ ih => simp only [PyData.leavesShort]; exact short_all ih
  | tup _ _ ih => simp only [PyData.leavesShort]; exact short_all ih
  | dct a b => exact b
theorem bulk_tup (l : List PyData) : (PyData.tuple l).bulk = PyData.bulkAll l := by simp only [PyData.bulk]
theorem bulk_lst (l : List PyData) : (PyData.list l).bulk = PyData.bulkAll l := by simp only [PyData.bulk]
theorem depth_tup (l : List PyData) : (PyData.tuple l).depth = 1 + PyData.depthAll l := by simp only [PyData.depth]; omega
theorem depth_lst (l : List PyData) : (PyData.list l).depth = 1 + PyData.depthAll l := by simp only [PyData.depth]; omega
theorem depth_mem : ∀ {l : List PyData} {z : PyData}, z ∈ l → z.depth ≤ PyData.depthAll l
  | u :: v, z, h => by
    simp only [PyData.depthAll]
    rcases List.mem_cons.mp h with rfl | h
    · omega
    · have := depth_mem h
      omega
theorem len_bulk : ∀ (l : List PyData), l.length ≤ PyData.bulkAll l
  | [] => by simp [PyData.bulkAll]
  | u :: v => by
    have := len_bulk v
    simp only [PyData.bulkAll, List.length_cons]
    omega
/-! blocks as the law sees them -/
def lstB (ss ts : List Int) (bl : PyData → Bool) (d : PyData) : Bool := deedD ss ts d || (branchD d && (argsD d).all bl)
def lblkT (ss ts : List Int) (bl : PyData → Bool) (ds : List PyData) : Bool := decide (ds.length ≤ 12) && ds.all (lstB ss ts bl)
def lblk (ss ts : List Int) : Nat → PyData → Bool
  | n + 1, .tuple ds => lblkT ss ts (lblk ss ts n) ds
  | _, _ => false
def sumM (m : PyData → Nat) : List PyData → Nat
  | [] => 0
  | d :: ds => m d + sumM m ds
def manyS (mb : PyData → Nat) (d : PyData) : Nat := if branchD d = true then 1 + sumM mb (argsD d) else 1
def manyN : Nat → PyData → Nat
  | n + 1, .tuple ds => sumM (manyS (manyN n)) ds
  | _, _ => 0
theorem deed_no_branch {ss ts : List Int} {d : PyData} (h : deedD ss ts d = true) : branchD d = false := by
  unfold deedD at h
  split at h
  · rename_i z ds
    unfold deedB at h
    split at h
    · cases h
    · rename_i ks hk
      show branchB z ds = false
      unfold branchB
      have e : brK z = none := by
        unfold brK
        rw [if_neg (fun e => by rw [e, show deedK "if" = none by decide +kernel] at hk; cases hk), if_neg (fun e => by rw [e, show deedK "while" = none by decide +kernel] at hk; cases hk)]
      rw [e]
  · cases h
/-- one count against the other -/
structure Rl (f : PyData → Option Nat) (g : PyData → Bool) (m : PyData → Nat) : Prop where
  yes : ∀ d, g d = true → m d ≤ 40 → f d = some (m d)
  is : ∀ d t, f d = some t → g d = true ∧ t = m d
section
variable {f : PyData → Option Nat} {g : PyData → Bool} {m : PyData → Nat}
theorem Rl.sum (r : Rl f g m) : ∀ {ds : List PyData}, ds.all g = true → sumM m ds ≤ 40 → sumO f ds = some (sumM m ds)
  | [], _, _ => rfl
  | d :: ds, h, hs => by
    rw [List.all_cons] at h
    have hs : m d + sumM m ds ≤ 40 := hs
    have h1 := r.yes d (and3 h).1 (by omega)
    have h2 := r.sum (and3 h).2 (by omega)
    simp only [sumO, h1, h2]
    rfl
theorem Rl.sums (r : Rl f g m) : ∀ {ds : List PyData} {t : Nat}, sumO f ds = some t → ds.all g = true ∧ t = sumM m ds
  | [], t, h => by cases h; exact ⟨rfl, rfl⟩
  | d :: ds, t, h => by
    cases hd : f d with
    | none => simp only [sumO, hd] at h; cases h
    | some a =>
      cases hs : sumO f ds with
      | none => simp only [sumO, hd, hs] at h; cases h
      | some b =>
        simp only [sumO, hd, hs] at h
        cases h
        obtain ⟨q1, q2⟩ := r.is d a hd
        obtain ⟨q3, q4⟩ := r.sums hs
        exact ⟨by rw [List.all_cons, q1, q3]; rfl, by rw [q2, q4]; rfl⟩
theorem Rl.st (r : Rl f g m) (ss ts : List Int) : Rl (stOf ss ts f) (lstB ss ts g) (manyS m) := by
  refine ⟨fun d hl h40 => ?_, fun d t ht => ?_⟩
  · unfold lstB at hl
    unfold stOf
    unfold manyS at h40 ⊢
    cases hd : deedD ss ts d with
    | true => rw [if_pos rfl, if_neg (by rw [deed_no_branch hd]; decide)]
    | false =>
      rw [hd, Bool.false_or] at hl
      have hl := and3 hl
      rw [if_pos hl.1] at h40 ⊢
      rw [if_neg (by decide), if_pos hl.1, r.sum hl.2 (by omega)]
      rfl
  · unfold stOf at ht
    unfold lstB manyS
    cases hd : deedD ss ts d with
    | true =>
      rw [hd, if_pos rfl] at ht
      cases ht
      exact ⟨rfl, by rw [if_neg (by rw [deed_no_branch hd]; decide)]⟩
    | false =>
      rw [hd, if_neg (by decide)] at ht
      by_cases hb : branchD d = true
      · rw [if_pos hb] at ht
        cases hs : sumO f (argsD d) with
        | none => rw [hs] at ht; cases ht
        | some t' =>
          obtain ⟨e2, e1⟩ := r.sums hs
          rw [hs] at ht
          cases ht
          refine ⟨by rw [hb, e2]; rfl, ?_⟩
          rw [if_pos hb, e1]
      · rw [if_neg hb] at ht
        cases ht
end
/-- the program's count is the law's -/
theorem blk_rl (ss ts : List Int) : ∀ n : Nat, Rl (blkD ss ts n) (lblk ss ts n) (manyN n)
  | 0 => ⟨(fun d h => by cases d <;> cases h), (fun d t h => by cases d <;> cases h)⟩
  | n + 1 => by
    have r := (blk_rl ss ts n).st ss ts
    refine ⟨fun d h h40 => ?_, fun d t h => ?_⟩
    · cases d with
      | tuple ds =>
        have h := and3 (show (decide (ds.length ≤ 12) && ds.all (lstB ss ts (lblk ss ts n))) = true from h)
        have h40 : sumM (manyS (manyN n)) ds ≤ 40 := h40
        show blkT ss ts (blkD ss ts n) ds = _
        unfold blkT
        rw [if_pos (of_decide_eq_true h.1), r.sum h.2 h40]
        show (if _ ≤ 40 then _ else none) = _
        rw [if_pos h40]
        rfl
      | _ => cases h
    · cases d with
      | tuple ds =>
        have h : blkT ss ts (blkD ss ts n) ds = some t := h
        unfold blkT at h
        by_cases hl : ds.length ≤ 12
        · rw [if_pos hl] at h
          cases hs : sumO (stOf ss ts (blkD ss ts n)) ds with
          | none => rw [hs] at h; cases h
          | some t' =>
            obtain ⟨q1, q2⟩ := r.sums hs
            rw [hs] at h
            have h : (if t' ≤ 40 then some t' else none) = some t := h
            by_cases h40 : t' ≤ 40
            · rw [if_pos h40] at h
              cases h
              refine ⟨?_, q2⟩
              show (decide (ds.length ≤ 12) && ds.all (lstB ss ts (lblk ss ts n))) = true
              rw [decide_eq_true hl, q1]
              rfl
            · rw [if_neg h40] at h
              cases h
        · rw [if_neg hl] at h
          cases h
      | _ => cases h
theorem blk_40 {ss ts : List Int} {n t : Nat} {d : PyData} (h : blkD ss ts n d = some t) : t ≤ 40 := by
  cases n with
  | zero => cases d <;> cases h
  | succ n =>
    cases d with
    | tuple ds =>
      have h : blkT ss ts (blkD ss ts n) ds = some t := h
      unfold blkT at h
      by_cases hl : ds.length ≤ 12
      · rw [if_pos hl] at h
        cases hs : sumO (stOf ss ts (blkD ss ts n)) ds with
        | none => rw [hs] at h; cases h
        | some t' =>
          rw [hs] at h
          have h : (if t' ≤ 40 then some t' else none) = some t := h
          by_cases h40 : t' ≤ 40
          · rw [if_pos h40] at h
            cases h
            exact h40
          · rw [if_neg h40] at h
            cases h
      · rw [if_neg hl] at h
        cases h
    | _ => cases h
theorem blk_some (ss ts : List Int) (n : Nat) (d : PyData) : (blkD ss ts n d).isSome = (lblk ss ts n d && decide (manyN n d ≤ 40)) := by
  have r := blk_rl ss ts n
  cases h : blkD ss ts n d with
  | some t =>
    obtain ⟨q1, q2⟩ := r.is d t h
    have := blk_40 h
    rw [q1, decide_eq_true (by omega)]
    rfl
  | none =>
    cases hl : lblk ss ts n d with
    | false => rfl
    | true =>
      by_cases h40 : manyN n d ≤ 40
      · rw [r.yes d hl h40] at h
        cases h
      · rw [decide_eq_false h40]
        rfl
/-! what is lawful may be shown -/
theorem small_lt {z : Nat} (h : smallB z = true) : z < 128 := by
  unfold smallB at h
  have := of_decide_eq_true (and3 h).2
  omega
theorem num_str {d : PyData} (h : numNameD d = true) : ∃ x, d = .str x ∧ (∀ z ∈ x.cps.toList, z < 128) ∧ x.cps.size ≤ 6 := by
  cases d with
  | str x =>
    have h := and3 (show ((decide (1 ≤ x.length) && decide (x.length ≤ 6)) && areSmall x) = true from h)
    exact ⟨x, rfl, fun z hz => small_lt (List.all_eq_true.mp h.2 z hz), of_decide_eq_true (and3 h.1).2⟩
  | _ => cases h
theorem cut_one (x : Str) : (cutS x (some 1) none).cps.toList = x.cps.toList.drop 1 := by
  have e : HT.sIx x.length 0 (some 1) = min 1 x.length := HT.sIx_nat x.length 0 1
  have l : x.length = x.cps.toList.length := by simp [Str.length]
  show ((x.cps.toList.drop (HT.sIx x.length 0 (some 1))).take (x.length - HT.sIx x.length 0 (some 1))).toArray.toList = x.cps.toList.drop 1
  rw [e, l]
  cases x.cps.toList with
  | nil => rfl
  | cons c r =>
    have m : min 1 (c :: r).length = 1 := by rw [List.length_cons]; omega
    rw [m, List.toList_toArray]
    exact List.take_of_length_le (by simp)
theorem graph_asc {d : PyData} (h : graphNameD d = true) : ∃ x, d = .str x ∧ (∀ z ∈ x.cps.toList, z < 128) ∧ x.cps.size ≤ 6 := by
  cases d with
  | str x =>
    have h := and3 (show ((decide (1 ≤ x.length) && decide (x.length ≤ 6)) && (bigB (x.cps.toList.headD 0) && areSmall (cutS x (some 1) none))) = true from h)
    have h2 := and3 h.2
    refine ⟨x, rfl, fun z hz => ?_, of_decide_eq_true (and3 h.1).2⟩
    have e : (cutS x (some 1) none).cps.toList = x.cps.toList.drop 1 := cut_one x
    cases hc : x.cps.toList with
    | nil => rw [hc] at hz; cases hz
    | cons c r =>
      rw [hc] at hz h2 e
      rcases List.mem_cons.mp hz with rfl | hz
      · have := of_decide_eq_true (and3 (show (decide (65 ≤ z) && decide (z ≤ 90)) = true from h2.1)).2
        omega
      · refine small_lt (List.all_eq_true.mp (show (cutS x (some 1) none).cps.toList.all smallB = true from h2.2) z ?_)
        rw [e]
        exact hz
  | _ => cases h
theorem fit_bd {c : Nat} {ss ts : List Int} (hc : 10000 ≤ c) (hs : ∀ i ∈ ss, i.natAbs < c) (ht : ∀ i ∈ ts, i.natAbs < c) {k : Kd} {d : PyData} (h : fitD ss ts k d = true) : Bd c 12 d ∧ d.bulk ≤ 6 ∧ d.depth = 0 := by
  have txt : ∀ x : Str, d = .str x → (∀ z ∈ x.cps.toList, z < 128) → x.cps.size ≤ 6 → Bd c 12 d ∧ d.bulk ≤ 6 ∧ d.depth = 0 := fun x e h1 h2 => by
    subst e
    exact ⟨.str h1, by simp only [PyData.bulk]; exact h2, by simp only [PyData.depth]⟩
  have num : ∀ i : Int, d = .int i → i.natAbs < c → Bd c 12 d ∧ d.bulk ≤ 6 ∧ d.depth = 0 := fun i e h1 => by
    subst e
    exact ⟨.int h1, by simp only [PyData.bulk]; omega, by simp only [PyData.depth]⟩
  cases k with
  | name => obtain ⟨x, e, h1, h2⟩ := num_str h; exact txt x e h1 h2
  | graph => obtain ⟨x, e, h1, h2⟩ := graph_asc h; exact txt x e h1 h2
  | number => obtain ⟨i, e, h1, h2⟩ := within_int h; exact num i e (by omega)
  | place => obtain ⟨i, e, h1, h2⟩ := within_int h; exact num i e (by omega)
  | sign =>
    obtain ⟨z, hz, hd⟩ := List.any_eq_true.mp (show signs.any (fun z => isStrD z d) = true from h)
    cases d with
    | str x =>
      have e : x = z := of_decide_eq_true hd
      subst e
      have q : signs.all (fun z => z.cps.toList.all (fun c => decide (c < 128)) && decide (z.cps.size ≤ 6)) = true := by decide +kernel
      have q := and3 (List.all_eq_true.mp q x hz)
      exact txt x rfl (fun z hz => of_decide_eq_true (List.all_eq_true.mp q.1 z hz)) (of_decide_eq_true q.2)
    | _ => cases hd
  | into =>
    cases d with
    | int i => exact num i rfl (hs i (of_decide_eq_true h))
    | _ => cases h
  | out =>
    cases d with
    | int i => exact num i rfl (ht i (of_decide_eq_true h))
    | _ => cases h
theorem fits_bd {c : Nat} {ss ts : List Int} (hc : 10000 ≤ c) (hs : ∀ i ∈ ss, i.natAbs < c) (ht : ∀ i ∈ ts, i.natAbs < c) : ∀ {ks : List Kd} {ds : List PyData}, ds.length = ks.length → fitsAll ss ts ks ds = true → (∀ z ∈ ds, Bd c 12 z) ∧ PyData.bulkAll ds ≤ 7 * ds.length ∧ PyData.depthAll ds = 0
  | [], [], _, _ => ⟨(fun z hz => by cases hz), (by simp only [PyData.bulkAll]; omega), (by simp only [PyData.depthAll])⟩
  | k :: ks, d :: ds, hl, h => by
    have h := and3 (show (fitD ss ts k d && fitsAll ss ts ks ds) = true from h)
    obtain ⟨q1, q2, q3⟩ := fit_bd hc hs ht h.1
    obtain ⟨r1, r2, r3⟩ := fits_bd hc hs ht (by simpa using hl) h.2
    refine ⟨fun z hz => ?_, ?_, ?_⟩
    · rcases List.mem_cons.mp hz with rfl | hz
      · exact q1
      · exact r1 z hz
    · simp only [PyData.bulkAll, List.length_cons]
      omega
    · simp only [PyData.depthAll, q3, r3]
      rfl
theorem deedL_ok : deedL.all (fun p => p.1.cps.toList.all (fun c => decide (c < 128)) && decide (p.1.cps.size ≤ 4) && decide (p.2.length ≤ 4)) = true := by decide +kernel
theorem lookup_mem {z : Str} {ks : List Kd} : ∀ {l : List (Str × List Kd)}, l.lookup z = some ks → (z, ks) ∈ l
  | [], h => by cases h
  | (y, v) :: l, h => by
    rw [List.lookup_cons] at h
    cases e : z == y with
    | true =>
      rw [e] at h
      cases h
      rw [eq_of_beq e]
      exact List.mem_cons_self
    | false =>
      rw [e] at h
      exact List.mem_cons_of_mem _ (lookup_mem h)
theorem deed_bd {c : Nat} {ss ts : List Int} (hc : 10000 ≤ c) (hs : ∀ i ∈ ss, i.natAbs < c) (ht : ∀ i ∈ ts, i.natAbs < c) {d : PyData} (h : deedD ss ts d = true) : Bd c 12 d ∧ d.bulk ≤ 33 ∧ d.depth ≤ 1 := by
  unfold deedD at h
  split at h
  · rename_i z ds
    unfold deedB at h
    split at h
    · cases h
    · rename_i ks hk
      have h := and3 h
      have hl := of_decide_eq_true h.1
      obtain ⟨r1, r2, r3⟩ := fits_bd hc hs ht hl (and3 h.2).1
      have q := List.all_eq_true.mp deedL_ok (z, ks) (lookup_mem hk)
      simp only [Bool.and_eq_true, decide_eq_true_eq] at q
      refine ⟨.tup (by rw [List.length_cons]; omega) fun y hy => ?_, ?_, ?_⟩
      · rcases List.mem_cons.mp hy with rfl | hy
        · exact .str fun y hy => of_decide_eq_true (List.all_eq_true.mp q.1.1 y hy)
        · exact r1 y hy
      · simp only [PyData.bulk, PyData.bulkAll]
        omega
      · simp only [PyData.depth, PyData.depthAll, r3]
        omega
  · cases h
theorem sumM_bd {m : PyData → Nat} : ∀ {ds : List PyData}, (∀ d ∈ ds, d.bulk + 1 ≤ 34 * m d) → PyData.bulkAll ds ≤ 34 * sumM m ds
  | [], _ => by simp only [PyData.bulkAll]; omega
  | d :: ds, h => by
    have h1 := h d List.mem_cons_self
    have h2 := sumM_bd (ds := ds) fun z hz => h z (List.mem_cons_of_mem _ hz)
    have e : sumM m (d :: ds) = m d + sumM m ds := rfl
    rw [e, Nat.mul_add]
    simp only [PyData.bulkAll]
    omega
theorem dAll_le {k : Nat} : ∀ {ds : List PyData}, (∀ d ∈ ds, d.depth ≤ k) → PyData.depthAll ds ≤ k
  | [], _ => by simp only [PyData.depthAll]; omega
  | d :: ds, h => by
    have h1 := h d List.mem_cons_self
    have h2 := dAll_le (ds := ds) fun z hz => h z (List.mem_cons_of_mem _ hz)
    simp only [PyData.depthAll]
    omega
theorem br_ok {z : Str} {n : Nat} (h : brK z = some n) : (∀ y ∈ z.cps.toList, y < 128) ∧ z.cps.size ≤ 5 ∧ n ≤ 2 := by
  unfold brK at h
  have q : ∀ x : Str, (x.cps.toList.all (fun c => decide (c < 128)) && decide (x.cps.size ≤ 5)) = true → (∀ y ∈ x.cps.toList, y < 128) ∧ x.cps.size ≤ 5 := fun x h => by
    have h := and3 h
    exact ⟨fun y hy => of_decide_eq_true (List.all_eq_true.mp h.1 y hy), of_decide_eq_true h.2⟩
  by_cases e : z = "if"
  · rw [if_pos e] at h
    cases h
    subst e
    have := q "if" (by decide +kernel)
    exact ⟨this.1, this.2, by omega⟩
  · rw [if_neg e] at h
    by_cases e : z = "while"
    · rw [if_pos e] at h
      cases h
      subst e
      have := q "while" (by decide +kernel)
      exact ⟨this.1, this.2, by omega⟩
    · rw [if_neg e] at h
      cases h
theorem bulkB {m : PyData → Nat} : ∀ {ds : List PyData}, (∀ d ∈ ds, d.bulk ≤ 34 * m d) → PyData.bulkAll ds ≤ 34 * sumM m ds + ds.length
  | [], _ => by simp only [PyData.bulkAll]; omega
  | d :: ds, h => by
    have h1 := h d List.mem_cons_self
    have h2 := bulkB (ds := ds) fun z hz => h z (List.mem_cons_of_mem _ hz)
    have e : sumM m (d :: ds) = m d + sumM m ds := rfl
    rw [e, Nat.mul_add]
    simp only [PyData.bulkAll, List.length_cons]
    omega
theorem lblk_bd {c : Nat} {ss ts : List Int} (hc : 10000 ≤ c) (hs : ∀ i ∈ ss, i.natAbs < c) (ht : ∀ i ∈ ts, i.natAbs < c) : ∀ (n : Nat) {d : PyData}, lblk ss ts n d = true → Bd c 12 d ∧ d.bulk ≤ 34 * manyN n d ∧ d.depth ≤ 2 * n
  | 0, d, h => by cases d <;> cases h
  | n + 1, d, h => by
    cases d with
    | tuple ds =>
      have h := and3 (show (decide (ds.length ≤ 12) && ds.all (lstB ss ts (lblk ss ts n))) = true from h)
      have hl := of_decide_eq_true h.1
      have one : ∀ d ∈ ds, Bd c 12 d ∧ d.bulk + 1 ≤ 34 * manyS (manyN n) d ∧ d.depth ≤ 2 * n + 1 := fun d hd => by
        have hd := List.all_eq_true.mp h.2 d hd
        unfold lstB at hd
        cases hdd : deedD ss ts d with
        | true =>
          obtain ⟨q1, q2, q3⟩ := deed_bd hc hs ht hdd
          unfold manyS
          rw [if_neg (by rw [deed_no_branch hdd]; decide)]
          exact ⟨q1, by omega, by omega⟩
        | false =>
          rw [hdd, Bool.false_or] at hd
          have hd := and3 hd
          obtain ⟨z, d1, args, m, rfl, hz, hlen, hn⟩ := branch_shape hd.1
          obtain ⟨z1, z2, z3⟩ := br_ok hz
          obtain ⟨x, rfl, x1, x2⟩ := num_str hn
          have ha : ∀ e ∈ args, Bd c 12 e ∧ e.bulk ≤ 34 * manyN n e ∧ e.depth ≤ 2 * n := fun e he => lblk_bd hc hs ht n (List.all_eq_true.mp hd.2 e he)
          unfold manyS
          rw [if_pos hd.1]
          have hb := bulkB (m := manyN n) (ds := args) fun e he => (ha e he).2.1
          have hde := dAll_le (k := 2 * n) (ds := args) fun e he => (ha e he).2.2
          refine ⟨.tup (by simp only [List.length_cons]; omega) fun y hy => ?_, ?_, ?_⟩
          · rcases List.mem_cons.mp hy with rfl | hy
            · exact .str z1
            · rcases List.mem_cons.mp hy with rfl | hy
              · exact .str x1
              · exact (ha y hy).1
          · show _ ≤ 34 * (1 + sumM (manyN n) args)
            rw [Nat.mul_add]
            simp only [PyData.bulk, PyData.bulkAll]
            omega
          · simp only [PyData.depth, PyData.depthAll]
            omega
      refine ⟨.tup hl fun z hz => (one z hz).1, ?_, ?_⟩
      · show _ ≤ 34 * sumM (manyS (manyN n)) ds
        simp only [PyData.bulk]
        exact sumM_bd fun z hz => (one z hz).2.1
      · have := dAll_le (k := 2 * n + 1) (ds := ds) fun z hz => (one z hz).2.2
        simp only [PyData.depth]
        omega
    | _ => cases h
theorem side_nn {sd : Int × Int → Int} {chs : List (Int × Int)} {me : Int} (hl : chs.length ≤ 100) : ∀ i ∈ sideL sd chs me, i.natAbs < 10000 := fun i hi => by
  unfold sideL sideN at hi
  obtain ⟨m, hm, rfl⟩ := List.mem_map.mp hi
  have := List.mem_range.mp (List.mem_filter.mp hm).1
  omega
theorem acts_bd {chs : List (Int × Int)} (hl : chs.length ≤ 100) : ∀ {as : List PyData} {me : Int}, actsB chs me as = true → (∀ z ∈ as, Bd 10000 12 z ∧ z.bulk ≤ 1360 ∧ z.depth ≤ 8)
  | [], _, _ => fun z hz => by cases hz
  | d :: as, me, h => fun z hz => by
    have h := and3 (show ((blkD _ _ 4 d).isSome && actsB chs (me + 1) as) = true from h)
    rcases List.mem_cons.mp hz with rfl | hz
    · have q := h.1
      rw [blk_some] at q
      have q := and3 q
      obtain ⟨q1, q2, q3⟩ := lblk_bd (c := 10000) (Nat.le_refl _) (side_nn hl) (side_nn hl) 4 q.1
      have := of_decide_eq_true q.2
      exact ⟨q1, by omega, by omega⟩
    · exact acts_bd hl h.2 z hz
/-- a net may be shown -/
theorem net_bd {d : PyData} (h : netD d = true) : ∃ cs as, d = .tuple [.tuple cs, .tuple as] ∧ netB cs as = true ∧ Bd 10000 12 d ∧ d.bulk ≤ 5600 ∧ d.depth ≤ 10 := by
  unfold netD at h
  split at h
  · rename_i cs as
    refine ⟨cs, as, rfl, h, ?_⟩
    have h := and3 (show ((decide (cs.length ≤ 6) && (decide (1 ≤ as.length) && decide (as.length ≤ 4))) && (cs.all (chanD as.length) && actsB (cs.map pairD) 0 as)) = true from h)
    have h1 := and3 h.1
    have c6 := of_decide_eq_true h1.1
    have a4 := of_decide_eq_true (and3 h1.2).2
    have h2 := and3 h.2
    have ha := acts_bd (by rw [List.length_map]; omega) h2.2
    have hcs : ∀ z ∈ cs, Bd 10000 12 z ∧ z.bulk ≤ 2 ∧ z.depth ≤ 1 := fun z hz => by
      have q := List.all_eq_true.mp h2.1 z hz
      unfold chanD at q
      split at q
      · have q := and3 (and3 q).1
        obtain ⟨i, rfl, i1, i2⟩ := within_int q.1
        obtain ⟨j, rfl, j1, j2⟩ := within_int q.2
        refine ⟨.tup (by simp) fun y hy => ?_, by simp only [PyData.bulk, PyData.bulkAll]; omega, by simp only [PyData.depth, PyData.depthAll]; omega⟩
        rcases List.mem_cons.mp hy with rfl | hy
        · exact .int (by omega)
        · rw [List.mem_singleton.mp hy]
          exact .int (by omega)
      · cases q
    have b1 := bulk_all (k := 2) (l := cs) fun z hz => (hcs z hz).2.1
    have b2 := bulk_all (k := 1360) (l := as) fun z hz => (ha z hz).2.1
    have d1 := dAll_le (k := 1) (ds := cs) fun z hz => (hcs z hz).2.2
    have d2 := dAll_le (k := 8) (ds := as) fun z hz => (ha z hz).2.2
    have m1 : (2 + 1) * cs.length ≤ 3 * 6 := Nat.mul_le_mul_left 3 c6
    have m2 : (1360 + 1) * as.length ≤ 1361 * 4 := Nat.mul_le_mul_left 1361 a4
    refine ⟨.tup (by simp) fun y hy => ?_, ?_, ?_⟩
    · rcases List.mem_cons.mp hy with rfl | hy
      · exact .tup (by omega) fun z hz => (hcs z hz).1
      · rw [List.mem_singleton.mp hy]
        exact .tup (by omega) fun z hz => (ha z hz).1
    · simp only [PyData.bulk, PyData.bulkAll]
      omega
    · simp only [PyData.depth, PyData.depthAll]
      omega
  · cases h
def stD (ss ts : List Int) (d : PyData) : Bool := deedD ss ts d || branchD d
/-! _law_many, _law_is_block -/
def brL : List Str := ["if", "while"]
theorem lst_st (ss ts : List Int) (bl : PyData → Bool) (d : PyData) : lstB ss ts bl d = (stD ss ts d && (!branchD d || (argsD d).all bl)) := by
  unfold lstB stD
  cases h1 : deedD ss ts d with
  | true => rw [deed_no_branch h1]; rfl
  | false =>
    cases h2 : branchD d with
    | true => rfl
    | false => rfl
theorem br_mem {z : Str} {m : Nat} (h : brK z = some m) : z ∈ brL := by
  unfold brK at h
  by_cases e : z = "if"
  · rw [e]; decide +kernel
  · rw [if_neg e] at h
    by_cases e2 : z = "while"
    · rw [e2]; decide +kernel
    · rw [if_neg e2] at h; cases h
theorem st_word {ss ts : List Int} {d : PyData} (h : stD ss ts d = true) : ∃ z ds, d = .tuple (.str z :: ds) ∧ decide (z ∈ brL) = branchD d := by
  unfold stD at h
  cases h2 : branchD d with
  | true =>
    obtain ⟨z, d1, ds, m, rfl, hz, _⟩ := branch_shape h2
    exact ⟨z, d1 :: ds, rfl, decide_eq_true (br_mem hz)⟩
  | false =>
    rw [h2, Bool.or_false] at h
    unfold deedD at h
    split at h
    · rename_i z ds
      refine ⟨z, ds, rfl, decide_eq_false fun hm => ?_⟩
      unfold deedB at h
      split at h
      · cases h
      · rename_i ks hk
        have e : z = "if" ∨ z = "while" := by simpa [brL] using hm
        rcases e with rfl | rfl
        · rw [show deedK "if" = none by decide +kernel] at hk; cases hk
        · rw [show deedK "while" = none by decide +kernel] at hk; cases hk
    · cases h
theorem sumM_snoc {m : PyData → Nat} {d : PyData} : ∀ {l : List PyData}, sumM m (l ++ [d]) = sumM m l + m d
  | [] => by show m d + 0 = 0 + m d; omega
  | x :: l => by
    show m x + sumM m (l ++ [d]) = (m x + sumM m l) + m d
    rw [sumM_snoc]
    omega
theorem sum_map (m : PyData → Nat) : ∀ l : List PyData, (l.map fun d => ((m d : Nat) : Int)).sum = ((sumM m l : Nat) : Int)
  | [] => rfl
  | d :: l => by
    rw [List.map_cons, List.sum_cons, sum_map m l]
    show (m d : Int) + (sumM m l : Int) = ((m d + sumM m l : Nat) : Int)
    omega
abbrev rInTS (K : PySem.W.Frag) : R2 := fun x y H Q => ∃ (z : Str) (p : Addr) (zs : List Str), x = .str z ∧ y = .ref p ∧ (SqL K H p (zs.map V.str) ∨ SqT K H p (zs.map V.str)) ∧ Q (.bl (decide (z ∈ zs))) H
section
open PySem.Spec PyProof.Rows LamX
variable {P : Program} {w : World} {K : PySem.W.Frag} {mg : Str → Option Value} {base : Heap} {f : Addr} {fd : FuncData}
def spMany (K : PySem.W.Frag) (n : Nat) : Sp := fun vs H Q _ => ∃ (x : V) (d : PyData) (ss ts : List Int), vs = [x] ∧ Dp K H x d ∧ lblk ss ts n d = true ∧ ∀ H', Same H H' → Q (.int (manyN n d : Nat)) H'
abbrev NMany : List Str := ["_law_block_here", "_law_many_here", "_law_one", "_law_inner"]
theorem scMany : FnScope NMany ["_law_block_here"] (defScope sMany) := ⟨rfl, rfl, rfl, by decide +kernel, rfl, by decide +kernel, by decide +kernel⟩
theorem no_many {k : Nat} : FnOk P w K mg base CX0 k f fd ["_law_block_here"] (spMany K 0) :=
  ⟨(fun vs H Q E h => by obtain ⟨x, d, ss, ts, _, _, h, _⟩ := h; cases d <;> cases h), (fun A outer s H args us vs Q E hr he hb hv h => by obtain ⟨x, d, ss, ts, _, _, h, _⟩ := h; cases d <;> cases h)⟩
theorem ok_many {k n : Nat} (F : Fun K "_law_many" "_law_many" sMany f fd) (T : Free mg) (cM : Cal P w K mg base "_law_many" k ["_law_block_here"] (spMany K n)) : FnOk P w K mg base CX0 (k + 1) f fd ["_law_block_here"] (spMany K (n + 1)) := by
  refine F.ok scMany (fun vs H Q E h => ?_) (fun cdv A outer s H vs Q E hr h => ?_)
  · obtain ⟨x, d, ss, ts, rfl, _⟩ := h
    rfl
  obtain ⟨x, d, ss, ts, rfl, hx, hl, q⟩ := h
  refine ⟨_, pss_cons (ps_set (i := 1) scMany.nd rfl (.inl rfl) pe_int)
    (pss_cons (ps_for PassesOwn.never rfl (pi_tup (pv 0)) (pg_name (i := 2) scMany.nd rfl (.inr rfl))
      (pss_one (ps_set (i := 1) scMany.nd rfl (.inl rfl) (pe_op op_add (pe_op op_add (pv 1) pe_int) (pe_callB (cr_sum rfl) rfl T.sum (by decide +kernel) (pa_cons (pe_lc (own := [("_law_inner", 3)]) (g := gName 3) (tt := tTest (tOp (rInTS K) (tOp (rIxT K) (tVar 2) (tC (.int 0))) (tTup (tCons (tC (.str "if")) (tCons (tC (.str "while")) tNil))))) (te := tCall (spMany K n) [] E0 (tCons (tVar 3) tNil)) rfl scMany.nd (pi_tup (pe_slice sl_tupA (pv 2) (po_some pe_int) po_none))
        (blkOk_by (own := [("_law_inner", 3)]) (N := NMany) (sc := defScope sMany) (by decide +kernel))
        (fun _ _ _ _ _ => pg_name (i := 3) scMany.nd rfl (Or.inl rfl)) (fun _ _ _ _ _ => pts_one (pt_cmpR op_inTS (pe_ix ix_tup (pv 2) pe_int (fun _ _ => rfl)) (pe_tup (pa_cons pe_str (pa_cons pe_str pa_nil))) rfl)) (fun _ _ _ _ _ => pe_cal cM hr rfl (pa_cons (pv 3) pa_nil))) pa_nil))))))
    (pss_one (ps_ret (pv 1)))), ?_⟩
  cases d with
  | tuple ds =>
    have hl := and3 (show (decide (ds.length ≤ 12) && ds.all (lstB ss ts (lblk ss ts n))) = true from hl)
    have q : ∀ H', Same H H' → Q (.int (sumM (manyS (manyN n)) ds : Nat)) H' := q
    cases hx with
    | @tup ta xs _ at_ each =>
      have lx := dpAll_len each
      refine ⟨_, rfl, ta, rfl, ⟨xs, at_⟩, ?_⟩
      refine for_tup (xs := xs) (fun i σ G => ∃ (o2 o3 : Option V), σ = [some (.ref ta), some (.int (sumM (manyS (manyN n)) (ds.take i) : Nat)), o2, o3] ∧ Same H G) ⟨_, _, rfl, Same.refl _⟩ (fun i σ G _ h => by obtain ⟨_, _, _, h⟩ := h; exact sqT_same h at_) (fun i y σ G hy h => ?_) (fun σ G h => ?_)
      · obtain ⟨o2, o3, rfl, sG⟩ := h
        obtain ⟨d, hd, hdy⟩ := dpAll_get' each hy
        have hst := List.all_eq_true.mp hl.2 d (List.mem_of_getElem? hd)
        rw [lst_st] at hst
        have hst := and3 hst
        obtain ⟨z, es, rfl, hz⟩ := st_word hst.1
        cases dp_same sG hdy with
        | @tup da dvs _ dat deach =>
          cases deach with
          | @cons v0 vs0 _ _ h0 hs0 =>
            cases h0
            refine ⟨_, rfl, _, _, rfl, rfl, _, rfl, _, rfl, noP (slA_run dat fun r G1 s1 hr1 => ?_)⟩
            rw [cut_from0 (by decide)] at hr1
            refine ⟨r, rfl, ⟨_, hr1⟩, fun D hD => ?_⟩
            have each2 : DpAll K G1 ((V.str z :: vs0).drop 2) ((PyData.str z :: es).drop 2) := by
              cases vs0 with
              | nil => cases hs0; exact .nil
              | cons v1 vs1 =>
                cases hs0 with
                | cons a1 a2 => exact dps_same s1 a2
            have len2 := dpAll_len each2
            have elen : es.length ≤ 12 := by
              have z1 := hst.1
              have z2 : ∀ {c : Nat}, True := fun {c} => trivial
              cases hb : branchD (.tuple (.str z :: es)) with
              | true =>
                obtain ⟨z', d1, args, m, e, hzm, hlen, _⟩ := branch_shape hb
                cases e
                have := (br_ok hzm).2.2
                rw [List.length_cons]
                omega
              | false =>
                unfold stD at z1
                rw [hb, Bool.or_false] at z1
                have z1 : deedB ss ts z es = true := z1
                unfold deedB at z1
                split at z1
                · cases z1
                · rename_i ks hk
                  have e1 := of_decide_eq_true (and3 z1).1
                  have qd := List.all_eq_true.mp deedL_ok (z, ks) (lookup_mem hk)
                  simp only [Bool.and_eq_true, decide_eq_true_eq] at qd
                  omega
            refine lc_tup (xs := (V.str z :: vs0).drop 2) (fun j G2 => Same G1 G2 ∧ G2 D = some (.lst (((if branchD (.tuple (.str z :: es)) = true then ((PyData.str z :: es).drop 2).take j else []).map fun d => ((manyN n d : Nat) : Int)).map V.int)))
              ⟨same_new hD _, by rw [upd_same]; cases branchD (.tuple (.str z :: es)) <;> rfl⟩ (fun j G2 _ h => sqT_same h.1 hr1) (fun j v G2 hv h => ?_) (fun G2 h => ?_)
            · obtain ⟨s2, gD⟩ := h
              obtain ⟨e, he, hde⟩ := dpAll_get' each2 hv
              refine ⟨rfl, _, rfl, da, _, 0, _, rfl, rfl, sqT_same (s1.trans s2) dat, atI_at (by decide) rfl, small (by show 2 ≤ 1000; decide), fun p hp => ⟨z, p, brL, rfl, rfl, .inr (.of upd_same), _, rfl, ?_⟩⟩
              rw [hz]
              have s3 := s2.trans (same_new hp (.tup [V.str "if", V.str "while"]))
              have nD : D ≠ p := ne_of_none gD hp
              cases hb : branchD (.tuple (.str z :: es)) with
              | false =>
                rw [hb, if_neg (by decide)] at gD
                refine ifF rfl ⟨s3, ?_⟩
                rw [upd_ne nD, if_neg (by decide)]
                exact gD
              | true =>
                rw [hb, if_pos rfl] at gD
                have hargs : (argsD (.tuple (.str z :: es))).all (lblk ss ts n) = true := by
                  have z1 := hst.2
                  rw [hb] at z1
                  exact z1
                obtain ⟨z', d1, args, m, eq, hzm, hlen, _⟩ := branch_shape hb
                cases eq
                have he2 : args[j]? = some e := he
                have m2 := (br_ok hzm).2.2
                have hj : j < args.length := (List.getElem?_eq_some_iff.mp he2).1
                refine ifT rfl ⟨_, rfl, v, e, ss, ts, rfl, dp_same s3 hde, List.all_eq_true.mp hargs e (List.mem_of_getElem? he2), fun G4 s4 => ⟨_, s4 D _ (by rw [upd_ne nD]; exact gD), ?_, same_upd2 (s3.trans s4) hD, ?_⟩⟩
                · rw [List.length_map, List.length_map, List.length_take]
                  exact Nat.lt_of_lt_of_le (show _ < 1000 by omega) (show 1000 ≤ sizeLine by decide)
                · rw [upd_same, if_pos rfl, take_more he, List.map_append, List.map_append]
                  rfl
            · obtain ⟨s2, gD⟩ := h
              rw [len2] at gD
              refine ⟨D, _, rfl, SqL.of gD, _, _, rfl, rfl, some (.ref da), o3, ?_, sG.trans (s1.trans s2)⟩
              show [_, some (V.int (((sumM (manyS (manyN n)) (ds.take i) : Nat) : Int) + 1 + _)), _, _] = _
              rw [sum_map, take_more hd, sumM_snoc]
              have em : manyS (manyN n) (.tuple (.str z :: es)) = 1 + sumM (manyN n) (if branchD (.tuple (.str z :: es)) = true then ((PyData.str z :: es).drop 2).take ((PyData.str z :: es).drop 2).length else []) := by
                unfold manyS
                cases hb : branchD (.tuple (.str z :: es)) with
                | false => rfl
                | true =>
                  rw [if_pos rfl, if_pos rfl, List.take_length]
                  cases es <;> rfl
              rw [em]
              congr 3
              congr 1
              omega
      · obtain ⟨o2, o3, rfl, sG⟩ := h
        rw [lx, List.take_length]
        exact ⟨_, rfl, q G sG⟩
  | _ => cases hl
theorem all_many {k : Nat} (F : Fun K "_law_many" "_law_many" sMany f fd) (hm : mg "_law_many" = some (.ref f)) (hb : Binds K fd ["_law_block_here"] []) (T : Free mg) : ∀ n, FnOk P w K mg base CX0 (k + n) f fd ["_law_block_here"] (spMany K n)
  | 0 => no_many
  | n + 1 => ok_many (k := k + n) F T ⟨f, fd, all_many F hm hb T n, hm, F.kp, hb⟩
/-! _law_is_block -/
end
section
theorem kt_mn {H : Hp} {st : Addr} (sa : StAt H st) : KT H (mn st H) := fun b u h n => mn_at (fun e => by
  obtain ⟨l, hl⟩ := sa.some
  rw [e, hl] at h
  cases h
  exact n _ rfl) h
end
def EnvD (K : PySem.W.Frag) (L : List (Nat × PyData)) (σ : L2.St) (H : Hp) : Prop := ∀ p ∈ L, ∃ v, σ[p.1]? = some (some v) ∧ Dp K H v p.2
theorem EnvD.same {K : PySem.W.Frag} {L : List (Nat × PyData)} {σ : L2.St} {H H' : Hp} (e : EnvD K L σ H) (s : Same H H') : EnvD K L σ H' := fun p hp => by
  obtain ⟨v, h1, h2⟩ := e p hp
  exact ⟨v, h1, dp_same s h2⟩
def Mk (K : PySem.W.Frag) (L : List (Nat × PyData)) (t : TE) (d : PyData) : Prop := ∀ (σ : L2.St) (H : Hp) (Q : VK), EnvD K L σ H → (∀ v H', Same H H' → Dp K H' v d → Q v H') → t σ H Q
def MkA (K : PySem.W.Frag) (L : List (Nat × PyData)) (t : TA) (ds : List PyData) : Prop := ∀ (σ : L2.St) (H : Hp) (Q : List V → Hp → Prop), EnvD K L σ H → (∀ vs H', Same H H' → DpAll K H' vs ds → Q vs H') → t σ H Q
section
variable {K : PySem.W.Frag} {L : List (Nat × PyData)}
theorem mk_int {i : Int} : Mk K L (tC (.int i)) (.int i) := fun σ H Q e q => q _ H (Same.refl _) (.int i)
theorem mk_str {x : Str} : Mk K L (tC (.str x)) (.str x) := fun σ H Q e q => q _ H (Same.refl _) (.str x)
theorem mk_bl {b : Bool} : Mk K L (tC (.bl b)) (.bool b) := fun σ H Q e q => q _ H (Same.refl _) (.bl b)
theorem mk_neg {i : Int} : Mk K L (tUn (rU fun i => .int (-i)) (tC (.int i))) (.int (-i)) := fun σ H Q e q => ⟨i, rfl, q _ H (Same.refl _) (.int _)⟩
theorem mk_var {i : Nat} {d : PyData} (h : (i, d) ∈ L) : Mk K L (tVar i) d := fun σ H Q e q => by
  obtain ⟨v, h1, h2⟩ := e _ h
  exact ⟨v, h1, q v H (Same.refl _) h2⟩
theorem mka_nil : MkA K L tNil [] := fun σ H Q e q => q [] H (Same.refl _) .nil
theorem mka_cons {t : TE} {ta : TA} {d : PyData} {ds : List PyData} (h : Mk K L t d) (hs : MkA K L ta ds) : MkA K L (tCons t ta) (d :: ds) := fun σ H Q e q =>
  h σ H _ e fun v H1 s1 d1 => hs σ H1 _ (e.same s1) fun vs H2 s2 d2 => q _ H2 (s1.trans s2) (.cons (dp_same s2 d1) d2)
theorem mk_tup {ta : TA} {ds : List PyData} (h : MkA K L ta ds) (hl : ds.length ≤ 1000) : Mk K L (tTup ta) (.tuple ds) := fun σ H Q e q =>
  h σ H _ e fun vs H1 s1 d1 => ⟨small (by rw [dpAll_len d1]; exact hl), fun p hp => q _ _ (s1.trans (same_new hp _)) (.tup (SqT.of upd_same) (dps_same (same_new hp _) d1))⟩
theorem mk_cat {t1 t2 : TE} {ds es : List PyData} (h1 : Mk K L t1 (.tuple ds)) (h2 : Mk K L t2 (.tuple es)) (hl : ds.length + es.length ≤ 1000) : Mk K L (tOp (rCatA K) t1 t2) (.tuple (ds ++ es)) := fun σ H Q e q =>
  h1 σ H _ e fun v1 H1 s1 d1 => h2 σ H1 _ (e.same s1) fun v2 H2 s2 d2 => by
    cases dp_same s2 d1 with
    | tup at1 each1 =>
      cases d2 with
      | tup at2 each2 =>
        exact catA_run at1 at2 (by rw [dpAll_len each1, dpAll_len each2]; exact hl) fun r H3 s3 h3 => q _ H3 (s1.trans (s2.trans s3)) (.tup h3 (dpAll_append (dps_same s3 each2) (dps_same s3 each1)))
end
section
variable {K : PySem.W.Frag} {L : List (Nat × PyData)}
theorem mk_lst {ta : TA} {ds : List PyData} (h : MkA K L ta ds) (hl : ds.length ≤ 1000) : Mk K L (tLst ta) (.list ds) := fun σ H Q e q =>
  h σ H _ e fun vs H1 s1 d1 => ⟨small (by rw [dpAll_len d1]; exact hl), fun p hp => q _ _ (s1.trans (same_new hp _)) (.lst (SqL.of upd_same) (dps_same (same_new hp _) d1))⟩
end
/-! _law_simple -/
theorem andT {a b : Bool} (h1 : a = true) (h2 : b = true) : (a && b) = true := by rw [h1, h2]; rfl
theorem unl_not {z : Str} {ds : List PyData} (h : decide (z ∈ unlikeL) = false) : unlikeB z ds = true := by
  unfold unlikeB
  rw [h]
  rfl
theorem unl_ne {z : Str} {ds : List PyData} {g h : Str} (hne : g ≠ h) (h1 : ds.headD .none = .str g) (h2 : ds.getLastD .none = .str h) : unlikeB z ds = true := by
  unfold unlikeB
  rw [h1, h2]
  show (_ || !decide (g = h)) = true
  rw [decide_eq_false hne]
  exact Bool.or_true _
theorem deed_mk {ss ts : List Int} {z : Str} {ks : List Kd} {ds : List PyData} (hk : deedK z = some ks) (hl : ds.length = ks.length) (hf : fitsAll ss ts ks ds = true) (hu : unlikeB z ds = true) : deedD ss ts (.tuple (.str z :: ds)) = true := by
  show deedB ss ts z ds = true
  unfold deedB
  rw [hk]
  show (decide (ds.length = ks.length) && (fitsAll ss ts ks ds && unlikeB z ds)) = true
  rw [decide_eq_true hl, hf, hu]
  rfl
def nameL : List Str := ["a", "b", "c", "count"]
def graphL : List Str := ["G", "H", "Kit"]
theorem nameL_ok : nameL.all (fun z => numNameD (.str z)) = true := by decide +kernel
theorem graphL_ok : graphL.all (fun z => graphNameD (.str z)) = true := by decide +kernel
def rowsA (a b g h : Str) (k : Int) : List PyData := [.tuple [.str "new", .str g], .tuple [.str "let", .str g, .str h], .tuple [.str "add", .str g, .str a], .tuple [.str "add", .str g, .str b], .tuple [.str "put", .str g, .str a, .int k, .str b], .tuple [.str "tie", .str g, .str a, .int k, .str b]]
def rowsB (a b g h : Str) (k : Int) : List PyData := [.tuple [.str "hang", .str g, .str a, .int k, .str h], .tuple [.str "hang", .str g, .str b, .int k, .str h], .tuple [.str "get", .str a, .str g, .str b, .int k], .tuple [.str "sort", .str a, .str g, .str b, .int k]]
def rowsC (a b g h : Str) (k : Int) : List PyData := [.tuple [.str "pick", .str g, .str h, .str a, .int k], .tuple [.str "pick", .str g, .str g, .str a, .int k], .tuple [.str "tell", .str a], .tuple [.str "show", .str g], .tuple [.str "show", .str h]]
theorem rows_ok {ss ts : List Int} {a b g h : Str} {k : Int} (na : numNameD (.str a) = true) (nb : numNameD (.str b) = true) (ng : graphNameD (.str g) = true) (nh : graphNameD (.str h) = true) (wk : withinD 0 2 (.int k) = true) (hgh : g ≠ h) : ∀ d ∈ rowsA a b g h k ++ rowsB a b g h k ++ rowsC a b g h k, deedD ss ts d = true := fun d hd => by
  have hd : d ∈ [.tuple [.str "new", .str g], .tuple [.str "let", .str g, .str h], .tuple [.str "add", .str g, .str a], .tuple [.str "add", .str g, .str b], .tuple [.str "put", .str g, .str a, .int k, .str b], .tuple [.str "tie", .str g, .str a, .int k, .str b], .tuple [.str "hang", .str g, .str a, .int k, .str h], .tuple [.str "hang", .str g, .str b, .int k, .str h], .tuple [.str "get", .str a, .str g, .str b, .int k], .tuple [.str "sort", .str a, .str g, .str b, .int k], .tuple [.str "pick", .str g, .str h, .str a, .int k], .tuple [.str "pick", .str g, .str g, .str a, .int k], .tuple [.str "tell", .str a], .tuple [.str "show", .str g], .tuple [.str "show", .str h]] := hd
  simp only [List.mem_cons, List.not_mem_nil, or_false] at hd
  rcases hd with rfl | rfl | rfl | rfl | rfl | rfl | rfl | rfl | rfl | rfl | rfl | rfl | rfl | rfl | rfl
  · exact deed_mk (ks := [.graph]) (by decide +kernel) rfl (andT ng rfl) (unl_not (by decide +kernel))
  · exact deed_mk (ks := [.graph, .graph]) (by decide +kernel) rfl (andT ng (andT nh rfl)) (unl_ne hgh rfl rfl)
  · exact deed_mk (ks := [.graph, .name]) (by decide +kernel) rfl (andT ng (andT na rfl)) (unl_not (by decide +kernel))
  · exact deed_mk (ks := [.graph, .name]) (by decide +kernel) rfl (andT ng (andT nb rfl)) (unl_not (by decide +kernel))
  · exact deed_mk (ks := [.graph, .name, .place, .name]) (by decide +kernel) rfl (andT ng (andT na (andT wk (andT nb rfl)))) (unl_not (by decide +kernel))
  · exact deed_mk (ks := [.graph, .name, .place, .name]) (by decide +kernel) rfl (andT ng (andT na (andT wk (andT nb rfl)))) (unl_not (by decide +kernel))
  · exact deed_mk (ks := [.graph, .name, .place, .graph]) (by decide +kernel) rfl (andT ng (andT na (andT wk (andT nh rfl)))) (unl_ne hgh rfl rfl)
  · exact deed_mk (ks := [.graph, .name, .place, .graph]) (by decide +kernel) rfl (andT ng (andT nb (andT wk (andT nh rfl)))) (unl_ne hgh rfl rfl)
  · exact deed_mk (ks := [.name, .graph, .name, .place]) (by decide +kernel) rfl (andT na (andT ng (andT nb (andT wk rfl)))) (unl_not (by decide +kernel))
  · exact deed_mk (ks := [.name, .graph, .name, .place]) (by decide +kernel) rfl (andT na (andT ng (andT nb (andT wk rfl)))) (unl_not (by decide +kernel))
  · exact deed_mk (ks := [.graph, .graph, .name, .place]) (by decide +kernel) rfl (andT ng (andT nh (andT na (andT wk rfl)))) (unl_not (by decide +kernel))
  · exact deed_mk (ks := [.graph, .graph, .name, .place]) (by decide +kernel) rfl (andT ng (andT ng (andT na (andT wk rfl)))) (unl_not (by decide +kernel))
  · exact deed_mk (ks := [.name]) (by decide +kernel) rfl (andT na rfl) (unl_not (by decide +kernel))
  · exact deed_mk (ks := [.graph]) (by decide +kernel) rfl (andT ng rfl) (unl_not (by decide +kernel))
  · exact deed_mk (ks := [.graph]) (by decide +kernel) rfl (andT nh rfl) (unl_not (by decide +kernel))
theorem deed_tup {ss ts : List Int} {d : PyData} (h : deedD ss ts d = true) : tupOnly d = true := by
  unfold deedD at h
  split at h
  · rename_i z ds
    unfold deedB at h
    split at h
    · cases h
    · rename_i ks hk
      have hl := of_decide_eq_true (and3 h).1
      have hf := (and3 (and3 h).2).1
      show tupOnlyAll (.str z :: ds) = true
      show (true && tupOnlyAll ds) = true
      rw [Bool.true_and]
      clear h hk
      induction ks generalizing ds with
      | nil =>
        cases ds with
        | nil => rfl
        | cons d ds => cases hl
      | cons k ks ih =>
        cases ds with
        | nil => rfl
        | cons d ds =>
          have hf := and3 (show (fitD ss ts k d && fitsAll ss ts ks ds) = true from hf)
          have hd : tupOnly d = true := by
            cases k with
            | name => obtain ⟨x, rfl, _⟩ := num_str hf.1; rfl
            | graph => obtain ⟨x, rfl⟩ := graph_str hf.1; rfl
            | number => obtain ⟨x, rfl, _⟩ := within_int hf.1; rfl
            | place => obtain ⟨x, rfl, _⟩ := within_int hf.1; rfl
            | sign =>
              obtain ⟨y, _, hy⟩ := List.any_eq_true.mp (show signs.any (fun z => isStrD z d) = true from hf.1)
              cases d <;> first | rfl | cases hy
            | into => have := hf.1; cases d <;> first | rfl | cases this
            | out => have := hf.1; cases d <;> first | rfl | cases this
          show (tupOnly d && tupOnlyAll ds) = true
          rw [hd, ih ds (by simpa using hl) hf.2]
          rfl
  · cases h
section
variable {K : PySem.W.Frag}
theorem mkl_go {L : List (Nat × PyData)} {ta : TA} {ds : List PyData} {σ : L2.St} {H : Hp} {Q : VK} (h : MkA K L ta ds) (hl : ds.length ≤ 1000) (env : EnvD K L σ H) (q : ∀ vs H' p, Same H H' → DpAll K H' vs ds → H' p = none → Q (.ref p) (upd H' p (.lst vs))) : tLst ta σ H Q :=
  h σ H _ env fun vs H1 s1 d1 => ⟨small (by rw [dpAll_len d1]; exact hl), fun p hp => q vs H1 p s1 d1 hp⟩
theorem setl_go {L : List (Nat × PyData)} {ta : TA} {ds : List PyData} {i : Nat} {u : TS} {D : Ends} {σ : L2.St} {H : Hp} (h : MkA K L ta ds) (hl : ds.length ≤ 1000) (env : EnvD K L σ H) (q : ∀ vs H' p, Same H H' → DpAll K H' vs ds → H' p = none → u D (σ.set i (some (.ref p))) (upd H' p (.lst vs))) : tSeq (tAsg (tLst ta) (gName i)) u D σ H :=
  h σ H _ env fun vs H1 s1 d1 => ⟨small (by rw [dpAll_len d1]; exact hl), fun p hp => q vs H1 p s1 d1 hp⟩
theorem setc_go {L : List (Nat × PyData)} {ta : TA} {ds es : List PyData} {i : Nat} {u : TS} {D : Ends} {σ : L2.St} {H : Hp} {p : Addr} {vs : List V} (h : MkA K L ta ds) (hl : es.length + ds.length ≤ 1000) (env : EnvD K L σ H) (hi : σ[i]? = some (some (.ref p))) (hp : H p = some (.lst vs)) (hd : DpAll K H vs es)
    (q : ∀ ws H' p, Same H H' → H p = none → H' p = some (.lst ws) → DpAll K H' ws (es ++ ds) → u D (σ.set i (some (.ref p))) H') : tSeq (tAsg (tOp rCat (tVar i) (tLst ta)) (gName i)) u D σ H :=
  ⟨_, hi, h σ H _ env fun ws H1 s1 d1 => ⟨small (by rw [dpAll_len d1]; omega), fun p2 hp2 => ⟨p, p2, vs, ws, rfl, rfl, (s1.trans (same_new hp2 _)) _ _ hp, upd_same, small (by rw [dpAll_len hd, dpAll_len d1]; exact hl), fun p3 hp3 => by
    have g := same_new hp2 (.lst ws)
    have g3 := same_new hp3 (.lst (vs ++ ws))
    exact q _ _ p3 (s1.trans (g.trans g3)) (none_of_same (s1.trans g) hp3) upd_same (dps_same (g.trans g3) (dpAll_append d1 (dps_same s1 hd)))⟩⟩⟩
end
section
open PySem.Spec PyProof.Rows LamX
variable {P : Program} {w : World} {K : PySem.W.Frag} {mg : Str → Option Value} {base : Heap} {f : Addr} {fd : FuncData}
def spSimple (K : PySem.W.Frag) : Sp := fun vs H Q _ => ∃ (st sa ta : Addr) (ss ts : List Int), vs = [.ref st, .ref sa, .ref ta] ∧ StAt H st ∧ sa ≠ st ∧ ta ≠ st ∧ H sa = some (.lst (ss.map V.int)) ∧ H ta = some (.lst (ts.map V.int)) ∧ ss.length ≤ 100 ∧ ts.length ≤ 100 ∧ ∀ v d H', Mv st H H' → Dp K H' v d → deedD ss ts d = true → Q v H'
abbrev NSim : List Str := ["_law_state_here", "_law_sends", "_law_takes", "_law_names", "_law_graphs", "_law_a", "_law_b", "_law_c", "_law_turn", "_law_at", "_law_k", "_law_g", "_law_h", "_law_kind", "_law_rows_here"]
theorem scSim : FnScope NSim ["_law_state_here", "_law_sends", "_law_takes"] (defScope sSimple) := ⟨rfl, rfl, rfl, by decide +kernel, rfl, by decide +kernel, by decide +kernel⟩
abbrev envL (a b g h : Str) (k : Int) : List (Nat × PyData) := [(5, .str a), (6, .str b), (10, .int k), (11, .str g), (12, .str h)]
def tRows (K : PySem.W.Frag) (ss ts : List Int) : TS := fun D σ H => ∃ (st : Addr) (v1 v2 v3 v4 v7 v8 v9 v14 : Option V) (a b g h : Str) (k kd : Int), σ = [some (.ref st), v1, v2, v3, v4, some (.str a), some (.str b), v7, v8, v9, some (.int k), some (.str g), some (.str h), some (.int kd), v14] ∧ StAt H st ∧
  numNameD (.str a) = true ∧ numNameD (.str b) = true ∧ graphNameD (.str g) = true ∧ graphNameD (.str h) = true ∧ withinD 0 2 (.int k) = true ∧ g ≠ h ∧ ∀ v d H', Mv st H H' → Dp K H' v d → deedD ss ts d = true → D.rt v H'
set_option maxHeartbeats 2000000 in
theorem ok_simple {k : Nat} (F : Fun K "_law_simple" "_law_simple" sSimple f fd) (T : Free mg) (cC : Cal P w K mg base "_law_choice" k ["_law_state_here", "_law_many_here"] spChoice) : FnOk P w K mg base CX0 (k + 1) f fd ["_law_state_here", "_law_sends", "_law_takes"] (spSimple K) := by
  refine F.ok scSim (fun vs H Q E h => ?_) (fun cdv A outer s H vs Q E hr h => ?_)
  · obtain ⟨st, sa, ta, ss, ts, rfl, _⟩ := h
    rfl
  obtain ⟨st, sa, ta, ss, ts, rfl, hst, nsa, nta, hsa, hta, ls, lt, q⟩ := h
  refine ⟨_, pss_cons (ps_asg (pe_tup (pa_cons (pe_lst (pa_cons pe_str (pa_cons pe_str (pa_cons pe_str (pa_cons pe_str pa_nil))))) (pa_cons (pe_lst (pa_cons pe_str (pa_cons pe_str (pa_cons pe_str pa_nil)))) pa_nil))) (pg_tup rfl (pgs_cons (pg_name (i := 3) scSim.nd rfl (.inr rfl)) (pgs_cons (pg_name (i := 4) scSim.nd rfl (.inl rfl)) pgs_nil))))
    (pss_cons (ps_asg (pe_lc (own := [("_law_turn", 8)]) (g := gName 8) (tt := tYes) (te := tOp (rIxL K) (tVar 3) (tCall spChoice [] E0 (tCons (tVar 0) (tCons (tC (.int 4)) tNil)))) rfl scSim.nd (pi_range1 rfl T.range (pa_cons pe_int pa_nil))
        (blkOk_by (own := [("_law_turn", 8)]) (N := NSim) (sc := defScope sSimple) (by decide +kernel))
        (fun _ _ _ _ _ => pg_name (i := 8) scSim.nd rfl (Or.inl rfl)) (fun _ _ _ _ _ => pts_nil) (fun _ _ _ _ _ => pe_ix ix_list (pv 3) (pe_cal cC hr rfl (pa_cons (pv 0) (pa_cons pe_int pa_nil))) (fun _ _ => rfl))) (pg_unl rfl (pgs_cons (pg_name (i := 5) scSim.nd rfl (.inl rfl)) (pgs_cons (pg_name (i := 6) scSim.nd rfl (.inl rfl)) (pgs_cons (pg_name (i := 7) scSim.nd rfl (.inl rfl)) pgs_nil)))))
    (pss_cons (ps_par (i := 9) (j := 10) rfl scSim.nd rfl rfl (by decide) rfl rfl (pa_cons (pe_cal cC hr rfl (pa_cons (pv 0) (pa_cons pe_int pa_nil))) (pa_cons (pe_cal cC hr rfl (pa_cons (pv 0) (pa_cons pe_int pa_nil))) pa_nil)) rfl)
    (pss_cons (ps_par (i := 11) (j := 12) rfl scSim.nd rfl rfl (by decide) rfl rfl (pa_cons (pe_ix ix_list (pv 4) (pv 9) (fun _ _ => rfl)) (pa_cons (pe_ix ix_list (pv 4) (pe_op op_mod (pe_op op_add (pe_op op_add (pv 9) pe_int) (pe_cal cC hr rfl (pa_cons (pv 0) (pa_cons pe_int pa_nil)))) pe_int) (fun _ _ => rfl)) pa_nil)) rfl)
    (pss_cons (ps_set (i := 13) scSim.nd rfl (.inl rfl) (pe_cal cC hr rfl (pa_cons (pv 0) (pa_cons pe_int pa_nil))))
    (pss_cons (ps_if (pt_cmpR op_lt (pv 13) pe_int (nomark _)) (pss_one (ps_ret (pe_tup (pa_cons pe_str (pa_cons (pv 5) (pa_cons (pe_ix ix_list (pe_lst (pa_cons pe_int (pa_cons pe_int (pa_cons pe_int (pa_cons (pe_un un_neg pe_int) (pa_cons pe_int (pa_cons pe_int (pa_cons (pe_op op_sub (pe_cal cC hr rfl (pa_cons (pv 0) (pa_cons pe_int pa_nil))) pe_int) pa_nil)))))))) (pe_cal cC hr rfl (pa_cons (pv 0) (pa_cons pe_int pa_nil))) (fun _ _ => rfl)) pa_nil)))))) pss_nil)
    (pss_cons (ps_if (pt_cmpR op_eq (pv 13) pe_int (nomark _)) (pss_one (ps_ret (pe_tup (pa_cons pe_str (pa_cons (pv 5) (pa_cons (pv 6) (pa_cons (pe_ix ix_str pe_str (pe_cal cC hr rfl (pa_cons (pv 0) (pa_cons pe_int pa_nil))) (fun _ _ => rfl)) (pa_cons (pv 7) pa_nil)))))))) pss_nil)
    (pss_cons (ps_if (PW.pt (pw_and (pt_cmpR op_eq (pv 13) pe_int (nomark _)) (pw_and1 (pt_cmpR (op_neLE hr.units) (pv 1) (pe_lst pa_nil) (nomark _))))) (pss_one (ps_ret (pe_tup (pa_cons pe_str (pa_cons (pe_ix ix_list (pv 1) (pe_cal cC hr rfl (pa_cons (pv 0) (pa_cons (pe_callB call_len_seq rfl T.len PySem.boot_len (pa_cons (pv 1) pa_nil)) pa_nil))) (fun _ _ => rfl)) (pa_cons (pv 11) pa_nil)))))) pss_nil)
    (pss_cons (ps_if (PW.pt (pw_and (pt_cmpR op_eq (pv 13) pe_int (nomark _)) (pw_and1 (pt_cmpR (op_neLE hr.units) (pv 2) (pe_lst pa_nil) (nomark _))))) (pss_one (ps_ret (pe_tup (pa_cons pe_str (pa_cons (pv 11) (pa_cons (pe_ix ix_list (pv 2) (pe_cal cC hr rfl (pa_cons (pv 0) (pa_cons (pe_callB call_len_seq rfl T.len PySem.boot_len (pa_cons (pv 2) pa_nil)) pa_nil))) (fun _ _ => rfl)) pa_nil)))))) pss_nil)
    (pss_imp (t' := tRows K ss ts) (pss_cons (ps_set (i := 14) scSim.nd rfl (.inl rfl) (pe_lst (pa_cons (pe_tup (pa_cons pe_str (pa_cons (pv 11) pa_nil))) (pa_cons (pe_tup (pa_cons pe_str (pa_cons (pv 11) (pa_cons (pv 12) pa_nil)))) (pa_cons (pe_tup (pa_cons pe_str (pa_cons (pv 11) (pa_cons (pv 5) pa_nil)))) (pa_cons (pe_tup (pa_cons pe_str (pa_cons (pv 11) (pa_cons (pv 6) pa_nil)))) (pa_cons (pe_tup (pa_cons pe_str (pa_cons (pv 11) (pa_cons (pv 5) (pa_cons (pv 10) (pa_cons (pv 6) pa_nil)))))) (pa_cons (pe_tup (pa_cons pe_str (pa_cons (pv 11) (pa_cons (pv 5) (pa_cons (pv 10) (pa_cons (pv 6) pa_nil)))))) pa_nil))))))))
    (pss_cons (ps_set (i := 14) scSim.nd rfl (.inl rfl) (pe_op op_cat (pv 14) (pe_lst (pa_cons (pe_tup (pa_cons pe_str (pa_cons (pv 11) (pa_cons (pv 5) (pa_cons (pv 10) (pa_cons (pv 12) pa_nil)))))) (pa_cons (pe_tup (pa_cons pe_str (pa_cons (pv 11) (pa_cons (pv 6) (pa_cons (pv 10) (pa_cons (pv 12) pa_nil)))))) (pa_cons (pe_tup (pa_cons pe_str (pa_cons (pv 5) (pa_cons (pv 11) (pa_cons (pv 6) (pa_cons (pv 10) pa_nil)))))) (pa_cons (pe_tup (pa_cons pe_str (pa_cons (pv 5) (pa_cons (pv 11) (pa_cons (pv 6) (pa_cons (pv 10) pa_nil)))))) pa_nil)))))))
    (pss_cons (ps_set (i := 14) scSim.nd rfl (.inl rfl) (pe_op op_cat (pv 14) (pe_lst (pa_cons (pe_tup (pa_cons pe_str (pa_cons (pv 11) (pa_cons (pv 12) (pa_cons (pv 5) (pa_cons (pv 10) pa_nil)))))) (pa_cons (pe_tup (pa_cons pe_str (pa_cons (pv 11) (pa_cons (pv 11) (pa_cons (pv 5) (pa_cons (pv 10) pa_nil)))))) (pa_cons (pe_tup (pa_cons pe_str (pa_cons (pv 5) pa_nil))) (pa_cons (pe_tup (pa_cons pe_str (pa_cons (pv 11) pa_nil))) (pa_cons (pe_tup (pa_cons pe_str (pa_cons (pv 12) pa_nil))) pa_nil))))))))
    (pss_one (ps_ret (pe_ix ix_list (pv 14) (pe_op op_mod (pe_op op_sub (pv 13) pe_int) pe_int) (fun _ _ => rfl))))))) ?rows))))))))), ?_⟩
  case rows => 
    intro D σ G h
    obtain ⟨st, v1, v2, v3, v4, v7, v8, v9, v14, a, b, g, h, k, kd, rfl, sG, na, nb, ng, nh, wk, hgh, q⟩ := h
    have env : ∀ G' v, EnvD K (envL a b g h k) [some (.ref st), v1, v2, v3, v4, some (.str a), some (.str b), v7, v8, v9, some (.int k), some (.str g), some (.str h), some (.int kd), v] G' := fun G' v p hp => by
      simp only [envL, List.mem_cons, List.not_mem_nil, or_false] at hp
      rcases hp with rfl | rfl | rfl | rfl | rfl
      · exact ⟨_, rfl, .str _⟩
      · exact ⟨_, rfl, .str _⟩
      · exact ⟨_, rfl, .int _⟩
      · exact ⟨_, rfl, .str _⟩
      · exact ⟨_, rfl, .str _⟩
    refine setl_go (K := K) (L := [(5, .str a), (6, .str b), (10, .int k), (11, .str g), (12, .str h)]) (ds := rowsA a b g h k) (mka_cons (mk_tup (mka_cons mk_str (mka_cons (mk_var (by simp)) mka_nil)) (by simp)) (mka_cons (mk_tup (mka_cons mk_str (mka_cons (mk_var (by simp)) (mka_cons (mk_var (by simp)) mka_nil))) (by simp)) (mka_cons (mk_tup (mka_cons mk_str (mka_cons (mk_var (by simp)) (mka_cons (mk_var (by simp)) mka_nil))) (by simp)) (mka_cons (mk_tup (mka_cons mk_str (mka_cons (mk_var (by simp)) (mka_cons (mk_var (by simp)) mka_nil))) (by simp)) (mka_cons (mk_tup (mka_cons mk_str (mka_cons (mk_var (by simp)) (mka_cons (mk_var (by simp)) (mka_cons (mk_var (by simp)) (mka_cons (mk_var (by simp)) mka_nil))))) (by simp)) (mka_cons (mk_tup (mka_cons mk_str (mka_cons (mk_var (by simp)) (mka_cons (mk_var (by simp)) (mka_cons (mk_var (by simp)) (mka_cons (mk_var (by simp)) mka_nil))))) (by simp)) mka_nil)))))) (by show 6 ≤ 1000; decide) (env G v14) fun vs1 G1 p1 s1 d1 hp1 => ?_
    have s1' := s1.trans (same_new hp1 (.lst vs1))
    refine setc_go (K := K) (L := [(5, .str a), (6, .str b), (10, .int k), (11, .str g), (12, .str h)]) (ds := rowsB a b g h k) (es := rowsA a b g h k) (mka_cons (mk_tup (mka_cons mk_str (mka_cons (mk_var (by simp)) (mka_cons (mk_var (by simp)) (mka_cons (mk_var (by simp)) (mka_cons (mk_var (by simp)) mka_nil))))) (by simp)) (mka_cons (mk_tup (mka_cons mk_str (mka_cons (mk_var (by simp)) (mka_cons (mk_var (by simp)) (mka_cons (mk_var (by simp)) (mka_cons (mk_var (by simp)) mka_nil))))) (by simp)) (mka_cons (mk_tup (mka_cons mk_str (mka_cons (mk_var (by simp)) (mka_cons (mk_var (by simp)) (mka_cons (mk_var (by simp)) (mka_cons (mk_var (by simp)) mka_nil))))) (by simp)) (mka_cons (mk_tup (mka_cons mk_str (mka_cons (mk_var (by simp)) (mka_cons (mk_var (by simp)) (mka_cons (mk_var (by simp)) (mka_cons (mk_var (by simp)) mka_nil))))) (by simp)) mka_nil)))) (by show 6 + 4 ≤ 1000; decide) (env _ (some (.ref p1))) rfl upd_same (dps_same (same_new hp1 _) d1) fun vs2 G2 p2 s2 n2 hp2 d2 => ?_
    refine setc_go (K := K) (L := [(5, .str a), (6, .str b), (10, .int k), (11, .str g), (12, .str h)]) (ds := rowsC a b g h k) (es := rowsA a b g h k ++ rowsB a b g h k) (mka_cons (mk_tup (mka_cons mk_str (mka_cons (mk_var (by simp)) (mka_cons (mk_var (by simp)) (mka_cons (mk_var (by simp)) (mka_cons (mk_var (by simp)) mka_nil))))) (by simp)) (mka_cons (mk_tup (mka_cons mk_str (mka_cons (mk_var (by simp)) (mka_cons (mk_var (by simp)) (mka_cons (mk_var (by simp)) (mka_cons (mk_var (by simp)) mka_nil))))) (by simp)) (mka_cons (mk_tup (mka_cons mk_str (mka_cons (mk_var (by simp)) mka_nil)) (by simp)) (mka_cons (mk_tup (mka_cons mk_str (mka_cons (mk_var (by simp)) mka_nil)) (by simp)) (mka_cons (mk_tup (mka_cons mk_str (mka_cons (mk_var (by simp)) mka_nil)) (by simp)) mka_nil))))) (by show 10 + 5 ≤ 1000; decide) (env _ (some (.ref p2))) rfl hp2 d2 fun vs3 G3 p5 s3 n3 hp5 d5 => ?_
    have s5' := s1'.trans (s2.trans s3)
    have ok := rows_ok (ss := ss) (ts := ts) na nb ng nh wk hgh
    obtain ⟨v, d, hv, hd, hm⟩ := pick_dp (r := (kd - 4) % 15) d5 (by omega) (by show _ < ((15 : Nat) : Int); omega)
    exact ⟨_, rfl, _, rfl, _, _, rfl, rfl, _, _, rfl, rfl, (by show (0 : Int) < 15; decide), p5, _, _, v, rfl, rfl, .of hp5, hv, q v d _ ⟨Kp.of_same s5', sG.same s5'⟩ hd (ok d hm)⟩
  have fin : ∀ {G : Hp} {vs : List V} {ds : List PyData}, Mv st H G → DpAll K G vs ds → deedD ss ts (.tuple ds) = true → ∀ p, G p = none → Q (.ref p) (upd G p (.tup vs)) := fun mv dp dd p hp =>
    q _ (.tuple _) _ ⟨mv.kp.trans (Kp.of_same (same_new hp _)), mv.sa.same (same_new hp _)⟩ (.tup (.of upd_same) (dps_same (same_new hp _) dp)) dd
  have len4 : ∀ n : Nat, n ≤ 1000 → n ≤ sizeLine := fun n h => small h
  refine ⟨small (by show 4 ≤ 1000; decide), fun pn hpn => ⟨small (by show 3 ≤ 1000; decide), fun pg hpg => ⟨small (by show 2 ≤ 1000; decide), fun pt hpt => ?_⟩⟩⟩
  have s1 := same_new hpn (.lst (nameL.map V.str))
  have s2 := same_new hpg (.lst (graphL.map V.str))
  have s3 := same_new hpt (.tup [.ref pn, .ref pg])
  generalize hH3 : upd (upd (upd H pn (.lst (nameL.map V.str))) pg (.lst (graphL.map V.str))) pt (.tup [.ref pn, .ref pg]) = H3
  have s03 : Same H H3 := by rw [← hH3]; exact s1.trans (s2.trans s3)
  have hn3 : H3 pn = some (.lst (nameL.map V.str)) := by rw [← hH3]; exact s3 _ _ (s2 _ _ upd_same)
  have hg3 : H3 pg = some (.lst (graphL.map V.str)) := by rw [← hH3]; exact s3 _ _ upd_same
  have hp3 : H3 pt = some (.tup [.ref pn, .ref pg]) := by rw [← hH3]; exact upd_same
  have npn : pn ≠ st := hst.ne hpn
  have npg : pg ≠ st := (hst.same s1).ne hpg
  have st3 := hst.same s03
  have m03 : Mv st H H3 := ⟨Kp.of_same s03, st3⟩
  rw [show upd (upd (upd H pn (.lst [V.str "a", V.str "b", V.str "c", V.str "count"])) pg (.lst [V.str "G", V.str "H", V.str "Kit"])) pt (.tup [.ref pn, .ref pg]) = H3 from hH3]
  refine ⟨pt, _, rfl, .of hp3, rfl, _, _, rfl, _, _, rfl, rfl, ?_⟩
  refine ⟨3, rfl, by decide, by decide, fun D hD => ?_⟩
  have nD : D ≠ st := st3.ne hD
  refine lc_range (fun i G => Mv st H3 G ∧ ∃ zs : List Str, zs.length = i ∧ (∀ z ∈ zs, z ∈ nameL) ∧ G D = some (.lst (zs.map V.str))) ⟨⟨Kp.of_same (same_new hD _), st3.same (same_new hD _)⟩, [], rfl, fun z hz => (by cases hz), upd_same⟩ (fun i G hi h => ?_) (fun G h => ?_)
  · obtain ⟨mG, zs, lz, hz, gD⟩ := h
    have hi : i < 3 := hi
    refine ⟨rfl, yesG ⟨_, rfl, _, rfl, st, 4, rfl, mG.sa, by decide, by decide, fun r G1 r0 r1 m1 => ?_⟩⟩
    have hn1 := m1.kp _ _ npn (mG.kp _ _ npn hn3)
    have gD1 := m1.kp _ _ nD gD
    obtain ⟨z, hzr⟩ : ∃ z, nameL[r.toNat]? = some z := ⟨nameL[r.toNat]'(by show r.toNat < 4; omega), by simp⟩
    refine ⟨pn, nameL.map V.str, r, .str z, rfl, rfl, .of hn1, atI_at r0 (by rw [List.getElem?_map, hzr]; rfl), zs.map V.str, gD1, ?_, ⟨⟨fun b u hb hu => ?_, (mG.trans m1).sa.upd nD⟩, zs ++ [z], by rw [List.length_append, lz]; rfl, fun y hy => ?_, by rw [upd_same, List.map_append]; rfl⟩⟩
    · rw [List.length_map, lz]
      exact Nat.lt_of_lt_of_le (show _ < 1000 by omega) (show 1000 ≤ sizeLine by decide)
    · by_cases e : b = D
      · rw [e, hD] at hu
        cases hu
      · rw [upd_ne e]
        exact (mG.trans m1).kp b u hb hu
    · rcases List.mem_append.mp hy with hy | hy
      · exact hz y hy
      · rw [List.mem_singleton.mp hy]
        exact List.mem_of_getElem? hzr
  · obtain ⟨mG, zs, lz, hz, gD⟩ := h
    have lz : zs.length = 3 := lz
    match zs, lz, hz, gD with
    | [a, b, c], _, hz, gD =>
      have na : numNameD (.str a) = true := List.all_eq_true.mp nameL_ok a (hz a (by simp))
      have nb : numNameD (.str b) = true := List.all_eq_true.mp nameL_ok b (hz b (by simp))
      have nc : numNameD (.str c) = true := List.all_eq_true.mp nameL_ok c (hz c (by simp))
      refine ⟨D, _, rfl, .of gD, rfl, _, _, rfl, _, _, rfl, _, _, rfl, rfl, ?_⟩
      have m0G := m03.trans mG
      refine ⟨_, rfl, st, 3, rfl, m0G.sa, by decide, by decide, fun at1 G1 a0 a1 m1 => ?_⟩
      refine ⟨_, rfl, st, 3, rfl, m1.sa, by decide, by decide, fun k G2 k0 k1 m2 => ⟨_, _, rfl, ?_⟩⟩
      have m02 := m0G.trans (m1.trans m2)
      have hg2 := m2.kp _ _ npg (m1.kp _ _ npg (mG.kp _ _ npg hg3))
      obtain ⟨g, hgr⟩ : ∃ z, graphL[at1.toNat]? = some z := ⟨graphL[at1.toNat]'(by show at1.toNat < 3; omega), by simp⟩
      refine ⟨_, rfl, _, rfl, pg, graphL.map V.str, at1, .str g, rfl, rfl, .of hg2, atI_at a0 (by rw [List.getElem?_map, hgr]; rfl), _, rfl, _, rfl, _, _, rfl, rfl, _, rfl, st, 2, rfl, m2.sa, by decide, by decide, fun r3 G3 r30 r31 m3 => ?_⟩
      have m03' := m02.trans m3
      have hg3' := m3.kp _ _ npg hg2
      obtain ⟨h, hhr⟩ : ∃ z, graphL[((at1 + 1 + r3) % 3).toNat]? = some z := ⟨graphL[((at1 + 1 + r3) % 3).toNat]'(by show _ < 3; omega), by simp⟩
      refine ⟨_, _, rfl, rfl, _, _, rfl, rfl, (by show (0 : Int) < 3; decide), pg, graphL.map V.str, (at1 + 1 + r3) % 3, .str h, rfl, rfl, .of hg3', atI_at (by omega) (by rw [List.getElem?_map, hhr]; rfl), _, _, rfl, ?_⟩
      have ng : graphNameD (.str g) = true := List.all_eq_true.mp graphL_ok g (List.mem_of_getElem? hgr)
      have nh : graphNameD (.str h) = true := List.all_eq_true.mp graphL_ok h (List.mem_of_getElem? hhr)
      have wk : withinD 0 2 (.int k) = true := by
        show (decide ((0 : Int) ≤ k) && decide (k ≤ 2)) = true
        rw [decide_eq_true k0, decide_eq_true (by omega)]
        rfl
      have hgh : g ≠ h := fun e => by
        have hne : at1.toNat ≠ ((at1 + 1 + r3) % 3).toNat := by omega
        have nd : ∀ i j : Fin 3, i ≠ j → graphL[i.val]? ≠ graphL[j.val]? := by decide +kernel
        exact nd ⟨at1.toNat, by omega⟩ ⟨((at1 + 1 + r3) % 3).toNat, by omega⟩ (fun z => hne (congrArg Fin.val z)) (hgr.trans (by rw [← e] at hhr; exact hhr.symm))
      refine ⟨_, rfl, st, 19, rfl, m03'.sa, by decide, by decide, fun kd G4 kd0 kd1 m4 => ?_⟩
      have m04 := m03'.trans m4
      refine ⟨_, rfl, _, _, rfl, rfl, _, rfl, ?_⟩
      by_cases c3 : kd < 3
      · refine ifT (decide_eq_true c3) ?_
        refine ⟨_, rfl, _, rfl, _, rfl, st, 19999, rfl, m04.sa, by decide, by decide, fun r5 G5 r50 r51 m5 => ⟨_, _, rfl, rfl, small (by show 7 ≤ 1000; decide), fun pl hpl => ?_⟩⟩
        have m05 := m04.trans m5
        have s6 := same_new hpl (.lst ([0, 1, 2, -1, 3, 9999, r5 - 9999].map V.int))
        have npl : pl ≠ st := m05.sa.ne hpl
        refine ⟨_, rfl, st, 7, rfl, m05.sa.same s6, by decide, by decide, fun r6 G6 r60 r61 m6 => ?_⟩
        have m06 : Mv st H G6 := m05.trans (Mv.trans ⟨Kp.of_same s6, m05.sa.same s6⟩ m6)
        have hl6 := m6.kp _ _ npl (show upd G5 pl (.lst ([0, 1, 2, -1, 3, 9999, r5 - 9999].map V.int)) pl = _ from upd_same)
        obtain ⟨i, hir⟩ : ∃ z, ([0, 1, 2, -1, 3, 9999, r5 - 9999] : List Int)[r6.toNat]? = some z := ⟨([0, 1, 2, -1, 3, 9999, r5 - 9999] : List Int)[r6.toNat]'(by show r6.toNat < 7; omega), by simp⟩
        have hib : -9999 ≤ i ∧ i ≤ 9999 := by
          have hm := List.mem_of_getElem? hir
          simp only [List.mem_cons, List.not_mem_nil, or_false] at hm
          omega
        refine ⟨pl, _, r6, .int i, rfl, rfl, .of hl6, atI_at r60 (by rw [List.getElem?_map, hir]; rfl), small (by show 3 ≤ 1000; decide), fin m06 (.cons (.str _) (.cons (.str a) (.cons (.int i) .nil))) (deed_mk (ks := [.name, .number]) (by decide +kernel) rfl (andT na (andT ?_ rfl)) (unl_not (by decide +kernel)))⟩
        show (decide ((-9999 : Int) ≤ i) && decide (i ≤ 9999)) = true
        rw [decide_eq_true hib.1, decide_eq_true hib.2]
        rfl
      · refine ifF (decide_eq_false c3) ⟨_, rfl, rfl, _, rfl, ?_⟩
        by_cases c4 : kd = 3
        · refine ifT (by rw [c4]; exact decide_eq_true rfl) ?_
          refine ⟨_, rfl, _, rfl, _, rfl, st, 5, rfl, m04.sa, by decide, by decide, fun r5 G5 r50 r51 m5 => ?_⟩
          have m05 := m04.trans m5
          obtain ⟨ch, hch⟩ : ∃ z, ("+-*<=" : Str).cps.toList[r5.toNat]? = some z := by
            have h5 : ("+-*<=" : Str).cps.toList.length = 5 := by decide +kernel
            exact ⟨("+-*<=" : Str).cps.toList[r5.toNat]'(by omega), by simp⟩
          have hsg : ∀ i : Fin 5, ∃ c, ("+-*<=" : Str).cps.toList[i.val]? = some c ∧ (signs.any fun z => isStrD z (.str ⟨#[c]⟩)) = true := by
            have q0 : ∀ i : Fin 5, (match ("+-*<=" : Str).cps.toList[i.val]? with | some c => signs.any fun z => isStrD z (.str ⟨#[c]⟩) | none => false) = true := by decide +kernel
            intro i
            have q1 := q0 i
            cases z : ("+-*<=" : Str).cps.toList[i.val]? with
            | none => rw [z] at q1; cases q1
            | some c => rw [z] at q1; exact ⟨c, rfl, q1⟩
          obtain ⟨c', hc', hs'⟩ := hsg ⟨r5.toNat, by omega⟩
          have hc' : ("+-*<=" : Str).cps.toList[r5.toNat]? = some c' := hc'
          rw [hch] at hc'
          cases hc'
          refine ⟨"+-*<=", r5, ch, rfl, rfl, by decide +kernel, atI_at r50 hch, _, rfl, small (by show 5 ≤ 1000; decide), fin m05 (.cons (.str _) (.cons (.str a) (.cons (.str b) (.cons (.str _) (.cons (.str c) .nil))))) (deed_mk (ks := [.name, .name, .sign, .name]) (by decide +kernel) rfl (andT na (andT nb (andT hs' (andT nc rfl)))) (unl_not (by decide +kernel)))⟩
        · refine ifF (decide_eq_false (fun z => c4 (by injection z))) ?_
          have sa4 := m04.kp _ _ nsa hsa
          have ta4 := m04.kp _ _ nta hta
          have out : ∀ G, Same G4 G → ∀ D', D'.rt = Q → tRows K ss ts D' [some (.ref st), some (.ref sa), some (.ref ta), some (.ref pn), some (.ref pg), some (.str a), some (.str b), some (.str c), none, some (.int at1), some (.int k), some (.str g), some (.str h), some (.int kd), none] G := fun G sG D' hD' =>
            ⟨st, _, _, _, _, _, _, _, _, a, b, g, h, k, kd, rfl, m04.sa.same sG, na, nb, ng, nh, wk, hgh, fun v d H' mv dp dd => by rw [hD']; exact q v d H' (m04.trans (Mv.trans ⟨Kp.of_same sG, m04.sa.same sG⟩ mv)) dp dd⟩
          refine ⟨_, rfl, rfl, _, rfl, ?_⟩
          by_cases c16 : kd = 16
          · refine ifT (by rw [c16]; exact decide_eq_true rfl) ⟨_, rfl, small (Nat.zero_le _), fun p hp => ⟨sa, p, ss.map V.int, rfl, rfl, .of (by rw [upd_ne (ne_of_none sa4 hp)]; exact sa4), .of upd_same, _, rfl, ?_⟩⟩
            have sp := same_new hp (.lst [])
            cases hss : (ss.map V.int).isEmpty with
            | false =>
              refine ifT rfl ?_
              have l0 : 0 < ss.length := by
                cases ss with
                | nil => cases hss
                | cons x y => simp
              refine ⟨_, rfl, _, rfl, _, rfl, sa, ss.map V.int, rfl, .inl (.of (sp _ _ sa4)), st, ss.length, by rw [List.length_map]; rfl, m04.sa.same sp, by omega, by omega, fun r5 G5 r50 r51 m5 => ?_⟩
              have m05 := m04.trans (Mv.trans ⟨Kp.of_same sp, m04.sa.same sp⟩ m5)
              have sa5 := m5.kp _ _ nsa (sp _ _ sa4)
              obtain ⟨i, hir⟩ : ∃ z, ss[r5.toNat]? = some z := ⟨ss[r5.toNat]'(by omega), by simp⟩
              exact ⟨sa, _, r5, .int i, rfl, rfl, .of sa5, atI_at r50 (by rw [List.getElem?_map, hir]; rfl), _, rfl, small (by show 3 ≤ 1000; decide), fin m05 (.cons (.str _) (.cons (.int i) (.cons (.str g) .nil))) (deed_mk (ks := [.into, .graph]) (by decide +kernel) rfl (andT (decide_eq_true (List.mem_of_getElem? hir)) (andT ng rfl)) (unl_not (by decide +kernel)))⟩
            | true =>
              refine ifF rfl ?_
              refine ⟨_, rfl, rfl, _, rfl, ifF (by rw [c16]; decide +kernel) (ifF rfl (out _ sp _ rfl))⟩
          · refine ifF (decide_eq_false (fun z => c16 (by injection z))) (ifF rfl ?_)
            refine ⟨_, rfl, rfl, _, rfl, ?_⟩
            by_cases c17 : kd = 17
            · refine ifT (by rw [c17]; exact decide_eq_true rfl) ⟨_, rfl, small (Nat.zero_le _), fun p hp => ⟨ta, p, ts.map V.int, rfl, rfl, .of (by rw [upd_ne (ne_of_none ta4 hp)]; exact ta4), .of upd_same, _, rfl, ?_⟩⟩
              have sp := same_new hp (.lst [])
              cases hss : (ts.map V.int).isEmpty with
              | false =>
                refine ifT rfl ?_
                have l0 : 0 < ts.length := by
                  cases ts with
                  | nil => cases hss
                  | cons x y => simp
                refine ⟨_, rfl, _, rfl, _, rfl, _, rfl, ta, ts.map V.int, rfl, .inl (.of (sp _ _ ta4)), st, ts.length, by rw [List.length_map]; rfl, m04.sa.same sp, by omega, by omega, fun r5 G5 r50 r51 m5 => ?_⟩
                have m05 := m04.trans (Mv.trans ⟨Kp.of_same sp, m04.sa.same sp⟩ m5)
                have ta5 := m5.kp _ _ nta (sp _ _ ta4)
                obtain ⟨i, hir⟩ : ∃ z, ts[r5.toNat]? = some z := ⟨ts[r5.toNat]'(by omega), by simp⟩
                exact ⟨ta, _, r5, .int i, rfl, rfl, .of ta5, atI_at r50 (by rw [List.getElem?_map, hir]; rfl), small (by show 3 ≤ 1000; decide), fin m05 (.cons (.str _) (.cons (.str g) (.cons (.int i) .nil))) (deed_mk (ks := [.graph, .out]) (by decide +kernel) rfl (andT ng (andT (decide_eq_true (List.mem_of_getElem? hir)) rfl)) (unl_not (by decide +kernel)))⟩
              | true => exact ifF rfl (out _ sp _ rfl)
            · exact ifF (decide_eq_false (fun z => c17 (by injection z))) (ifF rfl (out _ (Same.refl _) _ rfl))
end
theorem row_split {K : PySem.W.Frag} {H : Hp} {v : V} {d : PyData} {ns : List Int} (h : Dp K H v (.tuple [d, .tuple (ns.map .int)])) : ∃ ra y1 y2, v = .ref ra ∧ SqT K H ra [y1, y2] ∧ Dp K H y1 d ∧ Dp K H y2 (.tuple (ns.map .int)) := by
  cases h with
  | @tup ra ys _ rat reach =>
    cases reach with
    | @cons y1 _ _ _ h1 h2 =>
      cases h2 with
      | @cons y2 _ _ _ h3 h4 =>
        cases h4
        exact ⟨ra, y1, y2, rfl, rat, h1, h3⟩
def rEqSh (K : PySem.W.Frag) : R2 := fun x y Hh Q => ∃ d e, Dp K Hh x d ∧ Dp K Hh y e ∧ SeqAt.shaped d = true ∧ SeqAt.shaped e = true ∧ Q (.bl (PyData.eqv d e)) Hh
theorem op_eqSh {X : Cx} (hu : X.A.units + 64 < cLine) : OpR X (compareOp .Eq) (rEqSh X.K) := by
  intro pins s σ Hh x y v u Q I rx ry h
  obtain ⟨d, e, hd, he, sd, se, q⟩ := h
  obtain ⟨as, r1, _⟩ := Dp.rd I d x v hd rx
  obtain ⟨bs, r2, _⟩ := Dp.rd I e y u he ry
  exact SeqAt.compareEq_shaped r1 r2 sd se hu ⟨.bl _, Hh, I, rfl, q⟩
theorem bulk_each {k : Nat} : ∀ {ds : List PyData}, (∀ d ∈ ds, d.bulk ≤ k) → PyData.bulkAll ds ≤ (k + 1) * ds.length
  | [], _ => by simp [PyData.bulkAll]
  | d :: ds, h => by
    have h1 := h d List.mem_cons_self
    have h2 := bulk_each (ds := ds) fun z hz => h z (List.mem_cons_of_mem _ hz)
    simp only [PyData.bulkAll, List.length_cons]
    rw [Nat.mul_add, Nat.mul_one]
    omega
theorem tup_all {ds : List PyData} (h : ∀ d ∈ ds, tupOnly d = true) : tupOnlyAll ds = true := by
  induction ds with
  | nil => rfl
  | cons d ds ih =>
    show (tupOnly d && tupOnlyAll ds) = true
    rw [h d List.mem_cons_self, ih fun z hz => h z (List.mem_cons_of_mem _ hz)]
    rfl
theorem lblk_tup {ss ts : List Int} : ∀ (n : Nat) {d : PyData}, lblk ss ts n d = true → tupOnly d = true
  | 0, d, h => by cases d <;> cases h
  | n + 1, d, h => by
    cases d with
    | tuple ds =>
      have h := and3 (show (decide (ds.length ≤ 12) && ds.all (lstB ss ts (lblk ss ts n))) = true from h)
      show tupOnlyAll ds = true
      refine tup_all fun d hd => ?_
      have hd := List.all_eq_true.mp h.2 d hd
      unfold lstB at hd
      cases hdd : deedD ss ts d with
      | true => exact deed_tup hdd
      | false =>
        rw [hdd, Bool.false_or] at hd
        have hd := and3 hd
        obtain ⟨z, d1, args, m, rfl, hz, hlen, hn⟩ := branch_shape hd.1
        obtain ⟨x, rfl, _⟩ := num_str hn
        show (true && (true && tupOnlyAll args)) = true
        rw [Bool.true_and, Bool.true_and]
        exact tup_all fun e he => lblk_tup n (List.all_eq_true.mp hd.2 e he)
    | _ => cases h
theorem lst_tup {ss ts : List Int} {n : Nat} {d : PyData} (h : lstB ss ts (lblk ss ts n) d = true) : tupOnly d = true := by
  have h1 : lblk ss ts (n + 1) (.tuple [d]) = true := by
    show (decide (1 ≤ 12) && (lstB ss ts (lblk ss ts n) d && true)) = true
    rw [h]
    rfl
  have h2 : (tupOnly d && true) = true := lblk_tup (n + 1) h1
  exact (and3 h2).1
theorem test_ne {z : Str} {es : List PyData} (h : z ≠ "test") : testD (.tuple (.str z :: es)) = false := by
  unfold testD
  split
  · rename_i z' e he
    injection he with he
    injection he with h1 h2
    injection h1 with h1
    subst h1
    rw [decide_eq_false h]
    rfl
  · rfl
theorem deed_ne {ss ts : List Int} {z : Str} {ds : List PyData} (h : deedD ss ts (.tuple (.str z :: ds)) = true) : z ≠ "test" := fun e => by
  subst e
  have h : deedB ss ts "test" ds = true := h
  unfold deedB at h
  rw [show deedK "test" = none by decide +kernel] at h
  cases h
theorem deed_form {ss ts : List Int} {d : PyData} (h : deedD ss ts d = true) : ∃ z ds, d = .tuple (.str z :: ds) := by
  unfold deedD at h
  split at h
  · exact ⟨_, _, rfl⟩
  · cases h
theorem hand_test {z : Str} (h : z ∈ handL) : z ≠ "test" := fun e => by
  rw [e] at h
  exact absurd h (by decide +kernel)
theorem flat_way {ss ts : List Int} {z y : Str} {ds : List PyData} (hz : z ∈ handL) (hy : y ∈ wayL) (h : deedD ss ts (.tuple (.str z :: ds)) = true) : flatD ss ts (.tuple (.str z :: (ds ++ [.str y]))) = true := by
  show (if z ∈ handL then _ else _) = true
  rw [if_pos hz]
  have e : (PyData.str z :: (ds ++ [.str y])) = (.str z :: ds) ++ [.str y] := rfl
  rw [e, List.dropLast_concat, h, Bool.and_true, List.getLastD_eq_getLast?, List.getLast?_concat]
  exact List.any_eq_true.mpr ⟨y, hy, decide_eq_true rfl⟩
theorem flat_bare {ss ts : List Int} {z : Str} {ds : List PyData} (hz : z ∉ handL) (h : deedD ss ts (.tuple (.str z :: ds)) = true) : flatD ss ts (.tuple (.str z :: ds)) = true := by
  show (if z ∈ handL then _ else _) = true
  rw [if_neg hz]
  exact h
theorem test_is {d : PyData} (h : testD d = true) : ∃ e, d = .tuple [.str "test", e] ∧ numNameD e = true := by
  unfold testD at h
  split at h
  · rename_i z e
    have h := and3 h
    have ez : z = "test" := of_decide_eq_true h.1
    exact ⟨e, by rw [ez], h.2⟩
  · cases h
theorem isStr_of {y : Str} {d : PyData} (h : isStrD y d = true) : d = .str y := by
  cases d with
  | str x =>
    have e : x = y := of_decide_eq_true h
    rw [e]
  | _ => cases h
theorem flat_split {ss ts : List Int} {d : PyData} (h : flatD ss ts d = true) : ∃ z ds y, d = .tuple (.str z :: ds ++ y) ∧ deedD ss ts (.tuple (.str z :: ds)) = true ∧ ((z ∉ handL ∧ y = []) ∨ (z ∈ handL ∧ ∃ x, x ∈ wayL ∧ y = [.str x])) := by
  unfold flatD at h
  split at h
  · rename_i z ds
    by_cases c : z ∈ handL
    · rw [if_pos c] at h
      have h := and3 h
      obtain ⟨ys, y, e1, e2, e3⟩ := last_snoc (PyData.str z) ds .none
      rw [e2] at h
      rw [e3] at h
      obtain ⟨x, hx, hd⟩ := List.any_eq_true.mp h.1
      cases ys with
      | nil => exact absurd (show false = true from h.2) (by decide)
      | cons y0 ys =>
        rw [List.cons_append] at e1
        injection e1 with e4 e5
        subst e4
        exact ⟨z, ys, [y], by rw [e5]; rfl, h.2, .inr ⟨c, x, hx, by rw [isStr_of hd]⟩⟩
    · rw [if_neg c] at h
      exact ⟨z, ds, [], by rw [List.append_nil], h, .inl ⟨c, rfl⟩⟩
  · cases h
theorem tupOnly_app : ∀ {ds es : List PyData}, tupOnlyAll ds = true → tupOnlyAll es = true → tupOnlyAll (ds ++ es) = true
  | [], es, _, h => h
  | x :: r, es, t, h => by
    simp only [tupOnlyAll, Bool.and_eq_true, List.cons_append] at *
    exact ⟨t.1, tupOnly_app t.2 h⟩
theorem ints_tupOnly : ∀ ns : List Int, tupOnlyAll (ns.map .int) = true
  | [] => rfl
  | n :: ns => by
    show (true && tupOnlyAll (ns.map .int)) = true
    rw [ints_tupOnly ns]
    rfl
theorem way_asc {x : Str} (h : x ∈ wayL) : (∀ z ∈ x.cps.toList, z < 128) ∧ x.cps.size ≤ 4 := by
  have q : wayL.all (fun x => x.cps.toList.all (fun c => decide (c < 128)) && decide (x.cps.size ≤ 4)) = true := by decide +kernel
  have q := and3 (List.all_eq_true.mp q x h)
  exact ⟨fun z hz => of_decide_eq_true (List.all_eq_true.mp q.1 z hz), of_decide_eq_true q.2⟩
theorem ints_bd {ns : List Int} {c : Nat} (h : ∀ n ∈ ns, n.natAbs < c) (hl : ns.length ≤ 40) : Bd c 40 (.tuple (ns.map .int)) ∧ PyData.bulkAll (ns.map .int) ≤ 2 * ns.length ∧ PyData.depthAll (ns.map .int) = 0 := by
  refine ⟨.tup (by rw [List.length_map]; exact hl) fun z hz => ?_, ?_, ?_⟩
  · obtain ⟨n, hn, rfl⟩ := List.mem_map.mp hz
    exact .int (h n hn)
  · clear h hl
    induction ns with
    | nil => simp [PyData.bulkAll]
    | cons n r ih =>
      simp only [List.map_cons, PyData.bulkAll, PyData.bulk, List.length_cons]
      omega
  · clear h hl
    induction ns with
    | nil => simp [PyData.depthAll]
    | cons n r ih =>
      simp only [List.map_cons, PyData.depthAll, PyData.depth, ih]
      rfl
def cpD : PyData → PyData
  | .tuple (.str z :: ds) => if z ∈ handL then .tuple (.str z :: (ds ++ [.str "copy"])) else .tuple (.str z :: ds)
  | d => d
def tstD (nm : PyData) : PyData := .tuple [.str "test", nm]
def ifR (fb : PyData → Int → Int → List (PyData × List Int)) (nm x y : PyData) (n b : Int) : List (PyData × List Int) :=
  (tstD nm, [if (fb x (n + 1) b).isEmpty then b else n + 1, if (fb y (n + 1 + ((fb x (n + 1) b).length : Nat)) b).isEmpty then b else n + 1 + ((fb x (n + 1) b).length : Nat)]) :: (fb x (n + 1) b ++ fb y (n + 1 + ((fb x (n + 1) b).length : Nat)) b)
def whR (fb : PyData → Int → Int → List (PyData × List Int)) (nm x : PyData) (n b : Int) : List (PyData × List Int) :=
  (tstD nm, [if (fb x (n + 1) n).isEmpty then n else n + 1, b]) :: fb x (n + 1) n
def flS (fb : PyData → Int → Int → List (PyData × List Int)) (d : PyData) (n b : Int) : List (PyData × List Int) := match d with
  | .tuple [.str z, nm, x, y] => if z = "if" then ifR fb nm x y n b else [(cpD d, [b])]
  | .tuple [.str z, nm, x] => if z = "while" then whR fb nm x n b else [(cpD d, [b])]
  | _ => [(cpD d, [b])]
/-- of the first j statements -/
def flP (fs : PyData → Int → Int → List (PyData × List Int)) (sz : PyData → Nat) (ds : List PyData) (n b : Int) (j : Nat) : List (PyData × List Int) :=
  (List.range j).flatMap fun i => fs (ds.getD i .none) (n + (sumM sz (ds.take i) : Nat)) (if i + 1 < ds.length then n + (sumM sz (ds.take (i + 1)) : Nat) else b)
def flN : Nat → PyData → Int → Int → List (PyData × List Int)
  | k + 1, .tuple ds, n, b => flP (flS (flN k)) (manyS (manyN k)) ds n b ds.length
  | _, _, _, _ => []
theorem flP_succ {fs : PyData → Int → Int → List (PyData × List Int)} {sz : PyData → Nat} {ds : List PyData} {n b : Int} {j : Nat} {d : PyData} (h : ds[j]? = some d) : flP fs sz ds n b (j + 1) = flP fs sz ds n b j ++ fs d (n + (sumM sz (ds.take j) : Nat)) (if j + 1 < ds.length then n + (sumM sz (ds.take (j + 1)) : Nat) else b) := by
  unfold flP
  rw [List.range_succ, List.flatMap_append]
  congr 1
  rw [List.flatMap_cons, List.flatMap_nil, List.append_nil, List.getD_eq_getElem?_getD, h]
  rfl
theorem br_cases {z : Str} {m : Nat} (h : brK z = some m) : (z = "if" ∧ m = 2) ∨ (z = "while" ∧ m = 1) := by
  unfold brK at h
  split at h
  · rename_i e
    cases h
    exact .inl ⟨e, rfl⟩
  · split at h
    · rename_i e
      cases h
      exact .inr ⟨e, rfl⟩
    · cases h
/-- what a statement is -/
theorem st_cases {ss ts : List Int} {bl : PyData → Bool} {d : PyData} (h : lstB ss ts bl d = true) :
    (deedD ss ts d = true ∧ branchD d = false ∧ ∃ z ds, d = .tuple (.str z :: ds) ∧ z ∉ brL) ∨
    (∃ nm x y, d = .tuple [.str "if", nm, x, y] ∧ numNameD nm = true ∧ bl x = true ∧ bl y = true ∧ branchD d = true) ∨
    (∃ nm x, d = .tuple [.str "while", nm, x] ∧ numNameD nm = true ∧ bl x = true ∧ branchD d = true) := by
  unfold lstB at h
  cases hd : deedD ss ts d with
  | true =>
    refine .inl ⟨rfl, deed_no_branch hd, ?_⟩
    obtain ⟨z, ds, rfl, hz⟩ := st_word (ss := ss) (ts := ts) (d := d) (by unfold stD; rw [hd]; rfl)
    rw [deed_no_branch hd] at hz
    exact ⟨z, ds, rfl, of_decide_eq_false hz⟩
  | false =>
    rw [hd, Bool.false_or] at h
    have h := and3 h
    obtain ⟨z, d1, ds, m, rfl, hz, hl, hn⟩ := branch_shape h.1
    have ha : ds.all bl = true := h.2
    rcases br_cases hz with ⟨rfl, rfl⟩ | ⟨rfl, rfl⟩
    · match ds, hl with
      | [x, y], _ =>
        rw [List.all_cons, List.all_cons, List.all_nil, Bool.and_true] at ha
        exact .inr (.inl ⟨d1, x, y, rfl, hn, (and3 ha).1, (and3 ha).2, h.1⟩)
    · match ds, hl with
      | [x], _ =>
        rw [List.all_cons, List.all_nil, Bool.and_true] at ha
        exact .inr (.inr ⟨d1, x, rfl, hn, ha, h.1⟩)
theorem flS_deed {fb : PyData → Int → Int → List (PyData × List Int)} {z : Str} {ds : List PyData} {n b : Int} (h : z ∉ brL) : flS fb (.tuple (.str z :: ds)) n b = [(cpD (.tuple (.str z :: ds)), [b])] := by
  have h1 : z ≠ "if" := fun e => h (by rw [e]; decide +kernel)
  have h2 : z ≠ "while" := fun e => h (by rw [e]; decide +kernel)
  match ds with
  | [] => rfl
  | [_] => rfl
  | [_, _] => exact if_neg h2
  | [_, _, _] => exact if_neg h1
  | _ :: _ :: _ :: _ :: _ => rfl
theorem flS_if {fb : PyData → Int → Int → List (PyData × List Int)} {nm x y : PyData} {n b : Int} : flS fb (.tuple [.str "if", nm, x, y]) n b = ifR fb nm x y n b := by
  show (if ("if" : Str) = "if" then ifR fb nm x y n b else [(cpD (.tuple [.str "if", nm, x, y]), [b])]) = ifR fb nm x y n b
  exact if_pos rfl
theorem flS_wh {fb : PyData → Int → Int → List (PyData × List Int)} {nm x : PyData} {n b : Int} : flS fb (.tuple [.str "while", nm, x]) n b = whR fb nm x n b := by
  show (if ("while" : Str) = "while" then whR fb nm x n b else [(cpD (.tuple [.str "while", nm, x]), [b])]) = whR fb nm x n b
  exact if_pos rfl
theorem manyS_deed {mb : PyData → Nat} {d : PyData} (h : branchD d = false) : manyS mb d = 1 := by
  unfold manyS
  rw [h]
  rfl
theorem manyS_if {mb : PyData → Nat} {nm x y : PyData} (h : branchD (.tuple [.str "if", nm, x, y]) = true) : manyS mb (.tuple [.str "if", nm, x, y]) = 1 + mb x + mb y := by
  unfold manyS
  rw [if_pos h]
  show 1 + (mb x + (mb y + 0)) = _
  omega
theorem manyS_wh {mb : PyData → Nat} {nm x : PyData} (h : branchD (.tuple [.str "while", nm, x]) = true) : manyS mb (.tuple [.str "while", nm, x]) = 1 + mb x := by
  unfold manyS
  rw [if_pos h]
  rfl
section
variable {ss ts : List Int} {fb : PyData → Int → Int → List (PyData × List Int)} {bl : PyData → Bool} {mb : PyData → Nat}
theorem flS_len (hf : ∀ x n b, bl x = true → (fb x n b).length = mb x) {d : PyData} {n b : Int} (h : lstB ss ts bl d = true) : (flS fb d n b).length = manyS mb d := by
  rcases st_cases h with ⟨_, nb, z, ds, rfl, hz⟩ | ⟨nm, x, y, rfl, _, hx, hy, hb⟩ | ⟨nm, x, rfl, _, hx, hb⟩
  · rw [flS_deed hz, manyS_deed nb]
    rfl
  · rw [flS_if, manyS_if hb]
    unfold ifR
    rw [List.length_cons, List.length_append, hf x _ _ hx, hf y _ _ hy]
    omega
  · rw [flS_wh, manyS_wh hb]
    unfold whR
    rw [List.length_cons, hf x _ _ hx]
    omega
theorem flP_len {fs : PyData → Int → Int → List (PyData × List Int)} {sz : PyData → Nat} {ds : List PyData} {n b : Int} (hf : ∀ d ∈ ds, ∀ n b, (fs d n b).length = sz d) : ∀ j, j ≤ ds.length → (flP fs sz ds n b j).length = sumM sz (ds.take j)
  | 0, _ => rfl
  | j + 1, h => by
    have hd : ds[j]? = some (ds[j]) := List.getElem?_eq_getElem (by omega)
    rw [flP_succ hd, List.length_append, flP_len hf j (by omega), hf _ (List.getElem_mem _), take_more hd, sumM_snoc]
end
theorem flN_len {ss ts : List Int} : ∀ (k : Nat) {d : PyData} {n b : Int}, lblk ss ts k d = true → (flN k d n b).length = manyN k d
  | 0, d, n, b, h => by cases d <;> cases h
  | k + 1, d, n, b, h => by
    cases d with
    | tuple ds =>
      have hl := and3 (show (decide (ds.length ≤ 12) && ds.all (lstB ss ts (lblk ss ts k))) = true from h)
      show (flP (flS (flN k)) (manyS (manyN k)) ds n b ds.length).length = sumM (manyS (manyN k)) ds
      rw [flP_len (fs := flS (flN k)) (sz := manyS (manyN k)) (ds := ds) (fun d hd n b => flS_len (ss := ss) (ts := ts) (bl := lblk ss ts k) (fb := flN k) (mb := manyN k) (fun x n b hx => flN_len k hx) (List.all_eq_true.mp hl.2 d hd)) _ (Nat.le_refl _), List.take_length]
    | _ => cases h
theorem flB_len {ss ts : List Int} {k : Nat} {d : PyData} {n b : Int} (h : lstB ss ts (lblk ss ts k) d = true) : (flS (flN k) d n b).length = manyS (manyN k) d := flS_len (ss := ss) (ts := ts) (bl := lblk ss ts k) (fb := flN k) (mb := manyN k) (fun x n b hx => flN_len k hx) h
theorem sumM_mem {m : PyData → Nat} : ∀ {l : List PyData} {d : PyData}, d ∈ l → m d ≤ sumM m l
  | e :: l, d, h => by
    rcases List.mem_cons.mp h with rfl | h
    · exact Nat.le_add_right _ _
    · exact Nat.le_trans (sumM_mem h) (Nat.le_add_left _ _)
theorem sumM_takes {m : PyData → Nat} : ∀ (l : List PyData) (n : Nat), sumM m (l.take n) ≤ sumM m l
  | [], n => by simp [sumM]
  | d :: l, 0 => Nat.zero_le _
  | d :: l, n + 1 => Nat.add_le_add_left (sumM_takes l n) _
/-! the rows are rows -/
section
variable {ss ts : List Int} (hs : ∀ i ∈ ss, i.natAbs < 10000) (ht : ∀ i ∈ ts, i.natAbs < 10000)
include hs ht
omit hs ht in
end
/-! size_of, flat_block and its kin, flat -/
def inn : PyData → List PyData
  | .tuple es => es
  | _ => []
theorem inn_len {ss ts : List Int} {n : Nat} : ∀ {as : List PyData}, as.all (lblk ss ts n) = true → (as.flatMap inn).length ≤ 12 * as.length
  | [], _ => by simp
  | a :: as, h => by
    rw [List.all_cons] at h
    have h := and3 h
    have ih := inn_len h.2
    have l1 : (inn a).length ≤ 12 := by
      cases n with
      | zero => cases a <;> cases h.1
      | succ n =>
        cases a with
        | tuple es => exact of_decide_eq_true (and3 (show (decide (es.length ≤ 12) && es.all (lstB ss ts (lblk ss ts n))) = true from h.1)).1
        | _ => cases h.1
    rw [List.flatMap_cons, List.length_append, List.length_cons]
    omega
theorem sum_app (m : PyData → Nat) : ∀ (l r : List PyData), sumM m (l ++ r) = sumM m l + sumM m r
  | [], r => by simp [sumM]
  | a :: l, r => by
    show m a + sumM m (l ++ r) = (m a + sumM m l) + sumM m r
    rw [sum_app m l r]
    omega
theorem sum_inn {ss ts : List Int} {n : Nat} : ∀ {as : List PyData}, as.all (lblk ss ts (n + 1)) = true → sumM (manyS (manyN n)) (as.flatMap inn) = sumM (manyN (n + 1)) as
  | [], _ => rfl
  | a :: as, h => by
    rw [List.all_cons] at h
    have h := and3 h
    rw [List.flatMap_cons, sum_app, sum_inn h.2]
    cases a with
    | tuple es => rfl
    | _ => cases h.1
section
open PySem.Spec PyProof.Rows LamX
variable {P : Program} {w : World} {K : PySem.W.Frag} {mg : Str → Option Value} {base : Heap} {f : Addr} {fd : FuncData}
def spSizeOf (K : PySem.W.Frag) (n : Nat) : Sp := fun vs H Q _ => ∃ (x : V) (d : PyData) (ss ts : List Int), vs = [x] ∧ Dp K H x d ∧ lstB ss ts (lblk ss ts n) d = true ∧ ∀ H', Same H H' → Q (.int (manyS (manyN n) d : Nat)) H'
def spSizeS (K : PySem.W.Frag) (n : Nat) : Sp := fun vs H Q E => ∃ m, n = m + 1 ∧ spSizeOf K m vs H Q E
abbrev NSz : List Str := ["statement", "block", "inner"]
theorem no_size {k : Nat} : FnOk P w K mg base CX0 k f fd ["statement"] (spSizeS K 0) := ⟨(fun vs H Q E h => by obtain ⟨m, e, _⟩ := h; cases e), (fun A outer s H args us vs Q E hr he hb hv h => by obtain ⟨m, e, _⟩ := h; cases e)⟩
def spFB (K : PySem.W.Frag) (n : Nat) : Sp := fun vs H Q _ => ∃ (x : V) (d : PyData) (ss ts : List Int) (a b : Int), vs = [x, .int a, .int b] ∧ Dp K H x d ∧ lblk ss ts n d = true ∧ manyN n d ≤ 40 ∧ ∀ R ws H', Same H H' → H R = none → H' R = some (.lst ws) → DpAll K H' ws ((flN n d a b).map rowD) → Q (.ref R) H'
def spFS (K : PySem.W.Frag) (n : Nat) : Sp := fun vs H Q _ => ∃ (x : V) (d : PyData) (ss ts : List Int) (a b : Int), vs = [x, .int a, .int b] ∧ Dp K H x d ∧ lstB ss ts (lblk ss ts n) d = true ∧ manyS (manyN n) d ≤ 40 ∧ ∀ R ws H', Same H H' → H R = none → H' R = some (.lst ws) → DpAll K H' ws ((flS (flN n) d a b).map rowD) → Q (.ref R) H'
def spFI (K : PySem.W.Frag) (n : Nat) : Sp := fun vs H Q _ => ∃ (v : V) (nm x y : PyData) (ss ts : List Int) (a b : Int), vs = [v, .int a, .int b] ∧ Dp K H v (.tuple [.str "if", nm, x, y]) ∧ lblk ss ts n x = true ∧ lblk ss ts n y = true ∧ 1 + manyN n x + manyN n y ≤ 40 ∧ ∀ R ws H', Same H H' → H R = none → H' R = some (.lst ws) → DpAll K H' ws ((ifR (flN n) nm x y a b).map rowD) → Q (.ref R) H'
def spFW (K : PySem.W.Frag) (n : Nat) : Sp := fun vs H Q _ => ∃ (v : V) (nm x : PyData) (ss ts : List Int) (a b : Int), vs = [v, .int a, .int b] ∧ Dp K H v (.tuple [.str "while", nm, x]) ∧ lblk ss ts n x = true ∧ 1 + manyN n x ≤ 40 ∧ ∀ R ws H', Same H H' → H R = none → H' R = some (.lst ws) → DpAll K H' ws ((whR (flN n) nm x a b).map rowD) → Q (.ref R) H'
abbrev PFB : List Str := ["block", "first", "behind"]
abbrev NFB : List Str := ["block", "first", "behind", "rows", "place", "statement", "number", "after"]
abbrev PFS : List Str := ["statement", "number", "behind"]
abbrev NFI : List Str := ["statement", "number", "behind", "rows", "middle", "others", "nexts"]
theorem isE {α β : Type} {l : List α} {r : List β} (h : l.length = r.length) : l.isEmpty = r.isEmpty := by
  cases l <;> cases r <;> first | rfl | cases h
/-- the last row of flat_if -/
def tIfR (K : PySem.W.Frag) : TS := fun D σ G => ∃ (da R1 R2 pn : Addr) (v1 v2 v4 : Option V) (nv : V) (dvs ws1 ws2 : List V) (nm : PyData) (n1 n2 : Int) (r1 r2 : List (PyData × List Int)), σ = [some (.ref da), v1, v2, some (.ref R1), v4, some (.ref R2), some (.ref pn)] ∧ SqT K G da dvs ∧ dvs[1]? = some nv ∧ Dp K G nv nm ∧ G R1 = some (.lst ws1) ∧ DpAll K G ws1 (r1.map rowD) ∧ G R2 = some (.lst ws2) ∧ DpAll K G ws2 (r2.map rowD) ∧
  G pn = some (.tup [.int n1, .int n2]) ∧ ws1.length + ws2.length ≤ 100 ∧ ∀ R ws G', Same G G' → G R = none → G' R = some (.lst ws) → DpAll K G' ws (((tstD nm, [n1, n2]) :: (r1 ++ r2)).map rowD) → D.rt (.ref R) G'
theorem dpAll_app {H : Hp} : ∀ {xs ys : List V} {ds es : List PyData}, DpAll K H xs ds → DpAll K H ys es → DpAll K H (xs ++ ys) (ds ++ es)
  | [], _, [], _, .nil, h => h
  | _ :: _, _, _ :: _, _, .cons a b, h => .cons a (dpAll_app b h)
end
/-! check_net, flat -/
abbrev rTupOf (K : PySem.W.Frag) : List V → Hp → VK → Prop := fun xs H Q => ∃ p ys, xs = [.ref p] ∧ ((SqL K H p ys ∧ ∀ l, H l = none → Q (.ref l) (upd H l (.tup ys))) ∨ (SqT K H p ys ∧ Q (.ref p) H))
theorem acts_at {chs : List (Int × Int)} {as : List PyData} {i : Nat} {d : PyData} (h : actsB chs 0 as = true) (hi : as[i]? = some d) : lblk (sideL Prod.fst chs (i : Int)) (sideL Prod.snd chs (i : Int)) 4 d = true ∧ manyN 4 d ≤ 40 := by
  have s : (blkD (sideL Prod.fst chs (i : Int)) (sideL Prod.snd chs (i : Int)) 4 d).isSome = true := by
    cases e : blkD (sideL Prod.fst chs (i : Int)) (sideL Prod.snd chs (i : Int)) 4 d with
    | some t => rfl
    | none =>
      have := acts_no (chs := chs) (me := 0) hi (by rw [show (0 : Int) + (i : Nat) = (i : Int) by omega]; exact e)
      rw [h] at this
      cases this
  rw [blk_some] at s
  have s := and3 s
  exact ⟨s.1, of_decide_eq_true s.2⟩
structure NetG (cs as : List PyData) : Prop where
  l6 : cs.length ≤ 6
  l1 : 1 ≤ as.length
  l4 : as.length ≤ 4
  ch : cs = (cs.map pairD).map mkCh
  act : ∀ (i : Nat) d, as[i]? = some d → lblk (sideL Prod.fst (cs.map pairD) (i : Int)) (sideL Prod.snd (cs.map pairD) (i : Int)) 4 d = true ∧ manyN 4 d ≤ 40
theorem netB_G {cs as : List PyData} (h : netB cs as = true) : NetG cs as := by
  have h := and3 (show ((decide (cs.length ≤ 6) && (decide (1 ≤ as.length) && decide (as.length ≤ 4))) && (cs.all (chanD as.length) && actsB (cs.map pairD) 0 as)) = true from h)
  have h1 := and3 h.1
  have h2 := and3 h.2
  exact ⟨of_decide_eq_true h1.1, of_decide_eq_true (and3 h1.2).1, of_decide_eq_true (and3 h1.2).2, chans_of h2.1, fun i d hi => acts_at h2.2 hi⟩
abbrev codeR (as : List PyData) : List (List (PyData × List Int)) := as.map fun d => flN 4 d 0 (-1)
def codeD (rss : List (List (PyData × List Int))) : PyData := .tuple (rss.map rowsD)
section
open PySem.Spec PyProof.Rows LamX
variable {P : Program} {w : World} {K : PySem.W.Frag} {mg : Str → Option Value} {base : Heap} {f : Addr} {fd : FuncData}
def spCheckNet (K : PySem.W.Frag) (PT : List Addr) : Sp := fun vs H Q _ => ∃ (x : V) (d : PyData), vs = [x] ∧ Dp K H x d ∧ netD d = true ∧ TabsG PT H ∧ ∀ H', ExtN H H' → TabsG PT H' → Q .non H'
theorem scCheckNet : FnScope ["net"] ["net"] (defScope sCheckNet) := ⟨rfl, rfl, rfl, by decide +kernel, rfl, by decide +kernel, by decide +kernel⟩
theorem ok_checkNet {k : Nat} {PT : List Addr} (F : Fun K "check_net" "check_net" sCheckNet f fd) (cI : Cal P w K mg base "is_net" k ["thing"] (spIsNet K PT)) : FnOk P w K mg base CX0 (k + 1) f fd ["net"] (spCheckNet K PT) := by
  refine F.ok scCheckNet (fun vs H Q E h => ?_) (fun cdv A outer s H vs Q E hr h => ?_)
  · obtain ⟨x, d, rfl, _⟩ := h
    rfl
  obtain ⟨x, d, rfl, hx, hd, tb, q⟩ := h
  have bk : BkOk d := by
    obtain ⟨_, _, _, _, _, b, _⟩ := net_bd hd
    unfold BkOk
    omega
  refine ⟨_, pss_one (ps_if (pt_not (pt_val (pe_cal cI hr rfl (pa_cons (pv 0) pa_nil)))) pss_never pss_nil), ?_⟩
  exact ⟨_, rfl, x, d, rfl, hx, bk, tb, fun H' e t => ⟨_, rfl, ifF (by rw [hd]; rfl) (q H' e t)⟩⟩
def spFlat (K : PySem.W.Frag) (PT : List Addr) : Sp := fun vs H Q _ => ∃ (x : V) (cs as : List PyData), vs = [x] ∧ Dp K H x (.tuple [.tuple cs, .tuple as]) ∧ netB cs as = true ∧ TabsG PT H ∧ ∀ v H', ExtN H H' → TabsG PT H' → Dp K H' v (codeD (codeR as)) → Q v H'
end
def itS (i : Int) : Str := toString i
theorem log_ok {n : Nat} (h : n ≤ 9999) : n.log2 < 1920 := by
  by_cases e : n = 0
  · subst e
    decide
  · exact Nat.lt_of_lt_of_le ((Nat.log2_lt e).mpr (show n < 2 ^ 14 by omega)) (by decide)
theorem itS_len {i : Int} (h0 : -9999 ≤ i) (h1 : i ≤ 9999) : (itS i).length ≤ 5 := by
  have := PySem.int_text_length_le10 (a := i) (k := 4) (by decide) (by omega)
  show (Str.ofString (toString i)).length ≤ 5
  rw [PySem.ofString_length]
  exact this
theorem one_len (z : Str) (n : Nat) (h : z.length = n) : (Str.empty ++ z).length = n := by
  rw [Str.length_append, h]
  show 0 + n = n
  omega
theorem join_len (sep : Str) (ys : List Str) {L : Nat} (h : ∀ y ∈ ys, y.length ≤ L) : (Txt.join sep ys).length ≤ (L + sep.length) * ys.length ∧ (ys.map (·.length)).sum + ys.length * sep.length ≤ (L + sep.length) * ys.length := by
  have s : (ys.map (·.length)).sum ≤ L * ys.length := by
    induction ys with
    | nil => exact Nat.zero_le _
    | cons y ys ih =>
      have := ih fun z hz => h z (List.mem_cons_of_mem _ hz)
      have h1 := h y List.mem_cons_self
      rw [List.map_cons, List.sum_cons, List.length_cons, Nat.mul_add, Nat.mul_one]
      omega
  have e : (Txt.join sep ys).length = (ys.map (·.length)).sum + (ys.length - 1) * sep.length := size_glued sep ys
  have m : (ys.length - 1) * sep.length ≤ ys.length * sep.length := Nat.mul_le_mul_right _ (Nat.sub_le _ _)
  rw [Nat.add_mul, Nat.mul_comm sep.length ys.length]
  omega
/-! the signs of numbers -/
def itL (i : Int) : List Nat := if i < 0 then 45 :: TL.numL (-i).toNat else TL.numL i.toNat
theorem it_tl (i : Int) : (itS i).cps.toList = itL i := by
  cases i with
  | ofNat n =>
    show (Str.ofString (toString ((n : Nat) : Int))).cps.toList = _
    rw [PySem.W.KIN.signs_num]
    show _ = if ((n : Nat) : Int) < 0 then _ else TL.numL ((n : Nat) : Int).toNat
    rw [if_neg (by omega), Int.toNat_natCast]
    rfl
  | negSucc m =>
    show (Str.ofString ("-" ++ toString (m + 1))).cps.toList = _
    rw [Str.ofString_eq_toList]
    show (("-" ++ toString (m + 1)).toList.map Char.toNat).toArray.toList = if Int.negSucc m < 0 then 45 :: TL.numL (-Int.negSucc m).toNat else _
    rw [if_pos (Int.negSucc_lt_zero m), String.toList_append, List.map_append]
    show 45 :: (Nat.repr (m + 1)).toList.map Char.toNat = 45 :: TL.numL (m + 1)
    rw [Nat.toList_repr]
    rfl
def digB (c : Nat) : Bool := decide (48 ≤ c) && decide (c ≤ 57)
theorem numL_dig (n : Nat) : (TL.numL n).all digB = true := by
  rw [List.all_eq_true]
  intro c hc
  have := TL.numL_digits n c hc
  unfold digB
  rw [decide_eq_true this.1, decide_eq_true this.2]
  rfl
/-- the signs behind a minus, where there is one -/
def figs : List Nat → List Nat
  | 45 :: l => l
  | l => l
theorem rp_tl (z m : Str) (hm : m.cps.toList = [45]) : (Txt.removeprefix z m).cps.toList = figs z.cps.toList := by
  have em : m.cps = #[45] := by rw [← Array.toArray_toList (xs := m.cps), hm]
  have lm : m.length = 1 := by show m.cps.size = 1; rw [em]; rfl
  have lz : z.cps.toList.length = z.length := by simp [Str.length]
  rw [PySem.StrLaws.removeprefix_eq, lm]
  have es : Builtin.Str.subAt z m 0 = (z.cps.extract 0 1 == #[45]) := by
    unfold Builtin.Str.subAt
    rw [lm, em]
  rw [es]
  cases hz : z.cps.toList with
  | nil =>
    have : z.length = 0 := by rw [← lz, hz]; rfl
    rw [if_neg (by rw [decide_eq_false (by omega), Bool.false_and]; decide), hz]
    rfl
  | cons c l =>
    have l1 : 1 ≤ z.length := by rw [← lz, hz, List.length_cons]; omega
    have ex : (z.cps.extract 0 1).toList = [c] := by
      rw [Array.toList_extract, hz]
      rfl
    have ee : (z.cps.extract 0 1 == #[45]) = decide (c = 45) := by
      rw [Bool.eq_iff_iff, beq_iff_eq, decide_eq_true_eq]
      constructor
      · intro h
        rw [h] at ex
        exact (List.cons.inj ex).1.symm
      · intro h
        subst h
        rw [← Array.toArray_toList (xs := z.cps.extract 0 1), ex]
    rw [ee, decide_eq_true (show 0 + 1 ≤ z.length by omega), Bool.true_and]
    by_cases c45 : c = 45
    · subst c45
      rw [if_pos (decide_eq_true rfl)]
      show ((45 :: l).drop 1).take (z.length - 1) = l
      rw [List.drop_succ_cons, List.drop_zero, List.take_of_length_le]
      rw [hz, List.length_cons] at lz
      omega
    · rw [if_neg (by rw [decide_eq_false c45]; decide), hz]
      show c :: l = figs (c :: l)
      unfold figs
      split
      · rename_i e
        exact absurd (List.cons.inj e).1 c45
      · rfl
/-- the number that a word of at most m signs writes -/
def wfD (m : Int) (z : Str) : Option Int :=
  if (figs z.cps.toList ≠ [] ∧ (z.length : Int) ≤ m ∧ (figs z.cps.toList).all digB = true) then
    match PySem.intText? z with
    | some n => if itS n = z then some n else none
    | none => none
  else none
theorem fig_len : ∀ l : List Nat, (figs l).length ≤ l.length
  | [] => Nat.le_refl _
  | c :: l => by
    unfold figs
    split
    · rename_i e
      rw [e, List.length_cons]
      omega
    · exact Nat.le_refl _
theorem all_dig {l : List Nat} (h : l.all digB = true) : NumText.AllDigits l := fun c hc => by
  have := List.all_eq_true.mp h c hc
  unfold digB at this
  rw [Bool.and_eq_true, decide_eq_true_eq, decide_eq_true_eq] at this
  exact this
theorem str_tl {a b : Str} (h : a.cps.toList = b.cps.toList) : a = b := by
  cases a; cases b
  congr 1
  exact Array.toList_inj.mp h
/-- a number's own text is read -/
theorem wfD_it {i m : Int} (h0 : -9999 ≤ i) (h1 : i ≤ 9999) (hm : 5 ≤ m) : wfD m (itS i) = some i := by
  have l5 := itS_len h0 h1
  have e := it_tl i
  have ef : figs (itS i).cps.toList = TL.numL i.natAbs := by
    rw [e]
    unfold itL
    split
    · rw [show (-i).toNat = i.natAbs by omega]
      rfl
    · rw [show i.toNat = i.natAbs by omega]
      have hd := TL.numL_digits i.natAbs
      cases hn : TL.numL i.natAbs with
      | nil => rfl
      | cons c l =>
        rw [hn] at hd
        have := hd c List.mem_cons_self
        unfold figs
        split
        · rename_i q
          have := (List.cons.inj q).1
          omega
        · rfl
  have hi : PySem.intText? (itS i) = some i := by
    by_cases c : i < 0
    · have e2 : (itS i).cps.toList = 45 :: TL.numL (-i).toNat := by rw [e]; unfold itL; rw [if_pos c]
      rw [PySem.intText_neg e2 (TL.numL_digits _) (TL.numL_ne _) (by omega), TL.numL_val]
      congr 1
      omega
    · have e2 : (itS i).cps.toList = TL.numL i.toNat := by rw [e]; unfold itL; rw [if_neg c]
      have := PySem.intText_digits (x := itS i) (by rw [e2]; exact TL.numL_digits _) (by rw [e2]; exact TL.numL_ne _) (by omega)
      rw [this, e2, TL.numL_val]
      congr 1
      omega
  unfold wfD
  rw [ef, hi, if_pos ⟨TL.numL_ne _, by omega, numL_dig _⟩]
  show (if itS i = itS i then some i else none) = some i
  rw [if_pos rfl]
/-! a < b <= c <= d -/
section
open PySem.Spec PyProof.Rows LamX
def tChain3 (r r' r'' : R2) (ta tb tc td : TE) : TT := fun σ H Q => ta σ H fun x H1 => tb σ H1 fun y H2 => r x y H2 fun z H3 => ∃ k, z = .bl k ∧ (if k = true then tc σ H3 fun w' H4 => r' y w' H4 fun z' H5 => ∃ k', z' = .bl k' ∧ (if k' = true then td σ H5 fun w2 H6 => r'' w' w2 H6 fun z2 H7 => ∃ k2, z2 = .bl k2 ∧ Q k2 H7 else Q false H5) else Q false H3)
theorem pt_chain3 {X : Cx} {a b c d : Expr} {op op' op'' : CmpOp} {r r' r'' : R2} {ta tb tc td : TE} {pos : Pos} (ho : OpR X (compareOp op) r) (ho' : OpR X (compareOp op') r') (ho'' : OpR X (compareOp op'') r'') (ha : PE X a ta) (hb : PE X b tb) (hc : PE X c tc) (hd : PE X d td)
    (hm : lastMarks [op, op', op''] [b, c, d] = false := by with_unfolding_all rfl) : PT X (.Compare a [op, op', op''] [b, c, d] pos) (tChain3 r r' r'' ta tb tc td) := by
  refine ⟨fun pins s σ H Q I h => ?_⟩
  refine isTrue_chain (thn (ha.run pins s σ H _ I h) fun v s1 ⟨x, H1, I1, r1, q1⟩ => test_link (thn (hb.run pins s1 σ H1 _ I1 q1) fun u s2 ⟨y, H2, I2, r2, q2⟩ =>
    thn (ho pins s2 σ H2 x y v u _ I2 r1 r2 q2) fun d s3 ⟨z, H3, I3, r3, k, e, q3⟩ => ?_)) hm
  subst e
  cases r3
  refine wpAny_truthy_bool ?_
  cases k with
  | false => exact ite_ff ⟨H3, I3, q3⟩
  | true =>
    refine ite_tt (test_link (thn (hc.run pins s3 σ H3 _ I3 q3) fun w' s4 ⟨z', H4, I4, r4, q4⟩ => thn (ho' pins s4 σ H4 y z' u w' _ I4 r2 r4 q4) fun d' s5 ⟨z2, H5, I5, r5, k2, e2, q5⟩ => ?_))
    subst e2
    cases r5
    refine wpAny_truthy_bool ?_
    cases k2 with
    | false => exact ite_ff ⟨H5, I5, q5⟩
    | true =>
      refine ite_tt (test_last (thn (hd.run pins s5 σ H5 _ I5 q5) fun w2 s6 ⟨z3, H6, I6, r6, q6⟩ => thn (ho'' pins s6 σ H6 z' z3 w' w2 _ I6 r4 r6 q6) fun d'' s7 ⟨z4, H7, I7, r7, k3, e3, q7⟩ => ?_))
      subst e3
      cases r7
      exact wpAny_truthy_bool ⟨H7, I7, q7⟩
end
/-! whole_from -/
theorem dv_lt : ∀ (l : List Nat) (a : Nat), NumText.AllDigits l → l.foldl (fun acc c => acc * 10 + (c - 48)) a < (a + 1) * 10 ^ l.length
  | [], a, _ => by
    show a < (a + 1) * 1
    omega
  | c :: l, a, h => by
    have hc := h.head
    have r := dv_lt l (a * 10 + (c - 48)) h.tail
    rw [List.foldl_cons, List.length_cons, Nat.pow_succ, Nat.mul_comm (10 ^ l.length) 10, ← Nat.mul_assoc]
    exact Nat.lt_of_lt_of_le r (Nat.mul_le_mul_right _ (by omega))
theorem log_dv {l : List Nat} (h : NumText.AllDigits l) (hl : l.length ≤ 31) : (NumText.digitsVal l).log2 < 1920 := by
  have a : NumText.digitsVal l < (0 + 1) * 10 ^ l.length := dv_lt l 0 h
  have b : 10 ^ l.length ≤ 10 ^ 31 := Nat.pow_le_pow_right (by decide) hl
  by_cases e : NumText.digitsVal l = 0
  · rw [e]
    decide
  · have c : (10 : Nat) ^ 31 < 2 ^ 104 := by decide
    exact Nat.lt_of_lt_of_le ((Nat.log2_lt e).mpr (show NumText.digitsVal l < 2 ^ 104 by omega)) (by decide)
theorem int_of {z : Str} (h1 : figs z.cps.toList ≠ []) (h2 : (figs z.cps.toList).all digB = true) (h3 : z.length ≤ 31) : ∃ n, PySem.intText? z = some n ∧ n.natAbs.log2 < 1920 := by
  have lz : z.cps.toList.length = z.length := by simp [Str.length]
  cases hz : z.cps.toList with
  | nil =>
    rw [hz] at h1
    exact absurd rfl h1
  | cons c l =>
    rw [hz] at h1 h2 lz
    rw [List.length_cons] at lz
    by_cases c45 : c = 45
    · subst c45
      refine ⟨_, PySem.intText_neg hz (all_dig h2) h1 (by omega), ?_⟩
      rw [Int.natAbs_neg, Int.natAbs_natCast]
      exact log_dv (all_dig h2) (by show l.length ≤ 31; omega)
    · have e : figs (c :: l) = c :: l := by
        unfold figs
        split
        · rename_i e
          exact absurd (List.cons.inj e).1 c45
        · rfl
      rw [e] at h1 h2
      refine ⟨_, PySem.intText_digits (by rw [hz]; exact all_dig h2) (by rw [hz]; exact h1) (by omega), ?_⟩
      rw [Int.natAbs_natCast, hz]
      exact log_dv (all_dig h2) (by rw [List.length_cons]; omega)
def optI : Option Int → V
  | some n => .int n
  | none => .non
section
open PySem.Spec PyProof.Rows LamX
variable {P : Program} {w : World} {K : PySem.W.Frag} {mg : Str → Option Value} {base : Heap} {f : Addr} {fd : FuncData}
def spWholeFrom (K : PySem.W.Frag) (PT : List Addr) : Sp := fun vs H Q _ => ∃ (z : Str) (m : Int), vs = [.str z, .int m] ∧ z.length ≤ sizeLine ∧ m ≤ 31 ∧ TabsG PT H ∧ ∀ H', ExtN H H' → TabsG PT H' → Q (optI (wfD m z)) H'
abbrev wfN : List Str := ["word", "most", "figures", "number", "sign"]
theorem scWholeFrom : FnScope wfN ["word", "most"] (defScope sWholeFrom) := ⟨rfl, rfl, rfl, by decide +kernel, rfl, by decide +kernel, by decide +kernel⟩
theorem ok_wholeFrom {k : Nat} {c Pc : Addr} {PT : List Addr} (F : Fun K "whole_from" "whole_from" sWholeFrom f fd) (hc : fd.code = .ref c) (TB : LamX.TabB base mg c Pc) (hPT : Pc ∈ PT) (T : Free mg) (hA : mg "all" = none) (hS : mg "str" = none) : FnOk P w K mg base CX0 (k + 2) f fd ["word", "most"] (spWholeFrom K PT) := by
  refine okC F hc scWholeFrom (fun vs H Q E h => ?_) (fun A outer s H vs Q E hr h => ?_)
  · obtain ⟨z, m, rfl, _⟩ := h
    rfl
  obtain ⟨z, m, rfl, hz, hm, tb, q⟩ := h
  refine ⟨_, pss_cons (ps_set (i := 2) scWholeFrom.nd rfl (.inl rfl) (pe_bm PySem.F.plainAttrs_str PySem.F.slot_str_removeprefix PySem.F.type_str_removeprefix mt_removeprefix (pv 0) (pa_cons pe_str pa_nil)))
    (pss_cons (ps_if (PW.pt (pw_or (pt_not (pt_chain3 op_lt op_le op_le pe_int (pe_callB call_len_str rfl T.len PySem.boot_len (pa_cons (pv 2) pa_nil)) (pe_callB call_len_str rfl T.len PySem.boot_len (pa_cons (pv 0) pa_nil)) (pv 1)))
      (pw_or1 (pt_not (pt_val (pe_allG (own := [("sign", 4)]) (wi := iStr (tVar 2)) (g := gName 4) (tt := tYes) (te := tChain (fun x y H Q => ∃ i j, x = .str i ∧ y = .str j ∧ Q (.bl (!decide (j.cps.toList < i.cps.toList))) H) (fun x y H Q => ∃ i j, x = .str i ∧ y = .str j ∧ Q (.bl (!decide (j.cps.toList < i.cps.toList))) H) (tC (.str "0")) (tVar 4) (tC (.str "9"))) scWholeFrom.nd hr rfl hA (by decide +kernel) TB rfl
        (blkOk_by (own := [("sign", 4)]) (N := wfN) (sc := defScope sWholeFrom) (by decide +kernel)) (by decide +kernel) rfl rfl (pi_str (pv 2))
        (fun _ _ _ _ _ _ _ _ _ _ => pg_name (i := 4) scWholeFrom.nd rfl (Or.inl rfl)) (fun _ _ _ _ _ _ _ _ _ _ => pts_nil)
        (fun _ _ _ _ _ _ _ _ _ hr' => pe_chain op_le_str op_le_str pe_str (pv 4) pe_str) (fun _ => rfl))))))) (pss_one (ps_ret pe_non)) pss_nil)
    (pss_cons (ps_set (i := 3) scWholeFrom.nd rfl (.inl rfl) (pe_callTy call_int_str rfl T.int (by decide +kernel) (pa_cons (pv 0) pa_nil)))
    (pss_one (ps_ret (pe_ifExp (pt_cmpR op_eq (pe_callTy call_str_int rfl hS (by decide +kernel) (pa_cons (pv 3) pa_nil)) (pv 0) (nomark _)) (pv 3) pe_non))))), ?_⟩
  have tf := rp_tl z "-" (by decide +kernel)
  have no : wfD m z = none → ∀ H', ExtN H H' → TabsG PT H' → Q .non H' := fun e H' e1 t1 => by
    have r := q H' e1 t1
    rw [e] at r
    exact r
  refine ⟨_, rfl, rfl, z, "-", rfl, rfl, hz, ?_⟩
  generalize Txt.removeprefix z "-" = fz at tf ⊢
  have lf : fz.cps.toList.length = fz.length := by simp [Str.length]
  have lz : z.cps.toList.length = z.length := by simp [Str.length]
  have fl := fig_len z.cps.toList
  rw [← tf, lf, lz] at fl
  have ef : wfD m z = if (fz.cps.toList ≠ [] ∧ (z.length : Int) ≤ m ∧ fz.cps.toList.all digB = true) then (match PySem.intText? z with | some n => if itS n = z then some n else none | none => none) else none := by
    rw [tf]
    rfl
  refine ⟨_, rfl, fz, rfl, by omega, _, _, rfl, rfl, _, rfl, ?_⟩
  by_cases c1 : 0 < fz.length
  case neg =>
    refine ifF (decide_eq_false (by omega)) (ifT rfl (ifT rfl (no ?_ H (ExtN.refl _) tb)))
    rw [ef, if_neg]
    intro h
    have : fz.cps.toList.length ≠ 0 := fun e => h.1 (List.length_eq_zero_iff.mp e)
    omega
  refine ifT (decide_eq_true (by omega)) ⟨_, rfl, z, rfl, hz, _, _, rfl, rfl, _, rfl, ifT (decide_eq_true (by omega)) ⟨_, rfl, _, _, rfl, rfl, _, rfl, ?_⟩⟩
  by_cases c2 : (z.length : Int) ≤ m
  case neg =>
    rw [decide_eq_false c2]
    refine ifT rfl (ifT rfl (no ?_ H (ExtN.refl _) tb))
    rw [ef, if_neg]
    intro h
    exact c2 h.2.1
  rw [decide_eq_true c2]
  refine ifF rfl ⟨_, rfl, fz, rfl, tb Pc hPT, fun H2 b2 => ?_⟩
  have e2 := tabbed_ext (tb Pc hPT) b2
  have t2 := tb.tabbed b2
  refine gx_str (x := fz) (fun i G => G = H2 ∧ (fz.cps.toList.take i).all digB = true) ⟨rfl, rfl⟩ (fun i c G hc h => ?_) (fun G h => ?_)
  · obtain ⟨rfl, all⟩ := h
    have hc' : fz.cps.toList[i]? = some c := by rw [← hc]; simp
    have no2 : digB c = false → Q .non G := fun y => no (by
      rw [ef, if_neg]
      intro h
      have := List.all_eq_true.mp h.2.2 c (List.mem_of_getElem? hc')
      rw [y] at this
      cases this) G e2 t2
    refine ⟨rfl, yesG ⟨_, rfl, _, _, rfl, rfl, _, rfl, ?_⟩⟩
    have e1 : (!decide (([c] : List Nat) < [48])) = decide (48 ≤ c) := by rw [lt_one]; by_cases z : 48 ≤ c <;> simp [z] <;> omega
    have e3 : (!decide (([57] : List Nat) < [c])) = decide (c ≤ 57) := by rw [lt_one]; by_cases z : c ≤ 57 <;> simp [z] <;> omega
    show if (!decide (([c] : List Nat) < [48])) = true then _ else _
    rw [e1]
    by_cases c3 : 48 ≤ c
    · refine ifT (decide_eq_true c3) ⟨_, _, rfl, rfl, ?_⟩
      refine ⟨decide (c ≤ 57), congrArg V.bl e3, fun z => ⟨rfl, ?_⟩, fun z => ⟨_, rfl, ifT rfl (no2 ?_)⟩⟩
      · rw [all_take hc', all]
        unfold digB
        rw [decide_eq_true c3, z]
        rfl
      · unfold digB
        rw [decide_eq_true c3, Bool.true_and]
        exact Bool.eq_false_iff.mpr z
    · refine ifF (decide_eq_false c3) ⟨false, rfl, (fun z => by cases z), (fun _ => ⟨_, rfl, ifT rfl (no2 ?_)⟩)⟩
      unfold digB
      rw [decide_eq_false c3, Bool.false_and]
  · obtain ⟨rfl, all⟩ := h
    rw [show fz.cps.size = fz.cps.toList.length by simp, List.take_length] at all
    have ne : fz.cps.toList ≠ [] := fun e => by rw [e] at lf; have : ([] : List Nat).length = 0 := rfl; omega
    obtain ⟨n, hn, hlog⟩ := int_of (z := z) (by rw [← tf]; exact ne) (by rw [← tf]; exact all) (by omega)
    rw [if_pos ⟨ne, c2, all⟩, hn] at ef
    have ef : wfD m z = if itS n = z then some n else none := ef
    refine ⟨_, rfl, ifF rfl ⟨_, rfl, z, n, rfl, hn, by omega, _, rfl, n, rfl, hlog, _, rfl, rfl, _, rfl, ?_⟩⟩
    by_cases c4 : itS n = z
    · refine ifT (decide_eq_true (congrArg V.str c4)) ⟨_, rfl, ?_⟩
      have r := q G e2 t2
      rw [ef, if_pos c4] at r
      exact r
    · refine ifF (decide_eq_false fun e => c4 (V.str.inj e)) (no ?_ G e2 t2)
      rw [ef, if_neg c4]
end
/-! the rows of nets, as they are written -/
def partS : PyData → Str
  | .int i => itS i
  | .str z => z
  | _ => ""
def partB : PyData → Bool
  | .int i => decide (-9999 ≤ i ∧ i ≤ 9999)
  | .str z => decide (z.length ≤ 10)
  | _ => false
def wordsS (ds : List PyData) : Str := Txt.join " " (ds.map partS)
def blS : Nat → Str
  | 0 => ""
  | k + 1 => blS k ++ "  "
def wrS (wb : Nat → PyData → List Str) (k : Nat) (d : PyData) : List Str := match d with
  | .tuple [.str z, nm, x, y] => if z = "if" then (blS k ++ wordsS [.str z, nm]) :: (wb (k + 1) x ++ ((blS k ++ "else") :: wb (k + 1) y)) else [blS k ++ wordsS [.str z, nm, x, y]]
  | .tuple [.str z, nm, x] => if z = "while" then (blS k ++ wordsS [.str z, nm]) :: wb (k + 1) x else [blS k ++ wordsS [.str z, nm, x]]
  | .tuple ds => [blS k ++ wordsS ds]
  | _ => []
def wrN : Nat → Nat → PyData → List Str
  | n + 1, k, .tuple ds => ds.flatMap (wrS (wrN n) k)
  | _, _, _ => []
theorem wrS_deed {wb : Nat → PyData → List Str} {k : Nat} {z : Str} {ds : List PyData} (h : z ∉ brL) : wrS wb k (.tuple (.str z :: ds)) = [blS k ++ wordsS (.str z :: ds)] := by
  have h1 : z ≠ "if" := fun e => h (by rw [e]; decide +kernel)
  have h2 : z ≠ "while" := fun e => h (by rw [e]; decide +kernel)
  match ds with
  | [] => rfl
  | [_] => rfl
  | [_, _] => exact if_neg h2
  | [_, _, _] => exact if_neg h1
  | _ :: _ :: _ :: _ :: _ => rfl
theorem wrS_if {wb : Nat → PyData → List Str} {k : Nat} {nm x y : PyData} : wrS wb k (.tuple [.str "if", nm, x, y]) = (blS k ++ wordsS [.str "if", nm]) :: (wb (k + 1) x ++ ((blS k ++ "else") :: wb (k + 1) y)) := by
  show (if ("if" : Str) = "if" then (blS k ++ wordsS [.str "if", nm]) :: (wb (k + 1) x ++ ((blS k ++ "else") :: wb (k + 1) y)) else [blS k ++ wordsS [.str "if", nm, x, y]]) = _
  exact if_pos rfl
theorem wrS_wh {wb : Nat → PyData → List Str} {k : Nat} {nm x : PyData} : wrS wb k (.tuple [.str "while", nm, x]) = (blS k ++ wordsS [.str "while", nm]) :: wb (k + 1) x := by
  show (if ("while" : Str) = "while" then (blS k ++ wordsS [.str "while", nm]) :: wb (k + 1) x else [blS k ++ wordsS [.str "while", nm, x]]) = _
  exact if_pos rfl
theorem bl_len : ∀ k, (blS k).length = 2 * k
  | 0 => rfl
  | k + 1 => by
    show (blS k ++ "  ").length = _
    rw [Str.length_append, bl_len k, show ("  " : Str).length = 2 by decide +kernel]
    omega
theorem part_len {d : PyData} (h : partB d = true) : (partS d).length ≤ 10 := by
  cases d with
  | int i =>
    have h := of_decide_eq_true (show decide (-9999 ≤ i ∧ i ≤ 9999) = true from h)
    exact Nat.le_trans (itS_len h.1 h.2) (by decide)
  | str z => exact of_decide_eq_true (show decide (z.length ≤ 10) = true from h)
  | _ => cases h
theorem words_len {ds : List PyData} (h : ∀ d ∈ ds, partB d = true) : (wordsS ds).length ≤ 11 * ds.length := by
  obtain ⟨j, _⟩ := join_len " " (ds.map partS) (L := 10) fun y hy => by
    obtain ⟨d, hd, rfl⟩ := List.mem_map.mp hy
    exact part_len (h d hd)
  rw [List.length_map, show (" " : Str).length = 1 by decide +kernel] at j
  exact j
section
variable {X : Cx}
theorem callR_or {f : Value} {r r' : List V → Hp → VK → Prop} (h : CallR X f r) (h' : CallR X f r') : CallR X f (fun xs H Q => r xs H Q ∨ r' xs H Q) := by
  intro pins s σ H xs us Q I rx q
  rcases q with q | q
  · exact h pins s σ H xs us Q I rx q
  · exact h' pins s σ H xs us Q I rx q
end
def strR : List V → Hp → VK → Prop := fun xs H Q => (∃ i : Int, xs = [.int i] ∧ i.natAbs.log2 < 1920 ∧ Q (.str (toString i)) H) ∨ (∃ a, xs = [.str a] ∧ Q (.str a) H)
theorem call_strA {X : Cx} : CallR X (.type "str") strR := callR_or call_str_int SkE.call_str_str
theorem strR_part {K : PySem.W.Frag} {H : Hp} {v : V} {d : PyData} {Q : VK} (hd : Dp K H v d) (h : partB d = true) (q : Q (.str (partS d)) H) : strR [v] H Q := by
  cases d with
  | int i =>
    cases hd
    have h := of_decide_eq_true (show decide (-9999 ≤ i ∧ i ≤ 9999) = true from h)
    exact .inl ⟨i, rfl, log_ok (by omega), q⟩
  | str z =>
    cases hd
    exact .inr ⟨z, rfl, q⟩
  | _ => cases h
theorem cb1 {r : List V → Hp → VK → Prop} {te : TE} {σ : L2.St} {H : Hp} {Q : VK} (h : te σ H fun x H1 => r [x] H1 Q) : tCB r (tCons te tNil) σ H Q := h
section
open PySem.Spec PyProof.Rows LamX
variable {P : Program} {w : World} {K : PySem.W.Frag} {mg : Str → Option Value} {base : Heap} {f : Addr} {fd : FuncData}
/-! words_text -/
def spWordsT (K : PySem.W.Frag) : Sp := fun vs H Q _ => ∃ (x : V) (ds : List PyData), vs = [x] ∧ Dp K H x (.tuple ds) ∧ ds.length ≤ 60 ∧ (∀ d ∈ ds, partB d = true) ∧ ∀ H', Same H H' → Q (.str (wordsS ds)) H'
def spWordsL (K : PySem.W.Frag) : Sp := fun vs H Q _ => ∃ (x : V) (ds : List PyData), vs = [x] ∧ Dp K H x (.list ds) ∧ ds.length ≤ 60 ∧ (∀ d ∈ ds, partB d = true) ∧ ∀ H', Same H H' → Q (.str (wordsS ds)) H'
theorem scWords : FnScope ["parts", "part"] ["parts"] (defScope sWordsText) := ⟨rfl, rfl, rfl, by decide +kernel, rfl, by decide +kernel, by decide +kernel⟩
theorem words_end {ds : List PyData} (ld : ds.length ≤ 60) (h : ∀ d ∈ ds, partB d = true) : ((ds.map partS).map (·.length)).sum + (ds.map partS).length * (" " : Str).length ≤ 16777216 := by
  obtain ⟨_, j⟩ := join_len " " (ds.map partS) (L := 10) fun y hy => by
    obtain ⟨d, hd, rfl⟩ := List.mem_map.mp hy
    exact part_len (h d hd)
  rw [show (" " : Str).length = 1 by decide +kernel] at j ⊢
  rw [List.length_map] at j ⊢
  omega
theorem ok_wordsT {k : Nat} (F : Fun K "words_text" "words_text" sWordsText f fd) (hS : mg "str" = none) : FnOk P w K mg base CX0 (k + 1) f fd ["parts"] (spWordsT K) := by
  refine F.ok scWords (fun vs H Q E h => ?_) (fun cdv A outer s H vs Q E hr h => ?_)
  · obtain ⟨x, ds, rfl, _⟩ := h
    rfl
  obtain ⟨x, ds, rfl, hx, l60, hp, q⟩ := h
  refine ⟨_, pss_one (ps_ret (pe_bm PySem.F.plainAttrs_str PySem.F.slot_str_join PySem.F.type_str_join mt_join pe_str (pa_cons
      (pe_lc (own := [("part", 1)]) (g := gName 1) (tt := tYes) (te := tCB strR (tCons (tVar 1) tNil)) rfl scWords.nd (pi_tup (pv 0))
        (blkOk_by (own := [("part", 1)]) (N := ["parts", "part"]) (sc := defScope sWordsText) (by decide +kernel))
        (fun _ _ _ _ _ => pg_name (i := 1) scWords.nd rfl (Or.inl rfl)) (fun _ _ _ _ _ => pts_nil) (fun _ _ _ _ _ => pe_callTy call_strA rfl hS (by decide +kernel) (pa_cons (pv 1) pa_nil))) pa_nil))), ?_⟩
  cases hx with
  | @tup a xs _ at_ each =>
  have lx := dpAll_len each
  refine ⟨rfl, _, rfl, a, rfl, ⟨xs, at_⟩, fun D hD => ?_⟩
  refine lc_tup (xs := xs) (fun i G => Same H G ∧ G D = some (.lst (((ds.take i).map partS).map V.str))) ⟨same_new hD _, by rw [upd_same]; rfl⟩ (fun i G _ h => sqT_same h.1 at_) (fun i v G hv h => ?_) (fun G h => ?_)
  · obtain ⟨sG, gD⟩ := h
    obtain ⟨d, hd, hdv⟩ := dpAll_get' (dps_same sG each) hv
    have il := (List.getElem?_eq_some_iff.mp hd).1
    refine ⟨rfl, yesG (cb1 ⟨_, rfl, strR_part hdv (hp d (List.mem_of_getElem? hd)) ?_⟩)⟩
    refine ⟨_, gD, ?_, same_upd2 sG hD, ?_⟩
    · rw [List.length_map, List.length_map, List.length_take]
      exact Nat.lt_of_lt_of_le (show _ < 1000 by omega) (small (Nat.le_refl _))
    · rw [upd_same, take_more hd, List.map_append, List.map_append]
      rfl
  · obtain ⟨sG, gD⟩ := h
    rw [lx, List.take_length] at gD
    exact ⟨" ", D, ds.map partS, rfl, rfl, .inl (SqL.of gD), words_end l60 hp, q G sG⟩
theorem ok_wordsL {k : Nat} (F : Fun K "words_text" "words_text" sWordsText f fd) (hS : mg "str" = none) : FnOk P w K mg base CX0 (k + 1) f fd ["parts"] (spWordsL K) := by
  refine F.ok scWords (fun vs H Q E h => ?_) (fun cdv A outer s H vs Q E hr h => ?_)
  · obtain ⟨x, ds, rfl, _⟩ := h
    rfl
  obtain ⟨x, ds, rfl, hx, l60, hp, q⟩ := h
  refine ⟨_, pss_one (ps_ret (pe_bm PySem.F.plainAttrs_str PySem.F.slot_str_join PySem.F.type_str_join mt_join pe_str (pa_cons
      (pe_lc (own := [("part", 1)]) (g := gName 1) (tt := tYes) (te := tCB strR (tCons (tVar 1) tNil)) rfl scWords.nd (pi_list (pv 0))
        (blkOk_by (own := [("part", 1)]) (N := ["parts", "part"]) (sc := defScope sWordsText) (by decide +kernel))
        (fun _ _ _ _ _ => pg_name (i := 1) scWords.nd rfl (Or.inl rfl)) (fun _ _ _ _ _ => pts_nil) (fun _ _ _ _ _ => pe_callTy call_strA rfl hS (by decide +kernel) (pa_cons (pv 1) pa_nil))) pa_nil))), ?_⟩
  cases hx with
  | @lst a xs _ at_ each =>
  have lx := dpAll_len each
  refine ⟨rfl, _, rfl, a, rfl, ⟨xs, at_⟩, fun D hD => ?_⟩
  refine lc_list (xs := xs) (fun i G => Same H G ∧ G D = some (.lst (((ds.take i).map partS).map V.str))) ⟨same_new hD _, by rw [upd_same]; rfl⟩ (fun i G _ h => h.1.seq at_) (fun i v G hv h => ?_) (fun G h => ?_)
  · obtain ⟨sG, gD⟩ := h
    obtain ⟨d, hd, hdv⟩ := dpAll_get' (dps_same sG each) hv
    have il := (List.getElem?_eq_some_iff.mp hd).1
    refine ⟨rfl, yesG (cb1 ⟨_, rfl, strR_part hdv (hp d (List.mem_of_getElem? hd)) ?_⟩)⟩
    refine ⟨_, gD, ?_, same_upd2 sG hD, ?_⟩
    · rw [List.length_map, List.length_map, List.length_take]
      exact Nat.lt_of_lt_of_le (show _ < 1000 by omega) (small (Nat.le_refl _))
    · rw [upd_same, take_more hd, List.map_append, List.map_append]
      rfl
  · obtain ⟨sG, gD⟩ := h
    rw [lx, List.take_length] at gD
    exact ⟨" ", D, ds.map partS, rfl, rfl, .inl (SqL.of gD), words_end l60 hp, q G sG⟩
end
/-! what a deed's parts are, as words -/
def signB (c : Nat) : Bool := decide (33 ≤ c) && decide (c < 128)
/-- a word that is no number -/
def WordOk (z : Str) : Prop := z.length ≤ 10 ∧ (∃ c l, z.cps.toList = c :: l) ∧ z.cps.toList.all signB = true ∧ wfD 5 z = none
def PartOk (d : PyData) : Prop := (∃ i : Int, d = .int i ∧ -9999 ≤ i ∧ i ≤ 9999) ∨ ∃ z, d = .str z ∧ WordOk z
theorem PartOk.b {d : PyData} (h : PartOk d) : partB d = true := by
  rcases h with ⟨i, rfl, h⟩ | ⟨z, rfl, h⟩
  · exact decide_eq_true h
  · exact decide_eq_true h.1
theorem wf_none {m : Int} {z : Str} {c : Nat} {l : List Nat} (h : z.cps.toList = c :: l) (h1 : c ≠ 45) (h2 : digB c = false) : wfD m z = none := by
  unfold wfD
  rw [if_neg]
  intro q
  rw [h] at q
  have e : figs (c :: l) = c :: l := by
    unfold figs
    split
    · rename_i e
      exact absurd (List.cons.inj e).1 h1
    · rfl
  rw [e, List.all_cons, h2] at q
  cases q.2.2
theorem len_tlz (z : Str) : z.cps.toList.length = z.length := by simp [Str.length]
theorem small_sign {c : Nat} (h : smallB c = true) : signB c = true ∧ c ≠ 45 ∧ digB c = false := by
  unfold smallB at h
  have h := and3 h
  have h1 := of_decide_eq_true h.1
  have h2 := of_decide_eq_true h.2
  refine ⟨?_, by omega, ?_⟩
  · unfold signB
    rw [decide_eq_true (by omega), decide_eq_true (by omega)]
    rfl
  · unfold digB
    rw [decide_eq_false (show ¬ c ≤ 57 by omega), Bool.and_false]
theorem big_sign {c : Nat} (h : bigB c = true) : signB c = true ∧ c ≠ 45 ∧ digB c = false := by
  unfold bigB at h
  have h := and3 h
  have h1 := of_decide_eq_true h.1
  have h2 := of_decide_eq_true h.2
  refine ⟨?_, by omega, ?_⟩
  · unfold signB
    rw [decide_eq_true (by omega), decide_eq_true (by omega)]
    rfl
  · unfold digB
    rw [decide_eq_false (show ¬ c ≤ 57 by omega), Bool.and_false]
theorem cons_of {z : Str} (h : 1 ≤ z.length) : ∃ c l, z.cps.toList = c :: l := by
  have := len_tlz z
  cases e : z.cps.toList with
  | nil => rw [e] at this; exact absurd this (by show ¬ (0 = _); omega)
  | cons c l => exact ⟨c, l, rfl⟩
theorem num_word {d : PyData} (h : numNameD d = true) : ∃ z, d = .str z ∧ WordOk z ∧ z.length ≤ 6 := by
  cases d with
  | str z =>
    have h := and3 (show (decide (1 ≤ z.length) && decide (z.length ≤ 6) && areSmall z) = true from h)
    have h1 := and3 h.1
    have l1 := of_decide_eq_true h1.1
    have l6 := of_decide_eq_true h1.2
    have hs : z.cps.toList.all smallB = true := h.2
    obtain ⟨c, l, e⟩ := cons_of l1
    have hc := List.all_eq_true.mp hs c (by rw [e]; exact List.mem_cons_self)
    refine ⟨z, rfl, ⟨by omega, ⟨c, l, e⟩, List.all_eq_true.mpr fun d hd => (small_sign (List.all_eq_true.mp hs d hd)).1, wf_none e (small_sign hc).2.1 (small_sign hc).2.2⟩, l6⟩
  | _ => cases h
theorem graph_word {d : PyData} (h : graphNameD d = true) : ∃ z, d = .str z ∧ WordOk z ∧ z.length ≤ 6 := by
  cases d with
  | str z =>
    have h := and3 (show (decide (1 ≤ z.length) && decide (z.length ≤ 6) && (bigB (z.cps.toList.headD 0) && areSmall (cutS z (some 1) none))) = true from h)
    have h1 := and3 h.1
    have l1 := of_decide_eq_true h1.1
    have l6 := of_decide_eq_true h1.2
    have h2 := and3 h.2
    obtain ⟨c, l, e⟩ := cons_of l1
    have hc : bigB c = true := by have := h2.1; rw [e] at this; exact this
    have hl : l.all smallB = true := by
      have hs : (cutS z (some 1) none).cps.toList.all smallB = true := h2.2
      unfold cutS at hs
      rw [HT.sIx_none, show (1 : Int) = ((1 : Nat) : Int) from rfl, HT.sIx_nat, Nat.min_eq_left l1, e] at hs
      have hl : (c :: l).length = z.length := by rw [← e]; exact len_tlz z
      rw [List.length_cons] at hl
      have e2 : (((c :: l).drop 1).take (z.length - 1)) = l := by
        rw [List.drop_succ_cons, List.drop_zero, List.take_of_length_le (by omega)]
      rw [e2] at hs
      exact hs
    refine ⟨z, rfl, ⟨by omega, ⟨c, l, e⟩, ?_, wf_none e (big_sign hc).2.1 (big_sign hc).2.2⟩, l6⟩
    rw [e, List.all_cons, (big_sign hc).1, Bool.true_and]
    exact List.all_eq_true.mpr fun d hd => (small_sign (List.all_eq_true.mp hl d hd)).1
  | _ => cases h
theorem signs_word : ∀ z ∈ signs, WordOk z := by
  intro z hz
  have q : ∀ x : Str, (decide (x.length ≤ 10) && (!x.cps.toList.isEmpty && (x.cps.toList.all signB && (wfD 5 x).isNone))) = true → WordOk x := fun x h => by
    have h := and3 h
    have h2 := and3 h.2
    have h3 := and3 h2.2
    refine ⟨of_decide_eq_true h.1, ?_, h3.1, Option.isNone_iff_eq_none.mp h3.2⟩
    cases e : x.cps.toList with
    | nil => rw [e] at h2; cases h2.1
    | cons c l => exact ⟨c, l, rfl⟩
  unfold signs at hz
  simp only [List.mem_cons, List.not_mem_nil, or_false] at hz
  rcases hz with rfl | rfl | rfl | rfl | rfl <;> exact q _ (by decide +kernel)
theorem key_word {z : Str} (h : (deedK z).isSome = true ∨ z ∈ brL) : WordOk z ∧ z ≠ "else" ∧ z ≠ "actor" ∧ z.length ≤ 5 := by
  have q : ∀ x : Str, (decide (x.length ≤ 5) && (!x.cps.toList.isEmpty && (x.cps.toList.all signB && ((wfD 5 x).isNone && (decide (x ≠ "else") && decide (x ≠ "actor")))))) = true → WordOk x ∧ x ≠ "else" ∧ x ≠ "actor" ∧ x.length ≤ 5 := fun x h => by
    have h := and3 h
    have h2 := and3 h.2
    have h3 := and3 h2.2
    have h4 := and3 h3.2
    have h5 := and3 h4.2
    have l5 := of_decide_eq_true h.1
    refine ⟨⟨by omega, ?_, h3.1, Option.isNone_iff_eq_none.mp h4.1⟩, of_decide_eq_true h5.1, of_decide_eq_true h5.2, l5⟩
    cases e : x.cps.toList with
    | nil => rw [e] at h2; cases h2.1
    | cons c l => exact ⟨c, l, rfl⟩
  rcases h with h | h
  · obtain ⟨ks, hk⟩ := Option.isSome_iff_exists.mp h
    have m := lookup_mem (show deedL.lookup z = some ks from hk)
    have all : deedL.all (fun p => decide (p.1.length ≤ 5) && (!p.1.cps.toList.isEmpty && (p.1.cps.toList.all signB && ((wfD 5 p.1).isNone && (decide (p.1 ≠ "else") && decide (p.1 ≠ "actor")))))) = true := by decide +kernel
    exact q z (List.all_eq_true.mp all (z, ks) m)
  · unfold brL at h
    simp only [List.mem_cons, List.not_mem_nil, or_false] at h
    rcases h with rfl | rfl <;> exact q _ (by decide +kernel)
theorem fit_part {ss ts : List Int} (hs : ∀ i ∈ ss, i.natAbs < 10000) (ht : ∀ i ∈ ts, i.natAbs < 10000) {k : Kd} {d : PyData} (h : fitD ss ts k d = true) : PartOk d := by
  have within : ∀ lo hi : Int, -9999 ≤ lo → hi ≤ 9999 → withinD lo hi d = true → PartOk d := fun lo hi h1 h2 h => by
    cases d with
    | int i =>
      have h := and3 (show (decide (lo ≤ i) && decide (i ≤ hi)) = true from h)
      have a := of_decide_eq_true h.1
      have b := of_decide_eq_true h.2
      exact .inl ⟨i, rfl, by omega, by omega⟩
    | _ => cases h
  have inn : ∀ ns : List Int, (∀ i ∈ ns, i.natAbs < 10000) → intIn ns d = true → PartOk d := fun ns hn h => by
    cases d with
    | int i =>
      have := hn i (of_decide_eq_true (show decide (i ∈ ns) = true from h))
      exact .inl ⟨i, rfl, by omega, by omega⟩
    | _ => cases h
  cases k with
  | name => obtain ⟨z, rfl, hz, _⟩ := num_word h; exact .inr ⟨z, rfl, hz⟩
  | graph => obtain ⟨z, rfl, hz, _⟩ := graph_word h; exact .inr ⟨z, rfl, hz⟩
  | number => exact within _ _ (by decide) (by decide) h
  | place => exact within _ _ (by decide) (by decide) h
  | sign =>
    obtain ⟨z, hz, hd⟩ := List.any_eq_true.mp (show (signs.any fun z => isStrD z d) = true from h)
    cases d with
    | str y =>
      have e : y = z := by
        unfold isStrD at hd
        first | exact of_decide_eq_true hd | exact eq_of_beq hd | exact (of_decide_eq_true hd).symm
      subst e
      exact .inr ⟨y, rfl, signs_word y hz⟩
    | _ => cases hd
  | into => exact inn ss hs h
  | out => exact inn ts ht h
theorem fits_part {ss ts : List Int} (hs : ∀ i ∈ ss, i.natAbs < 10000) (ht : ∀ i ∈ ts, i.natAbs < 10000) : ∀ {ks : List Kd} {ds : List PyData}, ds.length = ks.length → fitsAll ss ts ks ds = true → ∀ d ∈ ds, PartOk d
  | [], [], _, _ => fun d h => by cases h
  | k :: ks, d :: ds, hl, h => by
    have h := and3 (show (fitD ss ts k d && fitsAll ss ts ks ds) = true from h)
    intro e he
    rcases List.mem_cons.mp he with rfl | he
    · exact fit_part hs ht h.1
    · exact fits_part hs ht (by simpa using hl) h.2 e he
theorem deed_parts {ss ts : List Int} (hs : ∀ i ∈ ss, i.natAbs < 10000) (ht : ∀ i ∈ ts, i.natAbs < 10000) {d : PyData} (h : deedD ss ts d = true) : ∃ z ds, d = .tuple (.str z :: ds) ∧ (deedK z).isSome = true ∧ ds.length ≤ 4 ∧ ∀ e ∈ (PyData.str z :: ds), PartOk e := by
  unfold deedD at h
  split at h
  · rename_i z ds
    unfold deedB at h
    split at h
    · cases h
    · rename_i ks hk
      have h := and3 h
      have hl := of_decide_eq_true h.1
      have q := List.all_eq_true.mp deedL_ok (z, ks) (lookup_mem hk)
      simp only [Bool.and_eq_true, decide_eq_true_eq] at q
      have hz : (deedK z).isSome = true := by rw [hk]; rfl
      refine ⟨z, ds, rfl, hz, by omega, fun e he => ?_⟩
      rcases List.mem_cons.mp he with rfl | he
      · exact .inr ⟨z, rfl, (key_word (.inl hz)).1⟩
      · exact fits_part hs ht hl (and3 h.2).1 e he
  · cases h
theorem sumM_take {m : PyData → Nat} : ∀ (l : List PyData) (n : Nat), sumM m (l.take n) ≤ sumM m l
  | [], n => by cases n <;> exact Nat.le_refl _
  | d :: l, 0 => Nat.zero_le _
  | d :: l, n + 1 => by
    have := sumM_take (m := m) l n
    show m d + sumM m (l.take n) ≤ m d + sumM m l
    omega
/-! statement_rows, block_rows -/
def IB (ss : List Int) : Prop := ∀ i ∈ ss, i.natAbs < 10000
theorem wr_len (fb : Nat → PyData → List Str) {mb : PyData → Nat} {ss ts : List Int} {bl : PyData → Bool} (hf : ∀ x k, bl x = true → (fb k x).length ≤ 2 * mb x) {d : PyData} {k : Nat} (h : lstB ss ts bl d = true) : (wrS fb k d).length ≤ 2 * manyS mb d := by
  rcases st_cases h with ⟨_, nb, z, ds, rfl, hz⟩ | ⟨nm, x, y, rfl, _, hx, hy, hb⟩ | ⟨nm, x, rfl, _, hx, hb⟩
  · rw [wrS_deed hz, manyS_deed nb]
    show 1 ≤ 2 * 1
    decide
  · rw [wrS_if, manyS_if hb, List.length_cons, List.length_append, List.length_cons]
    have := hf x (k + 1) hx
    have := hf y (k + 1) hy
    omega
  · rw [wrS_wh, manyS_wh hb, List.length_cons]
    have := hf x (k + 1) hx
    omega
theorem wrN_len {ss ts : List Int} : ∀ (n : Nat) {k : Nat} {d : PyData}, lblk ss ts n d = true → (wrN n k d).length ≤ 2 * manyN n d
  | 0, k, d, h => by cases d <;> cases h
  | n + 1, k, d, h => by
    cases d with
    | tuple ds =>
      have hl := (and3 (show (decide (ds.length ≤ 12) && ds.all (lstB ss ts (lblk ss ts n))) = true from h)).2
      have aux : ∀ l : List PyData, l.all (lstB ss ts (lblk ss ts n)) = true → (l.flatMap (wrS (wrN n) k)).length ≤ 2 * sumM (manyS (manyN n)) l := fun l => by
        induction l with
        | nil => intro _; exact Nat.zero_le _
        | cons a l il =>
          intro hl
          rw [List.all_cons] at hl
          have h1 := wr_len (wrN n) (mb := manyN n) (k := k) (fun x k hx => wrN_len n hx) (and3 hl).1
          have h2 := il (and3 hl).2
          rw [List.flatMap_cons, List.length_append]
          show _ ≤ 2 * (manyS (manyN n) a + sumM (manyS (manyN n)) l)
          omega
      exact aux ds hl
    | _ => cases h
section
open PySem.Spec PyProof.Rows LamX
variable {P : Program} {w : World} {K : PySem.W.Frag} {mg : Str → Option Value} {base : Heap} {f : Addr} {fd : FuncData}
def spStR (K : PySem.W.Frag) (n : Nat) : Sp := fun vs H Q _ => ∃ (x : V) (d : PyData) (k : Nat) (ss ts : List Int), vs = [x, .str (blS k)] ∧ Dp K H x d ∧ lstB ss ts (lblk ss ts n) d = true ∧ IB ss ∧ IB ts ∧ k + n < 8 ∧ manyS (manyN n) d ≤ 40 ∧ ∀ R H', Same H H' → H R = none → H' R = some (.lst ((wrS (wrN n) k d).map V.str)) → Q (.ref R) H'
def spBlR (K : PySem.W.Frag) (n : Nat) : Sp := fun vs H Q _ => ∃ (x : V) (d : PyData) (k : Nat) (ss ts : List Int), vs = [x, .str (blS k)] ∧ Dp K H x d ∧ lblk ss ts n d = true ∧ IB ss ∧ IB ts ∧ k + n ≤ 8 ∧ manyN n d ≤ 40 ∧ ∀ R H', Same H H' → H R = none → H' R = some (.lst ((wrN n k d).map V.str)) → Q (.ref R) H'
theorem scStR : FnScope ["statement", "ahead", "rows"] ["statement", "ahead"] (defScope sStRows) := ⟨rfl, rfl, rfl, by decide +kernel, rfl, by decide +kernel, by decide +kernel⟩
theorem ok_stR {k n : Nat} {bt : Addr} (F : Fun K "statement_rows" "statement_rows" sStRows f fd) (hB : mg "BRANCHES" = some (.ref bt)) (BT : BranchT K w bt) (hI : ∃ t, mg "INDENT" = some (.str "  " t))
    (cW : Cal P w K mg base "words_text" k ["parts"] (spWordsT K)) (cB : Cal P w K mg base "block_rows" k ["block", "ahead"] (spBlR K n)) : FnOk P w K mg base CX0 (k + 1) f fd ["statement", "ahead"] (spStR K n) := by
  refine F.ok scStR (fun vs H Q E h => ?_) (fun cdv A outer s H vs Q E hr h => ?_)
  · obtain ⟨x, d, k, ss, ts, rfl, _⟩ := h
    rfl
  obtain ⟨x, d, lv, ss, ts, rfl, hx, hd, hss, hts, lv8, m40, q⟩ := h
  obtain ⟨es, nn, KD⟩ := BT.kd
  obtain ⟨tI, hI⟩ := hI
  have bl := bl_len lv
  have o4 : ("else" : Str).length = 4 := by decide +kernel
  have o2 : ("  " : Str).length = 2 := by decide +kernel
  have sl : (16777216 : Nat) = sizeLine := rfl
  refine ⟨_, pss_cons (ps_if (pt_cmpR (op_notIn_kd KD) (pe_ix ix_tup (pv 0) pe_int (fun _ _ => rfl)) (pe_glob (v := .ref bt) rfl hB rfl) rfl) (pss_one (ps_ret (pe_lst (pa_cons (pe_op op_add_str (pv 1) (pe_cal cW hr rfl (pa_cons (pv 0) pa_nil))) pa_nil)))) pss_nil)
    (pss_cons (ps_set (i := 2) scStR.nd rfl (.inl rfl) (pe_op op_cat (pe_lst (pa_cons (pe_op op_add_str (pv 1) (pe_cal cW hr rfl (pa_cons (pe_slice sl_tupA (pv 0) po_none (po_some pe_int)) pa_nil))) pa_nil)) (pe_cal cB hr rfl (pa_cons (pe_ix ix_tup (pv 0) pe_int (fun _ _ => rfl)) (pa_cons (pe_op op_add_str (pv 1) (pe_glob (v := .str "  ") rfl hI ⟨_, rfl⟩)) pa_nil)))))
    (pss_cons (ps_if (pt_cmpR op_eq (pe_ix ix_tup (pv 0) pe_int (fun _ _ => rfl)) pe_str (nomark _)) (pss_one (ps_aug (i := 2) scStR.nd rfl (.inl rfl) (pe_op op_cat (pe_lst (pa_cons (pe_op op_add_str (pv 1) pe_str) pa_nil)) (pe_cal cB hr rfl (pa_cons (pe_ix ix_tup (pv 0) pe_int (fun _ _ => rfl)) (pa_cons (pe_op op_add_str (pv 1) (pe_glob (v := .str "  ") rfl hI ⟨_, rfl⟩)) pa_nil)))) iop_ext)) pss_nil)
    (pss_one (ps_ret (pv 2))))), ?_⟩
  have wl := wr_len (wrN n) (mb := manyN n) (k := lv) (fun x k hx => wrN_len n hx) hd
  rcases st_cases hd with ⟨hde, nb, z, ds, rfl, hz⟩ | ⟨nm, bx, cy, rfl, hn, lx, ly, hb⟩ | ⟨nm, bx, rfl, hn, lx, hb⟩
  · obtain ⟨z', ds', e, _, l4, hp⟩ := deed_parts hss hts hde
    cases e
    have hbk : brK z = none := by
      cases h : brK z with
      | none => rfl
      | some m =>
        refine absurd ?_ hz
        rcases br_cases h with ⟨rfl, _⟩ | ⟨rfl, _⟩ <;> decide +kernel
    have hx' := hx
    cases hx with
    | @tup da zs _ dat deach =>
    cases deach with
    | @cons u us _ _ d1 d2 =>
    cases d1
    refine ⟨_, rfl, da, _, 0, _, rfl, rfl, dat, atI_at (by decide) rfl, z, none, rfl, rfl, BT.no _ hbk, _, rfl, ifT rfl ?_⟩
    have wo := words_len (ds := .str z :: ds) fun d hd => (hp d hd).b
    rw [List.length_cons] at wo
    refine ⟨_, rfl, _, rfl, .ref da, _, rfl, hx', by rw [List.length_cons]; omega, fun d hd => (hp d hd).b, fun H' s' => ⟨_, _, rfl, rfl, by omega, by show 1 ≤ sizeLine; decide, fun R hR => ?_⟩⟩
    refine q R _ (s'.trans (same_new hR _)) (none_of_same s' hR) ?_
    rw [upd_same, wrS_deed hz]
    rfl
  · have hx' := hx
    cases hx with
    | @tup da zs _ dat deach =>
    cases deach with
    | @cons u us _ _ d1 r1 =>
    cases d1
    cases r1 with
    | @cons nv _ _ _ d2 r2 =>
    cases r2 with
    | @cons xv _ _ _ d3 r3 =>
    cases r3 with
    | @cons yv _ _ _ d4 r4 =>
    cases r4
    obtain ⟨tb, hbr⟩ := BT.yes "if" 2 (by decide +kernel)
    refine ⟨_, rfl, da, _, 0, _, rfl, rfl, dat, atI_at (by decide) rfl, "if", some (.int (2 : Nat) tb), rfl, rfl, hbr, _, rfl, ifF rfl ?_⟩
    obtain ⟨nz, rfl, nw, _⟩ := num_word hn
    have hp2 : ∀ d ∈ [PyData.str "if", .str nz], PartOk d := fun d hd => by
      rcases List.mem_cons.mp hd with rfl | hd
      · exact .inr ⟨_, rfl, (key_word (.inr (by decide +kernel))).1⟩
      · rw [List.mem_singleton.mp hd]
        exact .inr ⟨_, rfl, nw⟩
    have wo := words_len fun d hd => (hp2 d hd).b
    rw [manyS_if hb] at m40 wl
    have l1 := wrN_len n (k := lv + 1) lx
    have l2 := wrN_len n (k := lv + 1) ly
    have wo : (wordsS [PyData.str "if", .str nz]).length ≤ 22 := wo
    refine ⟨_, rfl, _, rfl, _, rfl, slA_run dat fun r H1 s1 hr1 => ?_⟩
    have hr1 : SqT K H1 r [.str "if", nv] := hr1
    refine ⟨.ref r, _, rfl, .tup hr1 (.cons (.str _) (.cons (dp_same s1 d2) .nil)), by show 2 ≤ 60; decide, fun d hd => (hp2 d hd).b, fun H2 s2 => ⟨_, _, rfl, rfl, by omega, by show 1 ≤ sizeLine; decide, fun L1 hL1 => ?_⟩⟩
    have sL := same_new hL1 (.lst [.str (blS lv ++ wordsS [PyData.str "if", .str nz])])
    have s03 := (s1.trans s2).trans sL
    refine ⟨_, rfl, da, _, 2, xv, rfl, rfl, sqT_same s03 dat, atI_at (by decide) rfl, _, rfl, _, _, rfl, rfl, by omega, xv, bx, lv + 1, ss, ts, rfl, dp_same s03 d3, lx, hss, hts, by omega, by omega, fun R1 H4 s4 hR1 gR1 => ?_⟩
    refine ⟨L1, R1, _, _, rfl, rfl, s4 _ _ upd_same, gR1, ?_, fun R hR => ?_⟩
    · rw [List.length_map]
      exact small (by show 1 + _ ≤ 1000; omega)
    have sR := same_new hR (.lst ([V.str (blS lv ++ wordsS [PyData.str "if", .str nz])] ++ (wrN n (lv + 1) bx).map V.str))
    have s05 := (s03.trans s4).trans sR
    refine ⟨_, rfl, da, _, 0, _, rfl, rfl, sqT_same s05 dat, atI_at (by decide) rfl, rfl, _, rfl, ifT (decide_eq_true rfl) ?_⟩
    refine ⟨_, rfl, _, rfl, _, _, rfl, rfl, by omega, by show 1 ≤ sizeLine; decide, fun L2_ hL2 => ?_⟩
    have sL2 := same_new hL2 (.lst [V.str (blS lv ++ "else")])
    have s06 := s05.trans sL2
    refine ⟨_, rfl, da, _, 3, yv, rfl, rfl, sqT_same s06 dat, atI_at (by decide) rfl, _, rfl, _, _, rfl, rfl, by omega, yv, cy, lv + 1, ss, ts, rfl, dp_same s06 d4, ly, hss, hts, by omega, by omega, fun R2 H7 s7 hR2 gR2 => ?_⟩
    refine ⟨L2_, R2, _, _, rfl, rfl, s7 _ _ upd_same, gR2, ?_, fun R3 hR3 => ?_⟩
    · rw [List.length_map]
      exact small (by show 1 + _ ≤ 1000; omega)
    have sR3 := same_new hR3 (.lst ([V.str (blS lv ++ "else")] ++ (wrN n (lv + 1) cy).map V.str))
    have gR : _ = some (HO.lst ([V.str (blS lv ++ wordsS [PyData.str "if", .str nz])] ++ (wrN n (lv + 1) bx).map V.str)) := (sL2.trans (s7.trans sR3)) R _ upd_same
    refine ⟨R, R3, _, _, rfl, rfl, gR, upd_same, ?_, ?_⟩
    · rw [List.length_append, List.length_append, List.length_map, List.length_map]
      exact small (by show 1 + _ + (1 + _) ≤ 1000; omega)
    refine ⟨_, rfl, ?_⟩
    have nR : H R = none := none_of_same (s03.trans s4) hR
    refine q R _ (fun b u hb => ?_) nR ?_
    · rw [upd_ne (ne_of_none hb nR)]
      exact (s06.trans (s7.trans sR3)) _ _ hb
    · rw [upd_same, wrS_if]
      simp
  · have hx' := hx
    cases hx with
    | @tup da zs _ dat deach =>
    cases deach with
    | @cons u us _ _ d1 r1 =>
    cases d1
    cases r1 with
    | @cons nv _ _ _ d2 r2 =>
    cases r2 with
    | @cons xv _ _ _ d3 r3 =>
    cases r3
    obtain ⟨tb, hbr⟩ := BT.yes "while" 1 (by decide +kernel)
    refine ⟨_, rfl, da, _, 0, _, rfl, rfl, dat, atI_at (by decide) rfl, "while", some (.int (1 : Nat) tb), rfl, rfl, hbr, _, rfl, ifF rfl ?_⟩
    obtain ⟨nz, rfl, nw, _⟩ := num_word hn
    have hp2 : ∀ d ∈ [PyData.str "while", .str nz], PartOk d := fun d hd => by
      rcases List.mem_cons.mp hd with rfl | hd
      · exact .inr ⟨_, rfl, (key_word (.inr (by decide +kernel))).1⟩
      · rw [List.mem_singleton.mp hd]
        exact .inr ⟨_, rfl, nw⟩
    have wo := words_len fun d hd => (hp2 d hd).b
    rw [manyS_wh hb] at m40 wl
    have l1 := wrN_len n (k := lv + 1) lx
    have wo : (wordsS [PyData.str "while", .str nz]).length ≤ 22 := wo
    refine ⟨_, rfl, _, rfl, _, rfl, slA_run dat fun r H1 s1 hr1 => ?_⟩
    have hr1 : SqT K H1 r [.str "while", nv] := hr1
    refine ⟨.ref r, _, rfl, .tup hr1 (.cons (.str _) (.cons (dp_same s1 d2) .nil)), by show 2 ≤ 60; decide, fun d hd => (hp2 d hd).b, fun H2 s2 => ⟨_, _, rfl, rfl, by omega, by show 1 ≤ sizeLine; decide, fun L1 hL1 => ?_⟩⟩
    have sL := same_new hL1 (.lst [.str (blS lv ++ wordsS [PyData.str "while", .str nz])])
    have s03 := (s1.trans s2).trans sL
    refine ⟨_, rfl, da, _, 2, xv, rfl, rfl, sqT_same s03 dat, atI_at (by decide) rfl, _, rfl, _, _, rfl, rfl, by omega, xv, bx, lv + 1, ss, ts, rfl, dp_same s03 d3, lx, hss, hts, by omega, by omega, fun R1 H4 s4 hR1 gR1 => ?_⟩
    refine ⟨L1, R1, _, _, rfl, rfl, s4 _ _ upd_same, gR1, ?_, fun R hR => ?_⟩
    · rw [List.length_map]
      exact small (by show 1 + _ ≤ 1000; omega)
    have sR := same_new hR (.lst ([V.str (blS lv ++ wordsS [PyData.str "while", .str nz])] ++ (wrN n (lv + 1) bx).map V.str))
    have s05 := (s03.trans s4).trans sR
    refine ⟨_, rfl, da, _, 0, _, rfl, rfl, sqT_same s05 dat, atI_at (by decide) rfl, rfl, _, rfl, ifF (by decide +kernel) ⟨_, rfl, ?_⟩⟩
    refine q R _ s05 (none_of_same (s03.trans s4) hR) ?_
    rw [upd_same, wrS_wh]
    rfl
theorem scBlR : FnScope ["block", "ahead", "rows", "statement"] ["block", "ahead"] (defScope sBlRows) := ⟨rfl, rfl, rfl, by decide +kernel, rfl, by decide +kernel, by decide +kernel⟩
theorem ok_blR {k n : Nat} (F : Fun K "block_rows" "block_rows" sBlRows f fd) (cS : Cal P w K mg base "statement_rows" k ["statement", "ahead"] (spStR K n)) : FnOk P w K mg base CX0 (k + 1) f fd ["block", "ahead"] (spBlR K (n + 1)) := by
  refine F.ok scBlR (fun vs H Q E h => ?_) (fun cdv A outer s H vs Q E hr h => ?_)
  · obtain ⟨x, d, k, ss, ts, rfl, _⟩ := h
    rfl
  obtain ⟨x, d, lv, ss, ts, rfl, hx, hd, hss, hts, lv8, m40, q⟩ := h
  refine ⟨_, pss_cons (ps_set (i := 2) scBlR.nd rfl (.inl rfl) (pe_lst pa_nil))
    (pss_cons (ps_for PassesOwn.never rfl (pi_tup (pv 0)) (pg_name (i := 3) scBlR.nd rfl (.inl rfl))
      (pss_one (ps_expr (pe_bm PySem.F.plainAttrs_list PySem.F.slot_list_extend PySem.F.type_list_extend mt_extend (pv 2) (pa_cons (pe_cal cS hr rfl (pa_cons (pv 3) (pa_cons (pv 1) pa_nil))) pa_nil)))))
    (pss_one (ps_ret (pv 2)))), ?_⟩
  cases d with
  | tuple ds =>
    have hl := (and3 (show (decide (ds.length ≤ 12) && ds.all (lstB ss ts (lblk ss ts n))) = true from hd)).2
    have m40 : sumM (manyS (manyN n)) ds ≤ 40 := m40
    cases hx with
    | @tup da xs _ dat each =>
    have lx := dpAll_len each
    refine ⟨small (Nat.zero_le _), fun R hR => ?_⟩
    have sR := same_new hR (.lst [])
    have wlen : ∀ j, ((ds.take j).flatMap (wrS (wrN n) lv)).length ≤ 2 * sumM (manyS (manyN n)) (ds.take j) := fun j => by
      have aux : ∀ l : List PyData, l.all (lstB ss ts (lblk ss ts n)) = true → (l.flatMap (wrS (wrN n) lv)).length ≤ 2 * sumM (manyS (manyN n)) l := fun l => by
        induction l with
        | nil => intro _; exact Nat.zero_le _
        | cons a l il =>
          intro hl
          rw [List.all_cons] at hl
          have h1 := wr_len (wrN n) (mb := manyN n) (k := lv) (fun x k hx => wrN_len n hx) (and3 hl).1
          have h2 := il (and3 hl).2
          rw [List.flatMap_cons, List.length_append]
          show _ ≤ 2 * (manyS (manyN n) a + sumM (manyS (manyN n)) l)
          omega
      exact aux _ (List.all_eq_true.mpr fun z hz => List.all_eq_true.mp hl z (List.mem_of_mem_take hz))
    refine ⟨_, rfl, da, rfl, ⟨xs, sqT_same sR dat⟩, ?_⟩
    refine for_tup (xs := xs) (fun j σ G => ∃ o3 : Option V, σ = [some (.ref da), some (.str (blS lv)), some (.ref R), o3] ∧ Same H G ∧ G R = some (.lst (((ds.take j).flatMap (wrS (wrN n) lv)).map V.str)))
      ⟨_, rfl, sR, by rw [upd_same]; rfl⟩ (fun j σ G _ h => by obtain ⟨_, _, s, _⟩ := h; exact sqT_same s dat) (fun j sv σ G hsv h => ?_) (fun σ G h => ?_)
    · obtain ⟨o3, rfl, sG, gR⟩ := h
      obtain ⟨d, hd, hdv⟩ := dpAll_get' (dps_same sG each) hsv
      have hld := List.all_eq_true.mp hl d (List.mem_of_getElem? hd)
      have sm := take_more hd
      have ms := sumM_take (m := manyS (manyN n)) ds (j + 1)
      rw [sm, sumM_snoc] at ms
      have w1 := wlen j
      have w2 := wr_len (wrN n) (mb := manyN n) (k := lv) (fun x k hx => wrN_len n hx) hld
      refine ⟨_, rfl, .inl ⟨rfl, _, SqL.of gR⟩, _, rfl, _, rfl, sv, d, lv, ss, ts, rfl, hdv, hld, hss, hts, by omega, by omega, fun R1 G1 s1 hR1 gR1 => ?_⟩
      refine ⟨R, R1, _, _, rfl, rfl, s1 _ _ gR, gR1, ?_, ?_⟩
      · rw [List.length_map, List.length_map]
        exact small (by omega)
      · refine ⟨_, rfl, same_upd2 (sG.trans s1) hR, ?_⟩
        rw [upd_same, sm, List.flatMap_append, List.flatMap_cons, List.flatMap_nil, List.append_nil, List.map_append]
    · obtain ⟨o3, rfl, sG, gR⟩ := h
      rw [lx, List.take_length] at gR
      exact ⟨_, rfl, q R G sG hR gR⟩
  | _ => cases hd
theorem all_blR {k : Nat} {fs : Addr} {fds : FuncData} {bt : Addr} (F : Fun K "block_rows" "block_rows" sBlRows f fd) (FS : Fun K "statement_rows" "statement_rows" sStRows fs fds) (hm : mg "block_rows" = some (.ref f)) (hms : mg "statement_rows" = some (.ref fs)) (hb : Binds K fd ["block", "ahead"] []) (hbs : Binds K fds ["statement", "ahead"] [])
    (hB : mg "BRANCHES" = some (.ref bt)) (BT : BranchT K w bt) (hI : ∃ t, mg "INDENT" = some (.str "  " t)) (cW : Cal P w K mg base "words_text" k ["parts"] (spWordsT K)) : ∀ n, FnOk P w K mg base CX0 (k + 2 * n) f fd ["block", "ahead"] (spBlR K n)
  | 0 => ⟨(fun vs H Q E h => by obtain ⟨x, d, _, _, _, _, _, h, _⟩ := h; cases d <;> cases h), (fun A outer s H args us vs Q E hr he hb hv h => by obtain ⟨x, d, _, _, _, _, _, h, _⟩ := h; cases d <;> cases h)⟩
  | n + 1 => by
    have ih := all_blR F FS hm hms hb hbs hB BT hI cW n
    have cB : Cal P w K mg base "block_rows" (k + 2 * n) ["block", "ahead"] (spBlR K n) := ⟨f, fd, ih, hm, F.kp, hb⟩
    have cS : Cal P w K mg base "statement_rows" (k + 2 * n + 1) ["statement", "ahead"] (spStR K n) := ⟨fs, fds, ok_stR FS hB BT hI (cW.mono (by omega)) cB, hms, FS.kp, hbs⟩
    exact (ok_blR (k := k + 2 * n + 1) F cS).mono (by omega)
end
theorem mem_side {sd : Int × Int → Int} {chs : List (Int × Int)} {me i : Int} : i ∈ sideL sd chs me ↔ (0 ≤ i ∧ i ≤ (chs.length : Int) - 1 ∧ sd (chs.getD i.toNat (0, 0)) = me) := by
  unfold sideL sideN
  rw [List.mem_map]
  constructor
  · rintro ⟨m, hm, rfl⟩
    rw [List.mem_filter, List.mem_range, decide_eq_true_eq] at hm
    refine ⟨by omega, by omega, ?_⟩
    rw [show ((m : Nat) : Int).toNat = m by omega]
    exact hm.2
  · rintro ⟨h0, h1, h2⟩
    refine ⟨i.toNat, ?_, by omega⟩
    rw [List.mem_filter, List.mem_range, decide_eq_true_eq]
    exact ⟨by omega, h2⟩
section
variable {P : Program} {w : World} {K : PySem.W.Frag} {mg : Str → Option Value} {base : Heap} {f : Addr} {fd : FuncData}
end
/-! signs of rows -/
def RowOk (r : Str) : Prop := r.length ≤ 100 ∧ ∀ c ∈ r.cps.toList, 32 ≤ c ∧ c < 128
theorem bl_sgn : ∀ k, (blS k).cps.toList = List.replicate (2 * k) 32
  | 0 => rfl
  | k + 1 => by
    show (blS k ++ "  ").cps.toList = _
    rw [show (blS k ++ "  ").cps.toList = (blS k).cps.toList ++ ("  " : Str).cps.toList from TL.tl_append _ _, bl_sgn k, show ("  " : Str).cps.toList = [32, 32] by decide +kernel, show 2 * (k + 1) = 2 * k + 2 by omega]
    exact List.replicate_append_replicate (n := 2 * k) (m := 2)
theorem it_sgn {i : Int} {c : Nat} (h : c ∈ (itS i).cps.toList) : c = 45 ∨ (48 ≤ c ∧ c ≤ 57) := by
  rw [it_tl] at h
  unfold itL at h
  split at h
  · rcases List.mem_cons.mp h with rfl | h
    · exact .inl rfl
    · exact .inr (TL.numL_digits _ c h)
  · exact .inr (TL.numL_digits _ c h)
theorem part_sgn {d : PyData} (h : PartOk d) : ∀ c ∈ (partS d).cps.toList, 33 ≤ c ∧ c < 128 := by
  intro c hc
  rcases h with ⟨i, rfl, _⟩ | ⟨z, rfl, hz⟩
  · have := it_sgn (i := i) hc
    omega
  · have := List.all_eq_true.mp hz.2.2.1 c hc
    unfold signB at this
    have := and3 this
    exact ⟨of_decide_eq_true this.1, of_decide_eq_true this.2⟩
theorem join_sgn (s : List Nat) : ∀ l : List (List Nat), ∀ c ∈ TL.joinL s l, c ∈ s ∨ ∃ x ∈ l, c ∈ x
  | [], c, h => by cases h
  | [p], c, h => .inr ⟨p, List.mem_cons_self, h⟩
  | p :: q :: r, c, h => by
    rcases List.mem_append.mp (show c ∈ p ++ (s ++ TL.joinL s (q :: r)) from h) with h | h
    · exact .inr ⟨p, List.mem_cons_self, h⟩
    · rcases List.mem_append.mp h with h | h
      · exact .inl h
      · rcases join_sgn s (q :: r) c h with h | ⟨x, hx, h⟩
        · exact .inl h
        · exact .inr ⟨x, List.mem_cons_of_mem _ hx, h⟩
theorem words_tl (ds : List PyData) : (wordsS ds).cps.toList = TL.joinL [32] (ds.map fun d => (partS d).cps.toList) := by
  show (Txt.join " " (ds.map partS)).cps.toList = _
  rw [TL.join_eq, show (Str.join " " (ds.map partS)).cps.toList = _ from TL.tl_join " " _, show TL.tl (" " : Str) = [32] by decide +kernel, List.map_map]
  rfl
theorem words_sgn {ds : List PyData} (h : ∀ d ∈ ds, PartOk d) : ∀ c ∈ (wordsS ds).cps.toList, 32 ≤ c ∧ c < 128 := by
  intro c hc
  rw [words_tl] at hc
  rcases join_sgn _ _ c hc with hc | ⟨x, hx, hc⟩
  · rw [List.mem_singleton.mp hc]
    decide
  · obtain ⟨d, hd, rfl⟩ := List.mem_map.mp hx
    have := part_sgn (h d hd) c hc
    omega
theorem row_ok {k : Nat} {ds : List PyData} (hk : k ≤ 8) (l : ds.length ≤ 6) (h : ∀ d ∈ ds, PartOk d) : RowOk (blS k ++ wordsS ds) := by
  have b := bl_len k
  have w := words_len fun d hd => (h d hd).b
  refine ⟨by rw [Str.length_append]; omega, fun c hc => ?_⟩
  rw [show (blS k ++ wordsS ds).cps.toList = (blS k).cps.toList ++ (wordsS ds).cps.toList from TL.tl_append _ _] at hc
  rcases List.mem_append.mp hc with hc | hc
  · rw [bl_sgn] at hc
    rw [(List.mem_replicate.mp hc).2]
    decide
  · exact words_sgn h c hc
theorem br_parts {z : Str} {nm : PyData} (hz : z ∈ brL) (h : numNameD nm = true) : ∀ d ∈ [PyData.str z, nm], PartOk d := by
  intro d hd
  rcases List.mem_cons.mp hd with rfl | hd
  · exact .inr ⟨_, rfl, (key_word (.inr hz)).1⟩
  · rw [List.mem_singleton.mp hd]
    obtain ⟨nz, rfl, nw, _⟩ := num_word h
    exact .inr ⟨_, rfl, nw⟩
theorem else_ok {k : Nat} (hk : k ≤ 8) : RowOk (blS k ++ "else") := by
  have b := bl_len k
  refine ⟨by rw [Str.length_append, show ("else" : Str).length = 4 by decide +kernel]; omega, fun c hc => ?_⟩
  rw [show (blS k ++ "else").cps.toList = (blS k).cps.toList ++ ("else" : Str).cps.toList from TL.tl_append _ _] at hc
  rcases List.mem_append.mp hc with hc | hc
  · rw [bl_sgn] at hc
    rw [(List.mem_replicate.mp hc).2]
    decide
  · rw [show ("else" : Str).cps.toList = [101, 108, 115, 101] by decide +kernel] at hc
    simp only [List.mem_cons, List.not_mem_nil, or_false] at hc
    omega
theorem wrS_ok {fb : Nat → PyData → List Str} {ss ts : List Int} (hs : IB ss) (ht : IB ts) {bl : PyData → Bool} {k : Nat} (hk : k ≤ 8) (hf : ∀ x, bl x = true → ∀ r ∈ fb (k + 1) x, RowOk r) {d : PyData} (h : lstB ss ts bl d = true) : ∀ r ∈ wrS fb k d, RowOk r := by
  rcases st_cases h with ⟨hd, nb, z, ds, rfl, hz⟩ | ⟨nm, x, y, rfl, hn, hx, hy, hb⟩ | ⟨nm, x, rfl, hn, hx, hb⟩
  · obtain ⟨z', ds', e, _, l4, hp⟩ := deed_parts hs ht hd
    cases e
    intro r hr
    rw [wrS_deed hz] at hr
    rw [List.mem_singleton.mp hr]
    exact row_ok hk (by rw [List.length_cons]; omega) hp
  · intro r hr
    rw [wrS_if] at hr
    rcases List.mem_cons.mp hr with rfl | hr
    · exact row_ok hk (by show 2 ≤ 6; decide) (br_parts (by decide +kernel) hn)
    · rcases List.mem_append.mp hr with hr | hr
      · exact hf x hx r hr
      · rcases List.mem_cons.mp hr with rfl | hr
        · exact else_ok hk
        · exact hf y hy r hr
  · intro r hr
    rw [wrS_wh] at hr
    rcases List.mem_cons.mp hr with rfl | hr
    · exact row_ok hk (by show 2 ≤ 6; decide) (br_parts (by decide +kernel) hn)
    · exact hf x hx r hr
theorem wrN_ok {ss ts : List Int} (hs : IB ss) (ht : IB ts) : ∀ (n : Nat) {k : Nat} {d : PyData}, k + n ≤ 8 → lblk ss ts n d = true → ∀ r ∈ wrN n k d, RowOk r
  | 0, k, d, _, h => by cases d <;> cases h
  | n + 1, k, d, hk, h => by
    cases d with
    | tuple ds =>
      have hl := (and3 (show (decide (ds.length ≤ 12) && ds.all (lstB ss ts (lblk ss ts n))) = true from h)).2
      intro r hr
      obtain ⟨s, hs', hr⟩ := List.mem_flatMap.mp (show r ∈ ds.flatMap (wrS (wrN n) k) from hr)
      exact wrS_ok hs ht (by omega) (fun x hx => wrN_ok hs ht n (by omega) hx) (List.all_eq_true.mp hl s hs') r hr
    | _ => cases h
/-! the text of a net -/
def chW (c : Int × Int) : Str := Str.empty ++ itS c.1 ++ ">" ++ itS c.2
def headW (chs : List (Int × Int)) : Str := wordsS (.str "channels" :: chs.map fun c => .str (chW c))
def netRows (chs : List (Int × Int)) (as : List PyData) : List Str := headW chs :: as.flatMap fun b => "actor" :: wrN 4 0 b
def netT (chs : List (Int × Int)) (as : List PyData) : Str := Txt.join "\n" (netRows chs as)
def ChOk (c : Int × Int) : Prop := 0 ≤ c.1 ∧ c.1 < 4 ∧ 0 ≤ c.2 ∧ c.2 < 4 ∧ c.1 ≠ c.2
theorem chs_ok {cs as : List PyData} (h : netB cs as = true) : ∀ c ∈ cs.map pairD, ChOk c ∧ c.1 < as.length ∧ c.2 < as.length := by
  have h := and3 (show ((decide (cs.length ≤ 6) && (decide (1 ≤ as.length) && decide (as.length ≤ 4))) && (cs.all (chanD as.length) && actsB (cs.map pairD) 0 as)) = true from h)
  have l4 := of_decide_eq_true (and3 (and3 h.1).2).2
  intro c hc
  obtain ⟨d, hd, rfl⟩ := List.mem_map.mp hc
  have hcd := List.all_eq_true.mp (and3 h.2).1 d hd
  unfold chanD at hcd
  split at hcd
  · rename_i p r
    have q := and3 hcd
    have q1 := and3 q.1
    obtain ⟨i, rfl, i0, i1⟩ := within_int q1.1
    obtain ⟨j, rfl, j0, j1⟩ := within_int q1.2
    have ne : i ≠ j := fun e => by
      have q2 : (!decide (i = j)) = true := q.2
      rw [decide_eq_true e] at q2
      cases q2
    exact ⟨⟨i0, by show i < 4; omega, j0, by show j < 4; omega, ne⟩, by show i < _; omega, by show j < _; omega⟩
  · cases hcd
theorem it_small {i : Int} (h0 : 0 ≤ i) (h1 : i < 10) : (itS i).cps.toList = [48 + i.toNat] := by
  rw [it_tl]
  unfold itL
  rw [if_neg (by omega), TL.numL_lt (by omega)]
theorem chW_tl {c : Int × Int} (h : ChOk c) : (chW c).cps.toList = [48 + c.1.toNat, 62, 48 + c.2.toNat] := by
  obtain ⟨h1, h2, h3, h4, _⟩ := h
  show (Str.empty ++ itS c.1 ++ ">" ++ itS c.2).cps.toList = _
  rw [show (Str.empty ++ itS c.1 ++ ">" ++ itS c.2).cps.toList = (Str.empty ++ itS c.1 ++ ">").cps.toList ++ (itS c.2).cps.toList from TL.tl_append _ _, show (Str.empty ++ itS c.1 ++ ">").cps.toList = (Str.empty ++ itS c.1).cps.toList ++ (">" : Str).cps.toList from TL.tl_append _ _,
    show (Str.empty ++ itS c.1).cps.toList = Str.empty.cps.toList ++ (itS c.1).cps.toList from TL.tl_append _ _, it_small h1 (by omega), it_small h3 (by omega), show (">" : Str).cps.toList = [62] by decide +kernel]
  rfl
theorem chW_word {c : Int × Int} (h : ChOk c) : WordOk (chW c) := by
  have e := chW_tl h
  obtain ⟨h1, h2, h3, h4, _⟩ := h
  have l : (chW c).length = 3 := by rw [← len_tlz, e]; rfl
  refine ⟨by omega, ⟨_, _, e⟩, ?_, ?_⟩
  · rw [e, List.all_eq_true]
    intro d hd
    simp only [List.mem_cons, List.not_mem_nil, or_false] at hd
    unfold signB
    rcases hd with rfl | rfl | rfl
    · rw [decide_eq_true (by omega), decide_eq_true (by omega)]; rfl
    · decide
    · rw [decide_eq_true (by omega), decide_eq_true (by omega)]; rfl
  · unfold wfD
    rw [if_neg]
    intro q
    have q := q.2.2
    have ef : figs (chW c).cps.toList = (chW c).cps.toList := by
      rw [e]
      unfold figs
      split
      · rename_i e2
        have := (List.cons.inj e2).1
        omega
      · rfl
    rw [ef, e] at q
    have := List.all_eq_true.mp q 62 (by simp)
    cases this
theorem head_parts {chs : List (Int × Int)} (h : ∀ c ∈ chs, ChOk c) : ∀ d ∈ (PyData.str "channels" :: chs.map fun c => PyData.str (chW c)), PartOk d := by
  intro d hd
  rcases List.mem_cons.mp hd with rfl | hd
  · refine .inr ⟨_, rfl, by decide +kernel, ⟨99, [104, 97, 110, 110, 101, 108, 115], by decide +kernel⟩, by decide +kernel, by decide +kernel⟩
  · obtain ⟨c, hc, rfl⟩ := List.mem_map.mp hd
    exact .inr ⟨_, rfl, chW_word (h c hc)⟩
theorem side_ib {sd : Int × Int → Int} {chs : List (Int × Int)} {me : Int} (h : chs.length ≤ 6) : IB (sideL sd chs me) := fun q hq => by
  have := mem_side.mp hq
  omega
theorem netRows_ok {cs as : List PyData} (h : netB cs as = true) : (netRows (cs.map pairD) as).length ≤ 400 ∧ ∀ r ∈ netRows (cs.map pairD) as, RowOk r := by
  have G := netB_G h
  have hc := chs_ok h
  have l6 : (cs.map pairD).length ≤ 6 := by rw [List.length_map]; exact G.l6
  have h4 := G.l4
  have each : ∀ b ∈ as, (wrN 4 0 b).length ≤ 80 ∧ ∀ r ∈ wrN 4 0 b, RowOk r := fun b hb => by
    obtain ⟨i, hi⟩ := List.getElem?_of_mem hb
    obtain ⟨a1, a2⟩ := G.act i b hi
    have := wrN_len 4 (k := 0) a1
    exact ⟨by omega, wrN_ok (side_ib l6) (side_ib l6) 4 (by decide) a1⟩
  constructor
  · have aux : ∀ l : List PyData, (∀ b ∈ l, (wrN 4 0 b).length ≤ 80) → (l.flatMap fun b => ("actor" : Str) :: wrN 4 0 b).length ≤ 81 * l.length := fun l => by
      induction l with
      | nil => intro _; exact Nat.zero_le _
      | cons a l il =>
        intro hl
        have h1 := hl a List.mem_cons_self
        have h2 := il fun z hz => hl z (List.mem_cons_of_mem _ hz)
        rw [List.flatMap_cons, List.length_append, List.length_cons, List.length_cons]
        omega
    have := aux as fun b hb => (each b hb).1
    show (_ :: _).length ≤ 400
    rw [List.length_cons]
    omega
  · intro r hr
    rcases List.mem_cons.mp hr with rfl | hr
    · have w := words_len fun d hd => (head_parts (fun c hc' => (hc c hc').1) d hd).b
      rw [List.length_cons, List.length_map] at w
      exact ⟨by show (headW _).length ≤ 100; unfold headW; omega, words_sgn (head_parts fun c hc' => (hc c hc').1)⟩
    · obtain ⟨b, hb, hr⟩ := List.mem_flatMap.mp hr
      rcases List.mem_cons.mp hr with rfl | hr
      · exact ⟨by decide +kernel, by decide +kernel⟩
      · exact (each b hb).2 r hr
theorem net_join {l : List Str} (h1 : l.length ≤ 400) (h2 : ∀ r ∈ l, RowOk r) : (l.map (·.length)).sum + l.length * ("\n" : Str).length ≤ 16777216 ∧ (Txt.join "\n" l).length ≤ 60000 := by
  obtain ⟨j1, j2⟩ := join_len "\n" l (L := 100) fun y hy => (h2 y hy).1
  rw [show ("\n" : Str).length = 1 by decide +kernel] at j1 j2 ⊢
  omega
section
open PySem.Spec PyProof.Rows LamX
variable {P : Program} {w : World} {K : PySem.W.Frag} {mg : Str → Option Value} {base : Heap} {f : Addr} {fd : FuncData}
def spNetT (K : PySem.W.Frag) (PT : List Addr) : Sp := fun vs H Q _ => ∃ (x : V) (cs as : List PyData), vs = [x] ∧ Dp K H x (.tuple [.tuple cs, .tuple as]) ∧ netB cs as = true ∧ TabsG PT H ∧ ∀ H', ExtN H H' → TabsG PT H' → Q (.str (netT (cs.map pairD) as)) H'
abbrev nnN : List Str := ["net", "channels", "actors", "rows", "block", "sender", "taker"]
theorem scNetT : FnScope nnN ["net"] (defScope sNetText) := ⟨rfl, rfl, rfl, by decide +kernel, rfl, by decide +kernel, by decide +kernel⟩
theorem strs_dp {H : Hp} : ∀ l : List Str, DpAll K H (l.map V.str) (l.map PyData.str)
  | [] => .nil
  | z :: l => .cons (.str z) (strs_dp l)
def tChJ : TE := fun σ H Q => tJs [tFmt (tVar 5), tC (.str ">"), tFmt (tVar 6)] Str.empty σ H fun out H1 => Q (.str out) H1
theorem ok_netT {k : Nat} {PT : List Addr} (F : Fun K "net_text" "net_text" sNetText f fd) (cN : Cal P w K mg base "check_net" k ["net"] (spCheckNet K PT)) (cW : Cal P w K mg base "words_text" k ["parts"] (spWordsL K)) (cB : Cal P w K mg base "block_rows" k ["block", "ahead"] (spBlR K 4)) : FnOk P w K mg base CX0 (k + 1) f fd ["net"] (spNetT K PT) := by
  refine F.ok scNetT (fun vs H Q E h => ?_) (fun cdv A outer s H vs Q E hr h => ?_)
  · obtain ⟨x, cs, as, rfl, _⟩ := h
    rfl
  obtain ⟨x, cs, as, rfl, hx, hn, tb, q⟩ := h
  refine ⟨_, pss_cons (ps_expr (pe_cal cN hr rfl (pa_cons (pv 0) pa_nil)))
    (pss_cons (ps_asg (pv 0) (pg_tup rfl (pgs_cons (pg_name (i := 1) scNetT.nd rfl (.inl rfl)) (pgs_cons (pg_name (i := 2) scNetT.nd rfl (.inl rfl)) pgs_nil))))
    (pss_cons (ps_set (i := 3) scNetT.nd rfl (.inl rfl) (pe_lst (pa_cons (pe_cal cW hr rfl (pa_cons (pe_op op_cat (pe_lst (pa_cons pe_str pa_nil))
      (pe_lc (own := [("sender", 5), ("taker", 6)]) (g := gTup K 2 (gCons (gName 5) (gCons (gName 6) gNil))) (tt := tYes) (te := tChJ) rfl scNetT.nd (pi_tup (pv 1))
        (blkOk_by (own := [("sender", 5), ("taker", 6)]) (N := nnN) (sc := defScope sNetText) (by decide +kernel))
        (fun _ _ _ _ _ => pg_tup rfl (pgs_cons (pg_name (i := 5) scNetT.nd rfl (Or.inl rfl)) (pgs_cons (pg_name (i := 6) scNetT.nd rfl (Or.inl rfl)) pgs_nil))) (fun _ _ _ _ _ => pts_nil)
        (fun _ _ _ _ _ => pe_joined (.cons (pe_fmt (pv 5)) (.cons pe_str (.cons (pe_fmt (pv 6)) .nil)))))) pa_nil)) pa_nil)))
    (pss_cons (ps_for PassesOwn.never rfl (pi_tup (pv 2)) (pg_name (i := 4) scNetT.nd rfl (.inl rfl))
      (pss_one (ps_aug (i := 3) scNetT.nd rfl (.inl rfl) (pe_op op_cat (pe_lst (pa_cons pe_str pa_nil)) (pe_cal cB hr rfl (pa_cons (pv 4) (pa_cons pe_str pa_nil)))) iop_ext)))
    (pss_one (ps_ret (pe_bm PySem.F.plainAttrs_str PySem.F.slot_str_join PySem.F.type_str_join mt_join pe_str (pa_cons (pv 3) pa_nil))))))), ?_⟩
  have G := netB_G hn
  have hc := chs_ok hn
  obtain ⟨rl, ro⟩ := netRows_ok hn
  have l6 := G.l6
  refine ⟨_, rfl, x, _, rfl, hx, hn, tb, fun H1 e1 t1 => ?_⟩
  have hx1 := dp_ext e1 _ _ hx
  cases hx1 with
  | @tup na nvs _ nat neach =>
  cases neach with
  | @cons cv _ _ _ c1 r1 =>
  cases r1 with
  | @cons av _ _ _ a1 r2 =>
  cases r2
  rw [G.ch] at c1
  have act : ∀ b ∈ as, ∃ ss ts, lblk ss ts 4 b = true ∧ IB ss ∧ IB ts ∧ manyN 4 b ≤ 40 := fun b hb => by
    obtain ⟨i, hi⟩ := List.getElem?_of_mem hb
    obtain ⟨a1, a2⟩ := G.act i b hi
    have l6' : (cs.map pairD).length ≤ 6 := by rw [List.length_map]; exact l6
    exact ⟨_, _, a1, side_ib l6', side_ib l6', a2⟩
  have lch : (cs.map pairD).length ≤ 6 := by rw [List.length_map]; exact l6
  generalize cs.map pairD = chs at c1 hc rl ro q lch
  cases c1 with
  | @tup ca cvs _ cat ceach =>
  cases a1 with
  | @tup aa avs _ aat aeach =>
  have lc := dpAll_len ceach
  rw [List.length_map] at lc
  have la := dpAll_len aeach
  refine ⟨_, rfl, na, _, rfl, nat, rfl, _, _, rfl, _, _, rfl, rfl, ?_⟩
  refine ⟨by show 1 ≤ sizeLine; decide, fun L1 hL1 => ?_⟩
  have sL1 := same_new hL1 (.lst [V.str "channels"])
  refine ⟨_, rfl, ca, rfl, ⟨cvs, sqT_same sL1 cat⟩, fun D hD => ?_⟩
  have sl : (16777216 : Nat) = sizeLine := rfl
  refine lc_tup (xs := cvs) (fun i G => Same (upd H1 L1 (.lst [V.str "channels"])) G ∧ G D = some (.lst (((chs.take i).map chW).map V.str))) ⟨same_new hD _, by rw [upd_same]; rfl⟩ (fun i G _ h => sqT_same (sL1.trans h.1) cat) (fun i v G hv h => ?_) (fun G h => ?_)
  · obtain ⟨sG, gD⟩ := h
    obtain ⟨d, hd, hdv⟩ := dpAll_get' (dps_same (sL1.trans sG) ceach) hv
    rw [List.getElem?_map] at hd
    obtain ⟨c, hci, rfl⟩ := Option.map_eq_some_iff.mp hd
    have il := (List.getElem?_eq_some_iff.mp hci).1
    obtain ⟨⟨h0, h1, h2, h3, _⟩, _⟩ := hc c (List.mem_of_getElem? hci)
    have hdv : Dp K G v (.tuple [.int c.1, .int c.2]) := hdv
    cases hdv with
    | @tup pa ps _ pat peach =>
    cases peach with
    | @cons w1 _ _ _ j1 j2 =>
    cases j1
    cases j2 with
    | @cons w2 _ _ _ j3 j4 =>
    cases j3
    cases j4
    have i1 := itS_len (i := c.1) (by omega) (by omega)
    have i2 := itS_len (i := c.2) (by omega) (by omega)
    have o1 : (">" : Str).length = 1 := by decide +kernel
    have z0 := one_len (itS c.1) _ rfl
    refine ⟨pa, _, rfl, pat, rfl, _, _, rfl, _, _, rfl, rfl, rfl, yesG ?_⟩
    refine ⟨_, rfl, .inr ⟨c.1, rfl, log_ok (by omega), itS c.1, rfl, ?_, ">", rfl, ?_, _, rfl, .inr ⟨c.2, rfl, log_ok (by omega), itS c.2, rfl, ?_, ?_⟩⟩⟩
    · rw [z0, ← sl]
      omega
    · rw [Str.length_append, z0, o1, ← sl]
      omega
    · rw [Str.length_append, Str.length_append, z0, o1, ← sl]
      omega
    · refine ⟨_, gD, ?_, same_upd2 sG hD, ?_⟩
      · rw [List.length_map, List.length_map, List.length_take]
        exact Nat.lt_of_lt_of_le (show _ < 1000 by omega) (small (Nat.le_refl _))
      · rw [upd_same, take_more hci, List.map_append, List.map_append]
        rfl
  · obtain ⟨sG, gD⟩ := h
    rw [lc, List.take_length] at gD
    refine ⟨L1, D, _, _, rfl, rfl, sG _ _ upd_same, gD, ?_, fun R0 hR0 => ?_⟩
    · rw [List.length_map, List.length_map]
      exact small (by show 1 + _ ≤ 1000; omega)
    have s0 := same_new hR0 (.lst ([V.str "channels"] ++ (chs.map chW).map V.str))
    have dh : Dp K (upd G R0 (.lst ([V.str "channels"] ++ (chs.map chW).map V.str))) (.ref R0) (.list (.str "channels" :: chs.map fun c => .str (chW c))) := by
      refine .lst (SqL.of upd_same) (.cons (.str _) ?_)
      have e : (chs.map fun c => PyData.str (chW c)) = (chs.map chW).map PyData.str := by rw [List.map_map]; rfl
      rw [e]
      exact strs_dp _
    refine ⟨_, _, rfl, dh, by rw [List.length_cons, List.length_map]; omega, fun d hd => (head_parts (fun c hc' => (hc c hc').1) d hd).b, fun G2 s2 => ⟨by show 1 ≤ sizeLine; decide, fun R hR => ?_⟩⟩
    have sR := same_new hR (.lst [V.str (headW chs)])
    have s15 : Same H1 G2 := sL1.trans (sG.trans (s0.trans s2))
    have nR : H1 R = none := none_of_same s15 hR
    have s16 := s15.trans sR
    refine ⟨_, rfl, aa, rfl, ⟨avs, sqT_same s16 aat⟩, ?_⟩
    have full : ∀ j, ((headW chs :: (as.take j).flatMap fun b => ("actor" : Str) :: wrN 4 0 b)).length ≤ 400 := fun j => by
      refine Nat.le_trans ?_ rl
      show (_ :: _).length ≤ (_ :: _).length
      have e : as = as.take j ++ as.drop j := (List.take_append_drop j as).symm
      have e2 : (as.flatMap fun b => ("actor" : Str) :: wrN 4 0 b).length = (((as.take j ++ as.drop j)).flatMap fun b => ("actor" : Str) :: wrN 4 0 b).length := by rw [← e]
      rw [List.flatMap_append, List.length_append] at e2
      rw [List.length_cons, List.length_cons]
      omega
    refine for_tup (xs := avs) (fun j σ G3 => ∃ o4 o5 o6 : Option V, σ = [some (.ref na), some (.ref ca), some (.ref aa), some (.ref R), o4, o5, o6] ∧ Same H1 G3 ∧ G3 R = some (.lst ((headW chs :: (as.take j).flatMap fun b => ("actor" : Str) :: wrN 4 0 b).map V.str)))
      ⟨_, _, _, rfl, s16, by rw [upd_same]; rfl⟩ (fun j σ G3 _ h => by obtain ⟨_, _, _, _, s, _⟩ := h; exact sqT_same s aat) (fun j bv σ G3 hbv h => ?_) (fun σ G3 h => ?_)
    · obtain ⟨o4, o5, o6, rfl, s3, gR⟩ := h
      obtain ⟨b, hb, hdb⟩ := dpAll_get' (dps_same s3 aeach) hbv
      obtain ⟨ss, ts, lb, hss, hts, m40⟩ := act b (List.mem_of_getElem? hb)
      have wl := wrN_len 4 (k := 0) lb
      refine ⟨_, rfl, by show 1 ≤ sizeLine; decide, fun L2 hL2 => ?_⟩
      have sL2 := same_new hL2 (.lst [V.str "actor"])
      refine ⟨_, rfl, bv, b, 0, ss, ts, rfl, dp_same sL2 hdb, lb, hss, hts, by decide, m40, fun R2 G4 s4 hR2 gR2 => ?_⟩
      refine ⟨L2, R2, _, _, rfl, rfl, s4 _ _ upd_same, gR2, ?_, fun R3 hR3 => ?_⟩
      · rw [List.length_map]
        exact small (by show 1 + _ ≤ 1000; omega)
      have sR3 := same_new hR3 (.lst ([V.str "actor"] ++ (wrN 4 0 b).map V.str))
      have s36 := sL2.trans (s4.trans sR3)
      refine ⟨R, R3, _, _, rfl, rfl, s36 _ _ gR, upd_same, ?_, ?_⟩
      · have := full j
        rw [List.length_map, List.length_append, List.length_map]
        exact small (by show _ + (1 + _) ≤ 1000; omega)
      · refine ⟨_, _, _, rfl, same_upd2 (s3.trans s36) nR, ?_⟩
        rw [upd_same, take_more hb, List.flatMap_append, List.flatMap_cons, List.flatMap_nil, List.append_nil]
        simp
    · obtain ⟨o4, o5, o6, rfl, s3, gR⟩ := h
      rw [la, List.take_length] at gR
      refine ⟨rfl, _, rfl, "\n", R, netRows chs as, rfl, rfl, .inl (SqL.of gR), (net_join rl ro).1, ?_⟩
      exact q G3 (e1.trans (ext_same s3)) (t1.same s3)
end
/-! text * int -/
def timesS (z : Str) (n : Nat) : Str := ⟨(List.replicate n z.cps.toList).flatten.toArray⟩
theorem fold_app (xs : Array Nat) : ∀ (n : Nat) (acc : Array Nat), ((List.replicate n xs).foldl (· ++ ·) acc) = (acc.toList ++ (List.replicate n xs.toList).flatten).toArray
  | 0, acc => by simp
  | n + 1, acc => by
    rw [List.replicate_succ, List.foldl_cons, fold_app xs n (acc ++ xs), List.replicate_succ, List.flatten_cons, Array.toList_append, List.append_assoc]
section
variable {X : Cx}
theorem op_mulS : OpR X (binaryOp .Mult) (fun x y H Q => ∃ (z : Str) (n : Nat), x = .str z ∧ y = .int (n : Nat) ∧ z.length ≤ 1000 ∧ n ≤ 1000 ∧ Q (.str (timesS z n)) H) := by
  intro pins s σ H x y v u Q I rx ry h
  obtain ⟨z, n, rfl, rfl, hz, hn, q⟩ := h
  obtain ⟨t, rfl⟩ := rx
  obtain ⟨t', rfl⟩ := ry
  have hm : z.length * n ≤ 1000 * 1000 := Nat.mul_le_mul hz hn
  have lf : (timesS z n).length = z.length * n := by
    show ((List.replicate n z.cps.toList).flatten.toArray).size = _
    rw [List.size_toArray, List.length_flatten, List.map_replicate, List.sum_replicate_nat, len_tlz, Nat.mul_comm]
  refine PySem.P.mul_str (by rw [decide_eq_false (by omega), decide_eq_false (by omega)]; rfl) (fun h1 h2 h3 => ?_) (fun h1 h2 => ?_) ?_
  · have : (0 : Int) < (n : Int) := by omega
    have h4 : ((2 : Int) ^ 63 - 1) / (n : Int) ≥ (2 ^ 63 - 1) / 1000 := by
      refine (Int.le_ediv_iff_mul_le this).mpr ?_
      have e : ((2 : Int) ^ 63 - 1) / 1000 = 9223372036854775 := by decide
      rw [e]
      have : (9223372036854775 : Int) * (n : Int) ≤ 9223372036854775 * 1000 := Int.mul_le_mul_of_nonneg_left (by omega) (by decide)
      omega
    have e : ((2 : Int) ^ 63 - 1) / 1000 = 9223372036854775 := by decide
    omega
  · rw [Int.toNat_natCast]
    unfold Builtin.Str.tooLong
    first | exact decide_eq_false (by rw [sizeLine_eq]; omega) | (rw [sizeLine_eq]; exact decide_eq_false (by omega))
  · by_cases c1 : ((n : Nat) : Int) < 1
    · rw [if_pos c1]
      have n0 : n = 0 := by omega
      subst n0
      exact ⟨by decide, ⟨.str (timesS z 0), H, I.tok _, ⟨_, by rfl⟩, q⟩⟩
    · rw [if_neg c1]
      by_cases c2 : ((((n : Nat) : Int) == 1) || z.length == 0) = true
      · rw [if_pos c2]
        have e : timesS z n = z := by
          refine str_tl ?_
          show ((List.replicate n z.cps.toList).flatten.toArray).toList = _
          rw [List.toList_toArray]
          rcases Bool.or_eq_true_iff.mp c2 with h | h
          · have : n = 1 := by have := eq_of_beq h; omega
            subst this
            simp
          · have h0 := eq_of_beq h
            have : z.cps.toList = [] := List.length_eq_zero_iff.mp (by rw [len_tlz]; exact h0)
            rw [this]
            simp
        rw [e] at q
        exact ⟨.str z, H, I, ⟨t, rfl⟩, q⟩
      · rw [if_neg c2, Int.toNat_natCast]
        have e : (⟨(List.replicate n z.cps).foldl (· ++ ·) #[]⟩ : Str) = timesS z n := by
          rw [fold_app]
          rfl
        rw [e]
        refine ⟨by rw [lf, sizeLine_eq]; omega, ⟨.str (timesS z n), H, I.tok _, ⟨_, rfl⟩, q⟩⟩
end
theorem times_bl (k : Nat) : timesS "  " k = blS k := by
  refine str_tl ?_
  rw [bl_sgn]
  show ((List.replicate k ("  " : Str).cps.toList).flatten.toArray).toList = _
  rw [List.toList_toArray, show ("  " : Str).cps.toList = [32, 32] by decide +kernel]
  induction k with
  | zero => rfl
  | succ k ih =>
    rw [List.replicate_succ, List.flatten_cons, ih, show 2 * (k + 1) = 2 * k + 2 by omega]
    rfl
/-! _law_block -/
theorem lst_deed {ss ts : List Int} {bl : PyData → Bool} {d : PyData} (h : deedD ss ts d = true) : lstB ss ts bl d = true := by
  unfold lstB
  rw [h]
  rfl
theorem lst_branch {ss ts : List Int} {bl : PyData → Bool} {z x : Str} {args : List PyData} {m : Nat} (hz : brK z = some m) (hx : numNameD (.str x) = true) (hl : args.length = m) (ha : args.all bl = true) : lstB ss ts bl (.tuple (.str z :: .str x :: args)) = true := by
  unfold lstB
  have hb : branchD (.tuple (.str z :: .str x :: args)) = true := by
    show branchB z (.str x :: args) = true
    unfold branchB
    rw [hz]
    show (decide (args.length + 1 = m + 1) && numNameD (.str x)) = true
    rw [decide_eq_true (by omega), hx]
    rfl
  rw [hb]
  show (_ || (true && args.all bl)) = true
  rw [ha]
  exact Bool.or_true _
theorem cut12 (xs : List V) : cutV xs none (some 12) = xs.take 12 := by
  have e : HT.sIx xs.length xs.length (some 12) = min 12 xs.length := HT.sIx_nat xs.length xs.length 12
  show (xs.drop 0).take (HT.sIx xs.length xs.length (some 12) - 0) = xs.take 12
  rw [e, List.drop_zero, Nat.sub_zero]
  by_cases h : 12 ≤ xs.length
  · rw [show min 12 xs.length = 12 by omega]
  · rw [show min 12 xs.length = xs.length by omega, List.take_length, List.take_of_length_le (by omega)]
theorem dpAll_takeN {K : PySem.W.Frag} {H : Hp} : ∀ (n : Nat) {vs : List V} {ds : List PyData}, DpAll K H vs ds → DpAll K H (vs.take n) (ds.take n)
  | 0, _, _, _ => .nil
  | n + 1, _, _, .nil => .nil
  | n + 1, _, _, .cons a b => .cons a (dpAll_takeN n b)
def lnameL : List Str := ["a", "b", "count"]
theorem lnameL_ok : lnameL.all (fun z => numNameD (.str z)) = true := by decide +kernel
section
open PySem.Spec PyProof.Rows LamX
variable {P : Program} {w : World} {K : PySem.W.Frag} {mg : Str → Option Value} {base : Heap} {f : Addr} {fd : FuncData}
/-- n + 1 blocks may stand within one another from here on -/
def spBlock (K : PySem.W.Frag) (n : Nat) : Sp := fun vs H Q _ => ∃ (st sa ta : Addr) (ss ts : List Int) (dp most : Int), vs = [.ref st, .ref sa, .ref ta, .int dp, .int most] ∧ dp = 4 - (n : Int) ∧ 0 ≤ most ∧ most ≤ 12 ∧ StAt H st ∧ sa ≠ st ∧ ta ≠ st ∧ H sa = some (.lst (ss.map V.int)) ∧ H ta = some (.lst (ts.map V.int)) ∧ ss.length ≤ 100 ∧ ts.length ≤ 100 ∧ ∀ v ds H', Mv st H H' → Dp K H' v (.tuple ds) → lblk ss ts (n + 1) (.tuple ds) = true → (ds.length : Int) ≤ 3 * most → Q v H'
def spBlockS (K : PySem.W.Frag) (n : Nat) : Sp := fun vs H Q E => ∃ m, n = m + 1 ∧ spBlock K m vs H Q E
abbrev PBlock : List Str := ["_law_state_here", "_law_sends", "_law_takes", "_law_deep", "_law_most"]
abbrev NBlock : List Str := ["_law_state_here", "_law_sends", "_law_takes", "_law_deep", "_law_most", "_law_rows_here", "_law_turn", "_law_kind", "_law_inner", "_law_other", "_law_name"]
theorem scBlock : FnScope NBlock PBlock (defScope sBlock) := ⟨rfl, rfl, rfl, by decide +kernel, rfl, by decide +kernel, by decide +kernel⟩
/-- what stands of the rows -/
structure Bl (K : PySem.W.Frag) (ss ts : List Int) (n : Nat) (st R : Addr) (H G : Hp) (vs : List V) (ds : List PyData) : Prop where
  mv : Mv st H G
  at_ : G R = some (.lst vs)
  dp : DpAll K G vs ds
  ok : ds.all (lstB ss ts (lblk ss ts n)) = true
theorem Bl.move {ss ts : List Int} {n : Nat} {st R : Addr} {H G G' : Hp} {vs : List V} {ds : List PyData} (b : Bl K ss ts n st R H G vs ds) (nR : R ≠ st) (m : Mv st G G') : Bl K ss ts n st R H G' vs ds :=
  ⟨b.mv.trans m, m.kp _ _ nR b.at_, dpAll_kt (m.kp.kt b.mv.sa) _ _ (tup_all fun d hd => lst_tup (List.all_eq_true.mp b.ok d hd)) b.dp, b.ok⟩
theorem Bl.app {ss ts : List Int} {n : Nat} {st R : Addr} {H G : Hp} {vs : List V} {ds : List PyData} {v : V} {d : PyData} (b : Bl K ss ts n st R H G vs ds) (nR : R ≠ st) (hR : H R = none) (hv : Dp K G v d) (hd : lstB ss ts (lblk ss ts n) d = true) : Bl K ss ts n st R H (upd G R (.lst (vs ++ [v]))) (vs ++ [v]) (ds ++ [d]) := by
  have kt : KT G (upd G R (.lst (vs ++ [v]))) := KT.upd b.at_
  refine ⟨⟨fun c u hc hu => ?_, b.mv.sa.upd nR⟩, upd_same, ?_, ?_⟩
  · rw [upd_ne (fun e => by rw [e, hR] at hu; cases hu)]
    exact b.mv.kp c u hc hu
  · exact dpAll_snoc (dp_kt kt _ _ (lst_tup hd) hv) (dpAll_kt kt _ _ (tup_all fun d hd => lst_tup (List.all_eq_true.mp b.ok d hd)) b.dp)
  · rw [List.all_append, b.ok]
    show (true && (lstB ss ts (lblk ss ts n) d && true)) = true
    rw [hd]
    rfl
set_option maxHeartbeats 2000000 in
theorem ok_block {k n : Nat} (hn : n ≤ 3) (F : Fun K "_law_block" "_law_block" sBlock f fd) (T : Free mg) (cC : Cal P w K mg base "_law_choice" k ["_law_state_here", "_law_many_here"] spChoice) (cS : Cal P w K mg base "_law_simple" k ["_law_state_here", "_law_sends", "_law_takes"] (spSimple K)) (cB : Cal P w K mg base "_law_block" k PBlock (spBlockS K n)) :
    FnOk P w K mg base CX0 (k + 1) f fd PBlock (spBlock K n) := by
  refine F.ok scBlock (fun vs H Q E h => ?_) (fun cdv A outer s H vs Q E hr h => ?_)
  · obtain ⟨st, sa, ta, ss, ts, dp, most, rfl, _⟩ := h
    rfl
  obtain ⟨st, sa, ta, ss, ts, dp, most, rfl, hdp, m0, m6, hst, nsa, nta, hsa, hta, ls, lt, q⟩ := h
  refine ⟨_, pss_cons (ps_set (i := 5) scBlock.nd rfl (.inl rfl) (pe_lst pa_nil))
    (pss_cons (ps_for PassesOwn.never rfl (pi_range1 rfl T.range (pa_cons (pe_cal cC hr rfl (pa_cons (pv 0) (pa_cons (pe_op op_add (pv 4) pe_int) pa_nil))) pa_nil)) (pg_name (i := 6) scBlock.nd rfl (.inl rfl))
      (pss_cons (ps_set (i := 7) scBlock.nd rfl (.inl rfl) (pe_cal cC hr rfl (pa_cons (pv 0) (pa_cons pe_int pa_nil))))
      (pss_one (ps_if (PW.pt (pw_and (pt_cmpR op_lt (pv 7) pe_int (nomark _)) (pw_and1 (pt_cmpR op_lt (pv 3) pe_int (nomark _)))))
        (pss_cons (ps_set (i := 8) scBlock.nd rfl (.inl rfl) (pe_cal cB hr rfl (pa_cons (pv 0) (pa_cons (pv 1) (pa_cons (pv 2) (pa_cons (pe_op op_add (pv 3) pe_int) (pa_cons pe_int pa_nil)))))))
        (pss_cons (ps_set (i := 9) scBlock.nd rfl (.inl rfl) (pe_cal cB hr rfl (pa_cons (pv 0) (pa_cons (pv 1) (pa_cons (pv 2) (pa_cons (pe_op op_add (pv 3) pe_int) (pa_cons pe_int pa_nil)))))))
        (pss_cons (ps_set (i := 10) scBlock.nd rfl (.inl rfl) (pe_ix ix_list (pe_lst (pa_cons pe_str (pa_cons pe_str (pa_cons pe_str pa_nil)))) (pe_cal cC hr rfl (pa_cons (pv 0) (pa_cons pe_int pa_nil))) (fun _ _ => rfl)))
        (pss_one (ps_if (pt_cmpR op_eq (pv 7) pe_int (nomark _)) (pss_one (ps_expr (pe_bm PySem.F.plainAttrs_list PySem.F.slot_list_append PySem.F.type_list_append mt_append (pv 5) (pa_cons (pe_tup (pa_cons pe_str (pa_cons (pv 10) (pa_cons (pv 8) (pa_cons (pv 9) pa_nil))))) pa_nil))))
          (pss_one (ps_if (pt_cmpR op_eq (pe_cal cC hr rfl (pa_cons (pv 0) (pa_cons pe_int pa_nil))) pe_int (nomark _)) (pss_one (ps_expr (pe_bm PySem.F.plainAttrs_list PySem.F.slot_list_append PySem.F.type_list_append mt_append (pv 5) (pa_cons (pe_tup (pa_cons pe_str (pa_cons (pv 10) (pa_cons (pv 8) pa_nil)))) pa_nil))))
            (pss_cons (ps_expr (pe_bm PySem.F.plainAttrs_list PySem.F.slot_list_append PySem.F.type_list_append mt_append (pv 5) (pa_cons (pe_tup (pa_cons pe_str (pa_cons pe_str (pa_cons (pe_op op_add pe_int (pe_cal cC hr rfl (pa_cons (pv 0) (pa_cons pe_int pa_nil)))) pa_nil)))) pa_nil)))
            (pss_cons (ps_expr (pe_bm PySem.F.plainAttrs_list PySem.F.slot_list_append PySem.F.type_list_append mt_append (pv 5) (pa_cons (pe_tup (pa_cons pe_str (pa_cons pe_str (pa_cons pe_int pa_nil)))) pa_nil)))
            (pss_one (ps_expr (pe_bm PySem.F.plainAttrs_list PySem.F.slot_list_append PySem.F.type_list_append mt_append (pv 5) (pa_cons (pe_tup (pa_cons pe_str (pa_cons pe_str (pa_cons (pe_op op_catA (pv 8) (pe_tup (pa_cons (pe_tup (pa_cons pe_str (pa_cons pe_str (pa_cons pe_str (pa_cons pe_str (pa_cons pe_str pa_nil)))))) pa_nil))) pa_nil)))) pa_nil)))))))))))))
        (pss_one (ps_expr (pe_bm PySem.F.plainAttrs_list PySem.F.slot_list_append PySem.F.type_list_append mt_append (pv 5) (pa_cons (pe_cal cS hr rfl (pa_cons (pv 0) (pa_cons (pv 1) (pa_cons (pv 2) pa_nil)))) pa_nil))))))))
    (pss_one (ps_ret (pe_callTy call_tuple_of rfl T.tuple (by decide +kernel) (pa_cons (pe_slice sl_list (pv 5) po_none (po_some pe_int)) pa_nil))))), ?_⟩
  refine ⟨small (Nat.zero_le _), fun R hR => ?_⟩
  have nR : R ≠ st := hst.ne hR
  have s1 := same_new hR (.lst [])
  refine ⟨_, rfl, _, rfl, _, _, rfl, rfl, st, most + 1, rfl, hst.same s1, by omega, by omega, fun r G0 r0 r1 mv0 => ⟨r, rfl, by omega, by omega, ?_⟩⟩
  have b0 : Bl K ss ts n st R H G0 [] [] := ⟨Mv.trans ⟨Kp.of_same s1, hst.same s1⟩ mv0, mv0.kp _ _ nR upd_same, .nil, rfl⟩
  refine for_range (lo := 0) (n := r.toNat) (fun i σ G => ∃ (vs : List V) (ds : List PyData) (o6 o7 o8 o9 o10 : Option V), σ = [some (.ref st), some (.ref sa), some (.ref ta), some (.int dp), some (.int most), some (.ref R), o6, o7, o8, o9, o10] ∧ Bl K ss ts n st R H G vs ds ∧ ds.length ≤ 3 * i) ⟨[], [], _, _, _, _, _, rfl, b0, Nat.zero_le _⟩ (fun i σ G hi h => ?_) (fun σ G h => ?_)
  · obtain ⟨vs, ds, o6, o7, o8, o9, o10, rfl, b, hl⟩ := h
    have i6 : i < 13 := by omega
    have lv : ∀ {G' : Hp} {vs' : List V} {ds' : List PyData}, Bl K ss ts n st R H G' vs' ds' → ds'.length ≤ 100 → vs'.length < sizeLine := fun b' h => by
      rw [dpAll_len b'.dp]
      exact Nat.lt_of_lt_of_le (show _ < 1000 by omega) (show 1000 ≤ sizeLine by decide)
    refine ⟨_, rfl, st, 9, rfl, b.mv.sa, by decide, by decide, fun kd G1 kd0 kd1 mv1 => ?_⟩
    have b1 := b.move nR mv1
    have sa1 := b1.mv.kp _ _ nsa hsa
    have ta1 := b1.mv.kp _ _ nta hta
    refine ⟨_, rfl, _, _, rfl, rfl, _, rfl, ?_⟩
    by_cases c2 : kd < 2 ∧ dp < 4
    · refine ifT (decide_eq_true c2.1) ⟨_, rfl, _, _, rfl, rfl, _, rfl, ifT (decide_eq_true c2.2) ?_⟩
      obtain ⟨m, rfl⟩ : ∃ m, n = m + 1 := ⟨n - 1, by omega⟩
      refine ⟨_, rfl, _, rfl, _, rfl, _, rfl, _, _, rfl, rfl, m, rfl, st, sa, ta, ss, ts, dp + 1, 3, rfl, by omega, by decide, by decide, b1.mv.sa, nsa, nta, sa1, ta1, ls, lt, fun v1 e1 G2 mv2 dp1 ok1 le1 => ?_⟩
      obtain ⟨a1, rfl⟩ : ∃ a, v1 = .ref a := by cases dp1; exact ⟨_, rfl⟩
      have b2 := b1.move nR mv2
      refine ⟨_, rfl, _, rfl, _, rfl, _, rfl, _, _, rfl, rfl, m, rfl, st, sa, ta, ss, ts, dp + 1, 2, rfl, by omega, by decide, by decide, b2.mv.sa, nsa, nta, b2.mv.kp _ _ nsa hsa, b2.mv.kp _ _ nta hta, ls, lt, fun v2 e2 G3 mv3 dp2 ok2 le2 => ?_⟩
      have b3 := b2.move nR mv3
      have dp1' := dp_kt (mv3.kp.kt b2.mv.sa) _ _ (lblk_tup _ ok1) dp1
      refine ⟨small (by show 3 ≤ 1000; decide), fun pl hpl => ?_⟩
      have sl := same_new hpl (.lst (lnameL.map V.str))
      have npl : pl ≠ st := b3.mv.sa.ne hpl
      have mvl : Mv st G3 (upd G3 pl (.lst (lnameL.map V.str))) := ⟨Kp.of_same sl, b3.mv.sa.same sl⟩
      refine ⟨_, rfl, st, 3, rfl, mvl.sa, by decide, by decide, fun r4 G4 r40 r41 mv4 => ?_⟩
      have mv34 := mvl.trans mv4
      have b4 := b3.move nR mv34
      have hl4 := mv4.kp _ _ npl (show upd G3 pl (.lst (lnameL.map V.str)) pl = _ from upd_same)
      have d14 := dp_kt (mv34.kp.kt b3.mv.sa) _ _ (lblk_tup _ ok1) dp1'
      have d24 := dp_kt (mv34.kp.kt b3.mv.sa) _ _ (lblk_tup _ ok2) dp2
      obtain ⟨nm, hnm⟩ : ∃ z, lnameL[r4.toNat]? = some z := ⟨lnameL[r4.toNat]'(by show r4.toNat < 3; omega), by simp⟩
      have nn : numNameD (.str nm) = true := List.all_eq_true.mp lnameL_ok nm (List.mem_of_getElem? hnm)
      refine ⟨pl, _, r4, .str nm, rfl, rfl, .of hl4, atI_at r40 (by rw [List.getElem?_map, hnm]; rfl), ?_⟩
      refine ⟨_, rfl, rfl, _, rfl, ?_⟩
      by_cases ck : kd = 0
      · refine ifT (by rw [ck]; exact decide_eq_true rfl) ?_
        refine ⟨_, rfl, .inl ⟨rfl, _, SqL.of b4.at_⟩, _, rfl, _, rfl, _, rfl, small (by show 4 ≤ 1000; decide), fun p hp => ?_⟩
        have sp := same_new hp (.tup [.str "if", .str nm, .ref a1, v2])
        have b5 := b4.move nR ⟨Kp.of_same sp, b4.mv.sa.same sp⟩
        have dv : Dp K (upd G4 p (.tup [.str "if", .str nm, .ref a1, v2])) (.ref p) (.tuple [.str "if", .str nm, .tuple e1, .tuple e2]) := .tup (.of upd_same) (.cons (.str _) (.cons (.str _) (.cons (dp_same sp d14) (.cons (dp_same sp d24) .nil))))
        have ok5 : lstB ss ts (lblk ss ts (m + 1)) (.tuple [.str "if", .str nm, .tuple e1, .tuple e2]) = true := lst_branch (m := 2) (by decide +kernel) nn rfl (by show (lblk ss ts (m + 1) _ && (lblk ss ts (m + 1) _ && true)) = true; rw [ok1, ok2]; rfl)
        refine ⟨R, _, _, rfl, rfl, b5.at_, lv b5 (by omega), vs ++ [.ref p], ds ++ [_], _, _, _, _, _, rfl, b5.app nR hR dv ok5, ?_⟩
        rw [List.length_append, List.length_singleton]
        omega
      · refine ifF (decide_eq_false (fun z => ck (by injection z))) ?_
        refine ⟨_, rfl, st, 5, rfl, b4.mv.sa, by decide, by decide, fun r5 G5 r50 r51 mv5 => ⟨rfl, _, rfl, ?_⟩⟩
        have b5 := b4.move nR mv5
        have d15 := dp_kt (mv5.kp.kt b4.mv.sa) _ _ (lblk_tup _ ok1) d14
        by_cases c5 : r5 = 0
        · refine ifT (by rw [c5]; exact decide_eq_true rfl) ?_
          refine ⟨_, rfl, .inl ⟨rfl, _, SqL.of b5.at_⟩, _, rfl, _, rfl, small (by show 3 ≤ 1000; decide), fun p hp => ?_⟩
          have sp := same_new hp (.tup [.str "while", .str nm, .ref a1])
          have b6 := b5.move nR ⟨Kp.of_same sp, b5.mv.sa.same sp⟩
          have dv : Dp K (upd G5 p (.tup [.str "while", .str nm, .ref a1])) (.ref p) (.tuple [.str "while", .str nm, .tuple e1]) := .tup (.of upd_same) (.cons (.str _) (.cons (.str _) (.cons (dp_same sp d15) .nil)))
          have ok6 : lstB ss ts (lblk ss ts (m + 1)) (.tuple [.str "while", .str nm, .tuple e1]) = true := lst_branch (m := 1) (by decide +kernel) nn rfl (by show (lblk ss ts (m + 1) _ && true) = true; rw [ok1]; rfl)
          refine ⟨R, _, _, rfl, rfl, b6.at_, lv b6 (by omega), vs ++ [.ref p], ds ++ [_], _, _, _, _, _, rfl, b6.app nR hR dv ok6, ?_⟩
          rw [List.length_append, List.length_singleton]
          omega
        · refine ifF (decide_eq_false (fun z => c5 (by injection z))) ?_
          refine ⟨_, rfl, .inl ⟨rfl, _, SqL.of b5.at_⟩, _, rfl, st, 3, rfl, b5.mv.sa, by decide, by decide, fun r6 G6 r60 r61 mv6 => ⟨_, _, rfl, rfl, small (by show 3 ≤ 1000; decide), fun p hp => ?_⟩⟩
          have b6 := b5.move nR mv6
          have d16 := dp_kt (mv6.kp.kt b5.mv.sa) _ _ (lblk_tup _ ok1) d15
          have sp := same_new hp (.tup [.str "num", .str "left", .int (1 + r6)])
          have mvp : Mv st G6 (upd G6 p (.tup [.str "num", .str "left", .int (1 + r6)])) := ⟨Kp.of_same sp, b6.mv.sa.same sp⟩
          have b7 := b6.move nR mvp
          have ok7 : deedD ss ts (.tuple [.str "num", .str "left", .int (1 + r6)]) = true := deed_mk (ks := [.name, .number]) (by decide +kernel) rfl (andT (show numNameD (.str "left") = true by decide +kernel) (andT (by show (decide ((-9999 : Int) ≤ 1 + r6) && decide (1 + r6 ≤ 9999)) = true; rw [decide_eq_true (by omega), decide_eq_true (by omega)]; rfl) rfl)) (unl_not (by decide +kernel))
          have b8 := b7.app nR hR (d := .tuple [.str "num", .str "left", .int (1 + r6)]) (v := .ref p) (.tup (.of upd_same) (.cons (.str _) (.cons (.str _) (.cons (.int _) .nil)))) (lst_deed ok7)
          refine ⟨R, _, _, rfl, rfl, b7.at_, lv b7 (by omega), ?_⟩
          have l8 : (ds ++ [PyData.tuple [.str "num", .str "left", .int (1 + r6)]]).length = ds.length + 1 := by rw [List.length_append]; rfl
          refine ⟨_, rfl, .inl ⟨rfl, _, SqL.of b8.at_⟩, small (by show 3 ≤ 1000; decide), fun p2 hp2 => ?_⟩
          have sp2 := same_new hp2 (.tup [.str "num", .str "one", .int 1])
          have b9 := b8.move nR ⟨Kp.of_same sp2, b8.mv.sa.same sp2⟩
          have ok9 : deedD ss ts (.tuple [.str "num", .str "one", .int 1]) = true := deed_mk (ks := [.name, .number]) (by decide +kernel) rfl (andT (show numNameD (.str "one") = true by decide +kernel) (andT (show withinD (-9999) 9999 (.int 1) = true by decide +kernel) rfl)) (unl_not (by decide +kernel))
          have b10 := b9.app nR hR (d := .tuple [.str "num", .str "one", .int 1]) (v := .ref p2) (.tup (.of upd_same) (.cons (.str _) (.cons (.str _) (.cons (.int _) .nil)))) (lst_deed ok9)
          refine ⟨R, _, _, rfl, rfl, b9.at_, lv b9 (by omega), ?_⟩
          have l10 : (ds ++ [PyData.tuple [.str "num", .str "left", .int (1 + r6)]] ++ [PyData.tuple [.str "num", .str "one", .int 1]]).length = ds.length + 2 := by rw [List.length_append, List.length_append]; rfl
          have dfin := dp_kt (((KT.of_same sp).trans (KT.upd b7.at_)).trans ((KT.of_same sp2).trans (KT.upd (l' := vs ++ [.ref p] ++ [.ref p2]) b9.at_))) _ _ (lblk_tup _ ok1) d16
          cases dfin with
          | @tup _ xs1 _ at1 each1 =>
            refine ⟨_, rfl, .inl ⟨rfl, _, SqL.of b10.at_⟩, _, rfl, small (by show 5 ≤ 1000; decide), fun p3 hp3 => ⟨small (by show 1 ≤ 1000; decide), fun p4 hp4 => ?_⟩⟩
            have sp3 := same_new hp3 (.tup [.str "sum", .str "left", .str "left", .str "-", .str "one"])
            have sp4 := same_new hp4 (.tup [.ref p3])
            have s34 := sp3.trans sp4
            refine catA_run (sqT_same s34 at1) (.of upd_same) (by rw [dpAll_len each1]; show _ + 1 ≤ 1000; omega) fun rr G11 s5 hrr => ⟨small (by show 3 ≤ 1000; decide), fun p6 hp6 => ?_⟩
            have sp6 := same_new hp6 (.tup [.str "while", .str "left", .ref rr])
            have s36 := s34.trans (s5.trans sp6)
            have b11 := b10.move nR ⟨Kp.of_same s36, b10.mv.sa.same s36⟩
            have okS : deedD ss ts (.tuple [.str "sum", .str "left", .str "left", .str "-", .str "one"]) = true := deed_mk (ks := [.name, .name, .sign, .name]) (by decide +kernel) rfl (andT (show numNameD (.str "left") = true by decide +kernel) (andT (show numNameD (.str "left") = true by decide +kernel) (andT (show (signs.any fun z => isStrD z (.str "-")) = true by decide +kernel) (andT (show numNameD (.str "one") = true by decide +kernel) rfl)))) (unl_not (by decide +kernel))
            have dS := dp_same (sp4.trans (s5.trans sp6)) (show Dp K _ (.ref p3) (.tuple [.str "sum", .str "left", .str "left", .str "-", .str "one"]) from .tup (.of upd_same) (.cons (.str _) (.cons (.str _) (.cons (.str _) (.cons (.str _) (.cons (.str _) .nil))))))
            have ok1' := and3 (show (decide (e1.length ≤ 12) && e1.all (lstB ss ts (lblk ss ts m))) = true from ok1)
            have okW : lblk ss ts (m + 1) (.tuple (e1 ++ [.tuple [.str "sum", .str "left", .str "left", .str "-", .str "one"]])) = true := by
              show (decide ((e1 ++ [_]).length ≤ 12) && (e1 ++ [_]).all (lstB ss ts (lblk ss ts m))) = true
              rw [List.length_append, List.length_singleton, decide_eq_true (by omega), List.all_append, ok1'.2]
              show (true && (true && (lstB ss ts (lblk ss ts m) _ && true))) = true
              rw [lst_deed okS]
              rfl
            have dW : Dp K (upd G11 p6 (.tup [.str "while", .str "left", .ref rr])) (.ref p6) (.tuple [.str "while", .str "left", .tuple (e1 ++ [.tuple [.str "sum", .str "left", .str "left", .str "-", .str "one"]])]) :=
              .tup (.of upd_same) (.cons (.str _) (.cons (.str _) (.cons (.tup (sqT_same sp6 hrr) (dpAll_snoc dS (dps_same s36 each1))) .nil)))
            have ok12 : lstB ss ts (lblk ss ts (m + 1)) (.tuple [.str "while", .str "left", .tuple (e1 ++ [.tuple [.str "sum", .str "left", .str "left", .str "-", .str "one"]])]) = true := lst_branch (m := 1) (by decide +kernel) (by decide +kernel) rfl (by show (lblk ss ts (m + 1) _ && true) = true; rw [okW]; rfl)
            refine ⟨R, _, _, rfl, rfl, b11.at_, lv b11 (by omega), _, _, _, _, _, _, _, rfl, b11.app nR hR dW ok12, ?_⟩
            rw [List.length_append, List.length_singleton]
            omega
    · by_cases c1 : kd < 2
      · exact ifT (decide_eq_true c1) ⟨_, rfl, _, _, rfl, rfl, _, rfl, ifF (decide_eq_false (fun z => c2 ⟨c1, z⟩)) ⟨_, rfl, .inl ⟨rfl, _, SqL.of b1.at_⟩, _, rfl, _, rfl, _, rfl, st, sa, ta, ss, ts, rfl, b1.mv.sa, nsa, nta, sa1, ta1, ls, lt, fun v d G2 mv2 dpv okd => ⟨R, _, _, rfl, rfl, (b1.move nR mv2).at_, lv (b1.move nR mv2) (by omega), _, _, _, _, _, _, _, rfl, (b1.move nR mv2).app nR hR dpv (lst_deed okd), by rw [List.length_append, List.length_singleton]; omega⟩⟩⟩
      · exact ifF (decide_eq_false c1) (ifF rfl ⟨_, rfl, .inl ⟨rfl, _, SqL.of b1.at_⟩, _, rfl, _, rfl, _, rfl, st, sa, ta, ss, ts, rfl, b1.mv.sa, nsa, nta, sa1, ta1, ls, lt, fun v d G2 mv2 dpv okd => ⟨R, _, _, rfl, rfl, (b1.move nR mv2).at_, lv (b1.move nR mv2) (by omega), _, _, _, _, _, _, _, rfl, (b1.move nR mv2).app nR hR dpv (lst_deed okd), by rw [List.length_append, List.length_singleton]; omega⟩⟩)
  · obtain ⟨vs, ds, o6, o7, o8, o9, o10, rfl, b, hl⟩ := h
    refine ⟨_, rfl, _, rfl, R, vs, rfl, .of b.at_, fun p hp => ?_⟩
    rw [cut12]
    have sp := same_new hp (.lst (vs.take 12))
    refine ⟨p, vs.take 12, rfl, .inl ⟨.of upd_same, fun p2 hp2 => ?_⟩⟩
    have sp2 := same_new hp2 (.tup (vs.take 12))
    have s12 := sp.trans sp2
    refine q _ (ds.take 12) _ ⟨b.mv.kp.trans (Kp.of_same s12), b.mv.sa.same s12⟩ (.tup (.of upd_same) (dpAll_takeN 12 (dps_same s12 b.dp))) ?_ ?_
    · show (decide ((ds.take 12).length ≤ 12) && (ds.take 12).all (lstB ss ts (lblk ss ts n))) = true
      rw [decide_eq_true (by rw [List.length_take]; omega), Bool.true_and, List.all_eq_true]
      exact fun d hd => List.all_eq_true.mp b.ok d (List.mem_of_mem_take hd)
    · rw [List.length_take]
      omega
theorem no_block {k : Nat} : FnOk P w K mg base CX0 k f fd PBlock (spBlockS K 0) := ⟨(fun vs H Q E h => by obtain ⟨m, e, _⟩ := h; cases e), (fun A outer s H args us vs Q E hr he hb hv h => by obtain ⟨m, e, _⟩ := h; cases e)⟩
theorem all_block {k : Nat} (F : Fun K "_law_block" "_law_block" sBlock f fd) (hm : mg "_law_block" = some (.ref f)) (hb : Binds K fd PBlock []) (T : Free mg) (cC : Cal P w K mg base "_law_choice" k ["_law_state_here", "_law_many_here"] spChoice) (cS : Cal P w K mg base "_law_simple" k ["_law_state_here", "_law_sends", "_law_takes"] (spSimple K)) :
    ∀ n, n ≤ 3 → FnOk P w K mg base CX0 (k + n + 1) f fd PBlock (spBlock K n)
  | 0, _ => ok_block (by omega) F T cC cS ⟨f, fd, no_block, hm, F.kp, hb⟩
  | n + 1, hn => by
    have ih := all_block F hm hb T cC cS n (by omega)
    exact ok_block (k := k + (n + 1)) hn F T (cC.mono (by omega)) (cS.mono (by omega)) ⟨f, fd, ih.imp (fun vs H Q E z => by obtain ⟨m, e, z⟩ := z; cases e; exact z), hm, F.kp, hb⟩
end
/-! _law_ends, _law_net -/
def sdOf (b : Bool) : Int × Int → Int := if b = true then Prod.snd else Prod.fst
theorem chs_app (chs : List (Int × Int)) (c : Int × Int) : (chs ++ [c]).map mkCh = chs.map mkCh ++ [mkCh c] := by rw [List.map_append]; rfl
theorem chs_tup (chs : List (Int × Int)) : tupOnlyAll (chs.map mkCh) = true := tup_all fun d hd => by
  obtain ⟨c, _, rfl⟩ := List.mem_map.mp hd
  rfl
theorem pairs_of (chs : List (Int × Int)) : (chs.map mkCh).map pairD = chs := by
  rw [List.map_map]
  conv => rhs; rw [← List.map_id chs]
  rfl
theorem chan_ok {m : Int} {c : Int × Int} (h : 0 ≤ c.1 ∧ c.1 < m ∧ 0 ≤ c.2 ∧ c.2 < m ∧ c.1 ≠ c.2) : chanD m (mkCh c) = true := by
  show ((withinD 0 (m - 1) (.int c.1) && withinD 0 (m - 1) (.int c.2)) && intNe (.int c.1) (.int c.2)) = true
  show (((decide ((0 : Int) ≤ c.1) && decide (c.1 ≤ m - 1)) && (decide ((0 : Int) ≤ c.2) && decide (c.2 ≤ m - 1))) && !decide (c.1 = c.2)) = true
  rw [decide_eq_true h.1, decide_eq_true (show c.1 ≤ m - 1 by omega), decide_eq_true h.2.2.1, decide_eq_true (show c.2 ≤ m - 1 by omega), decide_eq_false h.2.2.2.2]
  rfl
theorem cutLast (xs : List V) : cutV xs none (some (-1)) = xs.take (xs.length - 1) := by
  show (xs.drop 0).take (HT.sIx xs.length xs.length (some (-1)) - 0) = _
  rw [List.drop_zero, Nat.sub_zero]
  have e : HT.sIx xs.length xs.length (some (-1)) = ((-1 : Int) + (xs.length : Int)).toNat := by
    unfold HT.sIx
    exact if_pos (by decide)
  rw [e]
  congr 1
  omega
section
open PySem.Spec PyProof.Rows LamX
variable {P : Program} {w : World} {K : PySem.W.Frag} {mg : Str → Option Value} {base : Heap} {f : Addr} {fd : FuncData}
def spEnds (K : PySem.W.Frag) : Sp := fun vs H Q _ => ∃ (L : Addr) (cvs : List V) (chs : List (Int × Int)) (me : Int) (b : Bool), vs = [.ref L, .int me, .int (if b = true then 1 else 0)] ∧ H L = some (.lst cvs) ∧ DpAll K H cvs (chs.map mkCh) ∧ chs.length ≤ 100 ∧ ∀ D H', Same H H' → H D = none → H' D = some (.lst ((sideL (sdOf b) chs me).map V.int)) → Q (.ref D) H'
abbrev NEnds : List Str := ["_law_channels", "_law_actor", "_law_side", "_law_number", "_law_ends_here"]
theorem scEnds : FnScope NEnds ["_law_channels", "_law_actor", "_law_side"] (defScope sEnds) := ⟨rfl, rfl, rfl, by decide +kernel, rfl, by decide +kernel, by decide +kernel⟩
theorem ok_ends {k : Nat} (F : Fun K "_law_ends" "_law_ends" sEnds f fd) (hE : mg "enumerate" = none) : FnOk P w K mg base CX0 (k + 1) f fd ["_law_channels", "_law_actor", "_law_side"] (spEnds K) := by
  refine F.ok scEnds (fun vs H Q E h => ?_) (fun cdv A outer s H vs Q E hr h => ?_)
  · obtain ⟨L, cvs, chs, me, b, rfl, _⟩ := h
    rfl
  obtain ⟨L, cvs, chs, me, b, rfl, hL, hdp, hl, q⟩ := h
  refine ⟨_, pss_one (ps_ret (pe_lc (own := [("_law_number", 3), ("_law_ends_here", 4)]) (g := gTup K 2 (gCons (gName 3) (gCons (gName 4) gNil))) (tt := tTest (tOp rEq (tOp (rIxT K) (tVar 4) (tVar 2)) (tVar 1))) (te := tVar 3) rfl scEnds.nd (pi_enum rfl hE (pa_cons (pv 0) pa_nil))
      (blkOk_by (own := [("_law_number", 3), ("_law_ends_here", 4)]) (N := NEnds) (sc := defScope sEnds) (by decide +kernel))
      (fun _ _ _ _ _ => pg_tup rfl (pgs_cons (pg_name (i := 3) scEnds.nd rfl (Or.inl rfl)) (pgs_cons (pg_name (i := 4) scEnds.nd rfl (Or.inl rfl)) pgs_nil))) (fun _ _ _ _ _ => pts_one (pt_cmpR op_eq (pe_ix ix_tup (pv 4) (pv 2) (fun _ _ => rfl)) (pv 1) (nomark _))) (fun _ _ _ _ _ => pv 3))), ?_⟩
  have lx := dpAll_len hdp
  rw [List.length_map] at lx
  refine ⟨_, rfl, L, cvs, rfl, SqL.of hL, fun D hD => ?_⟩
  refine lc_it (walk_enum (xs := cvs)) (fun i G => Same H G ∧ G D = some (.lst ((sideN (sdOf b) chs me i).map V.int))) ⟨same_new hD _, by rw [upd_same]; rfl⟩ (fun i G _ h => SqL.of (h.1 _ _ hL)) (fun i v G G' hi h y => ?_) (fun G h => ?_)
  · obtain ⟨sm, hG⟩ := h
    obtain ⟨T, x, y', rfl, hT, rfl, ex, ey⟩ := y
    cases ex
    obtain ⟨c, r, hcm, rfl, hr2⟩ := chs_at (dps_same sm hdp) ey
    have nT := same_new hT (.tup [.int (i : Nat), .ref r])
    refine ⟨T, _, rfl, SqT.of upd_same, rfl, _, _, rfl, _, _, rfl, rfl, rfl, ?_⟩
    have nD : D ≠ T := ne_of_none hG hT
    have rd : ∃ xv : Int, xv = sdOf b c ∧ atI [V.int c.1, V.int c.2] (if b = true then 1 else 0) = some (.int xv) := by
      cases b
      · exact ⟨c.1, rfl, rfl⟩
      · exact ⟨c.2, rfl, rfl⟩
    obtain ⟨xv, hxv, hat⟩ := rd
    refine ⟨_, rfl, _, rfl, r, _, _, .int xv, rfl, rfl, sqT_same nT hr2, hat, _, rfl, rfl, _, rfl, ?_⟩
    by_cases hc : xv = me
    · refine ifT (by rw [hc]; exact decide_eq_true rfl) ⟨_, rfl, _, nT _ _ hG, ?_, same_upd2 (sm.trans nT) hD, ?_⟩
      · rw [List.length_map]
        have := sideN_len (sdOf b) chs me i
        exact Nat.lt_of_lt_of_le (show _ < 1000 by omega) (show 1000 ≤ sizeLine by decide)
      · rw [upd_same, sideN_yes hcm (by rw [← hxv]; exact hc), List.map_append]
        rfl
    · refine ifF (decide_eq_false (fun z => hc (by injection z))) ⟨sm.trans nT, ?_⟩
      rw [sideN_no hcm (by rw [← hxv]; exact hc)]
      exact nT _ _ hG
  · obtain ⟨sm, hG⟩ := h
    rw [lx] at hG
    exact q D G sm hD hG
def spNet (K : PySem.W.Frag) : Sp := fun vs H Q _ => ∃ (st : Addr) (M L : Int), vs = [.ref st, .int M, .int L] ∧ 1 ≤ M ∧ M ≤ 4 ∧ 0 ≤ L ∧ L ≤ 12 ∧ StAt H st ∧ ∀ v d H', Mv st H H' → Dp K H' v d → netD d = true → Q v H'
abbrev NNet : List Str := ["_law_state_here", "_law_most", "_law_long", "_law_many_here", "_law_channels", "_law_actors", "_law_turn", "_law_one", "_law_actor", "_law_block_here"]
theorem scNet : FnScope NNet ["_law_state_here", "_law_most", "_law_long"] (defScope sNet) := ⟨rfl, rfl, rfl, by decide +kernel, rfl, by decide +kernel, by decide +kernel⟩
def tNetB (K : PySem.W.Frag) : TS := fun D σ H => ∃ (M L : Int) (H0 : Hp) (st C A : Addr) (r : Int) (cvs : List V) (chs : List (Int × Int)) (o6 o7 o8 o9 : Option V), σ = [some (.ref st), some (.int M), some (.int L), some (.int (1 + r)), some (.ref C), some (.ref A), o6, o7, o8, o9] ∧ 0 ≤ L ∧ L ≤ 12 ∧ StAt H st ∧ C ≠ st ∧ A ≠ st ∧ C ≠ A ∧ H C = some (.lst cvs) ∧ H A = some (.lst []) ∧ DpAll K H cvs (chs.map mkCh) ∧ chs.length ≤ 6 ∧
  (∀ c ∈ chs, 0 ≤ c.1 ∧ c.1 < 1 + r ∧ 0 ≤ c.2 ∧ c.2 < 1 + r ∧ c.1 ≠ c.2) ∧ 0 ≤ r ∧ r < 4 ∧ Kp st H0 H ∧ H0 C = none ∧ H0 A = none ∧ ∀ v d H', Mv st H0 H' → Dp K H' v d → netD d = true → D.rt v H'
set_option maxHeartbeats 2000000 in
theorem ok_net {k : Nat} (F : Fun K "_law_net" "_law_net" sNet f fd) (T : Free mg) (cC : Cal P w K mg base "_law_choice" k ["_law_state_here", "_law_many_here"] spChoice) (cE : Cal P w K mg base "_law_ends" k ["_law_channels", "_law_actor", "_law_side"] (spEnds K)) (cB : Cal P w K mg base "_law_block" k PBlock (spBlock K 3)) (cM : Cal P w K mg base "_law_many" k ["_law_block_here"] (spMany K 4)) :
    FnOk P w K mg base CX0 (k + 1) f fd ["_law_state_here", "_law_most", "_law_long"] (spNet K) := by
  refine F.ok scNet (fun vs H Q E h => ?_) (fun cdv A outer s H vs Q E hr h => ?_)
  · obtain ⟨st, M, L, rfl, _⟩ := h
    rfl
  obtain ⟨st, M, L, rfl, M1, M4, L0, L8, hst, q⟩ := h
  refine ⟨_, pss_cons (ps_par3 (i := 3) (j := 4) (l := 5) rfl scNet.nd rfl rfl rfl (by decide) (by decide) (by decide) rfl rfl rfl (pa_cons (pe_op op_add pe_int (pe_cal cC hr rfl (pa_cons (pv 0) (pa_cons (pv 1) pa_nil)))) (pa_cons (pe_lst pa_nil) (pa_cons (pe_lst pa_nil) pa_nil))) rfl)
    (pss_cons (ps_for PassesOwn.never rfl (pi_range1 rfl T.range (pa_cons (pe_ifExp (pt_cmpR op_gt (pv 3) pe_int (nomark _)) (pe_cal cC hr rfl (pa_cons (pv 0) (pa_cons pe_int pa_nil))) pe_int) pa_nil)) (pg_name (i := 6) scNet.nd rfl (.inl rfl))
      (pss_cons (ps_set (i := 7) scNet.nd rfl (.inl rfl) (pe_cal cC hr rfl (pa_cons (pv 0) (pa_cons (pv 3) pa_nil))))
      (pss_one (ps_expr (pe_bm PySem.F.plainAttrs_list PySem.F.slot_list_append PySem.F.type_list_append mt_append (pv 4) (pa_cons (pe_tup (pa_cons (pv 7) (pa_cons (pe_op op_mod (pe_op op_add (pe_op op_add (pv 7) pe_int) (pe_cal cC hr rfl (pa_cons (pv 0) (pa_cons (pe_op op_sub (pv 3) pe_int) pa_nil)))) (pv 3)) pa_nil))) pa_nil))))))
    (pss_imp (t' := tNetB K) (pss_cons (ps_for PassesOwn.never rfl (pi_range1 rfl T.range (pa_cons (pv 3) pa_nil)) (pg_name (i := 8) scNet.nd rfl (.inl rfl))
      (pss_cons (ps_set (i := 9) scNet.nd rfl (.inl rfl) (pe_cal cB hr rfl (pa_cons (pv 0) (pa_cons (pe_cal cE hr rfl (pa_cons (pv 4) (pa_cons (pv 8) (pa_cons pe_int pa_nil)))) (pa_cons (pe_cal cE hr rfl (pa_cons (pv 4) (pa_cons (pv 8) (pa_cons pe_int pa_nil)))) (pa_cons pe_int (pa_cons (pv 2) pa_nil)))))))
      (pss_cons (ps_while PassesOwn.never (pt_cmpR op_gt (pe_cal cM hr rfl (pa_cons (pv 9) pa_nil)) pe_int (nomark _))
        (pss_one (ps_set (i := 9) scNet.nd rfl (.inl rfl) (pe_slice sl_tupA (pv 9) po_none (po_some (pe_un un_neg pe_int))))))
      (pss_one (ps_expr (pe_bm PySem.F.plainAttrs_list PySem.F.slot_list_append PySem.F.type_list_append mt_append (pv 5) (pa_cons (pv 9) pa_nil)))))))
    (pss_one (ps_ret (pe_tup (pa_cons (pe_callTy call_tuple_of rfl T.tuple (by decide +kernel) (pa_cons (pv 4) pa_nil)) (pa_cons (pe_callTy call_tuple_of rfl T.tuple (by decide +kernel) (pa_cons (pv 5) pa_nil)) pa_nil)))))) ?net)), ?_⟩
  case net =>
    intro D σ H h
    obtain ⟨M, L, H0, st, C, A, r, cvs, chs, o6, o7, o8, o9, rfl, L0, L8, hst, nC, nA, nCA, hC, hA, hdp, hl, hch, r0, r4, k0, hC0, hA0, q⟩ := h
    refine ⟨_, rfl, 1 + r, rfl, by omega, by omega, ?_⟩
    refine for_range (lo := 0) (n := (1 + r).toNat) (fun i σ G => ∃ (ws : List V) (ds : List PyData) (o8 o9 : Option V), σ = [some (.ref st), some (.int M), some (.int L), some (.int (1 + r)), some (.ref C), some (.ref A), o6, o7, o8, o9] ∧ StAt G st ∧ (∀ b u, b ≠ st → b ≠ A → H b = some u → G b = some u) ∧ G A = some (.lst ws) ∧ DpAll K G ws ds ∧ ds.length = i ∧ ∀ (j : Nat) d, ds[j]? = some d → (blkD (sideL Prod.fst chs (0 + j)) (sideL Prod.snd chs (0 + j)) 4 d).isSome = true)
      ⟨[], [], _, _, rfl, hst, fun b u _ _ hu => hu, hA, .nil, rfl, fun j d h => (by cases h)⟩ (fun i σ G hi h => ?_) (fun σ G h => ?_)
    · obtain ⟨ws, ds, o8, o9, rfl, sG, kG, hA2, dpw, ld, okd⟩ := h
      have hC2 := kG _ _ nC nCA hC
      have tupD : tupOnlyAll ds = true := tup_all fun d hd => by
        obtain ⟨j, hj⟩ := List.getElem?_of_mem hd
        have z := okd j d hj
        rw [blk_some] at z
        exact lblk_tup 4 (and3 z).1
      have kt0 : ∀ {G' : Hp}, (∀ b u, b ≠ st → b ≠ A → H b = some u → G' b = some u) → KT H G' := fun {G'} k b u hb n => k b u (fun e => by obtain ⟨l, hl⟩ := hst.some; rw [e, hl] at hb; cases hb; exact n _ rfl) (fun e => by rw [e, hA] at hb; cases hb; exact n _ rfl) hb
      have dpc : ∀ {G' : Hp}, (∀ b u, b ≠ st → b ≠ A → H b = some u → G' b = some u) → DpAll K G' cvs (chs.map mkCh) := fun {G'} k => dpAll_kt (kt0 k) _ _ (chs_tup chs) hdp
      refine ⟨_, rfl, _, rfl, _, rfl, C, cvs, chs, (0 : Int) + (i : Nat), false, rfl, hC2, dpc kG, by omega, fun D1 G1 s1 n1 h1 => ?_⟩
      refine ⟨_, rfl, _, rfl, C, cvs, chs, (0 : Int) + (i : Nat), true, rfl, s1 _ _ hC2, dps_same s1 (dpc kG), by omega, fun D2 G2 s2 n2 h2 => ?_⟩
      have s12 := s1.trans s2
      have sd1 : (sideL (sdOf false) chs ((0 : Int) + (i : Nat))).length ≤ 100 := Nat.le_trans (sideN_len _ _ _ _) (by omega)
      have sd2 : (sideL (sdOf true) chs ((0 : Int) + (i : Nat))).length ≤ 100 := Nat.le_trans (sideN_len _ _ _ _) (by omega)
      refine ⟨_, rfl, st, D1, D2, _, _, 1, L, rfl, by decide, L0, L8, sG.same s12, sG.ne n1, (sG.same s1).ne n2, s2 _ _ h1, h2, sd1, sd2, fun v e G3 mv3 dp3 ok3 le3 => ?_⟩
      -- behind the block
      have kG3 : ∀ b u, b ≠ st → G b = some u → G3 b = some u := fun b u nb hb => mv3.kp _ _ nb (s12 _ _ hb)
      refine ⟨fun m σ G4 => ∃ (v : V) (e : List PyData), m = e.length ∧ σ = [some (.ref st), some (.int M), some (.int L), some (.int (1 + r)), some (.ref C), some (.ref A), o6, o7, some (.int ((0 : Int) + (i : Nat))), some v] ∧ Same G3 G4 ∧ Dp K G4 v (.tuple e) ∧ lblk (sideL Prod.fst chs ((0 : Int) + (i : Nat))) (sideL Prod.snd chs ((0 : Int) + (i : Nat))) 4 (.tuple e) = true, ⟨_, v, e, rfl, rfl, Same.refl _, dp3, ok3⟩, fun m σ G4 w4 => ?_⟩
      obtain ⟨v, e, rfl, rfl, s34, dpv, okv⟩ := w4
      refine ⟨_, rfl, v, .tuple e, _, _, rfl, dpv, okv, fun G5 s5 => ⟨_, _, rfl, rfl, _, rfl, ?_⟩⟩
      have s35 := s34.trans s5
      by_cases h40 : 40 < manyN 4 (.tuple e)
      · refine ifT (decide_eq_true (by omega)) ⟨_, fun σ' H' h => h, ?_⟩
        have e0 : e.length ≠ 0 := fun z => by
          have : e = [] := List.length_eq_zero_iff.mp z
          subst this
          cases h40
        cases dp_same s5 dpv with
        | @tup ea evs _ eat eeach =>
          refine ⟨_, rfl, _, rfl, _, rfl, slA_run eat fun rr G6 s6 hrr => ?_⟩
          rw [cutLast, dpAll_len eeach] at hrr
          have okc := and3 (show (decide (e.length ≤ 12) && e.all (lstB (sideL Prod.fst chs ((0 : Int) + (i : Nat))) (sideL Prod.snd chs ((0 : Int) + (i : Nat))) (lblk (sideL Prod.fst chs ((0 : Int) + (i : Nat))) (sideL Prod.snd chs ((0 : Int) + (i : Nat))) 3))) = true from okv)
          refine ⟨(e.take (e.length - 1)).length, by rw [List.length_take]; omega, _, e.take (e.length - 1), rfl, rfl, s35.trans s6, .tup hrr (dpAll_takeN _ (dps_same s6 eeach)), ?_⟩
          show (decide ((e.take (e.length - 1)).length ≤ 12) && (e.take (e.length - 1)).all (lstB _ _ (lblk _ _ 3))) = true
          rw [decide_eq_true (by rw [List.length_take]; have := of_decide_eq_true okc.1; omega), Bool.true_and, List.all_eq_true]
          exact fun d hd => List.all_eq_true.mp okc.2 d (List.mem_of_mem_take hd)
      · refine ifF (decide_eq_false (by omega)) ?_
        have hA5 := s35 _ _ (kG3 _ _ nA hA2)
        have kt35 : KT G G5 := fun b u hb n => s35 _ _ (kG3 b u (fun z => by obtain ⟨l, hl⟩ := sG.some; rw [z, hl] at hb; cases hb; exact n _ rfl) hb)
        refine ⟨_, rfl, .inl ⟨rfl, _, SqL.of hA5⟩, _, rfl, A, ws, v, rfl, rfl, hA5, ?_, ?_⟩
        · rw [dpAll_len dpw, ld]
          exact Nat.lt_of_lt_of_le (show _ < 1000 by omega) (show 1000 ≤ sizeLine by decide)
        have ktA : KT G5 (upd G5 A (.lst (ws ++ [v]))) := KT.upd hA5
        have dv5 := dp_kt ktA _ _ (lblk_tup 4 okv) (dp_same s5 dpv)
        refine ⟨ws ++ [v], ds ++ [.tuple e], _, _, rfl, (mv3.sa.same s35).upd nA, fun b u nb nbA hb => ?_, upd_same, dpAll_snoc dv5 (dpAll_kt ktA _ _ tupD (dpAll_kt kt35 _ _ tupD dpw)), by rw [List.length_append, ld]; rfl, fun j d hj => ?_⟩
        · rw [upd_ne nbA]
          exact s35 _ _ (kG3 b u nb (kG b u nb nbA hb))
        · rcases Nat.lt_or_ge j ds.length with hjl | hjl
          · rw [List.getElem?_append_left hjl] at hj
            exact okd j d hj
          · rw [List.getElem?_append_right hjl] at hj
            have hj0 : j - ds.length = 0 := by
              by_cases z : j - ds.length = 0
              · exact z
              · have : ([PyData.tuple e])[j - ds.length]? = none := List.getElem?_eq_none (by show 1 ≤ _; omega)
                rw [this] at hj
                cases hj
            rw [hj0] at hj
            cases hj
            have ej : j = i := by omega
            subst ej
            rw [blk_some, okv, decide_eq_true (by omega)]
            rfl
    · obtain ⟨ws, ds, o8, o9, rfl, sG, kG, hA2, dpw, ld, okd⟩ := h
      have hC2 := kG _ _ nC nCA hC
      have tupD : tupOnlyAll ds = true := tup_all fun d hd => by
        obtain ⟨j, hj⟩ := List.getElem?_of_mem hd
        have z := okd j d hj
        rw [blk_some] at z
        exact lblk_tup 4 (and3 z).1
      have kt0 : KT H G := fun b u hb n => kG b u (fun e => by obtain ⟨l, hl⟩ := hst.some; rw [e, hl] at hb; cases hb; exact n _ rfl) (fun e => by rw [e, hA] at hb; cases hb; exact n _ rfl) hb
      have dpc := dpAll_kt kt0 _ _ (chs_tup chs) hdp
      refine ⟨_, rfl, C, cvs, rfl, .inl ⟨.of hC2, fun p hp => ?_⟩⟩
      have sp := same_new hp (.tup cvs)
      refine ⟨_, rfl, A, ws, rfl, .inl ⟨.of (sp _ _ hA2), fun p2 hp2 => ⟨small (by show 2 ≤ 1000; decide), fun p3 hp3 => ?_⟩⟩⟩
      have sp2 := same_new hp2 (.tup ws)
      have sp3 := same_new hp3 (.tup [.ref p, .ref p2])
      have s23 := sp2.trans sp3
      have s13 := sp.trans s23
      refine q _ (.tuple [.tuple (chs.map mkCh), .tuple ds]) _ ⟨fun b u nb hb => s13 _ _ (kG b u nb (fun e => by rw [e, hA0] at hb; cases hb) (k0 b u nb hb)), sG.same s13⟩ (.tup (.of upd_same) (.cons (.tup (sqT_same s23 (.of upd_same)) (dps_same s13 dpc)) (.cons (.tup (sqT_same sp3 (.of upd_same)) (dps_same s13 dpw)) .nil))) ?_
      show ((decide ((chs.map mkCh).length ≤ 6) && (decide (1 ≤ ds.length) && decide (ds.length ≤ 4))) && ((chs.map mkCh).all (chanD ds.length) && actsB ((chs.map mkCh).map pairD) 0 ds)) = true
      rw [List.length_map, decide_eq_true hl, decide_eq_true (show 1 ≤ ds.length by omega), decide_eq_true (show ds.length ≤ 4 by omega), pairs_of, acts_yes (me := 0) okd, Bool.and_true, Bool.and_true, Bool.and_true, Bool.true_and, List.all_eq_true]
      intro d hd
      obtain ⟨c, hc, rfl⟩ := List.mem_map.mp hd
      have h := hch c hc
      exact chan_ok ⟨h.1, by omega, h.2.2.1, by omega, h.2.2.2.2⟩
  refine ⟨_, rfl, _, rfl, st, M, rfl, hst, by omega, by omega, fun r G0 r0 rM mv0 => ⟨_, _, rfl, rfl, small (Nat.zero_le _), fun C hC => ⟨small (Nat.zero_le _), fun A hA => ⟨_, _, _, rfl, ?_⟩⟩⟩⟩
  have r4 : r < 4 := by omega
  have sC := same_new hC (.lst [])
  have sA := same_new hA (.lst [])
  have nC : C ≠ st := mv0.sa.ne hC
  have nA : A ≠ st := (mv0.sa.same sC).ne hA
  have nCA : C ≠ A := fun e => by rw [← e, upd_same] at hA; cases hA
  have s0 := sC.trans sA
  have mv1 : Mv st H (upd (upd G0 C (.lst [])) A (.lst [])) := mv0.trans ⟨Kp.of_same s0, mv0.sa.same s0⟩
  have hC0 : H C = none := mv0.kp.free nC hC
  have hA0 : H A = none := mv0.kp.free nA (none_of_same sC hA)
  generalize hG1 : upd (upd G0 C (.lst [])) A (.lst []) = G1
  rw [hG1] at mv1
  have hC1 : G1 C = some (.lst []) := by rw [← hG1]; exact sA _ _ upd_same
  have hA1 : G1 A = some (.lst []) := by rw [← hG1]; exact upd_same
  refine ⟨_, rfl, _, _, rfl, rfl, _, rfl, ?_⟩
  by_cases hr0 : 0 < r
  · refine ifT (decide_eq_true (by omega)) ⟨_, rfl, st, 7, rfl, mv1.sa, by decide, by decide, fun r2 G2 r20 r21 mv2 => ⟨r2, rfl, by omega, by omega, ?_⟩⟩
    refine for_range (lo := 0) (n := r2.toNat) (fun i σ G => ∃ (cvs : List V) (chs : List (Int × Int)) (o6 o7 : Option V), σ = [some (.ref st), some (.int M), some (.int L), some (.int (1 + r)), some (.ref C), some (.ref A), o6, o7, none, none] ∧ Mv st H G ∧ G C = some (.lst cvs) ∧ G A = some (.lst []) ∧ DpAll K G cvs (chs.map mkCh) ∧ chs.length = i ∧ ∀ c ∈ chs, 0 ≤ c.1 ∧ c.1 < 1 + r ∧ 0 ≤ c.2 ∧ c.2 < 1 + r ∧ c.1 ≠ c.2)
      ⟨[], [], _, _, rfl, mv1.trans mv2, mv2.kp _ _ nC hC1, mv2.kp _ _ nA hA1, .nil, rfl, fun c hc => (by cases hc)⟩ (fun i σ G hi h => ?_) (fun σ G h => ?_)
    · obtain ⟨cvs, chs, o6, o7, rfl, mvG, hCG, hAG, dpG, lG, okG⟩ := h
      refine ⟨_, rfl, _, rfl, st, 1 + r, rfl, mvG.sa, by omega, by omega, fun one G3 on0 on1 mv3 => ?_⟩
      have hC3 := mv3.kp _ _ nC hCG
      refine ⟨_, rfl, .inl ⟨rfl, _, SqL.of hC3⟩, _, rfl, _, rfl, _, _, rfl, rfl, _, rfl, _, rfl, _, _, rfl, rfl, st, 1 + r - 1, rfl, mv3.sa, by omega, by omega, fun t G4 t0 t1 mv4 => ?_⟩
      have mv34 := mv3.trans mv4
      have hC4 := mv4.kp _ _ nC hC3
      have dp4 := dpAll_kt (mv34.kp.kt mvG.sa) _ _ (chs_tup chs) dpG
      refine ⟨_, _, rfl, rfl, _, rfl, _, _, rfl, rfl, (by show 0 < 1 + r; omega), small (by show 2 ≤ 1000; decide), fun p hp => ?_⟩
      have sp := same_new hp (.tup [.int one, .int ((one + 1 + t) % (1 + r))])
      have hC5 := sp _ _ hC4
      have ktC : KT _ (upd (upd G4 p (.tup [.int one, .int ((one + 1 + t) % (1 + r))])) C (.lst (cvs ++ [.ref p]))) := KT.upd hC5
      have hm0 : 0 ≤ (one + 1 + t) % (1 + r) := Int.emod_nonneg _ (by omega)
      have hm1 : (one + 1 + t) % (1 + r) < 1 + r := Int.emod_lt_of_pos _ (by omega)
      have hne : one ≠ (one + 1 + t) % (1 + r) := by
        by_cases z : one + 1 + t < 1 + r
        · rw [Int.emod_eq_of_lt (by omega) z]
          omega
        · have e : (one + 1 + t) % (1 + r) = one + 1 + t - (1 + r) := by
            rw [← Int.sub_emod_right, Int.emod_eq_of_lt (by omega) (by omega)]
          rw [e]
          omega
      refine ⟨C, cvs, _, rfl, rfl, hC5, ?_, ?_⟩
      · rw [dpAll_len dpG, List.length_map, lG]
        exact Nat.lt_of_lt_of_le (show _ < 1000 by omega) (show 1000 ≤ sizeLine by decide)
      refine ⟨cvs ++ [.ref p], chs ++ [(one, (one + 1 + t) % (1 + r))], _, _, rfl, ⟨fun b u nb hb => ?_, ((mvG.trans mv34).sa.same sp).upd nC⟩, upd_same, ?_, ?_, by rw [List.length_append, lG]; rfl, fun c hc => ?_⟩
      · rw [upd_ne (fun e => by rw [e, hC0] at hb; cases hb)]
        exact sp _ _ ((mvG.trans mv34).kp b u nb hb)
      · rw [upd_ne nCA.symm]
        exact sp _ _ (mv34.kp _ _ nA hAG)
      · rw [chs_app]
        exact dpAll_snoc (dp_kt ktC _ _ rfl (show Dp K _ (.ref p) (mkCh (one, (one + 1 + t) % (1 + r))) from .tup (.of upd_same) (.cons (.int _) (.cons (.int _) .nil)))) (dpAll_kt ktC _ _ (chs_tup chs) (dps_same sp dp4))
      · rcases List.mem_append.mp hc with hc | hc
        · exact okG c hc
        · rw [List.mem_singleton.mp hc]
          exact ⟨on0, on1, hm0, hm1, hne⟩
    · obtain ⟨cvs, chs, o6, o7, rfl, mvG, hCG, hAG, dpG, lG, okG⟩ := h
      exact ⟨M, L, H, st, C, A, r, cvs, chs, _, _, _, _, rfl, L0, L8, mvG.sa, nC, nA, nCA, hCG, hAG, dpG, by omega, okG, r0, r4, mvG.kp, hC0, hA0, q⟩
  · refine ifF (decide_eq_false (by omega)) ⟨0, rfl, by decide, by decide, ?_⟩
    refine for_range (lo := 0) (n := (0 : Int).toNat) (fun i σ G => σ = [some (.ref st), some (.int M), some (.int L), some (.int (1 + r)), some (.ref C), some (.ref A), none, none, none, none] ∧ G = G1) ⟨rfl, rfl⟩ (fun i σ G hi h => absurd hi (Nat.not_lt_zero _)) (fun σ G h => ?_)
    obtain ⟨rfl, rfl⟩ := h
    exact ⟨M, L, H, st, C, A, r, [], [], _, _, _, _, rfl, L0, L8, mv1.sa, nC, nA, nCA, hC1, hA1, .nil, by show 0 ≤ 6; decide, fun c hc => (by cases hc), r0, r4, mv1.kp, hC0, hA0, q⟩
end
/-! _law_rows, _law_written -/
def inW (wb : Nat → PyData → List Str) (k : Nat) : Nat → List PyData → List Str
  | _, [] => []
  | i, a :: as => List.replicate i (blS k ++ "else") ++ (wb (k + 1) a ++ inW wb k (i + 1) as)
theorem inW_snoc {wb : Nat → PyData → List Str} {k : Nat} {a : PyData} : ∀ (l : List PyData) (i : Nat), inW wb k i (l ++ [a]) = inW wb k i l ++ (List.replicate (i + l.length) (blS k ++ "else") ++ wb (k + 1) a)
  | [], i => by
    show List.replicate i (blS k ++ "else") ++ (wb (k + 1) a ++ []) = [] ++ (List.replicate (i + 0) (blS k ++ "else") ++ wb (k + 1) a)
    simp
  | b :: l, i => by
    show List.replicate i (blS k ++ "else") ++ (wb (k + 1) b ++ inW wb k (i + 1) (l ++ [a])) = (List.replicate i (blS k ++ "else") ++ (wb (k + 1) b ++ inW wb k (i + 1) l)) ++ _
    rw [inW_snoc l (i + 1), List.length_cons, show i + 1 + l.length = i + (l.length + 1) by omega]
    simp only [List.append_assoc]
section
open PySem.Spec PyProof.Rows LamX
variable {P : Program} {w : World} {K : PySem.W.Frag} {mg : Str → Option Value} {base : Heap} {f : Addr} {fd : FuncData}
def spLRw (K : PySem.W.Frag) (n : Nat) : Sp := fun vs H Q _ => ∃ (x : V) (d : PyData) (k : Nat) (ss ts : List Int), vs = [x, .int (k : Nat)] ∧ Dp K H x d ∧ lblk ss ts n d = true ∧ IB ss ∧ IB ts ∧ k + n ≤ 8 ∧ manyN n d ≤ 40 ∧ ∀ R H', Same H H' → H R = none → H' R = some (.lst ((wrN n k d).map V.str)) → Q (.ref R) H'
abbrev lrN67 : List Str := ["_law_block_here", "_law_ahead", "_law_rows_here", "_law_one", "_law_parts", "_law_at", "_law_inner", "_law_part"]
theorem scLRw : FnScope lrN67 ["_law_block_here", "_law_ahead"] (defScope sLRows) := ⟨rfl, rfl, rfl, by decide +kernel, rfl, by decide +kernel, by decide +kernel⟩
theorem rep_flat (z : Str) : ∀ i, (List.replicate i [V.str z]).flatten = (List.replicate i z).map V.str
  | 0 => rfl
  | i + 1 => by rw [List.replicate_succ, List.flatten_cons, rep_flat z i, List.replicate_succ]; rfl
/-- behind a statement's parts -/
def tRowTail (K : PySem.W.Frag) (n : Nat) : TS := fun D σ G => ∃ (H0 : Hp) (v0 : V) (k : Nat) (R da pp : Addr) (o5 o6 o7 : Option V) (z : Str) (es as ps : List PyData) (acc : List Str) (ss ts : List Int),
  σ = [some v0, some (.int (k : Nat)), some (.ref R), some (.ref da), some (.ref pp), o5, o6, o7] ∧ Same H0 G ∧ H0 R = none ∧ Dp K H0 (.ref da) (.tuple (.str z :: es)) ∧ ((z ∉ brL ∧ as = []) ∨ (z ∈ brL ∧ ∃ nm, es = nm :: as)) ∧
  as.length ≤ 2 ∧ as.all (lblk ss ts n) = true ∧ IB ss ∧ IB ts ∧ k + n < 8 ∧ (∀ a ∈ as, manyN n a ≤ 40) ∧ Dp K G (.ref pp) (.tuple ps) ∧ (∀ d ∈ ps, PartOk d) ∧ ps.length ≤ 6 ∧ G R = some (.lst (acc.map V.str)) ∧ acc.length ≤ 100 ∧
  ∀ R' G' p5 p6 p7, Same H0 G' → H0 R' = none → G' R' = some (.lst ((acc ++ ((blS k ++ wordsS ps) :: inW (wrN n) k 0 as)).map V.str)) → D.nx [some v0, some (.int (k : Nat)), some (.ref R'), some (.ref da), some (.ref pp), p5, p6, p7] G'
theorem ok_lrw {k n : Nat} (F : Fun K "_law_rows" "_law_rows" sLRows f fd) (hS : mg "str" = none) (hE : mg "enumerate" = none) (cR : Cal P w K mg base "_law_rows" k ["_law_block_here", "_law_ahead"] (spLRw K n)) : FnOk P w K mg base CX0 (k + 1) f fd ["_law_block_here", "_law_ahead"] (spLRw K (n + 1)) := by
  refine F.ok scLRw (fun vs H Q E h => ?_) (fun cdv A outer s H vs Q E hr h => ?_)
  · obtain ⟨x, d, k, ss, ts, rfl, _⟩ := h
    rfl
  obtain ⟨x, d, lv, ss, ts, rfl, hx, hd, hss, hts, lv8, m40, q⟩ := h
  refine ⟨_, pss_cons (ps_set (i := 2) scLRw.nd rfl (.inl rfl) (pe_lst pa_nil))
    (pss_cons (ps_for PassesOwn.never rfl (pi_tup (pv 0)) (pg_name (i := 3) scLRw.nd rfl (.inl rfl))
      (pss_cons (ps_set (i := 4) scLRw.nd rfl (.inl rfl) (pe_ifExp (pt_cmpR op_in_seq (pe_ix ix_tup (pv 3) pe_int (fun _ _ => rfl)) (pe_tup (pa_cons pe_str (pa_cons pe_str pa_nil))) rfl) (pe_slice sl_tupA (pv 3) po_none (po_some pe_int)) (pv 3)))
      (pss_imp (t' := tRowTail K n) (pss_cons (ps_expr (pe_bm PySem.F.plainAttrs_list PySem.F.slot_list_append PySem.F.type_list_append mt_append (pv 2) (pa_cons (pe_op op_add_str (pe_op op_mulS pe_str (pv 1)) (pe_bm PySem.F.plainAttrs_str PySem.F.slot_str_join PySem.F.type_str_join mt_join pe_str (pa_cons
          (pe_lc (own := [("_law_part", 7)]) (g := gName 7) (tt := tYes) (te := tCB strR (tCons (tVar 7) tNil)) rfl scLRw.nd (pi_tup (pv 4))
            (blkOk_by (own := [("_law_part", 7)]) (N := lrN67) (sc := defScope sLRows) (by decide +kernel))
            (fun _ _ _ _ _ => pg_name (i := 7) scLRw.nd rfl (Or.inl rfl)) (fun _ _ _ _ _ => pts_nil) (fun _ _ _ _ _ => pe_callTy call_strA rfl hS (by decide +kernel) (pa_cons (pv 7) pa_nil))) pa_nil))) pa_nil)))
        (pss_one (ps_for PassesOwn.never rfl (pi_enumT rfl hE (pa_cons (pe_ifExp (pt_cmpR op_in_seq (pe_ix ix_tup (pv 3) pe_int (fun _ _ => rfl)) (pe_tup (pa_cons pe_str (pa_cons pe_str pa_nil))) rfl) (pe_slice sl_tupA (pv 3) (po_some pe_int) po_none) (pe_tup pa_nil)) pa_nil)) (pg_tup rfl (pgs_cons (pg_name (i := 5) scLRw.nd rfl (.inl rfl)) (pgs_cons (pg_name (i := 6) scLRw.nd rfl (.inl rfl)) pgs_nil)))
          (pss_one (ps_set (i := 2) scLRw.nd rfl (.inl rfl) (pe_op op_cat (pe_op op_cat (pv 2) (pe_op op_rep (pe_lst (pa_cons (pe_op op_add_str (pe_op op_mulS pe_str (pv 1)) pe_str) pa_nil)) (pv 5))) (pe_cal cR hr rfl (pa_cons (pv 6) (pa_cons (pe_op op_add (pv 1) pe_int) pa_nil))))))))) (fun D σ G h => ?tail))))
    (pss_one (ps_ret (pv 2)))), ?main⟩
  case tail =>
    obtain ⟨H0, v0, kk, R, da, pp, o5, o6, o7, z, es, as, ps, acc, ss, ts, rfl, sG, nR, hda, kind, la2, hall, hss, hts, k8, m40, hpp, hps, l6, gR, la100, fin⟩ := h
    have b := bl_len kk
    have sl : (16777216 : Nat) = sizeLine := rfl
    have wo := words_len fun d hd => (hps d hd).b
    have hpp' := hpp
    cases hpp with
    | @tup _ xs _ pat peach =>
    have lx := dpAll_len peach
    refine ⟨_, rfl, .inl ⟨rfl, _, SqL.of gR⟩, _, rfl, "  ", kk, rfl, rfl, by decide +kernel, by omega, rfl, _, rfl, pp, rfl, ⟨xs, pat⟩, fun D' hD => ?_⟩
    refine lc_tup (xs := xs) (fun i X => Same G X ∧ X D' = some (.lst (((ps.take i).map partS).map V.str))) ⟨same_new hD _, by rw [upd_same]; rfl⟩ (fun i X _ h => sqT_same h.1 pat) (fun i v X hv h => ?_) (fun X h => ?_)
    · obtain ⟨sX, gD⟩ := h
      obtain ⟨d, hd, hdv⟩ := dpAll_get' (dps_same sX peach) hv
      have il := (List.getElem?_eq_some_iff.mp hd).1
      refine ⟨rfl, yesG (cb1 ⟨_, rfl, strR_part hdv (hps d (List.mem_of_getElem? hd)).b ?_⟩)⟩
      refine ⟨_, gD, ?_, same_upd2 sX hD, ?_⟩
      · rw [List.length_map, List.length_map, List.length_take]
        exact Nat.lt_of_lt_of_le (show _ < 1000 by omega) (small (Nat.le_refl _))
      · rw [upd_same, take_more hd, List.map_append, List.map_append]
        rfl
    obtain ⟨sX, gD⟩ := h
    rw [lx, List.take_length] at gD
    refine ⟨" ", D', ps.map partS, rfl, rfl, .inl (SqL.of gD), words_end (by omega) (fun d hd => (hps d hd).b), ?_⟩
    rw [times_bl]
    refine ⟨_, _, rfl, rfl, by show (blS kk).length + (wordsS ps).length ≤ _; omega, R, _, _, rfl, rfl, sX _ _ gR, by rw [List.length_map]; exact Nat.lt_of_lt_of_le (show _ < 1000 by omega) (small (Nat.le_refl _)), ?_⟩
    have sG2 : Same H0 (upd X R (.lst (acc.map V.str ++ [V.str (blS kk ++ wordsS ps)]))) := same_upd2 (sG.trans sX) nR
    have gR2 : (upd X R (.lst (acc.map V.str ++ [V.str (blS kk ++ wordsS ps)]))) R = some (.lst ((acc ++ [blS kk ++ wordsS ps]).map V.str)) := by rw [upd_same, List.map_append]; rfl
    show tSeq _ _ _ _ (upd X R (.lst (acc.map V.str ++ [V.str (blS kk ++ wordsS ps)])))
    generalize upd X R (.lst (acc.map V.str ++ [V.str (blS kk ++ wordsS ps)])) = G2 at sG2 gR2 ⊢
    have hda2 := dp_same sG2 hda
    cases hda with
    | @tup _ zs _ dat0 deach =>
    cases deach with
    | @cons u us _ _ d1 d2 =>
    cases d1
    refine ⟨_, rfl, da, _, 0, _, rfl, rfl, sqT_same sG2 dat0, atI_at (by decide) rfl, small (by show 2 ≤ 1000; decide), fun p hp => ⟨p, _, rfl, .inr (SqT.of upd_same), rfl, flat_strs brL, _, rfl, ?_⟩⟩
    have sp := same_new hp (.tup (brL.map V.str))
    rw [if_neg (by decide), show inV (V.str z) [V.str "if", V.str "while"] = decide (z ∈ brL) from inV_strs z brL]
    rcases kind with ⟨hz, rfl⟩ | ⟨hz, nm, rfl⟩
    · rw [decide_eq_false hz]
      refine ifF rfl ⟨small (Nat.zero_le _), fun T hT => ⟨T, _, rfl, SqT.of upd_same, ?_⟩⟩
      have sT := same_new hT (.tup [])
      refine for_enumT (xs := []) (fun i σ G3 => σ = [some v0, some (.int (kk : Nat)), some (.ref R), some (.ref da), some (.ref pp), o5, o6, o7] ∧ G3 = upd (upd G2 p (.tup (brL.map V.str))) T (.tup []) ) ⟨rfl, rfl⟩ (fun i σ G3 _ h => by rw [h.2]; exact SqT.of upd_same) (fun i v T0 σ G3 hv h hT => by cases hv) (fun σ G3 h => ?_)
      obtain ⟨rfl, rfl⟩ := h
      refine fin R _ _ _ _ (sG2.trans (sp.trans sT)) nR ?_
      exact ((sp.trans sT) _ _ gR2).trans rfl
    · rw [decide_eq_true hz]
      cases d2 with
      | @cons nv avs _ _ n1 n2 =>
      refine ifT rfl ⟨_, rfl, _, rfl, noP (slA_run (sqT_same (sG2.trans sp) dat0) fun T G3 s3 hT3 => ?_)⟩
      rw [cut_from0 (by decide)] at hT3
      have hT3 : SqT K G3 T avs := hT3
      have s03 := sG2.trans (sp.trans s3)
      have lav := dpAll_len n2
      refine ⟨T, avs, rfl, hT3, ?_⟩
      refine for_enumT (xs := avs) (fun i σ G4 => ∃ (R' : Addr) (p5 p6 : Option V), σ = [some v0, some (.int (kk : Nat)), some (.ref R'), some (.ref da), some (.ref pp), p5, p6, o7] ∧ Same H0 G4 ∧ SqT K G4 T avs ∧ H0 R' = none ∧ G4 R' = some (.lst ((acc ++ ((blS kk ++ wordsS ps) :: inW (wrN n) kk 0 (as.take i))).map V.str)) ∧ (inW (wrN n) kk 0 (as.take i)).length ≤ 90 * i)
        ⟨R, _, _, rfl, s03, hT3, nR, by rw [(sp.trans s3) _ _ gR2]; rfl, Nat.zero_le _⟩ (fun i σ G4 _ h => by obtain ⟨_, _, _, _, _, h, _⟩ := h; exact h) (fun i v T0 σ G4 hv h hT0 => ?_) (fun σ G4 h => ?_)
      · obtain ⟨R', p5, p6, rfl, s4, hT4, nR', gR', ln⟩ := h
        obtain ⟨a, ha, hav⟩ := dpAll_get' (dps_same s4 n2) hv
        have il := (List.getElem?_eq_some_iff.mp ha).1
        have lba := List.all_eq_true.mp hall a (List.mem_of_getElem? ha)
        have ma := m40 a (List.mem_of_getElem? ha)
        have wl := wrN_len n (k := kk + 1) lba
        have sT0 := same_new hT0 (.tup [.int (i : Nat), v])
        refine ⟨T0, _, rfl, SqT.of upd_same, rfl, _, _, rfl, _, _, rfl, rfl, ?_⟩
        refine ⟨_, rfl, _, rfl, "  ", kk, rfl, rfl, by decide +kernel, by omega, ?_⟩
        rw [times_bl]
        refine ⟨_, _, rfl, rfl, by show (blS kk).length + ("else" : Str).length ≤ _; rw [show ("else" : Str).length = 4 by decide +kernel]; omega, by show 1 ≤ sizeLine; decide, fun L1 hL1 => ?_⟩
        have sL1 := same_new hL1 (.lst [V.str (blS kk ++ "else")])
        refine ⟨_, rfl, L1, (i : Nat), _, rfl, rfl, upd_same, by omega, by omega, by show 1 * ((i : Nat) : Int).toNat ≤ _; rw [Int.toNat_natCast]; exact small (by omega), fun L2 hL2 => ?_⟩
        rw [Int.toNat_natCast]
        rw [rep_flat]
        have sL2 := same_new hL2 (.lst ((List.replicate i (blS kk ++ "else")).map V.str))
        refine ⟨R', L2, _, _, rfl, rfl, (sT0.trans (sL1.trans sL2)) _ _ gR', upd_same, ?_, fun L3 hL3 => ?_⟩
        · rw [List.length_map, List.length_append, List.length_cons, List.length_map, List.length_replicate]
          exact small (by omega)
        rw [← List.map_append]
        have sL3 := same_new hL3 (.lst (((acc ++ ((blS kk ++ wordsS ps) :: inW (wrN n) kk 0 (as.take i))) ++ List.replicate i (blS kk ++ "else")).map V.str))
        have s43 := sT0.trans (sL1.trans (sL2.trans sL3))
        refine ⟨_, rfl, _, rfl, _, _, rfl, rfl, v, a, kk + 1, ss, ts, by show _ = [v, V.int ((kk + 1 : Nat) : Int)]; rfl, dp_same s43 hav, lba, hss, hts, by omega, ma, fun L4 G5 s5 hL4 gL4 => ?_⟩
        refine ⟨L3, L4, _, _, rfl, rfl, s5 _ _ upd_same, gL4, ?_, fun L5 hL5 => ?_⟩
        · rw [List.length_map, List.length_append, List.length_append, List.length_cons, List.length_replicate, List.length_map]
          exact small (by omega)
        have s6 := s4.trans (s43.trans (s5.trans (same_new hL5 (.lst (((acc ++ ((blS kk ++ wordsS ps) :: inW (wrN n) kk 0 (as.take i))) ++ List.replicate i (blS kk ++ "else")).map V.str ++ (wrN n (kk + 1) a).map V.str)))))
        have lt : (as.take i).length = i := by rw [List.length_take]; omega
        have e2 : inW (wrN n) kk 0 (as.take (i + 1)) = inW (wrN n) kk 0 (as.take i) ++ (List.replicate i (blS kk ++ "else") ++ wrN n (kk + 1) a) := by
          rw [take_more ha, inW_snoc, lt, Nat.zero_add]
        refine ⟨L5, _, _, rfl, s6, sqT_same (s43.trans (s5.trans (same_new hL5 _))) hT4, none_of_same (s4.trans (s43.trans s5)) hL5, ?_, ?_⟩
        · rw [upd_same, e2]
          simp
        · rw [e2, List.length_append, List.length_append, List.length_replicate]
          omega
      · obtain ⟨R', p5, p6, rfl, s4, hT4, nR', gR', ln⟩ := h
        rw [lav, List.take_length] at gR'
        exact fin R' _ _ _ _ s4 nR' gR'
  case main =>
    cases d with
    | tuple ds =>
      have hl := (and3 (show (decide (ds.length ≤ 12) && ds.all (lstB ss ts (lblk ss ts n))) = true from hd)).2
      have m40 : sumM (manyS (manyN n)) ds ≤ 40 := m40
      cases hx with
      | @tup ba xs _ bat each =>
      have lx := dpAll_len each
      have wlen : ∀ j, ((ds.take j).flatMap (wrS (wrN n) lv)).length ≤ 80 := fun j => by
        have aux : ∀ l : List PyData, l.all (lstB ss ts (lblk ss ts n)) = true → (l.flatMap (wrS (wrN n) lv)).length ≤ 2 * sumM (manyS (manyN n)) l := fun l => by
          induction l with
          | nil => intro _; exact Nat.zero_le _
          | cons a l il =>
            intro hl
            rw [List.all_cons] at hl
            have h1 := wr_len (wrN n) (mb := manyN n) (k := lv) (fun x k hx => wrN_len n hx) (and3 hl).1
            have h2 := il (and3 hl).2
            rw [List.flatMap_cons, List.length_append]
            show _ ≤ 2 * (manyS (manyN n) a + sumM (manyS (manyN n)) l)
            omega
        have := aux _ (List.all_eq_true.mpr fun z hz => List.all_eq_true.mp hl z (List.mem_of_mem_take (i := j) hz))
        have := sumM_take (m := manyS (manyN n)) ds j
        omega
      refine ⟨small (Nat.zero_le _), fun R hR => ?_⟩
      have sR := same_new hR (.lst [])
      refine ⟨_, rfl, ba, rfl, ⟨xs, sqT_same sR bat⟩, ?_⟩
      refine for_tup (xs := xs) (fun j σ G => ∃ (R' : Addr) (o3 o4 o5 o6 o7 : Option V), σ = [some (.ref ba), some (.int (lv : Nat)), some (.ref R'), o3, o4, o5, o6, o7] ∧ Same H G ∧ H R' = none ∧ G R' = some (.lst (((ds.take j).flatMap (wrS (wrN n) lv)).map V.str)))
        ⟨R, _, _, _, _, _, rfl, sR, hR, by rw [upd_same]; rfl⟩ (fun j σ G _ h => by obtain ⟨_, _, _, _, _, _, _, s, _⟩ := h; exact sqT_same s bat) (fun j sv σ G hsv h => ?_) (fun σ G h => ?_)
      · obtain ⟨R', o3, o4, o5, o6, o7, rfl, sG, nR', gR'⟩ := h
        obtain ⟨d, hd, hdv⟩ := dpAll_get' each hsv
        have hld := List.all_eq_true.mp hl d (List.mem_of_getElem? hd)
        have sm := take_more hd
        have ms := sumM_take (m := manyS (manyN n)) ds (j + 1)
        rw [sm, sumM_snoc] at ms
        have key : ∃ z es as ps, d = .tuple (.str z :: es) ∧ ((z ∉ brL ∧ as = [] ∧ ps = .str z :: es) ∨ (z ∈ brL ∧ ∃ nm, es = nm :: as ∧ ps = [.str z, nm])) ∧ as.length ≤ 2 ∧ as.all (lblk ss ts n) = true ∧ (∀ a ∈ as, manyN n a ≤ 40) ∧ (∀ d ∈ ps, PartOk d) ∧ ps.length ≤ 6 ∧ wrS (wrN n) lv d = (blS lv ++ wordsS ps) :: inW (wrN n) lv 0 as := by
          rcases st_cases hld with ⟨hde, nb, z, es, rfl, hz⟩ | ⟨nm, x, y, rfl, hn, hx, hy, hb⟩ | ⟨nm, x, rfl, hn, hx, hb⟩
          · obtain ⟨z', es', e, _, l4, hp⟩ := deed_parts hss hts hde
            cases e
            exact ⟨z, es, [], _, rfl, .inl ⟨hz, rfl, rfl⟩, by decide, rfl, (fun a ha => by cases ha), hp, by rw [List.length_cons]; omega, wrS_deed hz⟩
          · rw [manyS_if hb] at ms
            refine ⟨"if", _, [x, y], _, rfl, .inr ⟨by decide +kernel, nm, rfl, rfl⟩, Nat.le_refl 2, by simp [hx, hy], fun a ha => ?_, br_parts (by decide +kernel) hn, by show 2 ≤ 6; decide, ?_⟩
            · rcases List.mem_cons.mp ha with rfl | ha
              · omega
              · rw [List.mem_singleton.mp ha]; omega
            · rw [wrS_if]
              show _ = _ :: (List.replicate 0 _ ++ (wrN n (lv + 1) x ++ (List.replicate 1 (blS lv ++ "else") ++ (wrN n (lv + 1) y ++ []))))
              simp
          · rw [manyS_wh hb] at ms
            refine ⟨"while", _, [x], _, rfl, .inr ⟨by decide +kernel, nm, rfl, rfl⟩, by show 1 ≤ 2; decide, by simp [hx], fun a ha => ?_, br_parts (by decide +kernel) hn, by show 2 ≤ 6; decide, ?_⟩
            · rw [List.mem_singleton.mp ha]; omega
            · rw [wrS_wh]
              show _ = _ :: (List.replicate 0 _ ++ (wrN n (lv + 1) x ++ []))
              simp
        obtain ⟨z, es, as, ps, rfl, kind, las, hall, hm, hps, lps, ew⟩ := key
        have hdv' := hdv
        cases hdv with
        | @tup da zs _ dat deach =>
        cases deach with
        | @cons u us _ _ d1 d2 =>
        cases d1
        have fin : ∀ (R' : Addr) (G' : Hp) (pp : Addr) (p5 p6 p7 : Option V), Same H G' → H R' = none → G' R' = some (.lst ((((ds.take j).flatMap (wrS (wrN n) lv)) ++ ((blS lv ++ wordsS ps) :: inW (wrN n) lv 0 as)).map V.str)) → ∃ (R'' : Addr) (o3 o4 o5 o6 o7 : Option V), [some (V.ref ba), some (.int (lv : Nat)), some (.ref R'), some (.ref da), some (.ref pp), p5, p6, p7] = [some (.ref ba), some (.int (lv : Nat)), some (.ref R''), o3, o4, o5, o6, o7] ∧ Same H G' ∧ H R'' = none ∧ G' R'' = some (.lst (((ds.take (j + 1)).flatMap (wrS (wrN n) lv)).map V.str)) := fun R1 G' pp p5 p6 p7 s1 n1 g1 => by
          refine ⟨R1, _, _, _, _, _, rfl, s1, n1, ?_⟩
          rw [g1, sm, List.flatMap_append, List.flatMap_cons, List.flatMap_nil, List.append_nil, ew]
        have wj := wlen j
        refine ⟨_, rfl, da, _, 0, _, rfl, rfl, sqT_same sG dat, atI_at (by decide) rfl, small (by show 2 ≤ 1000; decide), fun p hp => ⟨p, _, rfl, .inr (SqT.of upd_same), rfl, flat_strs brL, _, rfl, ?_⟩⟩
        have sp := same_new hp (.tup (brL.map V.str))
        rw [if_neg (by decide), show inV (V.str z) [V.str "if", V.str "while"] = decide (z ∈ brL) from inV_strs z brL]
        rcases kind with ⟨hz, rfl, rfl⟩ | ⟨hz, nm, rfl, rfl⟩
        · rw [decide_eq_false hz]
          refine ifF rfl ⟨_, rfl, ?_⟩
          exact ⟨H, _, lv, R', da, da, _, _, _, z, es, [], _, _, ss, ts, rfl, sG.trans sp, nR', hdv', .inl ⟨hz, rfl⟩, las, hall, hss, hts, by omega, hm, dp_same (sG.trans sp) hdv', hps, lps, sp _ _ gR', by omega, fun R1 G' p5 p6 p7 s1 n1 g1 => fin R1 G' da p5 p6 p7 s1 n1 g1⟩
        · rw [decide_eq_true hz]
          cases d2 with
          | @cons nv avs _ _ n1 n2 =>
          refine ifT rfl ⟨_, rfl, _, rfl, slA_run (sqT_same (sG.trans sp) dat) fun pp G3 s3 hp3 => ?_⟩
          have hp3 : SqT K G3 pp [.str z, nv] := hp3
          have s03 := sG.trans (sp.trans s3)
          exact ⟨H, _, lv, R', da, pp, _, _, _, z, _, as, _, _, ss, ts, rfl, s03, nR', hdv', .inr ⟨hz, nm, rfl⟩, las, hall, hss, hts, by omega, hm, .tup hp3 (.cons (.str _) (.cons (dp_same s03 n1) .nil)), hps, lps, (sp.trans s3) _ _ gR', by omega, fun R1 G' p5 p6 p7 s1 n1 g1 => fin R1 G' pp p5 p6 p7 s1 n1 g1⟩
      · obtain ⟨R', o3, o4, o5, o6, o7, rfl, sG, nR', gR'⟩ := h
        rw [lx, List.take_length] at gR'
        exact ⟨_, rfl, q R' G sG nR' gR'⟩
    | _ => cases hd
theorem all_lrw {k : Nat} (F : Fun K "_law_rows" "_law_rows" sLRows f fd) (hm : mg "_law_rows" = some (.ref f)) (hb : Binds K fd ["_law_block_here", "_law_ahead"] []) (hS : mg "str" = none) (hE : mg "enumerate" = none) : ∀ n, FnOk P w K mg base CX0 (k + n) f fd ["_law_block_here", "_law_ahead"] (spLRw K n)
  | 0 => ⟨(fun vs H Q E h => by obtain ⟨x, d, _, _, _, _, _, h, _⟩ := h; cases d <;> cases h), (fun A outer s H args us vs Q E hr he hb hv h => by obtain ⟨x, d, _, _, _, _, _, h, _⟩ := h; cases d <;> cases h)⟩
  | n + 1 => ok_lrw (k := k + n) F hS hE ⟨f, fd, all_lrw F hm hb hS hE n, hm, F.kp, hb⟩
end
/-! _law_written -/
theorem emp_str (z : Str) : Str.empty ++ z = z := str_tl (by rw [show (Str.empty ++ z).cps.toList = Str.empty.cps.toList ++ z.cps.toList from TL.tl_append _ _]; rfl)
section
open PySem.Spec PyProof.Rows LamX
variable {P : Program} {w : World} {K : PySem.W.Frag} {mg : Str → Option Value} {base : Heap} {f : Addr} {fd : FuncData}
def spLWr (K : PySem.W.Frag) : Sp := fun vs H Q _ => ∃ (x : V) (cs as : List PyData), vs = [x] ∧ Dp K H x (.tuple [.tuple cs, .tuple as]) ∧ netB cs as = true ∧ ∀ H', Same H H' → Q (.str (netT (cs.map pairD) as)) H'
abbrev lwN67 : List Str := ["_law_mesh", "_law_rows_here", "_law_block_here", "_law_ends_here"]
theorem scLWr : FnScope lwN67 ["_law_mesh"] (defScope sLWritten) := ⟨rfl, rfl, rfl, by decide +kernel, rfl, by decide +kernel, by decide +kernel⟩
abbrev rAddSt : R2 := fun x y H Q => ∃ i j, x = .str i ∧ y = .str j ∧ i.length + j.length ≤ sizeLine ∧ Q (.str (i ++ j)) H
abbrev rStrI : List V → Hp → VK → Prop := fun xs H Q => ∃ i : Int, xs = [.int i] ∧ i.natAbs.log2 < 1920 ∧ Q (.str (toString i)) H
theorem ok_lwr {k : Nat} (F : Fun K "_law_written" "_law_written" sLWritten f fd) (hS : mg "str" = none) (cR : Cal P w K mg base "_law_rows" k ["_law_block_here", "_law_ahead"] (spLRw K 4)) : FnOk P w K mg base CX0 (k + 1) f fd ["_law_mesh"] (spLWr K) := by
  refine F.ok scLWr (fun vs H Q E h => ?_) (fun cdv A outer s H vs Q E hr h => ?_)
  · obtain ⟨x, cs, as, rfl, _⟩ := h
    rfl
  obtain ⟨x, cs, as, rfl, hx, hn, q⟩ := h
  refine ⟨_, pss_cons (ps_set (i := 1) scLWr.nd rfl (.inl rfl) (pe_lst (pa_cons (pe_bm PySem.F.plainAttrs_str PySem.F.slot_str_join PySem.F.type_str_join mt_join pe_str (pa_cons (pe_op op_cat (pe_lst (pa_cons pe_str pa_nil))
      (pe_lc (own := [("_law_ends_here", 3)]) (g := gName 3) (tt := tYes) (te := tOp rAddSt (tOp rAddSt (tCB rStrI (tCons (tOp (rIxT K) (tVar 3) (tC (.int 0))) tNil)) (tC (.str ">"))) (tCB rStrI (tCons (tOp (rIxT K) (tVar 3) (tC (.int 1))) tNil))) rfl scLWr.nd (pi_tup (pe_ix ix_tup (pv 0) pe_int (fun _ _ => rfl)))
        (blkOk_by (own := [("_law_ends_here", 3)]) (N := lwN67) (sc := defScope sLWritten) (by decide +kernel))
        (fun _ _ _ _ _ => pg_name (i := 3) scLWr.nd rfl (Or.inl rfl)) (fun _ _ _ _ _ => pts_nil)
        (fun _ _ _ _ _ => pe_op op_add_str (pe_op op_add_str (pe_callTy call_str_int rfl hS (by decide +kernel) (pa_cons (pe_ix ix_tup (pv 3) pe_int (fun _ _ => rfl)) pa_nil)) pe_str) (pe_callTy call_str_int rfl hS (by decide +kernel) (pa_cons (pe_ix ix_tup (pv 3) pe_int (fun _ _ => rfl)) pa_nil))))) pa_nil)) pa_nil)))
    (pss_cons (ps_for PassesOwn.never rfl (pi_tup (pe_ix ix_tup (pv 0) pe_int (fun _ _ => rfl))) (pg_name (i := 2) scLWr.nd rfl (.inl rfl))
      (pss_one (ps_set (i := 1) scLWr.nd rfl (.inl rfl) (pe_op op_cat (pe_op op_cat (pv 1) (pe_lst (pa_cons pe_str pa_nil))) (pe_cal cR hr rfl (pa_cons (pv 2) (pa_cons pe_int pa_nil)))))))
    (pss_one (ps_ret (pe_bm PySem.F.plainAttrs_str PySem.F.slot_str_join PySem.F.type_str_join mt_join pe_str (pa_cons (pv 1) pa_nil))))), ?_⟩
  have G := netB_G hn
  have hc := chs_ok hn
  obtain ⟨rl, ro⟩ := netRows_ok hn
  have l6 := G.l6
  cases hx with
  | @tup na nvs _ nat neach =>
  cases neach with
  | @cons cv _ _ _ c1 r1 =>
  cases r1 with
  | @cons av _ _ _ a1 r2 =>
  cases r2
  rw [G.ch] at c1
  have act : ∀ b ∈ as, ∃ ss ts, lblk ss ts 4 b = true ∧ IB ss ∧ IB ts ∧ manyN 4 b ≤ 40 := fun b hb => by
    obtain ⟨i, hi⟩ := List.getElem?_of_mem hb
    obtain ⟨a1, a2⟩ := G.act i b hi
    have l6' : (cs.map pairD).length ≤ 6 := by rw [List.length_map]; exact l6
    exact ⟨_, _, a1, side_ib l6', side_ib l6', a2⟩
  have lch : (cs.map pairD).length ≤ 6 := by rw [List.length_map]; exact l6
  generalize cs.map pairD = chs at c1 hc rl ro q lch
  cases c1 with
  | @tup ca cvs _ cat ceach =>
  cases a1 with
  | @tup aa avs _ aat aeach =>
  have lc := dpAll_len ceach
  rw [List.length_map] at lc
  have la := dpAll_len aeach
  have sl : (16777216 : Nat) = sizeLine := rfl
  refine ⟨rfl, by show 1 ≤ sizeLine; decide, fun L1 hL1 => ?_⟩
  have sL1 := same_new hL1 (.lst [V.str "channels"])
  refine ⟨_, rfl, na, _, 0, _, rfl, rfl, sqT_same sL1 nat, atI_at (by decide) rfl, ca, rfl, ⟨cvs, sqT_same sL1 cat⟩, fun D hD => ?_⟩
  refine lc_tup (xs := cvs) (fun i G => Same (upd H L1 (.lst [V.str "channels"])) G ∧ G D = some (.lst (((chs.take i).map chW).map V.str))) ⟨same_new hD _, by rw [upd_same]; rfl⟩ (fun i G _ h => sqT_same (sL1.trans h.1) cat) (fun i v G hv h => ?_) (fun G h => ?_)
  · obtain ⟨sG, gD⟩ := h
    obtain ⟨d, hd, hdv⟩ := dpAll_get' (dps_same (sL1.trans sG) ceach) hv
    rw [List.getElem?_map] at hd
    obtain ⟨c, hci, rfl⟩ := Option.map_eq_some_iff.mp hd
    have il := (List.getElem?_eq_some_iff.mp hci).1
    obtain ⟨⟨h0, h1, h2, h3, _⟩, _⟩ := hc c (List.mem_of_getElem? hci)
    have hdv : Dp K G v (.tuple [.int c.1, .int c.2]) := hdv
    cases hdv with
    | @tup pa ps _ pat peach =>
    cases peach with
    | @cons w1 _ _ _ j1 j2 =>
    cases j1
    cases j2 with
    | @cons w2 _ _ _ j3 j4 =>
    cases j3
    cases j4
    have i1 := itS_len (i := c.1) (by omega) (by omega)
    have i2 := itS_len (i := c.2) (by omega) (by omega)
    have o1 : (">" : Str).length = 1 := by decide +kernel
    refine ⟨rfl, yesG ⟨_, rfl, pa, _, 0, _, rfl, rfl, pat, atI_at (by decide) rfl, c.1, rfl, log_ok (by omega), itS c.1, ">", rfl, rfl, ?_, _, rfl, pa, _, 1, _, rfl, rfl, pat, atI_at (by decide) rfl, c.2, rfl, log_ok (by omega), itS c.1 ++ ">", itS c.2, rfl, rfl, ?_, ?_⟩⟩
    · rw [o1, ← sl]
      omega
    · rw [Str.length_append, o1, ← sl]
      omega
    · refine ⟨_, gD, ?_, same_upd2 sG hD, ?_⟩
      · rw [List.length_map, List.length_map, List.length_take]
        exact Nat.lt_of_lt_of_le (show _ < 1000 by omega) (small (Nat.le_refl _))
      · have e : chW c = itS c.1 ++ ">" ++ itS c.2 := by
          show Str.empty ++ itS c.1 ++ ">" ++ itS c.2 = _
          rw [emp_str]
        rw [upd_same, take_more hci, List.map_append, List.map_append]
        show some (HO.lst (_ ++ [V.str (itS c.1 ++ ">" ++ itS c.2)])) = some (HO.lst (_ ++ [V.str (chW c)]))
        rw [e]
  · obtain ⟨sG, gD⟩ := h
    rw [lc, List.take_length] at gD
    refine ⟨L1, D, _, _, rfl, rfl, sG _ _ upd_same, gD, ?_, fun R0 hR0 => ?_⟩
    · rw [List.length_map, List.length_map]
      exact small (by show 1 + _ ≤ 1000; omega)
    have s0 := same_new hR0 (.lst ([V.str "channels"] ++ (chs.map chW).map V.str))
    have hp := head_parts fun c hc' => (hc c hc').1
    have em : (PyData.str "channels" :: chs.map fun c => PyData.str (chW c)).map partS = ("channels" : Str) :: chs.map chW := by
      rw [List.map_cons, List.map_map]
      rfl
    have we := words_end (ds := PyData.str "channels" :: chs.map fun c => PyData.str (chW c)) (by rw [List.length_cons, List.length_map]; omega) fun d hd => (hp d hd).b
    rw [em] at we
    refine ⟨" ", R0, ("channels" : Str) :: chs.map chW, rfl, rfl, .inl (SqL.of upd_same), we, by show 1 ≤ sizeLine; decide, fun R hR => ?_⟩
    have eh : Txt.join " " (("channels" : Str) :: chs.map chW) = headW chs := by
      show _ = Txt.join " " ((PyData.str "channels" :: chs.map fun c => PyData.str (chW c)).map partS)
      rw [em]
    rw [eh]
    have sR := same_new hR (.lst [V.str (headW chs)])
    have s15 : Same H (upd G R0 (.lst ([V.str "channels"] ++ (chs.map chW).map V.str))) := sL1.trans (sG.trans s0)
    have nR : H R = none := none_of_same s15 hR
    have s16 := s15.trans sR
    refine ⟨_, rfl, na, _, 1, _, rfl, rfl, sqT_same s16 nat, atI_at (by decide) rfl, aa, rfl, ⟨avs, sqT_same s16 aat⟩, ?_⟩
    have full : ∀ j, ((headW chs :: (as.take j).flatMap fun b => ("actor" : Str) :: wrN 4 0 b)).length ≤ 400 := fun j => by
      refine Nat.le_trans ?_ rl
      show (_ :: _).length ≤ (_ :: _).length
      have e : as = as.take j ++ as.drop j := (List.take_append_drop j as).symm
      have e2 : (as.flatMap fun b => ("actor" : Str) :: wrN 4 0 b).length = (((as.take j ++ as.drop j)).flatMap fun b => ("actor" : Str) :: wrN 4 0 b).length := by rw [← e]
      rw [List.flatMap_append, List.length_append] at e2
      rw [List.length_cons, List.length_cons]
      omega
    refine for_tup (xs := avs) (fun j σ G3 => ∃ (R' : Addr) (o2 o3 : Option V), σ = [some (.ref na), some (.ref R'), o2, o3] ∧ Same H G3 ∧ H R' = none ∧ G3 R' = some (.lst ((headW chs :: (as.take j).flatMap fun b => ("actor" : Str) :: wrN 4 0 b).map V.str)))
      ⟨R, _, _, rfl, s16, nR, by rw [upd_same]; rfl⟩ (fun j σ G3 _ h => by obtain ⟨_, _, _, _, s, _⟩ := h; exact sqT_same s aat) (fun j bv σ G3 hbv h => ?_) (fun σ G3 h => ?_)
    · obtain ⟨R', o2, o3, rfl, s3, nR', gR⟩ := h
      obtain ⟨b, hb, hdb⟩ := dpAll_get' (dps_same s3 aeach) hbv
      obtain ⟨ss, ts, lb, hss, hts, m40⟩ := act b (List.mem_of_getElem? hb)
      have wl := wrN_len 4 (k := 0) lb
      refine ⟨_, rfl, by show 1 ≤ sizeLine; decide, fun L2 hL2 => ?_⟩
      have sL2 := same_new hL2 (.lst [V.str "actor"])
      have fj := full j
      refine ⟨R', L2, _, _, rfl, rfl, sL2 _ _ gR, upd_same, ?_, fun L3 hL3 => ?_⟩
      · rw [List.length_map]
        exact small (by show _ + 1 ≤ 1000; omega)
      have sL3 := same_new hL3 (.lst ((headW chs :: (as.take j).flatMap fun b => ("actor" : Str) :: wrN 4 0 b).map V.str ++ [V.str "actor"]))
      refine ⟨_, rfl, bv, b, 0, ss, ts, rfl, dp_same (sL2.trans sL3) hdb, lb, hss, hts, by decide, m40, fun R2 G4 s4 hR2 gR2 => ?_⟩
      refine ⟨L3, R2, _, _, rfl, rfl, s4 _ _ upd_same, gR2, ?_, fun R3 hR3 => ?_⟩
      · rw [List.length_append, List.length_map, List.length_map]
        exact small (by show _ + 1 + _ ≤ 1000; omega)
      have s36 := s3.trans (sL2.trans (sL3.trans s4))
      refine ⟨R3, _, _, rfl, s36.trans (same_new hR3 _), none_of_same s36 hR3, ?_⟩
      rw [upd_same, take_more hb, List.flatMap_append, List.flatMap_cons, List.flatMap_nil, List.append_nil]
      simp
    · obtain ⟨R', o2, o3, rfl, s3, nR', gR⟩ := h
      rw [la, List.take_length] at gR
      exact ⟨rfl, _, rfl, "\n", R', netRows chs as, rfl, rfl, .inl (SqL.of gR), (net_join rl ro).1, q G3 s3⟩
end
/-! fields by name -/
theorem lk_eq {f : Str} {v : V} {r : List (Str × V)} : List.lookup f ((f, v) :: r) = some v := by
  rw [List.lookup_cons, beq_self_eq_true]
theorem lk_ne {f g : Str} {v : V} {r : List (Str × V)} (h : f ≠ g) : List.lookup f ((g, v) :: r) = List.lookup f r := by
  rw [List.lookup_cons, beq_eq_false_iff_ne.mpr h]
theorem pf_eq {f : Str} {v u : V} {r : List (Str × V)} : putF f v ((f, u) :: r) = (f, v) :: r := if_pos rfl
theorem pf_ne {f g : Str} {v u : V} {r : List (Str × V)} (h : g ≠ f) : putF f v ((g, u) :: r) = (g, u) :: putF f v r := if_neg h
/-! what is no list, no instance and no table stays -/
def KTT (H H' : Hp) : Prop := ∀ b u, H b = some u → (∀ l, u ≠ .lst l) → (∀ C dx fs, u ≠ .ins C dx fs) → (∀ ps, u ≠ .tbl ps) → H' b = some u
theorem KTT.refl (H : Hp) : KTT H H := fun _ _ h _ _ _ => h
theorem KTT.trans {H H1 H2 : Hp} (a : KTT H H1) (b : KTT H1 H2) : KTT H H2 := fun c u h x y z => b c u (a c u h x y z) x y z
theorem KTT.of_ext {H H' : Hp} (e : LamX.ExtN H H') : KTT H H' := fun c u h _ _ z => e c u h z
theorem KTT.upd_lst {H : Hp} {p : Addr} {l : List V} {o : HO} (h : H p = some (.lst l)) : KTT H (upd H p o) := fun b u hb n _ _ => by
  rw [upd_ne (fun e => by rw [e, h] at hb; cases hb; exact n _ rfl)]
  exact hb
theorem KTT.upd_ins {H : Hp} {p C dx : Addr} {fs : List (Str × V)} {o : HO} (h : H p = some (.ins C dx fs)) : KTT H (upd H p o) := fun b u hb _ n _ => by
  rw [upd_ne (fun e => by rw [e, h] at hb; cases hb; exact n _ _ _ rfl)]
  exact hb
theorem sqT_ktt {K : PySem.W.Frag} {H H' : Hp} {a : Addr} {xs : List V} (k : KTT H H') (h : SqT K H a xs) : SqT K H' a xs := by
  rcases h with (h | ⟨o, h⟩) | h
  · exact .inl (.inl (k _ _ h (fun l z => by cases z) (fun _ _ _ z => by cases z) (fun _ z => by cases z)))
  · exact .inl (.inr ⟨o, k _ _ h (fun l z => by cases z) (fun _ _ _ z => by cases z) (fun _ z => by cases z)⟩)
  · exact .inr h
mutual
theorem dp_ktt {K : PySem.W.Frag} {H H' : Hp} (k : KTT H H') : ∀ (d : PyData) (v : V), tupOnly d = true → Dp K H v d → Dp K H' v d
  | .int i, v, _, h => by cases h; exact .int i
  | .str x, v, _, h => by cases h; exact .str x
  | .tuple ds, v, t, h => by
    cases h with
    | tup hs ha => exact .tup (sqT_ktt k hs) (dpAll_ktt k ds _ (by simpa only [tupOnly] using t) ha)
  | .none, v, t, h => by simp [tupOnly] at t
  | .bool _, v, t, h => by simp [tupOnly] at t
  | .list _, v, t, h => by simp [tupOnly] at t
  | .dict _, v, t, h => by simp [tupOnly] at t
theorem dpAll_ktt {K : PySem.W.Frag} {H H' : Hp} (k : KTT H H') : ∀ (ds : List PyData) (vs : List V), tupOnlyAll ds = true → DpAll K H vs ds → DpAll K H' vs ds
  | [], vs, _, h => by cases h; exact .nil
  | d :: ds, vs, t, h => by
    simp only [tupOnlyAll, Bool.and_eq_true] at t
    cases h with
    | cons h1 h2 => exact .cons (dp_ktt k d _ t.1 h1) (dpAll_ktt k ds _ t.2 h2)
end
theorem tupAll_app {a b : List PyData} (h : tupOnlyAll a = true) (g : tupOnlyAll b = true) : tupOnlyAll (a ++ b) = true := by
  induction a with
  | nil => exact g
  | cons x a ih =>
    simp only [tupOnlyAll, Bool.and_eq_true, List.cons_append] at h ⊢
    exact ⟨h.1, ih h.2⟩
/-- at q stood nothing that stays -/
def Loose (q : Addr) (H : Hp) : Prop := ∀ u, H q = some u → ∃ ps, u = .tbl ps
theorem loose_free {H H' : Hp} (e : LamX.ExtN H H') {q : Addr} (h : H' q = none) : Loose q H := fun u hu => by
  cases u with
  | tbl ps => exact ⟨ps, rfl⟩
  | _ =>
    have := e _ _ hu (fun ps z => by cases z)
    rw [h] at this
    cases this
/-! the classes Block and NetRows: their objects -/
abbrev Bkt := List PyData × List PyData
def bkF (hd : V) (l : Addr) : List (Str × V) := [("head", hd), ("statements", .ref l)]
theorem sh_ : ("statements" : Str) ≠ "head" := by decide +kernel
theorem hs_ : ("head" : Str) ≠ "statements" := by decide +kernel
theorem bkF_h (hd : V) (l : Addr) : (bkF hd l).lookup ("head" : Str) = some hd := lk_eq
theorem bkF_s (hd : V) (l : Addr) : (bkF hd l).lookup ("statements" : Str) = some (.ref l) := (lk_ne sh_).trans lk_eq
theorem bkF_no (hd : V) (l : Addr) {m : Str} (h1 : m ≠ "head") (h2 : m ≠ "statements") : (bkF hd l).lookup m = none := (lk_ne h1).trans ((lk_ne h2).trans rfl)
def rdF (ch : V) (A B : Addr) (n : Nat) : List (Str × V) := [("channels", ch), ("actors", .ref A), ("blocks", .ref B), ("room", .int (n : Nat))]
theorem rd1 : ("actors" : Str) ≠ "channels" := by decide +kernel
theorem rd2 : ("blocks" : Str) ≠ "channels" := by decide +kernel
theorem rd3 : ("room" : Str) ≠ "channels" := by decide +kernel
theorem rd4 : ("blocks" : Str) ≠ "actors" := by decide +kernel
theorem rd5 : ("room" : Str) ≠ "actors" := by decide +kernel
theorem rd6 : ("room" : Str) ≠ "blocks" := by decide +kernel
theorem rdF_c (ch : V) (A B : Addr) (n : Nat) : (rdF ch A B n).lookup ("channels" : Str) = some ch := lk_eq
theorem rdF_a (ch : V) (A B : Addr) (n : Nat) : (rdF ch A B n).lookup ("actors" : Str) = some (.ref A) := (lk_ne rd1).trans lk_eq
theorem rdF_b (ch : V) (A B : Addr) (n : Nat) : (rdF ch A B n).lookup ("blocks" : Str) = some (.ref B) := (lk_ne rd2).trans ((lk_ne rd4).trans lk_eq)
theorem rdF_r (ch : V) (A B : Addr) (n : Nat) : (rdF ch A B n).lookup ("room" : Str) = some (.int (n : Nat)) := (lk_ne rd3).trans ((lk_ne rd5).trans ((lk_ne rd6).trans lk_eq))
theorem rdF_no (ch : V) (A B : Addr) (n : Nat) {m : Str} (h1 : m ≠ "channels") (h2 : m ≠ "actors") (h3 : m ≠ "blocks") (h4 : m ≠ "room") : (rdF ch A B n).lookup m = none := (lk_ne h1).trans ((lk_ne h2).trans ((lk_ne h3).trans ((lk_ne h4).trans rfl)))
theorem rdF_putR (ch : V) (A B : Addr) (n m : Nat) : putF "room" (.int (m : Nat)) (rdF ch A B n) = rdF ch A B m := by
  unfold rdF
  rw [pf_ne rd3.symm, pf_ne rd5.symm, pf_ne rd6.symm, pf_eq]
theorem rdF_putC (ch ch' : V) (A B : Addr) (n : Nat) : putF "channels" ch' (rdF ch A B n) = rdF ch' A B n := pf_eq
structure BkC (K : PySem.W.Frag) (mg : Str → Option Value) (C : Addr) : Prop where
  cl : Cls K C
  nH : NoAttr K C "head"
  nS : NoAttr K C "statements"
  mgC : mg "Block" = some (.ref C)
structure NrC (K : PySem.W.Frag) (mg : Str → Option Value) (C : Addr) : Prop where
  cl : Cls K C
  nC : NoAttr K C "channels"
  nA : NoAttr K C "actors"
  nB : NoAttr K C "blocks"
  nR : NoAttr K C "room"
  mgC : mg "NetRows" = some (.ref C)
/-- a block stands at q, its statements' list at l -/
def BkAt (K : PySem.W.Frag) (CB : Addr) (H : Hp) (q l : Addr) (x : Bkt) : Prop := ∃ (dx : Addr) (hv : V) (ss : List V), H q = some (.ins CB dx (bkF hv l)) ∧ Dp K H hv (.tuple x.1) ∧ tupOnlyAll x.1 = true ∧ H l = some (.lst ss) ∧ DpAll K H ss x.2 ∧ tupOnlyAll x.2 = true
theorem BkAt.move {K : PySem.W.Frag} {CB : Addr} {H H' : Hp} {q l : Addr} {x : Bkt} (b : BkAt K CB H q l x) (k : KTT H H') (hq : H' q = H q) (hl : H' l = H l) : BkAt K CB H' q l x := by
  obtain ⟨dx, hv, ss, h1, h2, h3, h4, h5, h6⟩ := b
  exact ⟨dx, hv, ss, by rw [hq]; exact h1, dp_ktt k _ _ h3 h2, h3, by rw [hl]; exact h4, dpAll_ktt k _ _ h6 h5, h6⟩
def ft : List (Addr × Addr) → List Addr
  | [] => []
  | (q, l) :: r => q :: l :: ft r
inductive Stk (K : PySem.W.Frag) (CB : Addr) (H : Hp) : List (Addr × Addr) → List Bkt → Prop where
  | nil : Stk K CB H [] []
  | cons {q l : Addr} {x : Bkt} {ps : List (Addr × Addr)} {r : List Bkt} (b : BkAt K CB H q l x) (t : Stk K CB H ps r) : Stk K CB H ((q, l) :: ps) (x :: r)
theorem Stk.move {K : PySem.W.Frag} {CB : Addr} {H H' : Hp} (k : KTT H H') : ∀ {ps : List (Addr × Addr)} {r : List Bkt}, Stk K CB H ps r → (∀ a ∈ ft ps, H' a = H a) → Stk K CB H' ps r
  | _, _, .nil, _ => .nil
  | (q, l) :: ps, _, .cons b t, h => .cons (b.move k (h q List.mem_cons_self) (h l (List.mem_cons_of_mem _ List.mem_cons_self))) (t.move k fun a ha => h a (List.mem_cons_of_mem _ (List.mem_cons_of_mem _ ha)))
theorem Stk.len {K : PySem.W.Frag} {CB : Addr} {H : Hp} : ∀ {ps : List (Addr × Addr)} {r : List Bkt}, Stk K CB H ps r → ps.length = r.length
  | _, _, .nil => rfl
  | _, _, .cons _ t => by rw [List.length_cons, List.length_cons, t.len]
theorem Stk.at_ {K : PySem.W.Frag} {CB : Addr} {H : Hp} {a : Addr} : ∀ {ps : List (Addr × Addr)} {r : List Bkt}, Stk K CB H ps r → a ∈ ft ps → ∃ u, H a = some u ∧ ∀ ps, u ≠ .tbl ps
  | _, _, .nil, h => by cases h
  | (q, l) :: ps, _, .cons b t, h => by
    obtain ⟨dx, hv, ss, g1, _, _, g4, _, _⟩ := b
    rcases List.mem_cons.mp h with rfl | h
    · exact ⟨_, g1, fun ps z => by cases z⟩
    · rcases List.mem_cons.mp h with rfl | h
      · exact ⟨_, g4, fun ps z => by cases z⟩
      · exact t.at_ h
/-! the state of a reader -/
structure RSt where
  chs : Option (List (Int × Int))
  acts : List PyData
  stk : List Bkt
  room : Nat
def chO : Option (List (Int × Int)) → PyData
  | none => .none
  | some chs => .tuple (chs.map mkCh)
structure Rd (K : PySem.W.Frag) (C CB : Addr) (H0 H : Hp) (p A B : Addr) (ps : List (Addr × Addr)) (S : RSt) : Prop where
  ext : LamX.ExtN H0 H
  obj : ∃ dx vch, H p = some (.ins C dx (rdF vch A B S.room)) ∧ Dp K H vch (chO S.chs)
  atA : ∃ avs, H A = some (.lst avs) ∧ DpAll K H avs S.acts
  tupA : tupOnlyAll S.acts = true
  atB : H B = some (.lst (ps.reverse.map fun x => V.ref x.1))
  stk : Stk K CB H ps S.stk
  nod : (p :: A :: B :: ft ps).Nodup
  loose : ∀ a ∈ p :: A :: B :: ft ps, Loose a H0
theorem chO_move {K : PySem.W.Frag} {H H' : Hp} (k : KTT H H') {v : V} {o : Option (List (Int × Int))} (h : Dp K H v (chO o)) : Dp K H' v (chO o) := by
  cases o with
  | none => cases h; exact .non
  | some chs => exact dp_ktt k _ _ (by show tupOnlyAll _ = true; exact chs_tup chs) h
section
variable {K : PySem.W.Frag} {C CB : Addr} {H0 H H' : Hp} {p A B : Addr} {ps : List (Addr × Addr)} {S : RSt}
/-- what keeps the whole footprint keeps the reader -/
theorem Rd.move (R : Rd K C CB H0 H p A B ps S) (e : LamX.ExtN H H') : Rd K C CB H0 H' p A B ps S := by
  have k := KTT.of_ext e
  obtain ⟨dx, vch, h1, h2⟩ := R.obj
  obtain ⟨avs, h3, h4⟩ := R.atA
  have keep : ∀ a ∈ ft ps, H' a = H a := fun a ha => by
    obtain ⟨u, hu, n⟩ := R.stk.at_ ha
    rw [hu]
    exact e _ _ hu n
  exact ⟨fun b u hb n => e _ _ (R.ext b u hb n) n, ⟨dx, vch, e _ _ h1 (fun ps z => by cases z), chO_move k h2⟩, ⟨avs, e _ _ h3 (fun ps z => by cases z), dpAll_ktt k _ _ R.tupA h4⟩, R.tupA, e _ _ R.atB (fun ps z => by cases z), R.stk.move k keep, R.nod, R.loose⟩
theorem nd_of (h : (p :: A :: B :: ft ps).Nodup) : p ≠ A ∧ p ≠ B ∧ p ∉ ft ps ∧ A ≠ B ∧ A ∉ ft ps ∧ B ∉ ft ps ∧ (ft ps).Nodup := by
  obtain ⟨h1, h2⟩ := List.nodup_cons.mp h
  obtain ⟨h3, h4⟩ := List.nodup_cons.mp h2
  obtain ⟨h5, h6⟩ := List.nodup_cons.mp h4
  refine ⟨fun e => h1 (by rw [e]; exact List.mem_cons_self), fun e => h1 (by rw [e]; simp), fun e => h1 (by simp [e]), fun e => h3 (by rw [e]; exact List.mem_cons_self), fun e => h3 (by simp [e]), h5, h6⟩
theorem keep_ne {a : Addr} {o : HO} (n : a ∉ ft ps) : ∀ b ∈ ft ps, upd H a o b = H b := fun b hb => upd_ne fun e => n (by rw [← e]; exact hb)
/-- another room, other channels -/
theorem Rd.setP (R : Rd K C CB H0 H p A B ps S) {dx : Addr} {v v' : V} {o : Option (List (Int × Int))} (m : Nat) (h : H p = some (.ins C dx (rdF v A B S.room))) (hv : Dp K H v' (chO o)) : Rd K C CB H0 (upd H p (.ins C dx (rdF v' A B m))) p A B ps ⟨o, S.acts, S.stk, m⟩ := by
  obtain ⟨n1, n2, n3, n4, n5, n6, n7⟩ := nd_of R.nod
  have k : KTT H (upd H p (.ins C dx (rdF v' A B m))) := KTT.upd_ins h
  obtain ⟨avs, h3, h4⟩ := R.atA
  exact ⟨ext_upd R.ext (R.loose p List.mem_cons_self), ⟨dx, v', upd_same, chO_move k hv⟩, ⟨avs, by rw [upd_ne n1.symm]; exact h3, dpAll_ktt k _ _ R.tupA h4⟩, R.tupA, by rw [upd_ne n2.symm]; exact R.atB, R.stk.move k (keep_ne n3), R.nod, R.loose⟩
/-- an actor more -/
theorem Rd.appA (R : Rd K C CB H0 H p A B ps S) {avs : List V} {v : V} {d : PyData} (h : H A = some (.lst avs)) (da : DpAll K H avs S.acts) (hv : Dp K H v d) (ht : tupOnly d = true) : Rd K C CB H0 (upd H A (.lst (avs ++ [v]))) p A B ps ⟨S.chs, S.acts ++ [d], S.stk, S.room⟩ := by
  obtain ⟨n1, n2, n3, n4, n5, n6, n7⟩ := nd_of R.nod
  have k : KTT H (upd H A (.lst (avs ++ [v]))) := KTT.upd_lst h
  obtain ⟨dx, vch, h1, h2⟩ := R.obj
  have tt : tupOnlyAll (S.acts ++ [d]) = true := tupAll_app R.tupA (by show (tupOnly d && true) = true; rw [ht]; rfl)
  exact ⟨ext_upd R.ext (R.loose A (by simp)), ⟨dx, vch, by rw [upd_ne n1]; exact h1, chO_move k h2⟩, ⟨_, upd_same, dpAll_ktt k _ _ tt (dpAll_snoc hv da)⟩, tt, by rw [upd_ne n4.symm]; exact R.atB, R.stk.move k (keep_ne n5), R.nod, R.loose⟩
/-- the last block is taken -/
theorem Rd.popB {q l : Addr} {x : Bkt} {r : List Bkt} {rm : Nat} {ch : Option (List (Int × Int))} {ac : List PyData} (R : Rd K C CB H0 H p A B ((q, l) :: ps) ⟨ch, ac, x :: r, rm⟩) : Rd K C CB H0 (upd H B (.lst (ps.reverse.map fun x => V.ref x.1))) p A B ps ⟨ch, ac, r, rm⟩ ∧ BkAt K CB (upd H B (.lst (ps.reverse.map fun x => V.ref x.1))) q l x := by
  obtain ⟨n1, n2, n3, n4, n5, n6, n7⟩ := nd_of R.nod
  have k : KTT H (upd H B (.lst (ps.reverse.map fun x => V.ref x.1))) := KTT.upd_lst R.atB
  obtain ⟨dx, vch, h1, h2⟩ := R.obj
  obtain ⟨avs, h3, h4⟩ := R.atA
  have m1 : ∀ {a : Addr}, a ∈ ft ps → a ∈ ft ((q, l) :: ps) := fun h => List.mem_cons_of_mem _ (List.mem_cons_of_mem _ h)
  have nd2 := (List.nodup_cons.mp (List.nodup_cons.mp n7).2).2
  obtain ⟨b, t⟩ : BkAt K CB H q l x ∧ Stk K CB H ps r := by
    cases R.stk with
    | cons b t => exact ⟨b, t⟩
  refine ⟨⟨ext_upd R.ext (R.loose B (by simp)), ⟨dx, vch, by rw [upd_ne n2]; exact h1, chO_move k h2⟩, ⟨avs, by rw [upd_ne n4]; exact h3, dpAll_ktt k _ _ R.tupA h4⟩, R.tupA, upd_same, t.move k (keep_ne fun h => n6 (m1 h)), ?_, fun a ha => R.loose a ?_⟩, b.move k (upd_ne fun e => n6 (by rw [← e]; exact List.mem_cons_self)) (upd_ne fun e => n6 (by rw [← e]; exact List.mem_cons_of_mem _ List.mem_cons_self))⟩
  · refine List.nodup_cons.mpr ⟨?_, List.nodup_cons.mpr ⟨?_, List.nodup_cons.mpr ⟨fun h => n6 (m1 h), nd2⟩⟩⟩
    · intro h
      simp only [List.mem_cons] at h
      rcases h with h | h | h
      · exact n1 h
      · exact n2 h
      · exact n3 (m1 h)
    · intro h
      simp only [List.mem_cons] at h
      rcases h with h | h
      · exact n4 h
      · exact n5 (m1 h)
  · simp only [List.mem_cons] at ha ⊢
    rcases ha with ha | ha | ha | ha
    · exact .inl ha
    · exact .inr (.inl ha)
    · exact .inr (.inr (.inl ha))
    · exact .inr (.inr (.inr (m1 ha)))
/-- a new block is laid on top -/
theorem Rd.pushB (R : Rd K C CB H0 H p A B ps S) {q l : Addr} {x : Bkt} (b : BkAt K CB H q l x) (nq : q ∉ p :: A :: B :: ft ps) (nl : l ∉ p :: A :: B :: ft ps) (ne : q ≠ l) (lq : Loose q H0) (ll : Loose l H0) : Rd K C CB H0 (upd H B (.lst ((ps.reverse.map fun x => V.ref x.1) ++ [V.ref q]))) p A B ((q, l) :: ps) ⟨S.chs, S.acts, x :: S.stk, S.room⟩ := by
  obtain ⟨n1, n2, n3, n4, n5, n6, n7⟩ := nd_of R.nod
  have k : KTT H (upd H B (.lst ((ps.reverse.map fun x => V.ref x.1) ++ [V.ref q]))) := KTT.upd_lst R.atB
  obtain ⟨dx, vch, h1, h2⟩ := R.obj
  obtain ⟨avs, h3, h4⟩ := R.atA
  simp only [List.mem_cons, not_or] at nq nl
  refine ⟨ext_upd R.ext (R.loose B (by simp)), ⟨dx, vch, by rw [upd_ne n2]; exact h1, chO_move k h2⟩, ⟨avs, by rw [upd_ne n4]; exact h3, dpAll_ktt k _ _ R.tupA h4⟩, R.tupA, by rw [upd_same, List.reverse_cons, List.map_append]; rfl, .cons (b.move k (upd_ne nq.2.2.1) (upd_ne nl.2.2.1)) (R.stk.move k (keep_ne n6)), ?_, fun a ha => ?_⟩
  · refine List.nodup_cons.mpr ⟨?_, List.nodup_cons.mpr ⟨?_, List.nodup_cons.mpr ⟨?_, List.nodup_cons.mpr ⟨?_, List.nodup_cons.mpr ⟨nl.2.2.2, n7⟩⟩⟩⟩⟩
    · intro h
      simp only [ft, List.mem_cons] at h
      rcases h with h | h | h | h | h
      · exact n1 h
      · exact n2 h
      · exact nq.1 h.symm
      · exact nl.1 h.symm
      · exact n3 h
    · intro h
      simp only [ft, List.mem_cons] at h
      rcases h with h | h | h | h
      · exact n4 h
      · exact nq.2.1 h.symm
      · exact nl.2.1 h.symm
      · exact n5 h
    · intro h
      simp only [ft, List.mem_cons] at h
      rcases h with h | h | h
      · exact nq.2.2.1 h.symm
      · exact nl.2.2.1 h.symm
      · exact n6 h
    · intro h
      rcases List.mem_cons.mp h with h | h
      · exact ne h
      · exact nq.2.2.2 h
  · simp only [ft, List.mem_cons] at ha
    rcases ha with ha | ha | ha | ha | ha | ha
    · exact R.loose a (by simp [ha])
    · exact R.loose a (by simp [ha])
    · exact R.loose a (by simp [ha])
    · rw [ha]; exact lq
    · rw [ha]; exact ll
    · exact R.loose a (by simp [ha])
/-- a statement more in the last block -/
theorem Rd.appT {q l : Addr} {x : Bkt} {r : List Bkt} {rm : Nat} {ch : Option (List (Int × Int))} {ac : List PyData} (R : Rd K C CB H0 H p A B ((q, l) :: ps) ⟨ch, ac, x :: r, rm⟩) {dx : Addr} {hv v : V} {ss : List V} {d : PyData} (h1 : H q = some (.ins CB dx (bkF hv l))) (h2 : Dp K H hv (.tuple x.1)) (h3 : tupOnlyAll x.1 = true) (h4 : H l = some (.lst ss)) (h5 : DpAll K H ss x.2) (h6 : tupOnlyAll x.2 = true) (hv' : Dp K H v d) (ht : tupOnly d = true) :
    Rd K C CB H0 (upd H l (.lst (ss ++ [v]))) p A B ((q, l) :: ps) ⟨ch, ac, (x.1, x.2 ++ [d]) :: r, rm⟩ := by
  obtain ⟨n1, n2, n3, n4, n5, n6, n7⟩ := nd_of R.nod
  have k : KTT H (upd H l (.lst (ss ++ [v]))) := KTT.upd_lst h4
  obtain ⟨dx', vch, g1, g2⟩ := R.obj
  obtain ⟨avs, g3, g4⟩ := R.atA
  have ml : l ∈ ft ((q, l) :: ps) := List.mem_cons_of_mem _ List.mem_cons_self
  have nql : q ≠ l := fun e => (List.nodup_cons.mp n7).1 (by rw [e]; exact List.mem_cons_self)
  have nlp : l ∉ ft ps := (List.nodup_cons.mp (List.nodup_cons.mp n7).2).1
  have tt : tupOnlyAll (x.2 ++ [d]) = true := tupAll_app h6 (by show (tupOnly d && true) = true; rw [ht]; rfl)
  have t : Stk K CB H ps r := by
    cases R.stk with
    | cons b t => exact t
  exact ⟨ext_upd R.ext (R.loose l (by simp [ft])), ⟨dx', vch, by rw [upd_ne (fun e => n3 (by rw [e]; exact ml))]; exact g1, chO_move k g2⟩, ⟨avs, by rw [upd_ne (fun e => n5 (by rw [e]; exact ml))]; exact g3, dpAll_ktt k _ _ R.tupA g4⟩, R.tupA, by rw [upd_ne (fun e => n6 (by rw [e]; exact ml))]; exact R.atB,
    .cons ⟨dx, hv, _, by rw [upd_ne nql]; exact h1, dp_ktt k _ _ (by show tupOnlyAll _ = true; exact h3) h2, h3, upd_same, dpAll_ktt k _ _ tt (dpAll_snoc hv' h5), tt⟩ (t.move k (keep_ne nlp)), R.nod, R.loose⟩
end
/-! blocks are ended -/
def lacksB (hd : List PyData) : Bool := decide (hd.length = 2) && (match hd with | .str z :: _ => decide (z = "if") | _ => false)
inductive Cl (L : Nat) : List Bkt → List Bkt → Prop where
  | stop {s : List Bkt} (h : s.length ≤ L) : Cl L s s
  | step {x y : Bkt} {r s : List Bkt} (h : L < (x :: y :: r).length) (nl : lacksB x.1 = false) (hd : ∃ z t, x.1 = .str z :: t ∧ t.length ≤ 5) (t : Cl L ((y.1, y.2 ++ [.tuple (x.1 ++ [.tuple x.2])]) :: r) s) : Cl L (x :: y :: r) s
theorem Cl.len {L : Nat} {s t : List Bkt} (c : Cl L s t) : L ≤ s.length → t.length = L := by
  induction c with
  | stop h => intro g; omega
  | step h nl hd t ih =>
    intro _
    refine ih ?_
    rw [List.length_cons] at h ⊢
    rw [List.length_cons] at h
    omega
theorem Cl.trans {L : Nat} {s t u : List Bkt} (c : Cl (L + 1) s t) (d : Cl L t u) : Cl L s u := by
  induction c with
  | stop h => exact d
  | step h nl hd t ih => exact .step (by omega) nl hd (ih d)
section
open PySem.Spec PyProof.Rows LamX
def MetC (P : Program) (w : World) (K : PySem.W.Frag) (mg : Str → Option Value) (base : Heap) (C : Addr) (m : Str) (k : Nat) (ps : List Str) (sp : Sp) : Prop :=
  ∃ (f : Addr) (fd : FuncData), FnOk P w K mg base CX0 k f fd ps sp ∧ Cls K C ∧ Meth K C m f ∧ Binds K fd ps []
theorem MetC.mono {P : Program} {w : World} {K : PySem.W.Frag} {mg : Str → Option Value} {base : Heap} {C : Addr} {m : Str} {j k : Nat} {ps : List Str} {sp : Sp} (M : MetC P w K mg base C m j ps sp) (h : j ≤ k) : MetC P w K mg base C m k ps sp := by
  obtain ⟨f, fd, F, r⟩ := M
  exact ⟨f, fd, F.mono h, r⟩
theorem pe_met {X : Cx} {C : Addr} {m : Str} {k : Nat} {ps : List Str} {sp : Sp} {pos apos : Pos} {e o : Expr} {es : List Expr} {ta : TE} {t : TA} {pl : Sem Bool} (M : MetC X.prog X.w X.K X.mg X.base C m k ps sp) (hr : Room k X.A) (he : PE X o ta) (ha : PA X (e :: es) t)
    (hst : starEach (e :: es) X.env = (false, eval e X.env) :: starEach es X.env := by rfl) (hpl : ((backTo pos (starEach es X.env)).any fun x => x.fst) = false := by rfl)
    (ht : eval (.Call (.Attribute o m apos) (e :: es) [] pos) X.env = (do
      let ov ← eval o X.env
      standAt apos.atName
      let (f, first) ← holding [ov] (getMethod ov m pl)
      callWith pos f first (backTo pos (starEach (e :: es) X.env)) (backToKw pos (keywordEach [] X.env))) := by rfl) :
    PE X (.Call (.Attribute o m apos) (e :: es) [] pos) (tMeth C m sp [] E0 ta t) := by
  obtain ⟨f, fd, F, c, hm, b⟩ := M
  exact pe_meth (pl := pl) he c hm F hr b .nil pass0 ha hst hpl ht
theorem pe_met0 {X : Cx} {C : Addr} {m : Str} {k : Nat} {ps : List Str} {sp : Sp} {pos apos : Pos} {o : Expr} {ta : TE} {pl : Sem Bool} (M : MetC X.prog X.w X.K X.mg X.base C m k ps sp) (hr : Room k X.A) (he : PE X o ta)
    (ht : eval (.Call (.Attribute o m apos) [] [] pos) X.env = (do
      let ov ← eval o X.env
      standAt apos.atName
      let (f, first) ← holding [ov] (getMethod ov m pl)
      callWith pos f first (backTo pos (starEach [] X.env)) (backToKw pos (keywordEach [] X.env))) := by rfl) :
    PE X (.Call (.Attribute o m apos) [] [] pos) (tMeth C m sp [] E0 ta tNil) := by
  obtain ⟨f, fd, F, c, hm, b⟩ := M
  exact pe_meth0 (pl := pl) he c hm F hr b .nil pass0 ht
def MakC (P : Program) (w : World) (K : PySem.W.Frag) (mg : Str → Option Value) (base : Heap) (x : Str) (C : Addr) (k : Nat) (ps : List Str) (sp : Sp) : Prop :=
  ∃ (f : Addr) (fd : FuncData), FnOk P w K mg base CX0 k f fd ps sp ∧ L2.Mk K C f ∧ mg x = some (.ref C) ∧ Binds K fd ps []
theorem pe_mak {X : Cx} {x : Str} {C : Addr} {k j : Nat} {ps : List Str} {sp : Sp} {pos p : Pos} {e : Expr} {es : List Expr} {t : TA} (M : MakC X.prog X.w X.K X.mg X.base x C k ps sp) (hr : Room j X.A) (hk : k + 1 ≤ j) (hg : Gl X x) (ha : PA X (e :: es) t)
    (hdb : (x == ("__debug__" : Str)) = false := by decide) (he : starEach (e :: es) X.env = (false, eval e X.env) :: starEach es X.env := by rfl) (hpl : ((backTo pos (starEach es X.env)).any fun x => x.fst) = false := by rfl) :
    PE X (.Call (.Name x p) (e :: es) [] pos) (tMake C sp [] E0 t) := by
  obtain ⟨f, fd, F, M, hm, b⟩ := M
  exact pe_make M F (hr.mono hk) hg hm b .nil pass0 ha hdb he hpl
end
/-! the methods of Block -/
section
open PySem.Spec PyProof.Rows LamX
variable {P : Program} {w : World} {K : PySem.W.Frag} {mg : Str → Option Value} {base : Heap} {f : Addr} {fd : FuncData} {C CB : Addr}
def spBkInit (CB : Addr) : Sp := fun vs H Q _ => ∃ (q dx : Addr) (hv : V), vs = [.ref q, hv] ∧ H q = some (.ins CB dx []) ∧ ∀ l H', H l = none → l ≠ q → H' q = some (.ins CB dx (bkF hv l)) → H' l = some (.lst []) → (∀ b, b ≠ q → b ≠ l → H' b = H b) → Q .non H'
theorem scBkInit : FnScope ["self", "head"] ["self", "head"] (defScope sBkInit) := ⟨rfl, rfl, rfl, by decide +kernel, rfl, by decide +kernel, by decide +kernel⟩
theorem ok_bkInit {k : Nat} (F : Fun K "__init__" "Block.__init__" sBkInit f fd) (T : BkC K mg CB) : FnOk P w K mg base CX0 (k + 1) f fd ["self", "head"] (spBkInit CB) := by
  refine F.ok scBkInit (fun vs H Q E h => ?_) (fun cdv A outer s H vs Q E hr h => ?_)
  · obtain ⟨q, dx, hv, rfl, _⟩ := h
    rfl
  obtain ⟨q, dx, hv, rfl, hq, fin⟩ := h
  refine ⟨_, pss_cons (ps_fld (pv 0) (pv 1) rfl) (pss_one (ps_fld (pv 0) (pe_lst pa_nil) rfl)), ?_⟩
  refine ⟨_, rfl, _, rfl, q, CB, dx, _, rfl, hq, T.cl, T.nH, (by show 0 < 1000; decide), ?_⟩
  refine ⟨Nat.zero_le _, fun l hl => ?_⟩
  have nlq : l ≠ q := fun e => by rw [e, upd_same] at hl; cases hl
  have hl0 : H l = none := by rw [upd_ne nlq] at hl; exact hl
  refine ⟨_, rfl, q, CB, dx, _, rfl, (by rw [upd_ne nlq.symm]; exact upd_same), T.cl, T.nS, (by show 1 < 1000; decide), ?_⟩
  refine fin l _ hl0 nlq ?_ (by rw [upd_ne nlq]; exact upd_same) (fun b h1 h2 => by rw [upd_ne h1, upd_ne h2, upd_ne h1])
  rw [upd_same, show putF "head" hv [] = [(("head" : Str), hv)] from rfl, pf_ne hs_]
  rfl
def spParts (K : PySem.W.Frag) (CB : Addr) : Sp := fun vs H Q _ => ∃ (q l : Addr) (x : Bkt), vs = [.ref q] ∧ BkAt K CB H q l x ∧ x.1 ≠ [] ∧ x.1.length ≤ 10 ∧ ∀ v H', Same H H' → Dp K H' v (.tuple (x.1 ++ [.tuple x.2])) → Q v H'
theorem scParts : FnScope ["self"] ["self"] (defScope sBkParts) := ⟨rfl, rfl, rfl, by decide +kernel, rfl, by decide +kernel, by decide +kernel⟩
theorem ok_parts {k : Nat} (F : Fun K "parts" "Block.parts" sBkParts f fd) (T : BkC K mg CB) (hT : mg "tuple" = none) : FnOk P w K mg base CX0 (k + 1) f fd ["self"] (spParts K CB) := by
  refine F.ok scParts (fun vs H Q E h => ?_) (fun cdv A outer s H vs Q E hr h => ?_)
  · obtain ⟨q, l, x, rfl, _⟩ := h
    rfl
  obtain ⟨q, l, x, rfl, ⟨dx, hv, ss, hq, hh, _, hl, hs, _⟩, ne, l10, fin⟩ := h
  refine ⟨_, pss_one (ps_ret (pe_op op_catA (pe_fld (pv 0) rfl) (pe_tup (pa_cons (pe_callTy call_tuple_of rfl hT (by decide +kernel) (pa_cons (pe_fld (pv 0) rfl) pa_nil)) pa_nil)))), ?_⟩
  refine ⟨_, rfl, q, CB, dx, _, _, rfl, hq, T.cl, T.nH, bkF_h _ _, _, rfl, q, CB, dx, _, _, rfl, hq, T.cl, T.nS, bkF_s _ _, l, ss, rfl, .inl ⟨SqL.of hl, fun t1 ht1 => ⟨by show 1 ≤ sizeLine; decide, fun t2 ht2 => ?_⟩⟩⟩
  have s1 := same_new ht1 (.tup ss)
  have s2 := same_new ht2 (.tup [.ref t1])
  cases hh with
  | @tup ha xs _ hat heach =>
  have lx := dpAll_len heach
  have s12 := s1.trans s2
  refine catA_run (sqT_same s12 hat) (SqT.of upd_same) (by show _ + 1 ≤ 1000; omega) fun r H3 s3 hr3 => ?_
  have s13 := s12.trans s3
  refine fin _ _ s13 (.tup hr3 (dpAll_append (.cons (.tup (SqT.of (s3 _ _ (s2 _ _ upd_same))) (dps_same s13 hs)) .nil) (dps_same s13 heach)))
def spLacks (K : PySem.W.Frag) (CB : Addr) : Sp := fun vs H Q _ => ∃ (q l : Addr) (x : Bkt), vs = [.ref q] ∧ BkAt K CB H q l x ∧ (∀ d ∈ x.1.head?, ∃ z, d = .str z) ∧ Q (.bl (lacksB x.1)) H
theorem scLacks : FnScope ["self"] ["self"] (defScope sBkLacksOther) := ⟨rfl, rfl, rfl, by decide +kernel, rfl, by decide +kernel, by decide +kernel⟩
theorem ok_lacks {k : Nat} (F : Fun K "lacks_other" "Block.lacks_other" sBkLacksOther f fd) (T : BkC K mg CB) (hL : mg "len" = none) : FnOk P w K mg base CX0 (k + 1) f fd ["self"] (spLacks K CB) := by
  refine F.ok scLacks (fun vs H Q E h => ?_) (fun cdv A outer s H vs Q E hr h => ?_)
  · obtain ⟨q, l, x, rfl, _⟩ := h
    rfl
  obtain ⟨q, l, x, rfl, ⟨dx, hv, ss, hq, hh, _, hl, hs, _⟩, hz, fin⟩ := h
  refine ⟨_, pss_one (ps_ret (pe_and (pe_cmpR op_eq (pe_callB call_len_seq rfl hL PySem.boot_len (pa_cons (pe_fld (pv 0) rfl) pa_nil)) pe_int (nomark _)) (pe_one (pe_cmpR op_eq (pe_ix ix_tup (pe_fld (pv 0) rfl) pe_int (fun _ _ => rfl)) pe_str (nomark _))))), ?_⟩
  obtain ⟨hd, sts⟩ := x
  cases hh with
  | @tup ha xs _ hat heach =>
  have lx : xs.length = hd.length := dpAll_len heach
  refine ⟨_, rfl, q, CB, dx, _, _, rfl, hq, T.cl, T.nH, bkF_h _ _, ha, xs, rfl, .inr hat, rfl, _, rfl, ?_⟩
  by_cases c : hd.length = 2
  · refine ifT (decide_eq_true (by rw [lx, c]; rfl)) ?_
    match hd, c, heach, hz, fin with
    | [d0, d1], _, heach, hz, fin =>
      obtain ⟨z, rfl⟩ := hz d0 rfl
      cases heach with
      | @cons u us _ _ e1 e2 =>
      cases e1
      refine ⟨_, rfl, q, CB, dx, _, _, rfl, hq, T.cl, T.nH, bkF_h _ _, ha, _, 0, _, rfl, rfl, hat, atI_at (by decide) rfl, rfl, ?_⟩
      have e : lacksB [PyData.str z, d1] = decide (V.str z = V.str "if") := by
        show (true && decide (z = "if")) = _
        rw [Bool.true_and, Bool.eq_iff_iff, decide_eq_true_eq, decide_eq_true_eq]
        exact ⟨fun h => by rw [h], fun h => V.str.inj h⟩
      rw [e] at fin
      exact fin
  · refine ifF (decide_eq_false fun e => c (by have e2 : (xs.length : Int) = 2 := V.int.inj e; omega)) ?_
    have e : lacksB hd = false := by
      unfold lacksB
      rw [decide_eq_false c]
      rfl
    rw [e] at fin
    exact fin
end
theorem atI_last {α : Type} {xs : List α} {v : α} (h0 : 0 < xs.length) (h : xs[xs.length - 1]? = some v) : atI xs (-1) = some v := by
  unfold atI ixN
  rw [if_neg (by decide), if_pos (by omega)]
  show xs[_]? = _
  rw [show ((-1 : Int) + (xs.length : Int)).toNat = xs.length - 1 by omega]
  exact h
/-! the methods of NetRows -/
theorem tabsG_upi {PT : List Addr} {H : Hp} {p C dx : Addr} {fs : List (Str × V)} {o : HO} (t : TabsG PT H) (h : H p = some (.ins C dx fs)) : TabsG PT (upd H p o) := fun P hP => by
  obtain ⟨ps, h1, h2⟩ := t P hP
  refine ⟨ps, ?_, h2⟩
  rw [upd_ne (fun e => by rw [e, h] at h1; cases h1)]
  exact h1
def RdAt (K : PySem.W.Frag) (C CB : Addr) (H0 H : Hp) (p : Addr) (S : RSt) : Prop := ∃ A B ps, Rd K C CB H0 H p A B ps S
theorem RdAt.move {K : PySem.W.Frag} {C CB : Addr} {H0 H H' : Hp} {p : Addr} {S : RSt} (R : RdAt K C CB H0 H p S) (e : LamX.ExtN H H') : RdAt K C CB H0 H' p S := by
  obtain ⟨A, B, ps, R⟩ := R
  exact ⟨A, B, ps, R.move e⟩
theorem rev_top {q l : Addr} {tl : List (Addr × Addr)} : (((q, l) :: tl).reverse.map fun x => V.ref x.1) = (tl.reverse.map fun x => V.ref x.1) ++ [V.ref q] := by
  rw [List.reverse_cons, List.map_append]
  rfl
theorem last_top (xs : List V) (v : V) : (xs ++ [v])[(xs ++ [v]).length - 1]? = some v := by
  rw [List.length_append, List.length_singleton, Nat.add_sub_cancel, List.getElem?_append_right (Nat.le_refl _), Nat.sub_self]
  rfl
/-- a block that was made -/
theorem mk_block {K : PySem.W.Frag} {CB : Addr} {H1 H' : Hp} {q dx l : Addr} {hv : V} {hd : List PyData} (hh : Dp K H1 hv (.tuple hd)) (ht : tupOnlyAll hd = true) (nq : H1 q = none) (ndx : H1 dx = none) (ne : dx ≠ q) (hl : upd (upd H1 dx (.own q)) q (.ins CB dx []) l = none) (nlq : l ≠ q) (h1 : H' q = some (.ins CB dx (bkF hv l))) (h2 : H' l = some (.lst [])) (h3 : ∀ b, b ≠ q → b ≠ l → H' b = upd (upd H1 dx (.own q)) q (.ins CB dx []) b) :
    Same H1 H' ∧ BkAt K CB H' q l (hd, []) ∧ H1 l = none := by
  have nld : l ≠ dx := fun e => by
    rw [e, upd_ne ne, upd_same] at hl
    cases hl
  have hl1 : H1 l = none := by
    rw [upd_ne nlq, upd_ne nld] at hl
    exact hl
  have s : Same H1 H' := fun b u hb => by
    rw [h3 b (ne_of_none hb nq) (ne_of_none hb hl1), upd_ne (ne_of_none hb nq), upd_ne (ne_of_none hb ndx)]
    exact hb
  exact ⟨s, ⟨dx, hv, [], h1, dp_same s hh, ht, h2, .nil, rfl⟩, hl1⟩
theorem foot_fresh {K : PySem.W.Frag} {C CB : Addr} {H0 H : Hp} {p A B : Addr} {ps : List (Addr × Addr)} {S : RSt} (R : Rd K C CB H0 H p A B ps S) {a : Addr} (h : H a = none) : a ∉ p :: A :: B :: ft ps := fun m => by
  obtain ⟨dx, vch, h1, _⟩ := R.obj
  obtain ⟨avs, h2, _⟩ := R.atA
  simp only [List.mem_cons] at m
  rcases m with rfl | rfl | rfl | m
  · rw [h1] at h; cases h
  · rw [h2] at h; cases h
  · rw [R.atB] at h; cases h
  · obtain ⟨u, hu, _⟩ := R.stk.at_ m
    rw [hu] at h
    cases h
def EndM (S S' : RSt) : Prop := (S.stk = [] ∧ S' = S) ∨ (S.stk ≠ [] ∧ ∃ hd sts, Cl 1 S.stk [(hd, sts)] ∧ S' = ⟨S.chs, S.acts ++ [.tuple sts], [], S.room⟩)
section
open PySem.Spec PyProof.Rows LamX
variable {P : Program} {w : World} {K : PySem.W.Frag} {mg : Str → Option Value} {base : Heap} {f : Addr} {fd : FuncData} {C CB : Addr} {PT : List Addr}
def spClose (K : PySem.W.Frag) (C CB : Addr) (PT : List Addr) : Sp := fun vs H Q _ => ∃ (H0 : Hp) (p : Addr) (S : RSt) (L : Nat) (s' : List Bkt), vs = [.ref p, .int (L : Nat)] ∧ RdAt K C CB H0 H p S ∧ Cl L S.stk s' ∧ S.stk.length ≤ 100 ∧ (∀ x ∈ S.stk, x.2.length ≤ 12) ∧ TabsG PT H ∧ ∀ H', RdAt K C CB H0 H' p ⟨S.chs, S.acts, s', S.room⟩ → TabsG PT H' → Q (.bl true) H'
theorem scClose : FnScope ["self", "level", "block"] ["self", "level"] (defScope sNrCloseTo) := ⟨rfl, rfl, rfl, by decide +kernel, rfl, by decide +kernel, by decide +kernel⟩
theorem ok_close {k : Nat} (F : Fun K "close_to" "NetRows.close_to" sNrCloseTo f fd) (T : NrC K mg C) (TB : BkC K mg CB) (hL : mg "len" = none) (cL : MetC P w K mg base CB "lacks_other" k ["self"] (spLacks K CB)) (cP : MetC P w K mg base CB "parts" k ["self"] (spParts K CB)) : FnOk P w K mg base CX0 (k + 1) f fd ["self", "level"] (spClose K C CB PT) := by
  refine F.ok scClose (fun vs H Q E h => ?_) (fun cdv A outer s H vs Q E hr h => ?_)
  · obtain ⟨H0, p, S, L, s', rfl, _⟩ := h
    rfl
  obtain ⟨H0, p, S, L, s', rfl, ⟨A, B, ps, R⟩, hcl, l100, x12, tb, fin⟩ := h
  refine ⟨_, pss_cons (ps_while PassesOwn.never (pt_cmpR op_gt (pe_callB call_len_seq rfl hL PySem.boot_len (pa_cons (pe_fld (pv 0) rfl) pa_nil)) (pv 1) (nomark _))
      (pss_cons (ps_set (i := 2) scClose.nd rfl (.inl rfl) (pe_bm0 PySem.F.plainAttrs_list PySem.F.slot_list_pop PySem.F.type_list_pop mt_pop (pe_fld (pv 0) rfl)))
      (pss_cons (ps_if (pt_val (pe_met0 cL hr (pv 2))) (pss_one (ps_ret pe_bl)) pss_nil)
      (pss_one (ps_expr (pe_bm PySem.F.plainAttrs_list PySem.F.slot_list_append PySem.F.type_list_append mt_append (pe_fld (pe_ix ix_list (pe_fld (pv 0) rfl) (pe_un un_neg pe_int) (fun _ _ => rfl)) rfl) (pa_cons (pe_met0 cP hr (pv 2)) pa_nil)))))))
    (pss_one (ps_ret pe_bl)), ?_⟩
  refine ⟨fun m σ G => ∃ (stk : List Bkt) (o2 : Option V) (A B : Addr) (ps : List (Addr × Addr)), m = stk.length ∧ Cl L stk s' ∧ stk.length ≤ 100 ∧ (∀ x ∈ stk, x.2.length ≤ 100 - stk.length + 12) ∧ σ = [some (.ref p), some (.int (L : Nat)), o2] ∧ Rd K C CB H0 G p A B ps ⟨S.chs, S.acts, stk, S.room⟩ ∧ TabsG PT G,
    ⟨_, S.stk, _, A, B, ps, rfl, hcl, l100, fun x hx => by have := x12 x hx; omega, rfl, R, tb⟩, ?_⟩
  clear R hcl l100 x12 tb
  rintro m σ G ⟨stk, o2, A, B, ps, rfl, hcl, l100, x12, rfl, R, tb⟩
  obtain ⟨dx, vch, hp, hch⟩ := R.obj
  have ls := R.stk.len
  have lB : (ps.reverse.map fun x => V.ref x.1).length = stk.length := by rw [List.length_map, List.length_reverse]; exact ls
  refine ⟨_, rfl, p, C, dx, _, _, rfl, hp, T.cl, T.nB, rdF_b _ _ _ _, B, _, rfl, .inl (SqL.of R.atB), _, rfl, _, _, rfl, rfl, _, rfl, ?_⟩
  rw [lB]
  cases hcl with
  | stop h =>
    refine ifF (decide_eq_false (by omega)) ?_
    exact fin G ⟨A, B, ps, R⟩ tb
  | @step x y r _ h nl hd t =>
    refine ifT (decide_eq_true (by omega)) ⟨_, fun σ' H' h => h, ?_⟩
    obtain ⟨z, tz, ez, lz⟩ := hd
    match ps, R, ls with
    | (q1, l1) :: (q2, l2) :: ps', R, _ =>
    have aB := R.atB
    rw [rev_top] at aB
    refine ⟨_, rfl, p, C, dx, _, _, rfl, hp, T.cl, T.nB, rdF_b _ _ _ _, .inl ⟨rfl, _, SqL.of aB⟩, B, _, _, rfl, rfl, aB, last_top _ _, ?_⟩
    rw [List.dropLast_concat]
    obtain ⟨R2, b1⟩ := R.popB
    have tb2 := tabsG_upd (l' := ((q2, l2) :: ps').reverse.map fun x => V.ref x.1) tb aB
    show tSeq _ _ _ _ (upd G B (.lst (((q2, l2) :: ps').reverse.map fun x => V.ref x.1)))
    generalize upd G B (.lst (((q2, l2) :: ps').reverse.map fun x => V.ref x.1)) = G2 at R2 b1 tb2 ⊢
    obtain ⟨dxp, vch2, hp2, _⟩ := R2.obj
    obtain ⟨dx1, hv1, ss1, g1, g2, g3, g4, g5, g6⟩ := id b1
    refine ⟨_, rfl, q1, dx1, _, rfl, g1, bkF_no _ _ (by decide +kernel) (by decide +kernel), q1, l1, x, rfl, b1, (fun d hd => by rw [ez] at hd; cases hd; exact ⟨z, rfl⟩), _, rfl, ?_⟩
    rw [nl]
    refine ifF rfl ?_
    have aB2 := R2.atB
    rw [rev_top] at aB2
    obtain ⟨b2, _⟩ : BkAt K CB G2 q2 l2 y ∧ True := by
      cases R2.stk with
      | cons b t => exact ⟨b, trivial⟩
    obtain ⟨dx2, hv2, ss2, k1, k2, k3, k4, k5, k6⟩ := id b2
    refine ⟨_, rfl, p, C, dxp, _, _, rfl, hp2, T.cl, T.nB, rdF_b _ _ _ _, _, rfl, B, _, -1, V.ref q2, rfl, rfl, SqL.of aB2, ?_, q2, CB, dx2, _, _, rfl, k1, TB.cl, TB.nS, bkF_s _ _, .inl ⟨rfl, _, SqL.of k4⟩, ?_⟩
    · exact atI_last (by rw [List.length_append, List.length_singleton]; omega) (last_top _ _)
    refine ⟨_, rfl, q1, dx1, _, rfl, g1, bkF_no _ _ (by decide +kernel) (by decide +kernel), q1, l1, x, rfl, b1, (by rw [ez]; exact List.cons_ne_nil _ _), (by rw [ez, List.length_cons]; omega), fun v G3 s3 hv => ?_⟩
    have R3 := R2.move (ext_same s3)
    have ly := dpAll_len k5
    have y12 := x12 y (by simp)
    refine ⟨l2, ss2, v, rfl, rfl, s3 _ _ k4, ?_, ?_⟩
    · rw [ly]
      exact Nat.lt_of_lt_of_le (show _ < 1000 by omega) (small (Nat.le_refl _))
    · have ht : tupOnly (.tuple (x.1 ++ [.tuple x.2])) = true := by
        show tupOnlyAll _ = true
        exact tupAll_app g3 (by show (tupOnlyAll x.2 && true) = true; rw [g6]; rfl)
      have R4 := R3.appT (s3 _ _ k1) (dp_same s3 k2) k3 (s3 _ _ k4) (dps_same s3 k5) k6 hv ht
      rw [List.length_cons, List.length_cons] at l100
      refine ⟨_, ?_, (y.1, y.2 ++ [.tuple (x.1 ++ [.tuple x.2])]) :: r, _, A, B, _, rfl, t, ?_, fun x' hx' => ?_, rfl, R4, tabsG_upd (tb2.same s3) (s3 _ _ k4)⟩
      · rw [List.length_cons, List.length_cons, List.length_cons]
        omega
      · rw [List.length_cons]
        omega
      · rw [List.length_cons]
        rw [List.length_cons, List.length_cons] at y12
        rcases List.mem_cons.mp hx' with rfl | hx'
        · rw [List.length_append, List.length_singleton]
          omega
        · have := x12 x' (by simp [hx'])
          rw [List.length_cons, List.length_cons] at this
          omega
end
/-! actors begin and end, blocks begin -/
theorem Cl.big {L : Nat} {s t : List Bkt} (c : Cl L s t) (h : L ≤ s.length) : t.length = L := c.len h
section
open PySem.Spec PyProof.Rows LamX
variable {P : Program} {w : World} {K : PySem.W.Frag} {mg : Str → Option Value} {base : Heap} {f : Addr} {fd : FuncData} {C CB : Addr} {PT : List Addr}
/-- what is known of a reader's blocks -/
def SzOk (S : RSt) : Prop := S.stk.length ≤ 100 ∧ ∀ x ∈ S.stk, x.2.length ≤ 12
def spEnd (K : PySem.W.Frag) (C CB : Addr) (PT : List Addr) : Sp := fun vs H Q _ => ∃ (H0 : Hp) (p : Addr) (S S' : RSt), vs = [.ref p] ∧ RdAt K C CB H0 H p S ∧ EndM S S' ∧ SzOk S ∧ S.acts.length ≤ 4 ∧ TabsG PT H ∧ ∀ H', RdAt K C CB H0 H' p S' → TabsG PT H' → Q (.bl true) H'
theorem scEndA : FnScope ["self"] ["self"] (defScope sNrEndActor) := ⟨rfl, rfl, rfl, by decide +kernel, rfl, by decide +kernel, by decide +kernel⟩
theorem ok_endA {k : Nat} (F : Fun K "end_actor" "NetRows.end_actor" sNrEndActor f fd) (T : NrC K mg C) (TB : BkC K mg CB) (hT : mg "tuple" = none) (cC : MetC P w K mg base C "close_to" k ["self", "level"] (spClose K C CB PT)) : FnOk P w K mg base CX0 (k + 1) f fd ["self"] (spEnd K C CB PT) := by
  refine F.ok scEndA (fun vs H Q E h => ?_) (fun cdv A outer s H vs Q E hr h => ?_)
  · obtain ⟨H0, p, S, S', rfl, _⟩ := h
    rfl
  obtain ⟨H0, p, S, S', rfl, ⟨A, B, ps, R⟩, hE, ⟨l100, x12⟩, a4, tb, fin⟩ := h
  refine ⟨_, pss_cons (ps_if (pt_not (pt_truth (pe_fld (pv 0) rfl) (by intro _; rfl))) (pss_one (ps_ret pe_bl)) pss_nil)
    (pss_cons (ps_if (pt_not (pt_val (pe_met cC hr (pv 0) (pa_cons pe_int pa_nil)))) (pss_one (ps_ret pe_bl)) pss_nil)
    (pss_cons (ps_expr (pe_bm PySem.F.plainAttrs_list PySem.F.slot_list_append PySem.F.type_list_append mt_append (pe_fld (pv 0) rfl) (pa_cons (pe_callTy call_tuple_of rfl hT (by decide +kernel) (pa_cons (pe_fld (pe_bm0 PySem.F.plainAttrs_list PySem.F.slot_list_pop PySem.F.type_list_pop mt_pop (pe_fld (pv 0) rfl)) rfl) pa_nil)) pa_nil)))
    (pss_one (ps_ret pe_bl)))), ?_⟩
  obtain ⟨dx, vch, hp, hch⟩ := R.obj
  have ls := R.stk.len
  refine ⟨_, rfl, p, C, dx, _, _, rfl, hp, T.cl, T.nB, rdF_b _ _ _ _, _, .inl ⟨_, SqL.of R.atB, rfl⟩, ?_⟩
  rcases hE with ⟨e0, rfl⟩ | ⟨ne, hd, sts, hcl, rfl⟩
  · have : ps = [] := List.eq_nil_of_length_eq_zero (by rw [ls, e0]; rfl)
    subst this
    exact ifT rfl (fin H ⟨A, B, [], R⟩ tb)
  · have np : ps ≠ [] := fun e => ne (List.eq_nil_of_length_eq_zero (by rw [← ls, e]; rfl))
    have eb : (ps.reverse.map fun x => V.ref x.1).isEmpty = false := by
      cases ps with
      | nil => exact absurd rfl np
      | cons a l => cases a; rw [rev_top]; cases (l.reverse.map fun x => V.ref x.1) <;> rfl
    rw [eb]
    refine ifF rfl ⟨_, rfl, p, dx, _, rfl, hp, rdF_no _ _ _ _ (by decide +kernel) (by decide +kernel) (by decide +kernel) (by decide +kernel), H0, p, S, 1, _, rfl, ⟨A, B, ps, R⟩, hcl, l100, x12, tb, fun H1 ⟨A1, B1, ps1, R1⟩ t1 => ⟨_, rfl, ifF rfl ?_⟩⟩
    obtain ⟨dx1, vch1, hp1, hch1⟩ := R1.obj
    obtain ⟨avs, gA, dA⟩ := R1.atA
    have ls1 := R1.stk.len
    match ps1, R1, ls1 with
    | [(q1, l1)], R1, _ =>
    have aB := R1.atB
    rw [rev_top] at aB
    refine ⟨_, rfl, p, C, dx1, _, _, rfl, hp1, T.cl, T.nA, rdF_a _ _ _ _, .inl ⟨rfl, _, SqL.of gA⟩, ?_⟩
    refine ⟨_, rfl, p, C, dx1, _, _, rfl, hp1, T.cl, T.nB, rdF_b _ _ _ _, .inl ⟨rfl, _, SqL.of aB⟩, B1, _, _, rfl, rfl, aB, last_top _ _, ?_⟩
    rw [List.dropLast_concat]
    obtain ⟨R2, b1⟩ := R1.popB
    have tb2 := tabsG_upd (l' := ([] : List (Addr × Addr)).reverse.map fun x => V.ref x.1) t1 aB
    obtain ⟨avs2, gA2, dA2⟩ := R2.atA
    have hA2 : avs2 = avs := by
      obtain ⟨_, _, _, n4, _⟩ := nd_of R1.nod
      rw [upd_ne n4, gA] at gA2
      cases gA2
      rfl
    subst hA2
    generalize upd H1 B1 (.lst (([] : List (Addr × Addr)).reverse.map fun x => V.ref x.1)) = G2 at R2 b1 tb2 gA2 dA2 ⊢
    obtain ⟨dx2, hv2, ss2, g1, g2, g3, g4, g5, g6⟩ := id b1
    refine ⟨q1, CB, dx2, _, _, rfl, g1, TB.cl, TB.nS, bkF_s _ _, l1, ss2, rfl, .inl ⟨SqL.of g4, fun t ht => ?_⟩⟩
    have sT := same_new ht (.tup ss2)
    have R3 := R2.move (ext_same sT)
    have la : avs2.length = S.acts.length := dpAll_len dA2
    refine ⟨A1, avs2, _, rfl, rfl, sT _ _ gA2, ?_, ?_⟩
    · rw [la]
      exact Nat.lt_of_lt_of_le (show _ < 1000 by omega) (small (Nat.le_refl _))
    · exact fin _ ⟨A1, B1, [], R3.appA (sT _ _ gA2) (dps_same sT dA2) (.tup (SqT.of upd_same) (dps_same sT g5)) (by show tupOnlyAll sts = true; exact g6)⟩ (tabsG_upd (tb2.same sT) (sT _ _ gA2))
def spBegA (K : PySem.W.Frag) (C CB : Addr) (PT : List Addr) : Sp := fun vs H Q _ => ∃ (H0 : Hp) (p : Addr) (S S' : RSt), vs = [.ref p] ∧ RdAt K C CB H0 H p S ∧ EndM S S' ∧ SzOk S ∧ S.acts.length ≤ 4 ∧ S'.acts.length < 4 ∧ TabsG PT H ∧ ∀ H', RdAt K C CB H0 H' p ⟨S'.chs, S'.acts, [([], [])], 40⟩ → TabsG PT H' → Q (.bl true) H'
theorem scBegA : FnScope ["self"] ["self"] (defScope sNrBeginActor) := ⟨rfl, rfl, rfl, by decide +kernel, rfl, by decide +kernel, by decide +kernel⟩
theorem endM_stk {S S' : RSt} (h : EndM S S') : S'.stk = [] := by
  rcases h with ⟨e, rfl⟩ | ⟨_, _, _, _, rfl⟩
  · exact e
  · rfl
theorem ok_begA {k : Nat} (F : Fun K "begin_actor" "NetRows.begin_actor" sNrBeginActor f fd) (T : NrC K mg C) (TB : BkC K mg CB) (hL : mg "len" = none) (hMA : ∃ t, mg "MOST_ACTORS" = some (.int 4 t)) (hMS : ∃ t, mg "MOST_STATEMENTS" = some (.int 40 t)) (cE : MetC P w K mg base C "end_actor" (k + 1) ["self"] (spEnd K C CB PT)) (cM : MakC P w K mg base "Block" CB k ["self", "head"] (spBkInit CB)) : FnOk P w K mg base CX0 (k + 2) f fd ["self"] (spBegA K C CB PT) := by
  refine F.ok scBegA (fun vs H Q E h => ?_) (fun cdv A outer s H vs Q E hr h => ?_)
  · obtain ⟨H0, p, S, S', rfl, _⟩ := h
    rfl
  obtain ⟨H0, p, S, S', rfl, R, hE, sz, a4, a3, tb, fin⟩ := h
  refine ⟨_, pss_cons (ps_if (PW.pt (pw_or (pt_not (pt_val (pe_met0 cE hr (pv 0)))) (pw_or1 (pt_cmpR op_eq (pe_callB call_len_seq rfl hL PySem.boot_len (pa_cons (pe_fld (pv 0) rfl) pa_nil)) (pe_globI rfl hMA) (nomark _))))) (pss_one (ps_ret pe_bl)) pss_nil)
    (pss_cons (ps_expr (pe_bm PySem.F.plainAttrs_list PySem.F.slot_list_append PySem.F.type_list_append mt_append (pe_fld (pv 0) rfl) (pa_cons (pe_mak cM hr (by omega) rfl (pa_cons (pe_tup pa_nil) pa_nil)) pa_nil)))
    (pss_cons (ps_fld (pv 0) (pe_globI rfl hMS) rfl)
    (pss_one (ps_ret pe_bl)))), ?_⟩
  have e0 := endM_stk hE
  obtain ⟨_, _, _, R0⟩ := id R
  obtain ⟨dx, vch, hp, hch⟩ := R0.obj
  refine ⟨_, rfl, p, dx, _, rfl, hp, rdF_no _ _ _ _ (by decide +kernel) (by decide +kernel) (by decide +kernel) (by decide +kernel), H0, p, S, S', rfl, R, hE, sz, a4, tb, fun H1 ⟨A1, B1, ps1, R1⟩ t1 => ⟨_, rfl, ifF rfl ?_⟩⟩
  obtain ⟨dx1, vch1, hp1, hch1⟩ := R1.obj
  obtain ⟨avs, gA, dA⟩ := R1.atA
  have la := dpAll_len dA
  refine ⟨_, rfl, p, C, dx1, _, _, rfl, hp1, T.cl, T.nA, rdF_a _ _ _ _, A1, avs, rfl, .inl (SqL.of gA), rfl, _, rfl, ifF (decide_eq_false fun e => ?_) ?_⟩
  · have : (avs.length : Int) = 4 := V.int.inj e
    omega
  have ls1 := R1.stk.len
  rw [e0] at ls1
  have : ps1 = [] := List.eq_nil_of_length_eq_zero ls1
  subst this
  refine ⟨_, rfl, p, C, dx1, _, _, rfl, hp1, T.cl, T.nB, rdF_b _ _ _ _, .inl ⟨rfl, _, SqL.of R1.atB⟩, small (Nat.zero_le _), fun t0 ht0 => ?_⟩
  have s0 := same_new ht0 (.tup [])
  have R2 := R1.move (ext_same s0)
  intro q dq nq ndq neq
  refine ⟨q, dq, .ref t0, rfl, upd_same, fun l H3 hl nlq h1 h2 h3 => ⟨rfl, ?_⟩⟩
  obtain ⟨s3, bk, hl1⟩ := mk_block (hd := []) (.tup (SqT.of upd_same) .nil) rfl nq ndq neq hl nlq h1 h2 h3
  have R3 := R2.move (ext_same s3)
  have e3 : ExtN H0 (upd H1 t0 (.tup [])) := R2.ext
  refine ⟨B1, _, _, rfl, rfl, R3.atB, by show 0 < sizeLine; decide, ?_⟩
  have R4 := R3.pushB bk (by have := foot_fresh R2 nq; exact this) (by have := foot_fresh R2 hl1; exact this) nlq.symm (loose_free e3 nq) (loose_free e3 hl1)
  have t4 := tabsG_upd (l' := (([] : List (Addr × Addr)).reverse.map fun x => V.ref x.1) ++ [V.ref q]) ((t1.same s0).same s3) R3.atB
  show tSeq _ _ _ _ (upd H3 B1 (.lst ((([] : List (Addr × Addr)).reverse.map fun x => V.ref x.1) ++ [V.ref q])))
  generalize upd H3 B1 (.lst ((([] : List (Addr × Addr)).reverse.map fun x => V.ref x.1) ++ [V.ref q])) = G4 at R4 t4 ⊢
  obtain ⟨dx4, vch4, hp4, hch4⟩ := R4.obj
  refine ⟨_, rfl, p, C, dx4, _, rfl, hp4, T.cl, T.nR, (by show 4 < 1000; decide), ?_⟩
  have R5 := R4.setP 40 hp4 hch4
  have ep : putF "room" (.int ((40 : Nat) : Int)) (rdF vch4 A1 B1 S'.room) = rdF vch4 A1 B1 40 := rdF_putR _ _ _ _ _
  show Q (.bl true) (upd G4 p (.ins C dx4 (putF "room" (.int ((40 : Nat) : Int)) (rdF vch4 A1 B1 S'.room))))
  rw [ep]
  rw [e0] at R5
  exact fin _ ⟨A1, B1, _, R5⟩ (tabsG_upi t4 hp4)
end
/-! part_from, begin_other -/
def partR (z : Str) : V := match wfD 5 z with
  | some n => .int n
  | none => .str z
section
open PySem.Spec PyProof.Rows LamX
variable {P : Program} {w : World} {K : PySem.W.Frag} {mg : Str → Option Value} {base : Heap} {f : Addr} {fd : FuncData} {C CB : Addr} {PT : List Addr}
def spPartF (PT : List Addr) : Sp := fun vs H Q _ => ∃ z : Str, vs = [.str z] ∧ z.length ≤ sizeLine ∧ TabsG PT H ∧ ∀ H', ExtN H H' → TabsG PT H' → Q (partR z) H'
theorem scPartF : FnScope ["word", "number"] ["word"] (defScope sPartFrom) := ⟨rfl, rfl, rfl, by decide +kernel, rfl, by decide +kernel, by decide +kernel⟩
theorem ok_partF {k : Nat} (F : Fun K "part_from" "part_from" sPartFrom f fd) (hMF : ∃ t, mg "MOST_FIGURES" = some (.int 5 t)) (cF : Cal P w K mg base "whole_from" k ["word", "most"] (spWholeFrom K PT)) : FnOk P w K mg base CX0 (k + 1) f fd ["word"] (spPartF PT) := by
  refine F.ok scPartF (fun vs H Q E h => ?_) (fun cdv A outer s H vs Q E hr h => ?_)
  · obtain ⟨z, rfl, _⟩ := h
    rfl
  obtain ⟨z, rfl, hz, tb, fin⟩ := h
  refine ⟨_, pss_cons (ps_set (i := 1) scPartF.nd rfl (.inl rfl) (pe_cal cF hr rfl (pa_cons (pv 0) (pa_cons (pe_globI rfl hMF) pa_nil))))
    (pss_one (ps_ret (pe_ifExp (pt_cmpR op_isN (pv 1) pe_non (nomark _)) (pv 0) (pv 1)))), ?_⟩
  refine ⟨_, rfl, z, 5, rfl, hz, by decide, tb, fun H1 e1 t1 => ?_⟩
  have r := fin H1 e1 t1
  unfold partR at r
  cases h : wfD 5 z with
  | none =>
    rw [h] at r
    exact ⟨_, rfl, rfl, _, rfl, ifT rfl ⟨_, rfl, r⟩⟩
  | some n =>
    rw [h] at r
    exact ⟨_, rfl, rfl, _, rfl, ifF rfl ⟨_, rfl, r⟩⟩
theorem partR_part {H : Hp} {d : PyData} (h : PartOk d) : Dp K H (partR (partS d)) d := by
  rcases h with ⟨i, rfl, h0, h1⟩ | ⟨z, rfl, hz⟩
  · unfold partR
    rw [show wfD 5 (partS (.int i)) = some i from wfD_it h0 h1 (by decide)]
    exact .int i
  · unfold partR
    rw [show wfD 5 (partS (.str z)) = none from hz.2.2.2]
    exact .str z
def spBegO (K : PySem.W.Frag) (C CB : Addr) (PT : List Addr) : Sp := fun vs H Q _ => ∃ (H0 : Hp) (p : Addr) (S : RSt) (L : Nat) (nm : PyData) (sts : List PyData) (r : List Bkt), vs = [.ref p, .int (L : Nat)] ∧ RdAt K C CB H0 H p S ∧ Cl (L + 1) S.stk (([.str "if", nm], sts) :: r) ∧ r.length = L ∧ SzOk S ∧ TabsG PT H ∧
  ∀ H', RdAt K C CB H0 H' p ⟨S.chs, S.acts, ([.str "if", nm, .tuple sts], []) :: r, S.room⟩ → TabsG PT H' → Q (.bl true) H'
theorem scBegO : FnScope ["self", "level"] ["self", "level"] (defScope sNrBeginOther) := ⟨rfl, rfl, rfl, by decide +kernel, rfl, by decide +kernel, by decide +kernel⟩
theorem ok_begO {k : Nat} (F : Fun K "begin_other" "NetRows.begin_other" sNrBeginOther f fd) (T : NrC K mg C) (hL : mg "len" = none) (cC : MetC P w K mg base C "close_to" (k + 1) ["self", "level"] (spClose K C CB PT)) (cL : MetC P w K mg base CB "lacks_other" (k + 1) ["self"] (spLacks K CB)) (cP : MetC P w K mg base CB "parts" (k + 1) ["self"] (spParts K CB)) (cM : MakC P w K mg base "Block" CB k ["self", "head"] (spBkInit CB)) : FnOk P w K mg base CX0 (k + 2) f fd ["self", "level"] (spBegO K C CB PT) := by
  refine F.ok scBegO (fun vs H Q E h => ?_) (fun cdv A outer s H vs Q E hr h => ?_)
  · obtain ⟨H0, p, S, L, nm, sts, r, rfl, _⟩ := h
    rfl
  obtain ⟨H0, p, S, L, nm, sts, r, rfl, R, hcl, lr, ⟨l100, x12⟩, tb, fin⟩ := h
  refine ⟨_, pss_cons (ps_if (PW.pt (pw_or (pt_not (pt_val (pe_met cC hr (pv 0) (pa_cons (pe_op op_add (pv 1) pe_int) pa_nil)))) (pw_or (pt_cmpR op_eq (pe_callB call_len_seq rfl hL PySem.boot_len (pa_cons (pe_fld (pv 0) rfl) pa_nil)) (pv 1) (nomark _))
      (pw_or1 (pt_not (pt_val (pe_met0 cL hr (pe_ix ix_list (pe_fld (pv 0) rfl) (pe_un un_neg pe_int) (fun _ _ => rfl))))))))) (pss_one (ps_ret pe_bl)) pss_nil)
    (pss_cons (ps_expr (pe_bm PySem.F.plainAttrs_list PySem.F.slot_list_append PySem.F.type_list_append mt_append (pe_fld (pv 0) rfl) (pa_cons (pe_mak cM hr (by omega) rfl (pa_cons (pe_met0 cP hr (pe_bm0 PySem.F.plainAttrs_list PySem.F.slot_list_pop PySem.F.type_list_pop mt_pop (pe_fld (pv 0) rfl))) pa_nil)) pa_nil)))
    (pss_one (ps_ret pe_bl))), ?_⟩
  obtain ⟨_, _, _, R0⟩ := id R
  obtain ⟨dx, vch, hp, hch⟩ := R0.obj
  refine ⟨_, rfl, p, dx, _, rfl, hp, rdF_no _ _ _ _ (by decide +kernel) (by decide +kernel) (by decide +kernel) (by decide +kernel), _, rfl, _, _, rfl, rfl, H0, p, S, L + 1, _, rfl, R, hcl, l100, x12, tb, fun H1 ⟨A1, B1, ps1, R1⟩ t1 => ⟨_, rfl, ifF rfl ?_⟩⟩
  obtain ⟨dx1, vch1, hp1, hch1⟩ := R1.obj
  have ls1 := R1.stk.len
  rw [List.length_cons, lr] at ls1
  match ps1, R1, ls1 with
  | (q1, l1) :: ps, R1, ls1 =>
  have aB := R1.atB
  have lB : (((q1, l1) :: ps).reverse.map fun x => V.ref x.1).length = L + 1 := by rw [List.length_map, List.length_reverse]; exact ls1
  refine ⟨_, rfl, p, C, dx1, _, _, rfl, hp1, T.cl, T.nB, rdF_b _ _ _ _, B1, _, rfl, .inl (SqL.of aB), _, rfl, rfl, _, rfl, ifF (decide_eq_false fun e => ?_) ?_⟩
  · have e := V.int.inj e
    rw [lB] at e
    omega
  rw [rev_top] at aB
  obtain ⟨b1, _⟩ : BkAt K CB H1 q1 l1 ([.str "if", nm], sts) ∧ True := by
    cases R1.stk with
    | cons b t => exact ⟨b, trivial⟩
  obtain ⟨dx2, hv2, ss2, g1, g2, g3, g4, g5, g6⟩ := id b1
  refine ⟨_, rfl, p, C, dx1, _, _, rfl, hp1, T.cl, T.nB, rdF_b _ _ _ _, _, rfl, B1, _, -1, V.ref q1, rfl, rfl, SqL.of aB, atI_last (by rw [List.length_append, List.length_singleton]; omega) (last_top _ _), q1, dx2, _, rfl, g1, bkF_no _ _ (by decide +kernel) (by decide +kernel), q1, l1, _, rfl, b1, (fun d hd => by cases hd; exact ⟨_, rfl⟩), _, rfl, ?_⟩
  rw [show lacksB [PyData.str "if", nm] = true from rfl]
  refine ifF rfl ?_
  refine ⟨_, rfl, p, C, dx1, _, _, rfl, hp1, T.cl, T.nB, rdF_b _ _ _ _, .inl ⟨rfl, _, SqL.of aB⟩, ?_⟩
  refine ⟨_, rfl, p, C, dx1, _, _, rfl, hp1, T.cl, T.nB, rdF_b _ _ _ _, .inl ⟨rfl, _, SqL.of aB⟩, B1, _, _, rfl, rfl, aB, last_top _ _, ?_⟩
  rw [List.dropLast_concat]
  obtain ⟨R2, b2⟩ := R1.popB
  have tb2 := tabsG_upd (l' := ps.reverse.map fun x => V.ref x.1) t1 aB
  generalize upd H1 B1 (.lst (ps.reverse.map fun x => V.ref x.1)) = G2 at R2 b2 tb2 ⊢
  obtain ⟨dx3, hv3, ss3, k1, k2, k3, k4, k5, k6⟩ := id b2
  refine ⟨q1, dx3, _, rfl, k1, bkF_no _ _ (by decide +kernel) (by decide +kernel), q1, l1, _, rfl, b2, (by exact List.cons_ne_nil _ _), (by show 2 ≤ 10; decide), fun v G3 s3 hv => ?_⟩
  have ht : tupOnlyAll ([PyData.str "if", nm] ++ [.tuple sts]) = true := tupAll_app k3 (by show (tupOnlyAll sts && true) = true; rw [k6]; rfl)
  have R3 := R2.move (ext_same s3)
  intro q dq nq ndq neq
  refine ⟨q, dq, v, rfl, upd_same, fun l H4 hl nlq h1 h2 h3 => ⟨rfl, ?_⟩⟩
  obtain ⟨s4, bk, hl1⟩ := mk_block hv ht nq ndq neq hl nlq h1 h2 h3
  have R4 := R3.move (ext_same s4)
  have lps : ps.length = L := by rw [List.length_cons] at ls1; omega
  have hlr := R2.stk.len
  have sz1 : (ps.reverse.map fun x => V.ref x.1).length < sizeLine := by
    rw [List.length_map, List.length_reverse]
    have : r.length ≤ S.stk.length := by
      have c := hcl
      clear hcl R2 R3 R4 R1 fin b1 b2 bk
      have aux : ∀ {s t : List Bkt}, Cl (L + 1) s t → t.length ≤ s.length := fun c => by
        induction c with
        | stop h => exact Nat.le_refl _
        | step h nl hd t ih => rw [List.length_cons] at ih ⊢; rw [List.length_cons]; omega
      have := aux c
      rw [List.length_cons] at this
      omega
    exact Nat.lt_of_lt_of_le (show _ < 1000 by omega) (small (Nat.le_refl _))
  refine ⟨B1, _, _, rfl, rfl, R4.atB, sz1, ?_⟩
  have R5 := R4.pushB bk (by have := foot_fresh R3 nq; exact this) (by have := foot_fresh R3 hl1; exact this) nlq.symm (loose_free R3.ext nq) (loose_free R3.ext hl1)
  exact fin _ ⟨A1, B1, _, R5⟩ (tabsG_upd ((tb2.same s3).same s4) R4.atB)
end
/-! read_statement -/
theorem part_tup {d : PyData} (h : PartOk d) : tupOnly d = true := by
  rcases h with ⟨i, rfl, _⟩ | ⟨z, rfl, _⟩ <;> rfl
theorem split_words {ds : List PyData} (hne : ds ≠ []) (h : ∀ d ∈ ds, PartOk d) : Txt.split (wordsS ds) " " = ds.map partS := by
  refine TL.split_join (y := " ") (s := 32) (S := []) (by decide +kernel) (by decide +kernel) (fun e => hne (List.map_eq_nil_iff.mp e)) fun p hp hm => ?_
  obtain ⟨d, hd, rfl⟩ := List.mem_map.mp hp
  have := part_sgn (h d hd) 32 hm
  omega
abbrev rSplit : V → List V → Hp → VK → Prop := fun x xs H Q => ∃ a b, x = .str a ∧ xs = [.str b] ∧ (b.length == 0) = false ∧ a.length + 2 ≤ sizeLine ∧ rNewStrs (Txt.split a b) H Q
theorem strs_get {l : List Str} {i : Nat} {v : V} (h : (l.map V.str)[i]? = some v) : ∃ z, l[i]? = some z ∧ v = .str z := by
  rw [List.getElem?_map] at h
  obtain ⟨z, hz, rfl⟩ := Option.map_eq_some_iff.mp h
  exact ⟨z, hz, rfl⟩
theorem deed_bk {ds : List PyData} (h : ∀ d ∈ ds, PartOk d) (l : ds.length ≤ 6) : BkOk (.tuple ds) := by
  have b : ∀ ds : List PyData, (∀ d ∈ ds, PartOk d) → PyData.bulkAll ds ≤ 20 * ds.length := fun ds => by
    induction ds with
    | nil => intro _; simp only [PyData.bulkAll]; exact Nat.zero_le _
    | cons d ds ih =>
      intro h
      have h1 : d.bulk ≤ 11 := by
        rcases h d List.mem_cons_self with ⟨i, rfl, _⟩ | ⟨z, rfl, hz⟩
        · simp only [PyData.bulk]; omega
        · have hz1 := hz.1
          simp only [PyData.bulk]
          have : z.cps.size = z.length := rfl
          omega
      have h2 := ih fun z hz => h z (List.mem_cons_of_mem _ hz)
      simp only [PyData.bulkAll, List.length_cons]
      omega
  have := b ds h
  unfold BkOk
  simp only [PyData.bulk]
  omega
section
open PySem.Spec PyProof.Rows LamX
variable {P : Program} {w : World} {K : PySem.W.Frag} {mg : Str → Option Value} {base : Heap} {f : Addr} {fd : FuncData} {C CB : Addr} {PT : List Addr}
/-- what a row of a statement makes of the reader -/
def StM (S : RSt) (L : Nat) (ds : List PyData) (S' : RSt) : Prop := ∃ (chs : List (Int × Int)) (hd : List PyData) (sts : List PyData) (r : List Bkt) (m : Nat), S.chs = some chs ∧ chs.length ≤ 6 ∧ Cl L S.stk ((hd, sts) :: r) ∧ r.length + 1 = L ∧ sts.length < 12 ∧ S.room = m + 1 ∧
  ((deedD (sideL Prod.fst chs S.acts.length) (sideL Prod.snd chs S.acts.length) (.tuple ds) = true ∧ S' = ⟨S.chs, S.acts, (hd, sts ++ [.tuple ds]) :: r, m⟩) ∨
   (∃ z nm, ds = [.str z, nm] ∧ z ∈ brL ∧ numNameD nm = true ∧ L ≠ 4 ∧ S' = ⟨S.chs, S.acts, (ds, []) :: (hd, sts) :: r, m⟩))
theorem stM_parts {S S' : RSt} {L : Nat} {ds : List PyData} (h : StM S L ds S') : (∀ d ∈ ds, PartOk d) ∧ ds ≠ [] ∧ ds.length ≤ 6 := by
  obtain ⟨chs, hd, sts, r, m, _, l6, _, _, _, _, h⟩ := h
  rcases h with ⟨hd, _⟩ | ⟨z, nm, rfl, hz, hn, _⟩
  · obtain ⟨z', ds', e, _, l4, hp⟩ := deed_parts (side_ib l6) (side_ib l6) hd
    cases e
    exact ⟨hp, List.cons_ne_nil _ _, by rw [List.length_cons]; omega⟩
  · exact ⟨br_parts hz hn, List.cons_ne_nil _ _, by show 2 ≤ 6; decide⟩
def spRdS (K : PySem.W.Frag) (C CB : Addr) (PT : List Addr) : Sp := fun vs H Q _ => ∃ (H0 : Hp) (p : Addr) (S S' : RSt) (L : Nat) (ds : List PyData), vs = [.ref p, .str (wordsS ds), .int (L : Nat)] ∧ RdAt K C CB H0 H p S ∧ StM S L ds S' ∧ SzOk S ∧ S.acts.length ≤ 4 ∧ TabsG PT H ∧ ∀ H', RdAt K C CB H0 H' p S' → TabsG PT H' → Q (.bl true) H'
abbrev rsN : List Str := ["self", "words", "level", "parts", "actor", "word"]
theorem scRdS : FnScope rsN ["self", "words", "level"] (defScope sNrReadStatement) := ⟨rfl, rfl, rfl, by decide +kernel, rfl, by decide +kernel, by decide +kernel⟩
def spIsHead (PT : List Addr) (K : PySem.W.Frag) : Sp := fun vs H Q _ => ∃ (x : V) (z : Str) (nm : PyData), vs = [x] ∧ Dp K H x (.tuple [.str z, nm]) ∧ z ∈ brL ∧ numNameD nm = true ∧ TabsG PT H ∧ ∀ H', ExtN H H' → TabsG PT H' → Q (.bl true) H'
theorem scIsHead : FnScope ["parts"] ["parts"] (defScope sIsHead) := ⟨rfl, rfl, rfl, by decide +kernel, rfl, by decide +kernel, by decide +kernel⟩
theorem ok_isHead {k : Nat} {bt : Addr} (F : Fun K "is_head" "is_head" sIsHead f fd) (hB : mg "BRANCHES" = some (.ref bt)) (BT : BranchT K w bt) (cT : Cal P w K mg base "is_tuple" k ["thing", "least", "most"] (spTuple K)) (cN : Cal P w K mg base "is_number_name" k ["thing"] (spName K PT numNameD)) : FnOk P w K mg base CX0 (k + 1) f fd ["parts"] (spIsHead PT K) := by
  refine F.ok scIsHead (fun vs H Q E h => ?_) (fun cdv A outer s H vs Q E hr h => ?_)
  · obtain ⟨x, z, nm, rfl, _⟩ := h
    rfl
  obtain ⟨x, z, nm, rfl, hx, hz, hn, tb, fin⟩ := h
  obtain ⟨es, nn, KD⟩ := BT.kd
  refine ⟨_, pss_one (ps_ret (pe_and (pe_cal cT hr rfl (pa_cons (pv 0) (pa_cons pe_int (pa_cons pe_int pa_nil)))) (pe_and (pe_cmpR (op_in_kd KD) (pe_ix ix_tup (pv 0) pe_int (fun _ _ => rfl)) (pe_glob (v := .ref bt) rfl hB rfl) rfl) (pe_one (pe_cal cN hr rfl (pa_cons (pe_ix ix_tup (pv 0) pe_int (fun _ _ => rfl)) pa_nil)))))), ?_⟩
  have hx' := hx
  obtain ⟨nz, rfl, nw, n6⟩ := num_word hn
  cases hx with
  | @tup ta xs _ tat teach =>
  cases teach with
  | @cons u us _ _ e1 e2 =>
  cases e1
  cases e2 with
  | @cons u2 us2 _ _ e3 e4 =>
  cases e4
  obtain ⟨m, hm⟩ : ∃ m, brK z = some m := by
    unfold brL at hz
    simp only [List.mem_cons, List.not_mem_nil, or_false] at hz
    rcases hz with rfl | rfl
    · exact ⟨2, by decide +kernel⟩
    · exact ⟨1, by decide +kernel⟩
  obtain ⟨tk, hbr⟩ := BT.yes z m hm
  refine ⟨_, rfl, _, _, 2, 2, rfl, hx', _, rfl, ifT rfl ⟨_, rfl, ta, _, 0, _, rfl, rfl, tat, atI_at (by decide) rfl, z, some (.int (m : Nat) tk), rfl, rfl, hbr, _, rfl, ifT rfl ?_⟩⟩
  refine ⟨_, rfl, ta, _, 1, _, rfl, rfl, tat, atI_at (by decide) rfl, u2, .str nz, rfl, e3, (fun y e => by cases e; exact Nat.le_trans n6 (by decide)), tb, fun H1 e1 t1 => ?_⟩
  rw [hn]
  exact fin H1 e1 t1
theorem br_no_deed {ss ts : List Int} {z : Str} {nm : PyData} (h : z ∈ brL) : deedD ss ts (.tuple [.str z, nm]) = false := by
  unfold brL at h
  simp only [List.mem_cons, List.not_mem_nil, or_false] at h
  have e : deedK z = none := by rcases h with rfl | rfl <;> decide +kernel
  show deedB ss ts z [nm] = false
  unfold deedB
  rw [e]
theorem ok_rdS {k : Nat} {c Pc : Addr} (F : Fun K "read_statement" "NetRows.read_statement" sNrReadStatement f fd) (hc : fd.code = .ref c) (TBc : LamX.TabB base mg c Pc) (hPT : Pc ∈ PT) (T : NrC K mg C) (TB : BkC K mg CB) (hL : mg "len" = none) (hTu : mg "tuple" = none) (hMB : ∃ t, mg "MOST_IN_BLOCK" = some (.int 12 t)) (hMW : ∃ t, mg "MOST_WITHIN" = some (.int 4 t))
    (cC : MetC P w K mg base C "close_to" (k + 1) ["self", "level"] (spClose K C CB PT)) (cPf : Cal P w K mg base "part_from" k ["word"] (spPartF PT)) (cD : Cal P w K mg base "is_deed" (k + 1) ["thing", "sends", "takes"] (spIsDeed K PT)) (cS : Cal P w K mg base "sends_of" (k + 1) ["channels", "actor"] (spSide K PT Prod.fst)) (cTk : Cal P w K mg base "takes_of" (k + 1) ["channels", "actor"] (spSide K PT Prod.snd)) (cH : Cal P w K mg base "is_head" (k + 1) ["parts"] (spIsHead PT K)) (cM : MakC P w K mg base "Block" CB k ["self", "head"] (spBkInit CB)) :
    FnOk P w K mg base CX0 (k + 2) f fd ["self", "words", "level"] (spRdS K C CB PT) := by
  refine okC F hc scRdS (fun vs H Q E h => ?_) (fun A outer s H vs Q E hr h => ?_)
  · obtain ⟨H0, p, S, S', L, ds, rfl, _⟩ := h
    rfl
  obtain ⟨H0, p, S, S', L, ds, rfl, R, hM, ⟨l100, x12⟩, a4, tb, fin⟩ := h
  obtain ⟨hp', dne, d6⟩ := stM_parts hM
  obtain ⟨chs, hd, sts, r, m, ech, c6, hcl, lr, s12, erm, hres⟩ := hM
  refine ⟨_, pss_cons (ps_if (PW.pt (pw_or (pt_not (pt_val (pe_met cC hr (pv 0) (pa_cons (pv 2) pa_nil)))) (pw_or (pt_cmpR op_eq (pe_callB call_len_seq rfl hL PySem.boot_len (pa_cons (pe_fld (pe_ix ix_list (pe_fld (pv 0) rfl) (pe_un un_neg pe_int) (fun _ _ => rfl)) rfl) pa_nil)) (pe_globI rfl hMB) (nomark _))
      (pw_or1 (pt_cmpR op_eq (pe_fld (pv 0) rfl) pe_int (nomark _)))))) (pss_one (ps_ret pe_bl)) pss_nil)
    (pss_cons (ps_fldaug (pv 0) pe_int in_sub)
    (pss_cons (ps_set (i := 3) scRdS.nd rfl (.inl rfl) (pe_tupG (k := k) (own := [("word", 5)]) (wi := iList K (tM1 rSplit (tVar 1) (tC (.str " ")))) (g := gName 5) (tt := tYes) (te := tCall (spPartF PT) [] E0 (tCons (tVar 5) tNil)) scRdS.nd hr rfl hTu (by decide +kernel) TBc rfl
      (blkOk_by (own := [("word", 5)]) (N := rsN) (sc := defScope sNrReadStatement) (by decide +kernel)) (by decide +kernel) rfl rfl (pi_list (pe_split (pv 1) pe_str))
      (fun _ _ _ _ _ _ _ _ _ _ => pg_name (i := 5) scRdS.nd rfl (Or.inl rfl)) (fun _ _ _ _ _ _ _ _ _ _ => pts_nil)
      (fun _ _ _ _ _ _ _ _ _ hr' => pe_cal cPf hr' rfl (pa_cons (pv 5) pa_nil)) (fun _ => rfl)))
    (pss_cons (ps_set (i := 4) scRdS.nd rfl (.inl rfl) (pe_callB call_len_seq rfl hL PySem.boot_len (pa_cons (pe_fld (pv 0) rfl) pa_nil)))
    (pss_cons (ps_if (pt_val (pe_cal cD hr rfl (pa_cons (pv 3) (pa_cons (pe_cal cS hr rfl (pa_cons (pe_fld (pv 0) rfl) (pa_cons (pv 4) pa_nil))) (pa_cons (pe_cal cTk hr rfl (pa_cons (pe_fld (pv 0) rfl) (pa_cons (pv 4) pa_nil))) pa_nil)))))
      (pss_cons (ps_expr (pe_bm PySem.F.plainAttrs_list PySem.F.slot_list_append PySem.F.type_list_append mt_append (pe_fld (pe_ix ix_list (pe_fld (pv 0) rfl) (pe_un un_neg pe_int) (fun _ _ => rfl)) rfl) (pa_cons (pv 3) pa_nil)))
      (pss_one (ps_ret pe_bl))) pss_nil)
    (pss_cons (ps_if (PW.pt (pw_or (pt_not (pt_val (pe_cal cH hr rfl (pa_cons (pv 3) pa_nil)))) (pw_or1 (pt_cmpR op_eq (pv 2) (pe_globI rfl hMW) (nomark _))))) (pss_one (ps_ret pe_bl)) pss_nil)
    (pss_cons (ps_expr (pe_bm PySem.F.plainAttrs_list PySem.F.slot_list_append PySem.F.type_list_append mt_append (pe_fld (pv 0) rfl) (pa_cons (pe_mak cM hr (by omega) rfl (pa_cons (pv 3) pa_nil)) pa_nil)))
    (pss_one (ps_ret pe_bl)))))))), ?_⟩
  obtain ⟨_, _, _, R0⟩ := id R
  obtain ⟨dx, vch, hp, hch⟩ := R0.obj
  refine ⟨_, rfl, p, dx, _, rfl, hp, rdF_no _ _ _ _ (by decide +kernel) (by decide +kernel) (by decide +kernel) (by decide +kernel), _, rfl, H0, p, S, L, _, rfl, R, hcl, l100, x12, tb, fun H1 ⟨A1, B1, ps1, R1⟩ t1 => ⟨_, rfl, ifF rfl ?_⟩⟩
  obtain ⟨dx1, vch1, hp1, hch1⟩ := R1.obj
  have ls1 := R1.stk.len
  rw [List.length_cons] at ls1
  match ps1, R1, ls1 with
  | (q1, l1) :: ps, R1, ls1 =>
  have aB := R1.atB
  rw [rev_top] at aB
  obtain ⟨b1, _⟩ : BkAt K CB H1 q1 l1 (hd, sts) ∧ True := by
    cases R1.stk with
    | cons b t => exact ⟨b, trivial⟩
  obtain ⟨dx2, hv2, ss2, g1, g2, g3, g4, g5, g6⟩ := id b1
  have lss : ss2.length = sts.length := dpAll_len g5
  refine ⟨_, rfl, p, C, dx1, _, _, rfl, hp1, T.cl, T.nB, rdF_b _ _ _ _, _, rfl, B1, _, -1, V.ref q1, rfl, rfl, SqL.of aB, atI_last (by rw [List.length_append, List.length_singleton]; omega) (last_top _ _), q1, CB, dx2, _, _, rfl, g1, TB.cl, TB.nS, bkF_s _ _, l1, ss2, rfl, .inl (SqL.of g4), rfl, _, rfl, ifF (decide_eq_false fun e => ?_) ?_⟩
  · have e := V.int.inj e
    omega
  have hp1' : H1 p = some (.ins C dx1 (rdF vch1 A1 B1 (m + 1))) := by rw [hp1, ← erm]
  refine ⟨_, rfl, p, C, dx1, _, _, rfl, hp1', T.cl, T.nR, rdF_r _ _ _ _, rfl, _, rfl, ifF (decide_eq_false fun e => ?_) ?_⟩
  · have e := V.int.inj e
    omega
  refine ⟨_, rfl, p, C, dx1, _, _, rfl, hp1', T.cl, T.nR, rdF_r _ _ _ _, _, _, rfl, rfl, dx1, _, hp1', (by show 4 < 1000; decide), ?_⟩
  have R2 := R1.setP m hp1 hch1
  have t2 := tabsG_upi (o := .ins C dx1 (rdF vch1 A1 B1 m)) t1 hp1
  have ep : putF "room" (.int (((m + 1 : Nat) : Int) - 1)) (rdF vch1 A1 B1 (m + 1)) = rdF vch1 A1 B1 m := by
    rw [show (((m + 1 : Nat) : Int) - 1) = ((m : Nat) : Int) by omega]
    exact rdF_putR _ _ _ _ _
  show tSeq _ _ _ _ (upd H1 p (.ins C dx1 (putF "room" (.int (((m + 1 : Nat) : Int) - 1)) (rdF vch1 A1 B1 (m + 1)))))
  rw [ep]
  generalize upd H1 p (.ins C dx1 (rdF vch1 A1 B1 m)) = G2 at R2 t2 ⊢
  have wl := words_len fun d hd => (hp' d hd).b
  have sl : (16777216 : Nat) = sizeLine := rfl
  refine ⟨_, rfl, ⟨_, rfl⟩, wordsS ds, " ", rfl, rfl, by decide +kernel, by omega, fun pz hpz => ?_⟩
  rw [split_words dne hp']
  have sz := same_new hpz (.lst ((ds.map partS).map V.str))
  have t3 := t2.same sz
  refine ⟨pz, rfl, ⟨_, SqL.of upd_same⟩, t3 Pc hPT, fun H2 b2 D hD => ?_⟩
  have e2 := tabbed_ext (t3 Pc hPT) b2
  have t4 := t3.tabbed b2
  have gz : H2 pz = some (.lst ((ds.map partS).map V.str)) := ext_lst e2 upd_same
  have nzD : pz ≠ D := fun e => by rw [← e, gz] at hD; cases hD
  have hHD : ∀ u, H2 D = some u → ∃ ps, u = .tbl ps := fun u hu => by rw [hD] at hu; cases hu
  have e02 : ExtN G2 H2 := (ext_same sz).trans e2
  refine lc_list (K := K) (a := pz) (xs := (ds.map partS).map V.str) (fun j G' => ExtN H2 G' ∧ TabsG PT G' ∧ G' pz = some (.lst ((ds.map partS).map V.str)) ∧ G' D = some (.lst ((ds.take j).map fun d => partR (partS d)))) ⟨ext_same (same_new hD _), t4.same (same_new hD _), by rw [upd_ne nzD]; exact gz, upd_same⟩ (fun j G' _ h => SqL.of h.2.2.1) (fun j v G' hv h => ?_) (fun G' h => ?_)
  · obtain ⟨eG, tG, gz', gD⟩ := h
    obtain ⟨y, hy, rfl⟩ := strs_get hv
    rw [List.getElem?_map] at hy
    obtain ⟨d, hd', rfl⟩ := Option.map_eq_some_iff.mp hy
    have pl := part_len (hp' d (List.mem_of_getElem? hd')).b
    have il := (List.getElem?_eq_some_iff.mp hd').1
    refine ⟨rfl, yesG ⟨_, rfl, partS d, rfl, by omega, tG, fun G3 e3 t3' => ⟨_, ext_lst e3 gD, ?_, ext_upd (eG.trans e3) hHD, tabsG_upd t3' (ext_lst e3 gD), by rw [upd_ne nzD]; exact ext_lst e3 gz', ?_⟩⟩⟩
    · rw [List.length_map, List.length_take]
      exact Nat.lt_of_lt_of_le (show _ < 1000 by omega) (small (Nat.le_refl _))
    · rw [upd_same, take_more hd', List.map_append]
      rfl
  obtain ⟨eG, tG, gz', gD⟩ := h
  rw [List.length_map, List.length_map, List.take_length] at gD
  refine ⟨_, gD, fun pp hpp => ?_⟩
  have spp := same_new hpp (.tup (ds.map fun d => partR (partS d)))
  have e05 : ExtN G2 (upd G' pp (.tup (ds.map fun d => partR (partS d)))) := (e02.trans eG).trans (ext_same spp)
  have R3 := R2.move e05
  have t5 := tG.same spp
  have hparts : Dp K (upd G' pp (.tup (ds.map fun d => partR (partS d)))) (.ref pp) (.tuple ds) := by
    refine .tup (SqT.of upd_same) ?_
    have aux : ∀ (X : Hp) (l : List PyData), (∀ d ∈ l, PartOk d) → DpAll K X (l.map fun d => partR (partS d)) l := fun X l => by
      induction l with
      | nil => intro _; exact .nil
      | cons d l il => intro h; exact .cons (partR_part (h d List.mem_cons_self)) (il fun z hz => h z (List.mem_cons_of_mem _ hz))
    exact aux _ ds hp'
  have tparts : tupOnly (.tuple ds) = true := by
    show tupOnlyAll ds = true
    exact tup_all fun z hz => part_tup (hp' z hz)
  have bkp := deed_bk hp' d6
  clear gD gz' hpz nzD hHD hD
  generalize upd G' pp (.tup (ds.map fun d => partR (partS d))) = G5 at R3 t5 hparts e05 ⊢
  obtain ⟨dx5, vch5, hp5, hch5⟩ := R3.obj
  obtain ⟨avs, gA, dA⟩ := R3.atA
  have la : avs.length = S.acts.length := dpAll_len dA
  refine ⟨_, rfl, p, C, dx5, _, _, rfl, hp5, T.cl, T.nA, rdF_a _ _ _ _, A1, avs, rfl, .inl (SqL.of gA), ?_⟩
  rw [ech] at hch5
  have hch5 : Dp K G5 vch5 (.tuple (chs.map mkCh)) := hch5
  refine ⟨_, rfl, _, rfl, p, C, dx5, _, _, rfl, hp5, T.cl, T.nC, rdF_c _ _ _ _, _, rfl, vch5, chs, (avs.length : Int), rfl, hch5, by omega, t5, fun p1 H6 e6 t6 hs1 => ?_⟩
  have R6 := R3.move e6
  refine ⟨_, rfl, p, C, dx5, _, _, rfl, e6 _ _ hp5 (fun ps z => by cases z), T.cl, T.nC, rdF_c _ _ _ _, _, rfl, vch5, chs, (avs.length : Int), rfl, dp_ext e6 _ _ hch5, by omega, t6, fun p2 H7 e7 t7 hs2 => ?_⟩
  have e57 := e6.trans e7
  rw [la] at hs1 hs2
  refine ⟨.ref pp, _, p1, p2, _, _, rfl, dp_ext e57 _ _ hparts, bkp, sqT_ext e7 hs1, hs2, t7, fun H8 e8 t8 => ⟨_, rfl, ?_⟩⟩
  have e58 := e57.trans e8
  have R8 := R3.move e58
  have hparts8 := dp_ext e58 _ _ hparts
  obtain ⟨dx8, vch8, hp8, hch8⟩ := R8.obj
  have aB8 := R8.atB
  rcases hres with ⟨hdeed, rfl⟩ | ⟨z, nm, rfl, hz, hn, nL, rfl⟩
  · rw [hdeed]
    refine ifT rfl ?_
    rw [rev_top] at aB8
    obtain ⟨b8, _⟩ : BkAt K CB H8 q1 l1 (hd, sts) ∧ True := by
      cases R8.stk with
      | cons b t => exact ⟨b, trivial⟩
    obtain ⟨dx9, hv9, ss9, k1, k2, k3, k4, k5, k6⟩ := id b8
    have ls9 : ss9.length = sts.length := dpAll_len k5
    refine ⟨_, rfl, p, C, dx8, _, _, rfl, hp8, T.cl, T.nB, rdF_b _ _ _ _, _, rfl, B1, _, -1, V.ref q1, rfl, rfl, SqL.of aB8, atI_last (by rw [List.length_append, List.length_singleton]; omega) (last_top _ _), q1, CB, dx9, _, _, rfl, k1, TB.cl, TB.nS, bkF_s _ _, .inl ⟨rfl, _, SqL.of k4⟩, _, rfl, l1, ss9, _, rfl, rfl, k4, ?_, ?_⟩
    · exact Nat.lt_of_lt_of_le (show _ < 1000 by omega) (small (Nat.le_refl _))
    · exact fin _ ⟨A1, B1, _, R8.appT k1 k2 k3 k4 k5 k6 hparts8 tparts⟩ (tabsG_upd t8 k4)
  · rw [br_no_deed hz]
    refine ifF rfl ?_
    refine ⟨_, rfl, .ref pp, z, nm, rfl, hparts8, hz, hn, t8, fun H9 e9 t9 => ⟨_, rfl, ifF rfl ⟨_, rfl, rfl, _, rfl, ifF (decide_eq_false fun e => nL (by have := V.int.inj e; omega)) ?_⟩⟩⟩
    have R9 := R8.move e9
    obtain ⟨dx9, vch9, hp9, hch9⟩ := R9.obj
    refine ⟨_, rfl, p, C, dx9, _, _, rfl, hp9, T.cl, T.nB, rdF_b _ _ _ _, .inl ⟨rfl, _, SqL.of R9.atB⟩, ?_⟩
    refine ⟨_, rfl, ?_⟩
    intro q dq nq ndq neq
    refine ⟨q, dq, .ref pp, rfl, upd_same, fun l H10 hl nlq h1 h2 h3 => ⟨rfl, ?_⟩⟩
    obtain ⟨s10, bk, hl1⟩ := mk_block (dp_ext e9 _ _ hparts8) (by exact tparts) nq ndq neq hl nlq h1 h2 h3
    have R10 := R9.move (ext_same s10)
    refine ⟨B1, _, _, rfl, rfl, R10.atB, ?_, ?_⟩
    · have : ps.length + 1 = r.length + 1 := ls1
      have rl : r.length ≤ S.stk.length := by
        have aux : ∀ {s t : List Bkt}, Cl L s t → t.length ≤ s.length := fun c => by
          induction c with
          | stop h => exact Nat.le_refl _
          | step h nl hd t ih => rw [List.length_cons] at ih ⊢; rw [List.length_cons]; omega
        have := aux hcl
        rw [List.length_cons] at this
        omega
      rw [List.length_map, List.length_reverse, List.length_cons]
      exact Nat.lt_of_lt_of_le (show _ < 1000 by omega) (small (Nat.le_refl _))
    · have R11 := R10.pushB bk (by have := foot_fresh R9 nq; exact this) (by have := foot_fresh R9 hl1; exact this) nlq.symm (loose_free R9.ext nq) (loose_free R9.ext hl1)
      exact fin _ ⟨A1, B1, _, R11⟩ (tabsG_upd (t9.same s10) R10.atB)
end
/-! x not in t, of data -/
section
open PyProof.Rows
variable {X : Cx}
def rNotInDT (K : PySem.W.Frag) : R2 := fun x y H Q => ∃ d ds, L2.Dp K H x d ∧ L2.Dp K H y (.tuple ds) ∧ SeqAt.shaped d = true ∧ SeqAt.shaped (.tuple ds) = true ∧ Q (.bl (!ds.any fun z => PyData.eqv z d)) H
theorem op_notInDT (hu : X.A.units + 65 < cLine) : OpR X (compareOp .NotIn) (rNotInDT X.K) := by
  intro pins s σ H x y v u Q I rx ry h
  obtain ⟨d, ds, hd, he, sd, se, q⟩ := h
  obtain ⟨as, r1⟩ := L2.Dp.reads I d x v hd rx
  obtain ⟨bs, r2⟩ := L2.Dp.reads I (.tuple ds) y u he ry
  exact SeqAt.notIn_tuple_reads r2 r1 (SeqAt.canLay_of_shaped se) (SeqAt.canLay_of_shaped sd) (room_in_shaped sd hu) ⟨.bl _, H, I, rfl, q⟩
end
/-! channel_from, read_channels -/
theorem wfD_mono {m m' : Int} {z : Str} {n : Int} (h : wfD m z = some n) (hl : (z.length : Int) ≤ m') : wfD m' z = some n := by
  unfold wfD at h ⊢
  split at h
  · rename_i c
    rw [if_pos ⟨c.1, hl, c.2.2⟩]
    exact h
  · cases h
theorem wf_small {i : Int} (h0 : 0 ≤ i) (h1 : i < 4) : wfD 1 (itS i) = some i := by
  refine wfD_mono (wfD_it (by omega) (by omega) (Int.le_refl 5)) ?_
  have := it_small h0 (show i < 10 by omega)
  rw [← len_tlz, this]
  exact Int.le_refl 1
theorem split_ch {c : Int × Int} (h : ChOk c) : Txt.split (chW c) ">" = [itS c.1, itS c.2] := by
  have e : chW c = Txt.join ">" [itS c.1, itS c.2] := by
    refine str_tl ?_
    rw [chW_tl h, TL.join_eq, show (Str.join ">" [itS c.1, itS c.2]).cps.toList = _ from TL.tl_join ">" _, show TL.tl (">" : Str) = [62] by decide +kernel]
    obtain ⟨h1, h2, h3, h4, _⟩ := h
    show _ = (itS c.1).cps.toList ++ ([62] ++ (itS c.2).cps.toList)
    rw [it_small h1 (by omega), it_small h3 (by omega)]
    rfl
  rw [e]
  refine TL.split_join (y := ">") (s := 62) (S := []) (by decide +kernel) (by decide +kernel) (List.cons_ne_nil _ _) fun p hp hm => ?_
  obtain ⟨h1, h2, h3, h4, _⟩ := h
  have aux : ∀ {i : Int}, 62 ∈ (itS i).cps.toList → False := fun hm => by
    have := it_sgn hm
    omega
  rcases List.mem_cons.mp hp with rfl | hp
  · exact aux hm
  · rw [List.mem_singleton.mp hp] at hm
    exact aux hm
theorem ch_chan {c : Int × Int} (h : ChOk c) : chanD 4 (mkCh c) = true := by
  obtain ⟨h1, h2, h3, h4, h5⟩ := h
  show ((withinD 0 (4 - 1) (.int c.1) && withinD 0 (4 - 1) (.int c.2)) && intNe (.int c.1) (.int c.2)) = true
  have w : ∀ i : Int, 0 ≤ i → i < 4 → withinD 0 (4 - 1) (.int i) = true := fun i a b => by
    show (decide (0 ≤ i) && decide (i ≤ 4 - 1)) = true
    rw [decide_eq_true a, decide_eq_true (by omega)]
    rfl
  rw [w _ h1 h2, w _ h3 h4]
  show (!decide (c.1 = c.2)) = true
  rw [decide_eq_false h5]
  rfl
section
open PySem.Spec PyProof.Rows LamX
variable {P : Program} {w : World} {K : PySem.W.Frag} {mg : Str → Option Value} {base : Heap} {f : Addr} {fd : FuncData} {C CB : Addr} {PT : List Addr}
theorem _root_.L2.Room.units65 {k : Nat} {A : Around} (r : Room k A) : A.units + 65 < cLine := by have := r.un; omega
def spChanF (K : PySem.W.Frag) (PT : List Addr) : Sp := fun vs H Q _ => ∃ c : Int × Int, vs = [.str (chW c)] ∧ ChOk c ∧ TabsG PT H ∧ ∀ v H', ExtN H H' → TabsG PT H' → Dp K H' v (mkCh c) → Q v H'
abbrev cfN : List Str := ["word", "channel", "part"]
theorem scChanF : FnScope cfN ["word"] (defScope sChanFrom) := ⟨rfl, rfl, rfl, by decide +kernel, rfl, by decide +kernel, by decide +kernel⟩
theorem ok_chanF {k : Nat} {c Pc : Addr} (F : Fun K "channel_from" "channel_from" sChanFrom f fd) (hc : fd.code = .ref c) (TBc : LamX.TabB base mg c Pc) (hPT : Pc ∈ PT) (hTu : mg "tuple" = none) (hMA : ∃ t, mg "MOST_ACTORS" = some (.int 4 t)) (cW : Cal P w K mg base "whole_from" k ["word", "most"] (spWholeFrom K PT)) (cI : Cal P w K mg base "is_channel" (k + 1) ["thing", "actors"] (spIsChan K PT)) :
    FnOk P w K mg base CX0 (k + 2) f fd ["word"] (spChanF K PT) := by
  refine okC F hc scChanF (fun vs H Q E h => ?_) (fun A outer s H vs Q E hr h => ?_)
  · obtain ⟨c, rfl, _⟩ := h
    rfl
  obtain ⟨c, rfl, hc', tb, fin⟩ := h
  refine ⟨_, pss_cons (ps_set (i := 1) scChanF.nd rfl (.inl rfl) (pe_tupG (k := k) (own := [("part", 2)]) (wi := iList K (tM1 rSplit (tVar 0) (tC (.str ">")))) (g := gName 2) (tt := tYes) (te := tCall (spWholeFrom K PT) [] E0 (tCons (tVar 2) (tCons (tC (.int 1)) tNil))) scChanF.nd hr rfl hTu (by decide +kernel) TBc rfl
      (blkOk_by (own := [("part", 2)]) (N := cfN) (sc := defScope sChanFrom) (by decide +kernel)) (by decide +kernel) rfl rfl (pi_list (pe_split (pv 0) pe_str))
      (fun _ _ _ _ _ _ _ _ _ _ => pg_name (i := 2) scChanF.nd rfl (Or.inl rfl)) (fun _ _ _ _ _ _ _ _ _ _ => pts_nil)
      (fun _ _ _ _ _ _ _ _ _ hr' => pe_cal cW hr' rfl (pa_cons (pv 2) (pa_cons pe_int pa_nil))) (fun _ => rfl)))
    (pss_one (ps_ret (pe_ifExp (pt_val (pe_cal cI hr rfl (pa_cons (pv 1) (pa_cons (pe_globI rfl hMA) pa_nil)))) (pv 1) pe_non))), ?_⟩
  have sl : (16777216 : Nat) = sizeLine := rfl
  have wl := (chW_word hc').1
  refine ⟨_, rfl, ⟨_, rfl⟩, chW c, ">", rfl, rfl, by decide +kernel, by omega, fun pz hpz => ?_⟩
  rw [split_ch hc']
  have sz := same_new hpz (.lst ([itS c.1, itS c.2].map V.str))
  have t3 := tb.same sz
  refine ⟨pz, rfl, ⟨_, SqL.of upd_same⟩, t3 Pc hPT, fun H2 b2 D hD => ?_⟩
  have e2 := tabbed_ext (t3 Pc hPT) b2
  have t4 := t3.tabbed b2
  have gz : H2 pz = some (.lst ([itS c.1, itS c.2].map V.str)) := ext_lst e2 upd_same
  have nzD : pz ≠ D := fun e => by rw [← e, gz] at hD; cases hD
  have hHD : ∀ u, H2 D = some u → ∃ ps, u = .tbl ps := fun u hu => by rw [hD] at hu; cases hu
  have e02 : ExtN H H2 := (ext_same sz).trans e2
  obtain ⟨h1, h2, h3, h4, h5⟩ := id hc'
  refine lc_list (K := K) (a := pz) (xs := [itS c.1, itS c.2].map V.str) (fun j G' => ExtN H2 G' ∧ TabsG PT G' ∧ G' pz = some (.lst ([itS c.1, itS c.2].map V.str)) ∧ G' D = some (.lst ([V.int c.1, V.int c.2].take j))) ⟨ext_same (same_new hD _), t4.same (same_new hD _), by rw [upd_ne nzD]; exact gz, upd_same⟩ (fun j G' _ h => SqL.of h.2.2.1) (fun j v G' hv h => ?_) (fun G' h => ?_)
  · obtain ⟨eG, tG, gz', gD⟩ := h
    have step : ∀ (i : Int) (hi0 : 0 ≤ i) (hi1 : i < 4), V.str (itS i) = v → [V.int c.1, V.int c.2][j]? = some (.int i) → ∃ z m, v = .str z ∧ z.length ≤ sizeLine ∧ m = (1 : Int) ∧ wfD m z = some i ∧ [V.int c.1, V.int c.2][j]? = some (.int i) := fun i hi0 hi1 e1 e2 => ⟨itS i, 1, e1.symm, by
      have := it_small hi0 (show i < 10 by omega)
      rw [← len_tlz, this]
      exact Nat.le_trans (show 1 ≤ 1000 by decide) (small (Nat.le_refl _)), rfl, wf_small hi0 hi1, e2⟩
    obtain ⟨i, z, m, rfl, lz, rfl, hw, hj⟩ : ∃ (i : Int) (z : Str) (m : Int), v = .str z ∧ z.length ≤ sizeLine ∧ m = (1 : Int) ∧ wfD m z = some i ∧ [V.int c.1, V.int c.2][j]? = some (.int i) := by
      match j, hv with
      | 0, hv => exact ⟨c.1, step c.1 h1 h2 (by simpa using hv) rfl⟩
      | 1, hv => exact ⟨c.2, step c.2 h3 h4 (by simpa using hv) rfl⟩
    refine ⟨rfl, yesG ⟨_, rfl, z, 1, rfl, lz, by decide, tG, fun G3 e3 t3' => ?_⟩⟩
    rw [hw]
    refine ⟨_, ext_lst e3 gD, ?_, ext_upd (eG.trans e3) hHD, tabsG_upd t3' (ext_lst e3 gD), by rw [upd_ne nzD]; exact ext_lst e3 gz', ?_⟩
    · rw [List.length_take]
      exact Nat.lt_of_lt_of_le (show _ < 1000 by have : [V.int c.1, V.int c.2].length = 2 := rfl; omega) (small (Nat.le_refl _))
    · rw [upd_same, take_more hj]
      rfl
  obtain ⟨eG, tG, gz', gD⟩ := h
  have gD : G' D = some (.lst [V.int c.1, V.int c.2]) := gD
  refine ⟨_, gD, fun pp hpp => ?_⟩
  have spp := same_new hpp (.tup [V.int c.1, V.int c.2])
  have e05 : ExtN H (upd G' pp (.tup [V.int c.1, V.int c.2])) := (e02.trans eG).trans (ext_same spp)
  have hd : Dp K (upd G' pp (.tup [V.int c.1, V.int c.2])) (.ref pp) (mkCh c) := .tup (SqT.of upd_same) (.cons (.int _) (.cons (.int _) .nil))
  refine ⟨_, rfl, .ref pp, mkCh c, 4, rfl, hd, tG.same spp, fun H5 e5 t5 => ⟨_, rfl, ?_⟩⟩
  rw [ch_chan hc']
  refine ifT rfl ⟨_, rfl, fin _ H5 (e05.trans e5) t5 (dp_ext e5 _ _ hd)⟩
def spRdCh (K : PySem.W.Frag) (C CB : Addr) (PT : List Addr) : Sp := fun vs H Q _ => ∃ (H0 : Hp) (p : Addr) (S : RSt) (chs : List (Int × Int)), vs = [.ref p, .str (headW chs)] ∧ RdAt K C CB H0 H p S ∧ (∀ c ∈ chs, ChOk c) ∧ chs.length ≤ 6 ∧ TabsG PT H ∧ ∀ H', RdAt K C CB H0 H' p ⟨some chs, S.acts, S.stk, S.room⟩ → TabsG PT H' → Q (.bl true) H'
abbrev rcN : List Str := ["self", "row", "words", "channels", "word"]
theorem scRdCh : FnScope rcN ["self", "row"] (defScope sNrReadChannels) := ⟨rfl, rfl, rfl, by decide +kernel, rfl, by decide +kernel, by decide +kernel⟩
theorem dpAll_l2ch {H : Hp} : ∀ (chs : List (Int × Int)) (vs : List V), DpAll K H vs (chs.map mkCh) → L2.DpAll K H vs (chs.map mkCh)
  | [], vs, h => by cases h; exact .nil
  | c :: chs, vs, h => by
    cases h with
    | cons h1 h2 =>
      refine .cons ?_ (dpAll_l2ch chs _ h2)
      cases h1 with
      | tup hs ha =>
        cases ha with
        | cons a b =>
          cases a
          cases b with
          | cons a b =>
            cases a
            cases b
            exact .tup hs (.cons (.int _) (.cons (.int _) .nil))
theorem cut_tail (x : Str) (ys : List Str) : cutV ((x :: ys).map V.str) (some 1) none = ys.map V.str := by
  unfold cutV
  rw [HT.sIx_none, show (some 1 : Option Int) = some ((1 : Nat) : Int) from rfl, HT.sIx_nat, List.map_cons, List.length_cons, show min 1 ((ys.map V.str).length + 1) = 1 by omega, List.drop_succ_cons, List.drop_zero, List.take_of_length_le (by omega)]
theorem sh_chs (chs : List (Int × Int)) : SeqAt.shaped (.tuple (chs.map mkCh)) = true := by
  have h1 : ∀ chs : List (Int × Int), PyData.canLayAll0 (chs.map mkCh) = true := fun chs => by
    induction chs with
    | nil => simp [PyData.canLayAll0]
    | cons n r ih => simp [PyData.canLayAll0, PyData.canLay0, mkCh, ih]
  have h2 : ∀ chs : List (Int × Int), PyData.depthAll (chs.map mkCh) ≤ 1 := fun chs => by
    induction chs with
    | nil => simp [PyData.depthAll]
    | cons n r ih =>
      rw [List.map_cons]
      simp only [PyData.depthAll]
      have : (mkCh n).depth ≤ 1 := by simp [mkCh, PyData.depth, PyData.depthAll]
      omega
  have h3 := h2 chs
  show ((PyData.tuple (chs.map mkCh)).canLay0 && decide ((PyData.tuple (chs.map mkCh)).depth ≤ 64)) = true
  rw [Bool.and_eq_true]
  exact ⟨by simp only [PyData.canLay0]; exact h1 chs, decide_eq_true (by simp only [PyData.depth]; omega)⟩
theorem ch_any (chs : List (Int × Int)) : (!(chs.map mkCh).any fun z => PyData.eqv z .none) = true := by
  rw [show ((chs.map mkCh).any fun z => PyData.eqv z .none) = false from ?_]
  · rfl
  · rw [List.any_eq_false]
    intro z hz
    obtain ⟨c, _, rfl⟩ := List.mem_map.mp hz
    simp [mkCh, PyData.eqv]
theorem ok_rdCh {k : Nat} {c Pc : Addr} (F : Fun K "read_channels" "NetRows.read_channels" sNrReadChannels f fd) (hc : fd.code = .ref c) (TBc : LamX.TabB base mg c Pc) (hPT : Pc ∈ PT) (T : NrC K mg C) (hL : mg "len" = none) (hTu : mg "tuple" = none) (hMC : ∃ t, mg "MOST_CHANNELS" = some (.int 6 t)) (cCh : Cal P w K mg base "channel_from" k ["word"] (spChanF K PT)) :
    FnOk P w K mg base CX0 (k + 2) f fd ["self", "row"] (spRdCh K C CB PT) := by
  refine okC F hc scRdCh (fun vs H Q E h => ?_) (fun A outer s H vs Q E hr h => ?_)
  · obtain ⟨H0, p, S, chs, rfl, _⟩ := h
    rfl
  obtain ⟨H0, p, S, chs, rfl, R, hch, l6, tb, fin⟩ := h
  refine ⟨_, pss_cons (ps_set (i := 2) scRdCh.nd rfl (.inl rfl) (pe_split (pv 1) pe_str))
    (pss_cons (ps_set (i := 3) scRdCh.nd rfl (.inl rfl) (pe_tupG (k := k) (own := [("word", 4)]) (wi := iList K (tSl (rSlL K) (tVar 2) (tPart (tC (.int 1))) tNoPart)) (g := gName 4) (tt := tYes) (te := tCall (spChanF K PT) [] E0 (tCons (tVar 4) tNil)) scRdCh.nd hr rfl hTu (by decide +kernel) TBc rfl
      (blkOk_by (own := [("word", 4)]) (N := rcN) (sc := defScope sNrReadChannels) (by decide +kernel)) (by decide +kernel) rfl rfl (pi_list (pe_slice sl_list (pv 2) (po_some pe_int) po_none))
      (fun _ _ _ _ _ _ _ _ _ _ => pg_name (i := 4) scRdCh.nd rfl (Or.inl rfl)) (fun _ _ _ _ _ _ _ _ _ _ => pts_nil)
      (fun _ _ _ _ _ _ _ _ _ hr' => pe_cal cCh hr' rfl (pa_cons (pv 4) pa_nil)) (fun _ => rfl)))
    (pss_cons (ps_fld (pv 0) (pv 3) rfl)
    (pss_one (ps_ret (pe_and (pe_cmpR op_eq (pe_ix ix_list (pv 2) pe_int (fun _ _ => rfl)) pe_str (nomark _)) (pe_and (pe_cmpR op_le (pe_callB call_len_seq rfl hL PySem.boot_len (pa_cons (pv 3) pa_nil)) (pe_globI rfl hMC) (nomark _)) (pe_one (pe_cmpR (op_notInDT hr.units65) pe_non (pv 3) rfl)))))))), ?_⟩
  have hp' : ∀ d ∈ (PyData.str "channels" :: chs.map fun c => PyData.str (chW c)), PartOk d := head_parts hch
  have sl : (16777216 : Nat) = sizeLine := rfl
  have wl : (headW chs).length ≤ 100 := by
    have := words_len fun d hd => (hp' d hd).b
    rw [List.length_cons, List.length_map] at this
    unfold headW
    omega
  have esp : Txt.split (headW chs) " " = ("channels" : Str) :: chs.map chW := by
    show Txt.split (wordsS _) " " = _
    rw [split_words (List.cons_ne_nil _ _) hp', List.map_cons, List.map_map]
    rfl
  refine ⟨_, rfl, ⟨_, rfl⟩, headW chs, " ", rfl, rfl, by decide +kernel, by omega, fun pz hpz => ?_⟩
  rw [esp]
  have sz := same_new hpz (.lst ((("channels" : Str) :: chs.map chW).map V.str))
  have R1 := R.move (ext_same sz)
  have tb1 := tb.same sz
  have gz0 : upd H pz (.lst ((("channels" : Str) :: chs.map chW).map V.str)) pz = some (.lst ((("channels" : Str) :: chs.map chW).map V.str)) := upd_same
  generalize upd H pz (.lst ((("channels" : Str) :: chs.map chW).map V.str)) = G1 at R1 tb1 gz0 ⊢
  refine ⟨_, rfl, 1, rfl, pz, _, rfl, SqL.of gz0, fun ps hps => ?_⟩
  rw [show cutV ((("channels" : Str) :: chs.map chW).map V.str) (some 1) none = (chs.map chW).map V.str from cut_tail _ _]
  have s2 := same_new hps (.lst ((chs.map chW).map V.str))
  have t3 := tb1.same s2
  refine ⟨ps, rfl, ⟨_, SqL.of upd_same⟩, t3 Pc hPT, fun H2 b2 D hD => ?_⟩
  have e2 := tabbed_ext (t3 Pc hPT) b2
  have t4 := t3.tabbed b2
  have gz : H2 ps = some (.lst ((chs.map chW).map V.str)) := ext_lst e2 upd_same
  have nzD : ps ≠ D := fun e => by rw [← e, gz] at hD; cases hD
  have hHD : ∀ u, H2 D = some u → ∃ ps, u = .tbl ps := fun u hu => by rw [hD] at hu; cases hu
  have e02 : ExtN G1 H2 := (ext_same s2).trans e2
  refine lc_list (K := K) (a := ps) (xs := (chs.map chW).map V.str) (fun j G' => ExtN H2 G' ∧ TabsG PT G' ∧ G' ps = some (.lst ((chs.map chW).map V.str)) ∧ ∃ us, G' D = some (.lst us) ∧ DpAll K G' us ((chs.map mkCh).take j)) ⟨ext_same (same_new hD _), t4.same (same_new hD _), by rw [upd_ne nzD]; exact gz, [], upd_same, .nil⟩ (fun j G' _ h => SqL.of h.2.2.1) (fun j v G' hv h => ?_) (fun G' h => ?_)
  · obtain ⟨eG, tG, gz', us, gD, dU⟩ := h
    obtain ⟨y, hy, rfl⟩ := strs_get hv
    rw [List.getElem?_map] at hy
    obtain ⟨c, hc', rfl⟩ := Option.map_eq_some_iff.mp hy
    have lu := dpAll_len dU
    rw [List.length_take] at lu
    have l6' : (chs.map mkCh).length ≤ 6 := by rw [List.length_map]; exact l6
    refine ⟨rfl, yesG ⟨_, rfl, c, rfl, hch c (List.mem_of_getElem? hc'), tG, fun v G3 e3 t3' dv => ⟨_, ext_lst e3 gD, ?_, ext_upd (eG.trans e3) hHD, tabsG_upd t3' (ext_lst e3 gD), by rw [upd_ne nzD]; exact ext_lst e3 gz', us ++ [v], upd_same, ?_⟩⟩⟩
    · exact Nat.lt_of_lt_of_le (show _ < 1000 by omega) (small (Nat.le_refl _))
    · rw [take_more (show (chs.map mkCh)[j]? = some (mkCh c) by rw [List.getElem?_map, hc']; rfl)]
      have k3 : KTT G3 (upd G3 D (.lst (us ++ [v]))) := KTT.upd_lst (ext_lst e3 gD)
      refine dpAll_ktt k3 _ _ ?_ (dpAll_snoc dv (dpAll_ktt (KTT.of_ext e3) _ _ ?_ dU))
      · exact tupAll_app (tup_all fun z hz => by obtain ⟨c, _, rfl⟩ := List.mem_map.mp (List.mem_of_mem_take hz); rfl) rfl
      · exact tup_all fun z hz => by obtain ⟨c, _, rfl⟩ := List.mem_map.mp (List.mem_of_mem_take hz); rfl
  obtain ⟨eG, tG, gz', us, gD, dU⟩ := h
  rw [List.length_map, List.length_map, show chs.length = (chs.map mkCh).length by rw [List.length_map], List.take_length] at dU
  refine ⟨_, gD, fun pp hpp => ?_⟩
  have spp := same_new hpp (.tup us)
  have e05 : ExtN G1 (upd G' pp (.tup us)) := (e02.trans eG).trans (ext_same spp)
  have R2 := R1.move e05
  have t5 := tG.same spp
  have lu := dpAll_len dU
  rw [List.length_map] at lu
  have gpp : SqT K (upd G' pp (.tup us)) pp us := SqT.of upd_same
  have gz5 : (upd G' pp (.tup us)) pz = some (.lst ((("channels" : Str) :: chs.map chW).map V.str)) := ext_lst e05 gz0
  have dU5 := dps_same spp dU
  clear gD gz' hpp spp
  generalize upd G' pp (.tup us) = G5 at R2 t5 gpp gz5 dU5 e05 ⊢
  obtain ⟨A1, B1, ps1, R3⟩ := R2
  obtain ⟨dx, vch, hp, hch0⟩ := R3.obj
  refine ⟨_, rfl, _, rfl, p, C, dx, _, rfl, hp, T.cl, T.nC, (by show 4 < 1000; decide), ?_⟩
  have hdc : Dp K G5 (.ref pp) (chO (some chs)) := .tup gpp dU5
  have R4 := R3.setP (o := some chs) S.room hp hdc
  have ep : putF "channels" (.ref pp) (rdF vch A1 B1 S.room) = rdF (.ref pp) A1 B1 S.room := rdF_putC _ _ _ _ _
  have k5 : KTT G5 (upd G5 p (.ins C dx (rdF (.ref pp) A1 B1 S.room))) := KTT.upd_ins hp
  have t6 := tabsG_upi (o := .ins C dx (rdF (.ref pp) A1 B1 S.room)) t5 hp
  have npz : pz ≠ p := fun e => by rw [e, hp] at gz5; cases gz5
  show tSeq _ _ _ _ (upd G5 p (.ins C dx (putF "channels" (.ref pp) (rdF vch A1 B1 S.room))))
  rw [ep]
  have gz6 : (upd G5 p (.ins C dx (rdF (.ref pp) A1 B1 S.room))) pz = some (.lst ((("channels" : Str) :: chs.map chW).map V.str)) := by rw [upd_ne npz]; exact gz5
  have gpp6 := sqT_ktt k5 gpp
  have dU6 := dpAll_ktt k5 _ _ (tup_all fun z hz => by obtain ⟨c, _, rfl⟩ := List.mem_map.mp hz; rfl) dU5
  generalize upd G5 p (.ins C dx (rdF (.ref pp) A1 B1 S.room)) = G6 at R4 t6 gz6 gpp6 dU6 ⊢
  refine ⟨_, rfl, pz, _, 0, _, rfl, rfl, SqL.of gz6, atI_at (by decide) rfl, rfl, _, rfl, ifT rfl ?_⟩
  refine ⟨_, rfl, pp, _, rfl, .inr gpp6, _, _, rfl, rfl, _, rfl, ifT (decide_eq_true (by omega)) ?_⟩
  refine ⟨_, rfl, .none, chs.map mkCh, .non, .tup gpp6 (dpAll_l2ch chs us dU6), rfl, sh_chs chs, ?_⟩
  rw [ch_any]
  exact fin G6 ⟨A1, B1, _, R4⟩ t6
end
/-! NetRows.__init__, read_row, made_net -/
theorem tw_rep (q : Nat → Bool) (a : Nat) (l : List Nat) (h : q a = true) : ∀ n, ((List.replicate n a ++ l).takeWhile q) = List.replicate n a ++ l.takeWhile q
  | 0 => rfl
  | n + 1 => by
    rw [List.replicate_succ, List.cons_append, List.takeWhile_cons, if_pos h, tw_rep q a l h n]
    rfl
theorem lstrip_bl {k : Nat} {z : Str} {c : Nat} {l : List Nat} (hz : z.cps.toList = c :: l) (hc : 33 ≤ c) : Txt.lstripChars (blS k ++ z) " " = z := by
  have etl : (blS k ++ z).cps.toList = List.replicate (2 * k) 32 ++ z.cps.toList := by
    rw [show (blS k ++ z).cps.toList = (blS k).cps.toList ++ z.cps.toList from TL.tl_append _ _, bl_sgn]
  have hlo : PySem.stripLo (" " : Str).cps.contains true (blS k ++ z) = 2 * k := by
    show ((blS k ++ z).cps.toList.takeWhile _).length = _
    have q2 : (" " : Str).cps.contains c = false := by
      rw [show (" " : Str).cps = #[32] by decide +kernel]
      simp
      omega
    rw [etl, tw_rep _ 32 _ (by decide +kernel), hz, List.takeWhile_cons, q2]
    simp
  unfold Txt.lstripChars
  rw [PyProof.Rows.stripBy_eq, hlo]
  have e1 := TL.tl_strSub_end (blS k ++ z) (2 * k)
  refine str_tl (Eq.trans e1 ?_)
  rw [show TL.tl (blS k ++ z) = _ from etl, List.drop_append_of_le_length (by rw [List.length_replicate]; exact Nat.le_refl _), List.drop_of_length_le (by rw [List.length_replicate]; exact Nat.le_refl _)]
  rfl
section
open PySem.Spec PyProof.Rows LamX
variable {P : Program} {w : World} {K : PySem.W.Frag} {mg : Str → Option Value} {base : Heap} {f : Addr} {fd : FuncData} {C CB : Addr} {PT : List Addr}
def spNrInit (C : Addr) : Sp := fun vs H Q _ => ∃ (q dx : Addr), vs = [.ref q] ∧ H q = some (.ins C dx []) ∧ ∀ A B H', H A = none → H B = none → A ≠ B → A ≠ q → B ≠ q → H' q = some (.ins C dx (rdF .non A B 0)) → H' A = some (.lst []) → H' B = some (.lst []) → (∀ b, b ≠ q → b ≠ A → b ≠ B → H' b = H b) → Q .non H'
theorem scNrInit : FnScope ["self"] ["self"] (defScope sNrInit) := ⟨rfl, rfl, rfl, by decide +kernel, rfl, by decide +kernel, by decide +kernel⟩
theorem ok_nrInit {k : Nat} (F : Fun K "__init__" "NetRows.__init__" sNrInit f fd) (T : NrC K mg C) : FnOk P w K mg base CX0 (k + 1) f fd ["self"] (spNrInit C) := by
  refine F.ok scNrInit (fun vs H Q E h => ?_) (fun cdv A outer s H vs Q E hr h => ?_)
  · obtain ⟨q, dx, rfl, _⟩ := h
    rfl
  obtain ⟨q, dx, rfl, hq, fin⟩ := h
  refine ⟨_, pss_cons (ps_fld (pv 0) pe_non rfl) (pss_cons (ps_fld (pv 0) (pe_lst pa_nil) rfl) (pss_cons (ps_fld (pv 0) (pe_lst pa_nil) rfl) (pss_one (ps_fld (pv 0) pe_int rfl)))), ?_⟩
  refine ⟨_, rfl, q, C, dx, _, rfl, hq, T.cl, T.nC, (by show 0 < 1000; decide), ?_⟩
  refine ⟨Nat.zero_le _, fun A hA => ?_⟩
  have nA : A ≠ q := fun e => by rw [e, upd_same] at hA; cases hA
  have hA0 : H A = none := by rw [upd_ne nA] at hA; exact hA
  refine ⟨_, rfl, q, C, dx, _, rfl, (by rw [upd_ne nA.symm]; exact upd_same), T.cl, T.nA, (by show 1 < 1000; decide), ?_⟩
  refine ⟨Nat.zero_le _, fun B hB => ?_⟩
  have nB : B ≠ q := fun e => by rw [e, upd_same] at hB; cases hB
  have nAB : B ≠ A := fun e => by rw [e, upd_ne nA, upd_same] at hB; cases hB
  have hB0 : H B = none := by rw [upd_ne nB, upd_ne nAB, upd_ne nB] at hB; exact hB
  refine ⟨_, rfl, q, C, dx, _, rfl, (by rw [upd_ne nB.symm]; exact upd_same), T.cl, T.nB, (by show 2 < 1000; decide), ?_⟩
  refine ⟨_, rfl, q, C, dx, _, rfl, upd_same, T.cl, T.nR, (by show 3 < 1000; decide), ?_⟩
  refine fin A B _ hA0 hB0 nAB.symm nA nB ?_ ?_ ?_ (fun b h1 h2 h3 => ?_)
  · rw [upd_same]
    rw [show putF "channels" V.non [] = [(("channels" : Str), V.non)] from rfl, pf_ne rd1.symm, show putF "actors" (V.ref A) [] = [(("actors" : Str), V.ref A)] from rfl, pf_ne rd2.symm, pf_ne rd4.symm, show putF "blocks" (V.ref B) [] = [(("blocks" : Str), V.ref B)] from rfl, pf_ne rd3.symm, pf_ne rd5.symm, pf_ne rd6.symm]
    rfl
  · rw [upd_ne nA, upd_ne nA, upd_ne nAB.symm, upd_ne nA, upd_same]
  · rw [upd_ne nB, upd_ne nB, upd_same]
  · rw [upd_ne h1, upd_ne h1, upd_ne h3, upd_ne h1, upd_ne h2, upd_ne h1]
/-- what a row makes of the reader -/
def RowM (S : RSt) (row : Str) (S' : RSt) : Prop :=
  (∃ chs, S.chs = none ∧ row = headW chs ∧ (∀ c ∈ chs, ChOk c) ∧ chs.length ≤ 6 ∧ S' = ⟨some chs, S.acts, S.stk, S.room⟩) ∨
  (S.chs ≠ none ∧ row = "actor" ∧ ∃ S1, EndM S S1 ∧ S1.acts.length < 4 ∧ S' = ⟨S1.chs, S1.acts, [([], [])], 40⟩) ∨
  (S.chs ≠ none ∧ ∃ (k : Nat) (ds : List PyData), row = blS k ++ wordsS ds ∧ k ≤ 8 ∧ k < S.stk.length ∧ StM S (k + 1) ds S') ∨
  (S.chs ≠ none ∧ ∃ (k : Nat) (nm : PyData) (sts : List PyData) (r : List Bkt), row = blS k ++ "else" ∧ k ≤ 8 ∧ k < S.stk.length ∧ Cl (k + 2) S.stk (([.str "if", nm], sts) :: r) ∧ r.length = k + 1 ∧ S' = ⟨S.chs, S.acts, ([.str "if", nm, .tuple sts], []) :: r, S.room⟩)
def spRdRow (K : PySem.W.Frag) (C CB : Addr) (PT : List Addr) : Sp := fun vs H Q _ => ∃ (H0 : Hp) (p : Addr) (S S' : RSt) (row : Str), vs = [.ref p, .str row] ∧ RdAt K C CB H0 H p S ∧ RowM S row S' ∧ SzOk S ∧ S.acts.length ≤ 4 ∧ TabsG PT H ∧ ∀ H', RdAt K C CB H0 H' p S' → TabsG PT H' → Q (.bl true) H'
theorem chO_isN {H : Hp} {v : V} {o : Option (List (Int × Int))} (h : Dp K H v (chO o)) : (o = none → v = .non) ∧ (o ≠ none → v ≠ .non) := by
  cases o with
  | none => cases h; exact ⟨fun _ => rfl, fun n => absurd rfl n⟩
  | some chs =>
    have h : Dp K H v (.tuple (chs.map mkCh)) := h
    cases h
    exact ⟨(fun z => by cases z), (fun _ z => by cases z)⟩
abbrev rrN : List Str := ["self", "row", "words", "shells", "level"]
theorem scRdRow : FnScope rrN ["self", "row"] (defScope sNrReadRow) := ⟨rfl, rfl, rfl, by decide +kernel, rfl, by decide +kernel, by decide +kernel⟩
theorem stM_word {S S' : RSt} {L : Nat} {ds : List PyData} (h : StM S L ds S') : wordsS ds ≠ "actor" ∧ wordsS ds ≠ "else" ∧ (∃ c l, (wordsS ds).cps.toList = c :: l ∧ 33 ≤ c) ∧ (wordsS ds).length ≤ 66 := by
  obtain ⟨hp, ne, l6⟩ := stM_parts h
  obtain ⟨z, t, rfl, hz⟩ : ∃ z t, ds = .str z :: t ∧ ((deedK z).isSome = true ∨ z ∈ brL) := by
    obtain ⟨chs, hd, sts, r, m, _, l6, _, _, _, _, h⟩ := h
    rcases h with ⟨hd, _⟩ | ⟨z, nm, rfl, hz, hn, _⟩
    · obtain ⟨z, t, e, hk, _⟩ := deed_parts (side_ib l6) (side_ib l6) hd
      cases e
      exact ⟨z, t, rfl, .inl hk⟩
    · exact ⟨z, _, rfl, .inr hz⟩
  obtain ⟨⟨w1, ⟨c, l, hw⟩, w3, w4⟩, n1, n2, _⟩ := key_word hz
  have wl := words_len fun d hd => (hp d hd).b
  have nx : ∀ y : Str, WordOk y → z ≠ y → wordsS (.str z :: t) ≠ y := fun y hy nzy e => by
    have h1 := split_words ne hp
    have h2 := split_words (ds := [.str y]) (List.cons_ne_nil _ _) (fun d hd => by rw [List.mem_singleton.mp hd]; exact .inr ⟨_, rfl, hy⟩)
    have e2 : wordsS [PyData.str y] = y := by
      refine str_tl ?_
      rw [words_tl]
      rfl
    rw [e2] at h2
    rw [e, h2] at h1
    have h3 := (List.cons.inj h1).1
    exact nzy h3.symm
  refine ⟨nx _ ⟨by decide +kernel, ⟨97, [99, 116, 111, 114], by decide +kernel⟩, by decide +kernel, by decide +kernel⟩ n2, nx _ ⟨by decide +kernel, ⟨101, [108, 115, 101], by decide +kernel⟩, by decide +kernel, by decide +kernel⟩ n1, ?_, by omega⟩
  have s1 : 33 ≤ c := by
    rw [hw] at w3
    have := List.all_eq_true.mp w3 c List.mem_cons_self
    unfold signB at this
    exact of_decide_eq_true (and3 this).1
  rw [words_tl, List.map_cons]
  show ∃ c l, TL.joinL [32] (z.cps.toList :: _) = c :: l ∧ 33 ≤ c
  rw [hw]
  cases t with
  | nil => exact ⟨c, l, rfl, s1⟩
  | cons a b => exact ⟨c, _, rfl, s1⟩
theorem row_na {k : Nat} {z : Str} {c : Nat} {l : List Nat} (hz : z.cps.toList = c :: l) (hc : 33 ≤ c) (n : z ≠ "actor") : blS k ++ z ≠ "actor" := fun e => by
  have h := lstrip_bl (k := k) hz hc
  rw [e] at h
  exact n (h.symm.trans (by decide +kernel))
theorem ok_rdRow {k : Nat} (F : Fun K "read_row" "NetRows.read_row" sNrReadRow f fd) (T : NrC K mg C) (hL : mg "len" = none) (hI : ∃ t, mg "INDENT" = some (.str "  " t)) (cCh : MetC P w K mg base C "read_channels" k ["self", "row"] (spRdCh K C CB PT)) (cA : MetC P w K mg base C "begin_actor" k ["self"] (spBegA K C CB PT)) (cO : MetC P w K mg base C "begin_other" k ["self", "level"] (spBegO K C CB PT)) (cS : MetC P w K mg base C "read_statement" k ["self", "words", "level"] (spRdS K C CB PT)) :
    FnOk P w K mg base CX0 (k + 1) f fd ["self", "row"] (spRdRow K C CB PT) := by
  refine F.ok scRdRow (fun vs H Q E h => ?_) (fun cdv A outer s H vs Q E hr h => ?_)
  · obtain ⟨H0, p, S, S', row, rfl, _⟩ := h
    rfl
  obtain ⟨H0, p, S, S', row, rfl, R, hM, sz, a4, tb, fin⟩ := h
  refine ⟨_, pss_cons (ps_if (pt_cmpR op_isN (pe_fld (pv 0) rfl) pe_non (nomark _)) (pss_one (ps_ret (pe_met cCh hr (pv 0) (pa_cons (pv 1) pa_nil)))) pss_nil)
    (pss_cons (ps_if (pt_cmpR op_eq (pv 1) pe_str (nomark _)) (pss_one (ps_ret (pe_met0 cA hr (pv 0)))) pss_nil)
    (pss_cons (ps_set (i := 2) scRdRow.nd rfl (.inl rfl) (pe_bm PySem.F.plainAttrs_str PySem.F.slot_str_lstrip PySem.F.type_str_lstrip mt_lstripChars (pv 1) (pa_cons pe_str pa_nil)))
    (pss_cons (ps_set (i := 3) scRdRow.nd rfl (.inl rfl) (pe_op op_fdiv (pe_op op_sub (pe_callB call_len_str rfl hL PySem.boot_len (pa_cons (pv 1) pa_nil)) (pe_callB call_len_str rfl hL PySem.boot_len (pa_cons (pv 2) pa_nil))) (pe_callB call_len_str rfl hL PySem.boot_len (pa_cons (pe_glob (v := .str "  ") rfl hI.choose_spec ⟨_, rfl⟩) pa_nil))))
    (pss_cons (ps_if (PW.pt (pw_or (pt_cmpR op_ne (pv 1) (pe_op op_add_str (pe_op op_mulS (pe_glob (v := .str "  ") rfl hI.choose_spec ⟨_, rfl⟩) (pv 3)) (pv 2)) (nomark _)) (pw_or1 (pt_cmpR op_ge (pv 3) (pe_callB call_len_seq rfl hL PySem.boot_len (pa_cons (pe_fld (pv 0) rfl) pa_nil)) (nomark _))))) (pss_one (ps_ret pe_bl)) pss_nil)
    (pss_cons (ps_set (i := 4) scRdRow.nd rfl (.inl rfl) (pe_op op_add (pv 3) pe_int))
    (pss_one (ps_ret (pe_ifExp (pt_cmpR op_eq (pv 2) pe_str (nomark _)) (pe_met cO hr (pv 0) (pa_cons (pv 4) pa_nil)) (pe_met cS hr (pv 0) (pa_cons (pv 2) (pa_cons (pv 4) pa_nil))))))))))), ?_⟩
  obtain ⟨A1, B1, ps1, R0⟩ := id R
  obtain ⟨dx, vch, hp, hch⟩ := R0.obj
  have isn := chO_isN hch
  have sl : (16777216 : Nat) = sizeLine := rfl
  refine ⟨_, rfl, p, C, dx, _, _, rfl, hp, T.cl, T.nC, rdF_c _ _ _ _, rfl, _, rfl, ?_⟩
  rcases hM with ⟨chs, ech, rfl, hcs, l6, rfl⟩ | ⟨nch, rfl, S1, hE, a3, rfl⟩ | ⟨nch, kk, ds, rfl, k8, kst, hst⟩ | ⟨nch, kk, nm, sts, r, rfl, k8, kst, hcl, lr, rfl⟩
  · refine ifT (decide_eq_true (isn.1 ech)) ?_
    exact ⟨_, rfl, p, dx, _, rfl, hp, rdF_no _ _ _ _ (by decide +kernel) (by decide +kernel) (by decide +kernel) (by decide +kernel), _, rfl, H0, p, S, chs, rfl, R, hcs, l6, tb, fin⟩
  · refine ifF (decide_eq_false (isn.2 nch)) ⟨_, rfl, rfl, _, rfl, ifT (decide_eq_true rfl) ?_⟩
    exact ⟨_, rfl, p, dx, _, rfl, hp, rdF_no _ _ _ _ (by decide +kernel) (by decide +kernel) (by decide +kernel) (by decide +kernel), H0, p, S, S1, rfl, R, hE, sz, a4, a3, tb, fin⟩
  · obtain ⟨n1, n2, ⟨c, l, hc, c33⟩, l66⟩ := stM_word hst
    refine ifF (decide_eq_false (isn.2 nch)) ⟨_, rfl, rfl, _, rfl, ifF (decide_eq_false fun e => row_na hc c33 n1 (V.str.inj e)) ?_⟩
    have bl := bl_len kk
    have lw : (blS kk ++ wordsS ds).length = 2 * kk + (wordsS ds).length := by rw [Str.length_append, bl]
    refine ⟨_, rfl, rfl, _, " ", rfl, rfl, by omega, ?_⟩
    rw [lstrip_bl hc c33]
    have l2 : ("  " : Str).length = 2 := by decide +kernel
    refine ⟨_, rfl, _, rfl, by omega, _, rfl, _, rfl, by omega, _, _, rfl, rfl, "  ", rfl, by decide +kernel, _, _, rfl, rfl, ⟨by rw [l2]; decide, by rw [l2]; decide⟩, ?_⟩
    show gName 3 (V.int ((((blS kk ++ wordsS ds).length : Int) - ((wordsS ds).length : Int)) / (("  " : Str).length : Int))) _ _ _
    rw [show (((blS kk ++ wordsS ds).length : Int) - ((wordsS ds).length : Int)) / (("  " : Str).length : Int) = (kk : Int) by rw [l2, lw]; omega]
    refine ⟨_, rfl, _, rfl, "  ", kk, rfl, rfl, by decide +kernel, by omega, _, rfl, _, _, rfl, rfl, ?_, ?_⟩
    · rw [times_bl, bl]
      omega
    rw [times_bl]
    refine ⟨rfl, _, rfl, ifF (by simp) ?_⟩
    refine ⟨_, rfl, _, rfl, p, C, dx, _, _, rfl, hp, T.cl, T.nB, rdF_b _ _ _ _, B1, _, rfl, .inl (SqL.of R0.atB), _, _, rfl, rfl, _, rfl, ifF (decide_eq_false ?_) ?_⟩
    · rw [List.length_map, List.length_reverse, R0.stk.len]
      omega
    refine ⟨_, rfl, _, _, rfl, rfl, ⟨_, rfl, rfl, _, rfl, ifF (decide_eq_false fun e => n2 (V.str.inj e)) ⟨_, rfl, p, dx, _, rfl, hp, rdF_no _ _ _ _ (by decide +kernel) (by decide +kernel) (by decide +kernel) (by decide +kernel), _, rfl, _, rfl, H0, p, S, S', kk + 1, ds, rfl, R, hst, sz, a4, tb, fin⟩⟩⟩
  · have n1 : ("else" : Str) ≠ "actor" := by decide +kernel
    obtain ⟨c, l, hc, c33⟩ : ∃ c l, ("else" : Str).cps.toList = c :: l ∧ 33 ≤ c := ⟨101, [108, 115, 101], by decide +kernel, by decide⟩
    have l66 : ("else" : Str).length ≤ 66 := by decide +kernel
    refine ifF (decide_eq_false (isn.2 nch)) ⟨_, rfl, rfl, _, rfl, ifF (decide_eq_false fun e => row_na hc c33 n1 (V.str.inj e)) ?_⟩
    have bl := bl_len kk
    have lw : (blS kk ++ ("else" : Str)).length = 2 * kk + (("else" : Str)).length := by rw [Str.length_append, bl]
    refine ⟨_, rfl, rfl, _, " ", rfl, rfl, by omega, ?_⟩
    rw [lstrip_bl hc c33]
    have l2 : ("  " : Str).length = 2 := by decide +kernel
    refine ⟨_, rfl, _, rfl, by omega, _, rfl, _, rfl, by omega, _, _, rfl, rfl, "  ", rfl, by decide +kernel, _, _, rfl, rfl, ⟨by rw [l2]; decide, by rw [l2]; decide⟩, ?_⟩
    show gName 3 (V.int ((((blS kk ++ ("else" : Str)).length : Int) - ((("else" : Str)).length : Int)) / (("  " : Str).length : Int))) _ _ _
    rw [show (((blS kk ++ ("else" : Str)).length : Int) - ((("else" : Str)).length : Int)) / (("  " : Str).length : Int) = (kk : Int) by rw [l2, lw]; omega]
    refine ⟨_, rfl, _, rfl, "  ", kk, rfl, rfl, by decide +kernel, by omega, _, rfl, _, _, rfl, rfl, ?_, ?_⟩
    · rw [times_bl, bl]
      omega
    rw [times_bl]
    refine ⟨rfl, _, rfl, ifF (by simp) ?_⟩
    refine ⟨_, rfl, _, rfl, p, C, dx, _, _, rfl, hp, T.cl, T.nB, rdF_b _ _ _ _, B1, _, rfl, .inl (SqL.of R0.atB), _, _, rfl, rfl, _, rfl, ifF (decide_eq_false ?_) ?_⟩
    · rw [List.length_map, List.length_reverse, R0.stk.len]
      omega
    refine ⟨_, rfl, _, _, rfl, rfl, ⟨_, rfl, rfl, _, rfl, ifT (decide_eq_true rfl) ⟨_, rfl, p, dx, _, rfl, hp, rdF_no _ _ _ _ (by decide +kernel) (by decide +kernel) (by decide +kernel) (by decide +kernel), _, rfl, H0, p, S, kk + 1, nm, sts, r, rfl, R, hcl, lr, sz, tb, fin⟩⟩⟩
def spMade (K : PySem.W.Frag) (C CB : Addr) (PT : List Addr) : Sp := fun vs H Q _ => ∃ (H0 : Hp) (p : Addr) (S S' : RSt) (chs : List (Int × Int)), vs = [.ref p] ∧ RdAt K C CB H0 H p S ∧ EndM S S' ∧ S'.chs = some chs ∧ SzOk S ∧ S.acts.length ≤ 4 ∧ S'.acts.length ≤ 4 ∧ TabsG PT H ∧ ∀ v H', ExtN H0 H' → TabsG PT H' → Dp K H' v (.tuple [.tuple (chs.map mkCh), .tuple S'.acts]) → Q v H'
theorem scMade : FnScope ["self"] ["self"] (defScope sNrMadeNet) := ⟨rfl, rfl, rfl, by decide +kernel, rfl, by decide +kernel, by decide +kernel⟩
theorem ok_made {k : Nat} (F : Fun K "made_net" "NetRows.made_net" sNrMadeNet f fd) (T : NrC K mg C) (hTu : mg "tuple" = none) (cE : MetC P w K mg base C "end_actor" k ["self"] (spEnd K C CB PT)) : FnOk P w K mg base CX0 (k + 1) f fd ["self"] (spMade K C CB PT) := by
  refine F.ok scMade (fun vs H Q E h => ?_) (fun cdv A outer s H vs Q E hr h => ?_)
  · obtain ⟨H0, p, S, S', chs, rfl, _⟩ := h
    rfl
  obtain ⟨H0, p, S, S', chs, rfl, R, hE, ech, sz, a4, a4', tb, fin⟩ := h
  refine ⟨_, pss_one (ps_ret (pe_ifExp (pt_val (pe_met0 cE hr (pv 0))) (pe_tup (pa_cons (pe_fld (pv 0) rfl) (pa_cons (pe_callTy call_tuple_of rfl hTu (by decide +kernel) (pa_cons (pe_fld (pv 0) rfl) pa_nil)) pa_nil))) pe_non)), ?_⟩
  obtain ⟨_, _, _, R0⟩ := id R
  obtain ⟨dx, vch, hp, hch⟩ := R0.obj
  refine ⟨_, rfl, p, dx, _, rfl, hp, rdF_no _ _ _ _ (by decide +kernel) (by decide +kernel) (by decide +kernel) (by decide +kernel), H0, p, S, S', rfl, R, hE, sz, a4, tb, fun H1 ⟨A1, B1, ps1, R1⟩ t1 => ⟨_, rfl, ifT rfl ?_⟩⟩
  obtain ⟨dx1, vch1, hp1, hch1⟩ := R1.obj
  obtain ⟨avs, gA, dA⟩ := R1.atA
  have la := dpAll_len dA
  rw [ech] at hch1
  refine ⟨_, rfl, p, C, dx1, _, _, rfl, hp1, T.cl, T.nC, rdF_c _ _ _ _, _, rfl, p, C, dx1, _, _, rfl, hp1, T.cl, T.nA, rdF_a _ _ _ _, A1, avs, rfl, .inl ⟨SqL.of gA, fun tt htt => ?_⟩⟩
  have s1 := same_new htt (.tup avs)
  refine ⟨by show 2 ≤ sizeLine; decide, fun t2 ht2 => ?_⟩
  have s2 := same_new ht2 (.tup [vch1, .ref tt])
  have s12 := s1.trans s2
  have R2 := (R1.move (ext_same s12)).ext
  exact fin _ _ R2 (t1.same s12) (.tup (SqT.of upd_same) (.cons (dp_same s12 hch1) (.cons (.tup (SqT.of (s2 _ _ upd_same)) (dps_same s12 dA)) .nil)))
end
/-! for i, x in enumerate(l, start=1) -/
section
open PySem.Spec PyProof.Rows
theorem draws_up {prog : Program} {w : World} {A : Around} {it : Addr} {fp : List Addr} {n : Nat} {P : Nat → Value → Prop} {St : Nat → Heap → Prop} (D : Draws prog w A it fp n P St) : Draws prog w A it fp (n + 1) (fun i v => ∃ j, i = j + 1 ∧ P j v) (fun i h => ∃ j, i = j + 1 ∧ St j h) where
  live := fun i h st => by
    obtain ⟨j, _, st⟩ := st
    exact D.live j h st
  frame := fun i h h' st k => by
    obtain ⟨j, e, st⟩ := st
    exact ⟨j, e, D.frame j h h' st k⟩
  item := fun i s Q E hi st hQ => by
    obtain ⟨j, rfl, st⟩ := st
    exact D.item j s Q E (by omega) st fun x h' tk px st' sb => hQ x h' tk ⟨j, rfl, px⟩ ⟨j + 1, rfl, st'⟩ sb
  done := fun s Q E st hE => by
    obtain ⟨j, e, st⟩ := st
    obtain rfl : n = j := by omega
    exact D.done s Q E st hE
abbrev lstIt (t : Addr) : Obj := { cls := .type "list_iterator", data := .fields #[.ref t, .int 0 0] }
abbrev enumO1 (it : Addr) : Obj := { cls := .type "enumerate", data := .fields #[.none, .bool false, .ref it, rawInt 1, .none, .none] }
theorem typeCall_enumK (a v : Value) : checkTypeCall "enumerate" ⟨[a], [(Str.ofString "start", v)]⟩ = pure () := by kernel_rfl
theorem newCall_enumK (a v : Value) : checkBuiltinCall "enumerate.__new__" ⟨[.type "enumerate", a], [(Str.ofString "start", v)]⟩ = pure () := by kernel_rfl
theorem args_initK (o a v : Value) : argsOk "object.__init__" ⟨[o, a], [(Str.ofString "start", v)]⟩ := by
  unfold argsOk; rw [signature?_of (id := "object.__init__") (n := ['_', '_', 't', 'i', 'n', 'i', '_', '_']) (o := ['t', 'c', 'e', 'j', 'b', 'o']) (by kernel_rfl) F.owner_object]; kernel_rfl
set_option maxHeartbeats 1000000 in
theorem meets_enumK (l : Addr) (its : Array Value) (t : Tok) :
    Meets (Builtin.«enumerate.__new__» ⟨[.type "enumerate", .ref l], [(Str.ofString "start", .int 1 t)]⟩) (fun _ R s => s.heap.IsList l its ∧ R (.ok (.ret (.ref (s.heap.push (lstIt l)).objs.size))) { s with heap := (s.heap.push (lstIt l)).push (enumO1 s.heap.objs.size) }) :=
  .of_wp fun prog w A R s h => by
    obtain ⟨hp, g, d, tk, os⟩ := s
    obtain ⟨h1, h⟩ := h
    have f1 := sub_enumerate
    have q1 : ∀ {A' : Around} {E : Value → Shared → Prop} {Q : Value → Shared → Prop}, Q (.ref hp.objs.size) ⟨hp.push (lstIt l), g, d, tk, os⟩ → wpAny (model prog w) A' (pyIter (.ref l)) Q E ⟨hp, g, d, tk, os⟩ := fun q => wpAny_pyIter_list h1 q
    wp_walk using q1
    refine wpAny_stack_any fun st => wpAny_pure ?_
    split
    · rename_i c _ _ _ _ _
      cases (c == Value.type "enumerate") <;> (wp_walk using q1; exact ⟨_, rfl, h⟩)
    · wp_walk using q1
      exact ⟨_, rfl, h⟩
theorem initK_meets {T newId : String} {self a : Value} {kw : List (Str × Value)} (hl : typeLookup (.type T) "__init__" = pure (some (.builtin "object.__init__")))
    (hm : Bind.madeBy (.type T) = pure (some newId)) (hne : (some newId != some "object.__new__") = true) :
    Meets (Builtin.«object.__init__» ⟨[self, a], kw⟩) (fun _ R s => s.TypeIs self T ∧ R (.ok (.ret .none)) s) := by
  refine Meets.of_wp fun prog w A R s hs => ?_
  obtain ⟨hT, hq⟩ := hs
  repeat (any_goals (first | assumption | wp_step))
  exact ⟨_, rfl, hq⟩
theorem callTypeK {prog : Program} {w : World} {A : Around} {E : Value → Shared → Prop} {s : Shared} {T newId : String} {Bn : Builtin} {a : Value} {kw : List (Str × Value)} {S : PySem.Spec} {Q : Value → Shared → Prop} (ft : TypeCalled T newId "object.__init__") (hne : (some newId != some "object.__new__") = true)
    (hct : checkTypeCall T ⟨[a], kw⟩ = pure ()) (hcn : checkBuiltinCall newId ⟨[.type T, a], kw⟩ = pure ()) (hok : ∀ obj, argsOk "object.__init__" ⟨[obj, a], kw⟩)
    (entryN : entryFor table newId = some Bn) (g : Meets (Bn ⟨[.type T, a], kw⟩) S) (h : S A.in1 (wants (fun obj s1 => s1.TypeIs obj T ∧ Q obj s1) E) s) : wpAny (model prog w) A (call (.type T) [a] kw) Q E s := by
  obtain ⟨c, tl, hmro⟩ := ft.mro
  have hmade := ft.made
  have hsub := ft.sub
  refine wpAny_call (codeAny_of_tree ?_)
  show wpAny _ _ (callAny (.type T) _) _ _ _
  refine wpAny_pure ⟨Code.quiet_builtin _ (by decide +kernel), codeAny_builtin F.entry_type_call ?_⟩
  rw [Around.under_plain (weight_type_call_type T [a] kw) (units_type_call_type T [a] kw)]
  have h1 := ft.notType
  have h2 := ft.canCreate
  repeat (any_goals (first | assumption | wp_step))
  refine codeAny_mono (codeAny_call_builtin ft.plain entryN (wpAny_of_eq hcn (g prog w A.in1 _ s h))) fun r s1 hr => ?_
  cases r with
  | error e => exact hr
  | ok fl =>
    cases fl with
    | ret obj =>
      obtain ⟨hT, hq⟩ := hr
      have hli := ft.init.lookup
      have hbi := ft.init.bind obj
      repeat (any_goals (first | assumption | wp_step))
      refine codeAny_mono (codeAny_call_builtin ft.init.plain F.entry_object_init (ft.init.check _ _ _ _ _ _ _ _ hT (hok obj) (initK_meets (newId := newId) ft.init.lookup ft.made hne prog w A.in1 (wants (fun r s2 => r = .none ∧ Q obj s2) E) s1 (And.intro hT ⟨rfl, hq⟩)))) fun r2 s2 hr2 => ?_
      cases r2 with
      | error e => exact hr2
      | ok fl2 =>
        cases fl2 with
        | ret r =>
          obtain ⟨rfl, hq⟩ := hr2
          repeat (any_goals (first | assumption | wp_step))
        | _ => exact hr2.elim
    | _ => exact hr.elim
theorem call_enumK {prog : Program} {w : World} {A : Around} {E : Value → Shared → Prop} {s : Shared} {l : Addr} {its : Array Value} {t : Tok} {Q : Value → Shared → Prop} (hT : s.heap.IsList l its)
    (h : ∀ h', IsEnum h' (s.heap.objs.size + 1) s.heap.objs.size 1 .none → h'.IsListIter s.heap.objs.size l 0 → h'.objs.size = s.heap.objs.size + 2 → (∀ b o, s.heap.get? b = some o → h'.get? b = some o) → Q (.ref (s.heap.objs.size + 1)) { s with heap := h' }) :
    wpAny (model prog w) A (call (.type "enumerate") [.ref l] [(Str.ofString "start", .int 1 t)]) Q E s := by
  refine callTypeK F.called_enumerate (by decide) (typeCall_enumK _ _) (newCall_enumK _ _) (fun obj => args_initK obj _ _) F.entry_enumerate_new (meets_enumK l its t) ⟨hT, ?_⟩
  have sz : (s.heap.push (lstIt l)).objs.size = s.heap.objs.size + 1 := Heap.size_push ..
  have atE : ((s.heap.push (lstIt l)).push (enumO1 s.heap.objs.size)).get? (s.heap.objs.size + 1) = some (enumO1 s.heap.objs.size) := by
    rw [← sz]
    exact Heap.get?_push_size _ rfl
  show _ ∧ _
  rw [sz]
  exact ⟨⟨_, atE, rfl⟩, h _ atE ⟨_, Heap.get?_push_of_some _ (Heap.get?_push_size _ rfl), rfl, rfl⟩ (by rw [Heap.size_push, sz]) fun b o x => Heap.get?_push_of_some _ (Heap.get?_push_of_some _ x)⟩
/-- each item in a new pair, counted from 1 -/
def Ienk (K : PySem.W.Frag) (a : Addr) : It :=
  ⟨fun i H => ∃ (xs : List V) (x : V), SqL K H a xs ∧ xs[i]? = some x, fun i H v H' => ∃ T x, v = .ref T ∧ H T = none ∧ H' = upd H T (.tup [.int ((i + 1 : Nat) : Int), x]) ∧ ∀ xs, SqL K H a xs → xs[i]? = some x, fun i H => ∃ xs : List V, SqL K H a xs ∧ xs.length = i⟩
theorem turn_enumK {P : Program} {w : World} {K : PySem.W.Frag} {elts : List Expr} {kk : Nat} {tpos : Pos} (a e it : Addr) (hae : a ≠ e) (hai : a ≠ it) :
    Turn P w K (.Tuple elts kk tpos) (Ienk K a) [e, it] e (fun i h => (∃ old, IsEnum h e it ((i + 1 : Nat) : Int) old) ∧ h.IsListIter it a i ∧ e ≠ it) where
  mem := by simp
  obj := fun i h st b hb => by
    obtain ⟨⟨old, he⟩, ⟨o, ho, hc, hd⟩, _⟩ := st
    rcases List.mem_cons.mp hb with z | z
    · rw [z]; exact ⟨_, he, fun v q => nomatch q⟩
    · rw [List.mem_singleton.mp z]; exact ⟨o, ho, fun v q => by rw [hd] at q; cases q⟩
  keep := fun i h h' ⟨⟨old, he⟩, hi, hne⟩ k => ⟨⟨old, k e (by simp) _ he⟩, hi.at fun o q => k it (by simp) o q, hne⟩
  item := by
    intro X hP hw hK hc i pins s σ H E I hf st hg
    subst hP hw hK
    obtain ⟨⟨old, he⟩, hit, hne⟩ := st
    obtain ⟨xs, x, hq, hx⟩ := hg
    obtain ⟨its, rv, p, hz⟩ := I.list hq
    obtain ⟨u, hu, ru⟩ := rv.get hx
    have isT : s.heap.IsList a its.toArray := p.isList
    have le : e < s.heap.objs.size := Heap.lt_size he
    have li : it < s.heap.objs.size := by obtain ⟨_, q, _⟩ := hit; exact Heap.lt_size q
    have hlt : i < its.toArray.size := by
      rw [List.size_toArray]
      exact (List.getElem?_eq_some_iff.mp hu).1
    have D0 : Draws X.prog X.w X.A.in1 it [it, a] its.toArray.size (fun i v => its.toArray[i]? = some v) (fun i h => h.IsListIter it a i ∧ h.IsList a its.toArray) := Draws.list (by show X.A.handled = none; exact I.ok.hd hc) it a hai its.toArray
    refine wpAny_pyNext_enum_itemD (draws_up D0) he ⟨i, rfl, hit, isT⟩ (by omega) hne (by simp only [List.mem_cons, List.mem_singleton, List.not_mem_nil, or_false, not_or]; exact ⟨hne, fun z => hae z.symm⟩) fun x' h' tk hx' out st' hT sz hk => ?_
    obtain ⟨j, ej, hx'⟩ := hx'
    obtain rfl : i = j := by omega
    obtain ⟨j, ej, st'⟩ := st'
    obtain rfl : i + 1 = j := by omega
    have ex : x' = u := by
      have z : its.toArray[i]? = some u := by simpa using hu
      rw [z] at hx'
      exact (Option.some.inj hx').symm
    subst ex
    refine ⟨_, rfl, wpAny_letOwnedTupleGo_enum (s := { s with heap := h', toks := tk + 1 }) out fun h'' he' sb => ?_⟩
    have at2 : h''.get? s.heap.objs.size = some { cls := .type "tuple", data := .seq #[.int ((i + 1 : Nat) : Int) tk, x'] } := (sb.2 _ (Nat.ne_of_gt le)).trans hT
    have new : ObjOk X.prog X.w (upd H s.heap.objs.size (.tup [.int ((i + 1 : Nat) : Int), x])) h'' s.heap.objs.size (.tup [.int ((i + 1 : Nat) : Int), x]) := ⟨by show 2 ≤ sizeLine; decide, [.int ((i + 1 : Nat) : Int) tk, x'], .cons ⟨_, rfl⟩ (.cons ru .nil), ⟨_, at2, rfl, _, rfl⟩⟩
    have I1 : Inv X pins σ (upd H s.heap.objs.size (.tup [.int ((i + 1 : Nat) : Int), x])) { s with heap := h'', toks := tk + 1 } :=
      I.turnedNew (ch := [e, it]) (fun b ob hb q => (sb.2 b (fun z => hb (by simp [z]))).trans (hk b ob (fun z => hb (by simp [z])) (fun z => hb (by simp [z])) q)) hf (Nat.le_refl _) new
    refine ⟨.ref s.heap.objs.size, _, I1, rfl, ⟨_, x, rfl, I.hok.fresh (Nat.le_refl _), rfl, fun ys hy => ?_⟩, ⟨⟨x', ?_⟩, st'.1.at fun o q => (sb.2 it (Ne.symm hne)).trans q, hne⟩, fun b hb => ?_⟩
    · rw [I.list_inj hy hq]
      exact hx
    · rw [show ((i + 1 + 1 : Nat) : Int) = ((i + 1 : Nat) : Int) + 1 by omega]
      exact he'
    · have hb' : b < s.heap.objs.size := by
        rcases List.mem_cons.mp hb with z | z
        · rw [z]; exact le
        · rw [List.mem_singleton.mp z]; exact li
      rw [upd_ne (Nat.ne_of_lt hb')]
      exact (hf b hb).1
  done := by
    intro X hP hw hK hc i pins s σ H E I hf st hg
    subst hP hw hK
    obtain ⟨⟨old, he⟩, hit, hne⟩ := st
    obtain ⟨xs, hq, hx⟩ := hg
    obtain ⟨its, rv, p, hz⟩ := I.list hq
    have isT : s.heap.IsList a its.toArray := p.isList
    have D0 : Draws X.prog X.w X.A.in1 it [it, a] its.toArray.size (fun i v => its.toArray[i]? = some v) (fun i h => h.IsListIter it a i ∧ h.IsList a its.toArray) := Draws.list (by show X.A.handled = none; exact I.ok.hd hc) it a hai its.toArray
    have e1 : its.toArray.size = i := by
      rw [List.size_toArray, ← rv.length]
      exact hx
    obtain ⟨f0, f1, f2, f3, f4, f5⟩ := hf it (by simp)
    exact wpAny_pyNext_enum_endD (draws_up D0) he ⟨its.toArray.size, rfl, by rw [e1]; exact hit, isT⟩ fun h' eb => ⟨rfl, I.turned (t' := s.toks) (fun b o hb q => eb b o hb q) f0 f1 f3 f4 f5⟩
  self := fun A i s Q E st h => let ⟨⟨_, he⟩, _⟩ := st; wpAny_pyIter_enum he h
theorem evalArgs_kwT {M : Model} {A : Around} {E : Value → Shared → Prop} {s : Shared} {f : Value} {x : Sem Value} {rest : List (Bool × Sem Value)} {keywords : List (Option Str × Sem Value)} {Q : Args → Shared → Prop} (hall : keywords.all (·.1.isSome) = true)
    (h : wpAny M A (spliced ((false, x) :: rest)) (fun vs s1 => wpAny M A (evalAll (keywords.map (·.2))) (fun kvs s2 => Q ⟨vs, (keywords.filterMap (·.1)).zip kvs⟩ s2) E s1) E s) : wpAny M A (evalArgs f true ((false, x) :: rest) keywords) Q E s :=
  PyProof.Rows.evalArgs_kwB hall h
/-- a type called with keywords -/
theorem callWith_kwT {M : Model} {A : Around} {E : Value → Shared → Prop} {s : Shared} {env : Env} {pos : Pos} {T : String} {e : Expr} {kws : List Keyword} {Q : Value → Shared → Prop}
    (h : wpAny M A (spliced (backTo pos (starEach [e] env))) (fun vs s1 => wpAny M A (evalAll ((backToKw pos (keywordEach kws env)).map (·.2))) (fun kvs s2 => wpAny M A (call (.type T) vs (((backToKw pos (keywordEach kws env)).filterMap (·.1)).zip kvs)) Q E s2) E s1) E s)
    (he : backTo pos (starEach [e] env) = (false, eval e env) :: backTo pos (starEach [] env)) (hall : (backToKw pos (keywordEach kws env)).all (·.1.isSome) = true) (hkw : (backToKw pos (keywordEach kws env)).any (·.1.isNone) = false) :
    wpAny M A (callWith pos (.type T) [] (backTo pos (starEach [e] env)) (backToKw pos (keywordEach kws env))) Q E s := by
  have hp : (backTo pos (starEach [e] env)).any (·.1) = false := by rw [he]; rfl
  have h2 : wpAny M A (evalArgs (.type T) true (backTo pos (starEach [e] env)) (backToKw pos (keywordEach kws env))) (fun a s1 => wpAny M A (call (.type T) ([] ++ a.pos) a.kw) Q E s1) E s := by
    rw [he] at h ⊢
    exact evalArgs_kwT hall h
  unfold callWith
  refine wpAny_bind (wpAny_holding (wpAny_mono h2 (fun a s1 h1 => wpAny_bind (wpAny_standAt ?_)) fun _ _ x => x))
  simp only [hp, hkw, Bool.or_false]
  refine wpAny_bind (wpAny_pure ?_)
  exact wpAny_bind (wpAny_mono h1 (fun r s2 hr => wpAny_bind (wpAny_holding (wpAny_point (wpAny_pure hr)))) fun _ _ x => x)
def iEnumK (K : PySem.W.Frag) (ta tk : TA) : TI := fun σ H R => ta σ H fun vs H1 => tk σ H1 fun zs H2 => ∃ a xs, vs = [.ref a] ∧ zs = [.int 1] ∧ SqL K H2 a xs ∧ R (Ienk K a) H2
theorem pi_enumK {X : Cx} {e : Expr} {ta tk : TA} {p pos tpos : Pos} {elts : List Expr} {kk : Nat} {kws : List Keyword} (hg : Gl X "enumerate") (hm : X.mg "enumerate" = none) (ha : PA X [e] ta) (hk : PK X kws tk)
    (he : backTo pos (starEach [e] X.env) = (false, eval e X.env) :: backTo pos (starEach [] X.env) := by rfl) (hall : (backToKw pos (keywordEach kws X.env)).all (·.1.isSome) = true := by rfl) (hnone : (backToKw pos (keywordEach kws X.env)).any (·.1.isNone) = false := by rfl)
    (hks : (backToKw pos (keywordEach kws X.env)).filterMap (·.1) = [Str.ofString "start"] := by rfl) :
    PI X (.Tuple elts kk tpos) (.Call (.Name "enumerate" p) [e] kws pos) (iEnumK X.K ta tk) := by
  refine ⟨fun pins s σ H R I h => ?_⟩
  refine wpAny_Call_Name_kw (ld_blt I hg hm boot_enumerate (callWith_kwT (thn (ha.run pos pins s σ H _ I h) fun us s0 ⟨vs, H0, I0, r0, q0⟩ => thn (hk.run pos pins s0 σ H0 _ I0 q0) fun ws s1 ⟨zs, H1, I1, r1, q1⟩ => ?_) he hall hnone))
  obtain ⟨a, xs, rfl, rfl, hq, q⟩ := q1
  obtain ⟨u, rfl, ru⟩ := vals1 r0
  cases ru
  obtain ⟨u, rfl, t, rfl⟩ := vals1 r1
  rw [hks]
  obtain ⟨its, rv, tp, hz⟩ := I1.list hq
  have lt : a < s1.heap.objs.size := by obtain ⟨_, q, _⟩ := tp.isList; exact Heap.lt_size q
  refine call_enumK (its := its.toArray) tp.isList fun h' he hit sz hk => wpAny_pyIter_enum he ?_
  have I2 : Inv X pins σ H1 { s1 with heap := h' } := I1.kept (t' := s1.toks) hk
  refine ⟨s1.heap.objs.size + 1, [s1.heap.objs.size + 1, s1.heap.objs.size], _, _, H1, rfl, I2, turn_enumK a (s1.heap.objs.size + 1) s1.heap.objs.size (Nat.ne_of_lt (Nat.lt_succ_of_lt lt)) (Nat.ne_of_lt lt), ⟨⟨.none, he⟩, hit, Nat.succ_ne_self _⟩, fun b hb => ?_, q⟩
  have hle : s1.heap.objs.size ≤ b := by
    rcases List.mem_cons.mp hb with z | z
    · rw [z]; exact Nat.le_add_right _ _
    · rw [List.mem_singleton.mp z]; exact Nat.le_refl _
  exact I1.fpOk hle (I1.hok.fresh hle)
theorem for_enumK {K : PySem.W.Frag} {a : Addr} {xs : List V} {g : TG} {tb : TS} {D : Ends} {σ : L2.St} {H : Hp} (Pv : Nat → L2.St → Hp → Prop) (h0 : Pv 0 σ H) (hl : ∀ i σ H, i ≤ xs.length → Pv i σ H → SqL K H a xs)
    (hs : ∀ i x T σ H, xs[i]? = some x → Pv i σ H → H T = none → g (.ref T) σ (upd H T (.tup [.int ((i + 1 : Nat) : Int), x])) fun σ2 H2 => tb { D with nx := Pv (i + 1), ct := Pv (i + 1), bk := D.nx } σ2 H2) (hd : ∀ σ H, Pv xs.length σ H → D.nx σ H) :
    ∃ W : Nat → Nat → L2.St → Hp → Prop, (∃ m, W 0 m σ H) ∧ ∀ i m σ H, W i m σ H →
      ((Ienk K a).stop i H ∧ D.nx σ H) ∨ ((Ienk K a).go i H ∧ ∃ N : L2.St → Hp → Prop, (∀ σ' H', N σ' H' → ∃ m', m' < m ∧ W (i + 1) m' σ' H') ∧ ∀ x H', (Ienk K a).yld i H x H' → g x σ H' fun σ2 H2 => tb { D with nx := N, ct := N, bk := D.nx } σ2 H2) := by
  refine ⟨fun i m σ H => m = xs.length - i ∧ i ≤ xs.length ∧ Pv i σ H, ⟨xs.length, by simp, Nat.zero_le _, h0⟩, ?_⟩
  rintro i m σ H ⟨rfl, hi, p⟩
  have q := hl i σ H hi p
  by_cases hlt : i < xs.length
  · have hx := List.getElem?_eq_getElem hlt
    refine .inr ⟨⟨xs, _, q, hx⟩, Pv (i + 1), fun σ' H' p' => ⟨xs.length - (i + 1), by omega, rfl, hlt, p'⟩, fun v H' y => ?_⟩
    obtain ⟨T, x, rfl, hT, rfl, y⟩ := y
    exact hs i x T σ H (y xs q) p hT
  · have e : i = xs.length := by omega
    exact .inl ⟨⟨xs, q, e.symm⟩, hd σ H (by rw [← e]; exact p)⟩
end
/-! rows read, one after another -/
inductive Rows : RSt → List Str → RSt → Prop where
  | nil {S : RSt} : Rows S [] S
  | cons {S S1 S2 : RSt} {r : Str} {rs : List Str} (m : RowM S r S1) (sz : SzOk S) (a : S.acts.length ≤ 4) (t : Rows S1 rs S2) : Rows S (r :: rs) S2
theorem Rows.app {S S1 S2 : RSt} {a b : List Str} (h : Rows S a S1) (g : Rows S1 b S2) : Rows S (a ++ b) S2 := by
  induction h with
  | nil => exact g
  | cons m sz a t ih => exact .cons m sz a (ih g)
theorem Cl.le {L : Nat} {s t : List Bkt} (c : Cl L s t) : t.length ≤ s.length := by
  induction c with
  | stop h => exact Nat.le_refl _
  | step h nl hd t ih => rw [List.length_cons] at ih ⊢; rw [List.length_cons]; omega
/-- a reader that stands at level k + 1 -/
structure At (S : RSt) (chs : List (Int × Int)) (acts : List PyData) (k : Nat) (hd sts : List PyData) (r : List Bkt) (m : Nat) : Prop where
  ch : S.chs = some chs
  ac : S.acts = acts
  cl : Cl (k + 1) S.stk ((hd, sts) :: r)
  len : r.length = k
  room : S.room = m
  sz : SzOk S
theorem At.lt {S : RSt} {chs : List (Int × Int)} {acts : List PyData} {k : Nat} {hd sts : List PyData} {r : List Bkt} {m : Nat} (A : At S chs acts k hd sts r m) : k < S.stk.length := by
  have := A.cl.le
  rw [List.length_cons, A.len] at this
  omega
section
variable {chs : List (Int × Int)} {acts : List PyData}
abbrev sdL (sd : Int × Int → Int) (chs : List (Int × Int)) (acts : List PyData) : List Int := sideL sd chs (acts.length : Int)
theorem sz_cons {x : Bkt} {r : List Bkt} {o : Option (List (Int × Int))} {a : List PyData} {m k : Nat} (h : r.length = k) (hk : k ≤ 8) (hx : x.2.length ≤ 12) (hr : ∀ y ∈ r, y.2.length ≤ 12) : SzOk ⟨o, a, x :: r, m⟩ :=
  ⟨by show (x :: r).length ≤ 100; rw [List.length_cons]; omega, fun y hy => by
    rcases List.mem_cons.mp hy with rfl | hy
    · exact hx
    · exact hr y hy⟩
theorem many_read (l6 : chs.length ≤ 6) (a4 : acts.length ≤ 4) (n : Nat) {k : Nat} (one : ∀ (d : PyData) {S : RSt} {hd sts : List PyData} {r : List Bkt} {m : Nat}, lstB (sdL Prod.fst chs acts) (sdL Prod.snd chs acts) (lblk (sdL Prod.fst chs acts) (sdL Prod.snd chs acts) n) d = true → At S chs acts k hd sts r (m + manyS (manyN n) d) → sts.length < 12 → (∀ y ∈ r, y.2.length ≤ 12) → ∃ S', Rows S (wrS (wrN n) k d) S' ∧ At S' chs acts k hd (sts ++ [d]) r m) :
    ∀ (ds : List PyData) {S : RSt} {hd sts : List PyData} {r : List Bkt} {m : Nat}, ds.all (lstB (sdL Prod.fst chs acts) (sdL Prod.snd chs acts) (lblk (sdL Prod.fst chs acts) (sdL Prod.snd chs acts) n)) = true → At S chs acts k hd sts r (m + sumM (manyS (manyN n)) ds) → sts.length + ds.length ≤ 12 → (∀ y ∈ r, y.2.length ≤ 12) →
      ∃ S', Rows S (ds.flatMap (wrS (wrN n) k)) S' ∧ At S' chs acts k hd (sts ++ ds) r m
  | [], S, hd, sts, r, m, _, A, _, _ => ⟨S, .nil, by rw [List.append_nil]; exact A⟩
  | d :: ds, S, hd, sts, r, m, h, A, hl, hr => by
    rw [List.all_cons] at h
    have h := and3 h
    rw [List.length_cons] at hl
    have A' : At S chs acts k hd sts r ((m + sumM (manyS (manyN n)) ds) + manyS (manyN n) d) := by
      have e : m + sumM (manyS (manyN n)) (d :: ds) = (m + sumM (manyS (manyN n)) ds) + manyS (manyN n) d := by
        show m + (manyS (manyN n) d + sumM (manyS (manyN n)) ds) = _
        omega
      rw [← e]
      exact A
    obtain ⟨S1, r1, A1⟩ := one d h.1 A' (by omega) hr
    obtain ⟨S2, r2, A2⟩ := many_read l6 a4 n one ds h.2 A1 (by rw [List.length_append, List.length_singleton]; omega) hr
    refine ⟨S2, ?_, by rw [List.append_cons]; exact A2⟩
    rw [List.flatMap_cons]
    exact r1.app r2
theorem deed_read (l6 : chs.length ≤ 6) (a4 : acts.length ≤ 4) {k : Nat} (hk : k ≤ 3) {ds : List PyData} {S : RSt} {hd sts : List PyData} {r : List Bkt} {m : Nat} (h : deedD (sdL Prod.fst chs acts) (sdL Prod.snd chs acts) (.tuple ds) = true) (A : At S chs acts k hd sts r (m + 1)) (ls : sts.length < 12) (hr : ∀ y ∈ r, y.2.length ≤ 12) :
    ∃ S', Rows S [blS k ++ wordsS ds] S' ∧ At S' chs acts k hd (sts ++ [.tuple ds]) r m := by
  have nch : S.chs ≠ none := by rw [A.ch]; exact fun z => by cases z
  have hM : StM S (k + 1) ds ⟨S.chs, S.acts, (hd, sts ++ [.tuple ds]) :: r, m⟩ := ⟨chs, hd, sts, r, m, A.ch, l6, A.cl, by rw [A.len], ls, A.room, .inl ⟨by rw [A.ac]; exact h, rfl⟩⟩
  refine ⟨_, .cons (.inr (.inr (.inl ⟨nch, k, ds, rfl, by omega, A.lt, hM⟩))) A.sz (by rw [A.ac]; exact a4) .nil, ⟨A.ch, A.ac, .stop (by show (_ :: _).length ≤ _; rw [List.length_cons, A.len]; exact Nat.le_refl _), A.len, rfl, sz_cons A.len (by omega) (by rw [List.length_append, List.length_singleton]; omega) hr⟩⟩
theorem head_read (l6 : chs.length ≤ 6) (a4 : acts.length ≤ 4) {k : Nat} (hk : k ≤ 2) {z : Str} {nm : PyData} (hz : z ∈ brL) (hn : numNameD nm = true) {S : RSt} {hd sts : List PyData} {r : List Bkt} {m : Nat} (A : At S chs acts k hd sts r (m + 1)) (ls : sts.length < 12) (hr : ∀ y ∈ r, y.2.length ≤ 12) :
    ∃ S', Rows S [blS k ++ wordsS [.str z, nm]] S' ∧ At S' chs acts (k + 1) [.str z, nm] [] ((hd, sts) :: r) m := by
  have nch : S.chs ≠ none := by rw [A.ch]; exact fun z => by cases z
  have hM : StM S (k + 1) [.str z, nm] ⟨S.chs, S.acts, ([.str z, nm], []) :: (hd, sts) :: r, m⟩ := ⟨chs, hd, sts, r, m, A.ch, l6, A.cl, by rw [A.len], ls, A.room, .inr ⟨z, nm, rfl, hz, hn, by omega, rfl⟩⟩
  have lr : ((hd, sts) :: r).length = k + 1 := by rw [List.length_cons, A.len]
  refine ⟨_, .cons (.inr (.inr (.inl ⟨nch, k, _, rfl, by omega, A.lt, hM⟩))) A.sz (by rw [A.ac]; exact a4) .nil, ⟨A.ch, A.ac, .stop (by show (_ :: _).length ≤ _; rw [List.length_cons, lr]; exact Nat.le_refl _), lr, rfl, sz_cons lr (by omega) (Nat.zero_le _) fun y hy => ?_⟩⟩
  rcases List.mem_cons.mp hy with rfl | hy
  · exact Nat.le_of_lt ls
  · exact hr y hy
theorem At.close {S : RSt} {k : Nat} {h0 ys hd sts : List PyData} {r : List Bkt} {m : Nat} (A : At S chs acts (k + 1) h0 ys ((hd, sts) :: r) m) (nl : lacksB h0 = false) (hh : ∃ z t, h0 = .str z :: t ∧ t.length ≤ 5) : At S chs acts k hd (sts ++ [.tuple (h0 ++ [.tuple ys])]) r m := by
  have lr : r.length = k := by
    have := A.len
    rw [List.length_cons] at this
    omega
  exact ⟨A.ch, A.ac, A.cl.trans (.step (by rw [List.length_cons, List.length_cons]; omega) nl hh (.stop (by rw [List.length_cons]; omega))), lr, A.room, A.sz⟩
theorem one_read (l6 : chs.length ≤ 6) (a4 : acts.length ≤ 4) : ∀ (n : Nat) {k : Nat}, k + n = 3 → ∀ (d : PyData) {S : RSt} {hd sts : List PyData} {r : List Bkt} {m : Nat}, lstB (sdL Prod.fst chs acts) (sdL Prod.snd chs acts) (lblk (sdL Prod.fst chs acts) (sdL Prod.snd chs acts) n) d = true → At S chs acts k hd sts r (m + manyS (manyN n) d) → sts.length < 12 → (∀ y ∈ r, y.2.length ≤ 12) →
    ∃ S', Rows S (wrS (wrN n) k d) S' ∧ At S' chs acts k hd (sts ++ [d]) r m := by
  intro n
  induction n with
  | zero =>
    intro k hk d S hd sts r m h A ls hr
    rcases st_cases h with ⟨hdd, nb, z, ds, rfl, hz⟩ | ⟨nm, x, y, rfl, hn, hx, hy, hb⟩ | ⟨nm, x, rfl, hn, hx, hb⟩
    · rw [manyS_deed nb] at A
      rw [wrS_deed hz]
      exact deed_read l6 a4 (by omega) hdd A ls hr
    · cases x <;> cases hx
    · cases x <;> cases hx
  | succ n ih =>
    intro k hk d S hd sts r m h A ls hr
    have body : ∀ {x : PyData} {S : RSt} {h0 : List PyData} {m : Nat}, lblk (sdL Prod.fst chs acts) (sdL Prod.snd chs acts) (n + 1) x = true → At S chs acts (k + 1) h0 [] ((hd, sts) :: r) (m + manyN (n + 1) x) → ∃ ys S', x = .tuple ys ∧ Rows S (wrN (n + 1) (k + 1) x) S' ∧ At S' chs acts (k + 1) h0 ys ((hd, sts) :: r) m := fun {x S h0 m} hx A => by
      cases x with
      | tuple ys =>
        have hy := and3 (show (decide (ys.length ≤ 12) && ys.all (lstB (sdL Prod.fst chs acts) (sdL Prod.snd chs acts) (lblk (sdL Prod.fst chs acts) (sdL Prod.snd chs acts) n))) = true from hx)
        obtain ⟨S', r1, A1⟩ := many_read l6 a4 n (ih (k := k + 1) (by omega)) ys hy.2 A (by have := of_decide_eq_true hy.1; show 0 + _ ≤ 12; omega) fun y hy => by
          rcases List.mem_cons.mp hy with rfl | hy
          · exact Nat.le_of_lt ls
          · exact hr y hy
        exact ⟨ys, S', rfl, r1, by rw [List.nil_append] at A1; exact A1⟩
      | _ => cases hx
    rcases st_cases h with ⟨hdd, nb, z, ds, rfl, hz⟩ | ⟨nm, x, y, rfl, hn, hx, hy, hb⟩ | ⟨nm, x, rfl, hn, hx, hb⟩
    · rw [manyS_deed nb] at A
      rw [wrS_deed hz]
      exact deed_read l6 a4 (by omega) hdd A ls hr
    · rw [manyS_if hb] at A
      have e0 : m + (1 + manyN (n + 1) x + manyN (n + 1) y) = m + manyN (n + 1) y + manyN (n + 1) x + 1 := by omega
      rw [e0] at A
      obtain ⟨S1, r1, A1⟩ := head_read (m := m + manyN (n + 1) y + manyN (n + 1) x) l6 a4 (by omega) (z := "if") (by decide +kernel) hn A ls hr
      obtain ⟨xs, S2, rfl, r2, A2⟩ := body hx A1
      have nch : S2.chs ≠ none := by rw [A2.ch]; exact fun z => by cases z
      have lr : ((hd, sts) :: r).length = k + 1 := A2.len
      have hrow : RowM S2 (blS k ++ "else") ⟨S2.chs, S2.acts, ([.str "if", nm, .tuple xs], []) :: (hd, sts) :: r, S2.room⟩ := .inr (.inr (.inr ⟨nch, k, nm, xs, (hd, sts) :: r, rfl, by omega, Nat.lt_of_succ_lt A2.lt, A2.cl, lr, rfl⟩))
      have A3 : At ⟨S2.chs, S2.acts, ([.str "if", nm, .tuple xs], []) :: (hd, sts) :: r, S2.room⟩ chs acts (k + 1) [.str "if", nm, .tuple xs] [] ((hd, sts) :: r) (m + manyN (n + 1) y) := ⟨A2.ch, A2.ac, .stop (by show (_ :: _).length ≤ _; rw [List.length_cons, lr]; exact Nat.le_refl _), lr, A2.room, sz_cons lr (by omega) (Nat.zero_le _) fun y hy => by
          rcases List.mem_cons.mp hy with rfl | hy
          · exact Nat.le_of_lt ls
          · exact hr y hy⟩
      obtain ⟨ys, S4, rfl, r4, A4⟩ := body hy A3
      refine ⟨S4, ?_, A4.close rfl ⟨"if", _, rfl, (by show 2 ≤ 5; decide)⟩⟩
      rw [wrS_if]
      exact Rows.app r1 (r2.app (.cons hrow A2.sz (by rw [A2.ac]; exact a4) r4))
    · rw [manyS_wh hb] at A
      have e0 : m + (1 + manyN (n + 1) x) = m + manyN (n + 1) x + 1 := by omega
      rw [e0] at A
      obtain ⟨S1, r1, A1⟩ := head_read (m := m + manyN (n + 1) x) l6 a4 (by omega) (z := "while") (by decide +kernel) hn A ls hr
      obtain ⟨xs, S2, rfl, r2, A2⟩ := body hx A1
      refine ⟨S2, ?_, A2.close (by show (true && decide (("while" : Str) = "if")) = false; rw [Bool.true_and]; exact decide_eq_false (by decide +kernel)) ⟨"while", _, rfl, (by show 1 ≤ 5; decide)⟩⟩
      rw [wrS_wh]
      exact Rows.app r1 r2
/-- an actor is read -/
theorem act_read (l6 : chs.length ≤ 6) {b : PyData} (a3 : acts.length < 4) (hb : lblk (sdL Prod.fst chs acts) (sdL Prod.snd chs acts) 4 b = true) (h40 : manyN 4 b ≤ 40) {S S0 : RSt} (hE : EndM S S0) (hc : S0.chs = some chs) (ha : S0.acts = acts) (sz : SzOk S) (a4 : S.acts.length ≤ 4) (nch : S.chs ≠ none) :
    ∃ S', Rows S ("actor" :: wrN 4 0 b) S' ∧ S'.chs = some chs ∧ SzOk S' ∧ S'.acts = acts ∧ EndM S' ⟨some chs, acts ++ [b], [], S'.room⟩ := by
  cases b with
  | tuple ds =>
    have hy := and3 (show (decide (ds.length ≤ 12) && ds.all (lstB (sdL Prod.fst chs acts) (sdL Prod.snd chs acts) (lblk (sdL Prod.fst chs acts) (sdL Prod.snd chs acts) 3))) = true from hb)
    have hrow : RowM S "actor" ⟨S0.chs, S0.acts, [([], [])], 40⟩ := .inr (.inl ⟨nch, rfl, S0, hE, by rw [ha]; exact a3, rfl⟩)
    have hm : sumM (manyS (manyN 3)) ds ≤ 40 := h40
    have A : At ⟨S0.chs, S0.acts, [([], [])], 40⟩ chs acts 0 [] [] [] ((40 - sumM (manyS (manyN 3)) ds) + sumM (manyS (manyN 3)) ds) := ⟨hc, ha, .stop (Nat.le_refl _), rfl, by show 40 = _; omega, ⟨by show 1 ≤ 100; decide, fun x hx => by rw [List.mem_singleton.mp hx]; exact Nat.zero_le _⟩⟩
    obtain ⟨S', r1, A1⟩ := many_read l6 (Nat.le_of_lt a3) 3 (one_read l6 (Nat.le_of_lt a3) 3 rfl) ds hy.2 A (by have := of_decide_eq_true hy.1; show 0 + _ ≤ 12; omega) (fun y hy => by cases hy)
    rw [List.nil_append] at A1
    refine ⟨S', .cons hrow sz a4 r1, A1.ch, A1.sz, A1.ac, .inr ⟨fun e => ?_, [], ds, A1.cl, by rw [A1.ch, A1.ac]⟩⟩
    have := A1.lt
    rw [e] at this
    cases this
  | _ => cases hb
end
/-- all the actors are read -/
theorem acts_read {chs : List (Int × Int)} (l6 : chs.length ≤ 6) : ∀ (as : List PyData) {acts : List PyData} {S S0 : RSt}, acts.length + as.length ≤ 4 → (∀ (i : Nat) b, as[i]? = some b → lblk (sideL Prod.fst chs ((acts.length + i : Nat) : Int)) (sideL Prod.snd chs ((acts.length + i : Nat) : Int)) 4 b = true ∧ manyN 4 b ≤ 40) → EndM S S0 → S0.chs = some chs → S0.acts = acts → SzOk S → S.acts.length ≤ 4 → S.chs = some chs →
    ∃ S' S1, Rows S (as.flatMap fun b => "actor" :: wrN 4 0 b) S' ∧ EndM S' S1 ∧ S1.chs = some chs ∧ S1.acts = acts ++ as ∧ SzOk S' ∧ S'.acts.length ≤ 4
  | [], acts, S, S0, hl, hb, hE, hc, ha, sz, a4, hs => ⟨S, S0, .nil, hE, hc, by rw [List.append_nil]; exact ha, sz, a4⟩
  | b :: as, acts, S, S0, hl, hb, hE, hc, ha, sz, a4, hs => by
    rw [List.length_cons] at hl
    obtain ⟨b1, b2⟩ := hb 0 b rfl
    obtain ⟨S1, r1, c1, z1, e1, E1⟩ := act_read (b := b) l6 (by omega) b1 b2 hE hc ha sz a4 (by rw [hs]; exact fun z => by cases z)
    obtain ⟨S2, S3, r2, E2, c2, e2, z2, f2⟩ := acts_read l6 as (acts := acts ++ [b]) (S := S1) (by rw [List.length_append, List.length_singleton]; omega) (fun i d hd => by
      have := hb (i + 1) d hd
      rw [List.length_append, List.length_singleton, show acts.length + 1 + i = acts.length + (i + 1) by omega]
      exact this) E1 rfl rfl z1 (by rw [e1]; omega) c1
    refine ⟨S2, S3, ?_, E2, c2, by rw [e2, List.append_assoc]; rfl, z2, f2⟩
    rw [List.flatMap_cons]
    exact r1.app r2
/-- the rows of a net are read -/
theorem net_read {cs as : List PyData} (h : netB cs as = true) : ∃ S' S1, Rows ⟨none, [], [], 0⟩ (netRows (cs.map pairD) as) S' ∧ EndM S' S1 ∧ S1.chs = some (cs.map pairD) ∧ S1.acts = as ∧ SzOk S' ∧ S'.acts.length ≤ 4 := by
  have G := netB_G h
  have hc := chs_ok h
  have l6 : (cs.map pairD).length ≤ 6 := by rw [List.length_map]; exact G.l6
  have z0 : ∀ o, SzOk ⟨o, [], [], 0⟩ := fun o => ⟨Nat.zero_le _, fun x hx => by cases hx⟩
  obtain ⟨S', S1, r, E, c, e, z, f⟩ := acts_read l6 as (acts := []) (S := ⟨some (cs.map pairD), [], [], 0⟩) (by show 0 + _ ≤ 4; rw [Nat.zero_add]; exact G.l4) (fun i b hb => by
    rw [show ([] : List PyData).length + i = i from Nat.zero_add i]
    exact G.act i b hb) (.inl ⟨rfl, rfl⟩) rfl rfl (z0 _) (Nat.zero_le _) rfl
  exact ⟨S', S1, .cons (.inl ⟨cs.map pairD, rfl, rfl, fun c hc' => (hc c hc').1, l6, rfl⟩) (z0 _) (Nat.zero_le _) r, E, c, by rw [e, List.nil_append], z, f⟩
/-! read_net -/
section
open PySem.Spec PyProof.Rows LamX
variable {P : Program} {w : World} {K : PySem.W.Frag} {mg : Str → Option Value} {base : Heap} {f : Addr} {fd : FuncData} {C CB : Addr} {PT : List Addr}
def MakC0 (P : Program) (w : World) (K : PySem.W.Frag) (mg : Str → Option Value) (base : Heap) (x : Str) (C : Addr) (k : Nat) (ps : List Str) (sp : Sp) : Prop :=
  ∃ (f : Addr) (fd : FuncData), FnOk P w K mg base CX0 k f fd ps sp ∧ L2.Mk K C f ∧ mg x = some (.ref C) ∧ Binds K fd ps []
theorem pe_mak0 {X : Cx} {x : Str} {C : Addr} {k j : Nat} {ps : List Str} {sp : Sp} {pos p : Pos} (M : MakC0 X.prog X.w X.K X.mg X.base x C k ps sp) (hr : Room j X.A) (hk : k + 1 ≤ j) (hg : Gl X x) (hdb : (x == ("__debug__" : Str)) = false := by decide) : PE X (.Call (.Name x p) [] [] pos) (tMake C sp [] E0 tNil) := by
  obtain ⟨f, fd, F, M, hm, b⟩ := M
  exact pe_make0 M F (hr.mono hk) hg hm b .nil pass0 hdb
def spReadN (K : PySem.W.Frag) (PT : List Addr) : Sp := fun vs H Q _ => ∃ (cs as : List PyData), vs = [.str (netT (cs.map pairD) as)] ∧ netB cs as = true ∧ TabsG PT H ∧ ∀ v H', ExtN H H' → TabsG PT H' → Dp K H' v (.tuple [.tuple cs, .tuple as]) → Q v H'
abbrev rnN : List Str := ["text", "rows", "reader", "number", "row", "net"]
theorem scReadN : FnScope rnN ["text"] (defScope sReadNet) := ⟨rfl, rfl, rfl, by decide +kernel, rfl, by decide +kernel, by decide +kernel⟩
theorem split_net {l : List Str} (hne : l ≠ []) (h : ∀ r ∈ l, RowOk r) : Txt.split (Txt.join "\n" l) "\n" = l := by
  refine TL.split_join (y := "\n") (s := 10) (S := []) (by decide +kernel) (by decide +kernel) hne fun p hp hm => ?_
  have := (h p hp).2 10 hm
  omega
theorem net_bk {cs as : List PyData} (h : netB cs as = true) : BkOk (.tuple [.tuple cs, .tuple as]) := by
  obtain ⟨cs', as', e, _, _, hb, hd⟩ := net_bd (d := .tuple [.tuple cs, .tuple as]) h
  unfold BkOk
  omega
theorem ok_readN {k : Nat} (F : Fun K "read_net" "read_net" sReadNet f fd) (T : Free mg) (hS : mg "str" = none) (hE : mg "enumerate" = none) (cM : MakC0 P w K mg base "NetRows" C k ["self"] (spNrInit C)) (cR : MetC P w K mg base C "read_row" (k + 1) ["self", "row"] (spRdRow K C CB PT)) (cD : MetC P w K mg base C "made_net" (k + 1) ["self"] (spMade K C CB PT)) (cI : Cal P w K mg base "is_net" (k + 1) ["thing"] (spIsNet K PT)) : FnOk P w K mg base CX0 (k + 2) f fd ["text"] (spReadN K PT) := by
  refine F.ok scReadN (fun vs H Q E h => ?_) (fun cdv A outer s H vs Q E hr h => ?_)
  · obtain ⟨cs, as, rfl, _⟩ := h
    rfl
  obtain ⟨cs, as, rfl, hn, tb, fin⟩ := h
  refine ⟨_, pss_cons (ps_if (pt_not (pt_val (pe_callB call_isi rfl T.isi (by decide +kernel) (pa_cons (pv 0) (pa_cons (pe_bltn (v := .ty "str") rfl hS (by decide +kernel) rfl) pa_nil))))) pss_never pss_nil)
    (pss_cons (ps_set (i := 1) scReadN.nd rfl (.inl rfl) (pe_split (pv 0) pe_str))
    (pss_cons (ps_set (i := 2) scReadN.nd rfl (.inl rfl) (pe_mak0 cM hr (by omega) rfl))
    (pss_cons (ps_for PassesOwn.never rfl (pi_enumK rfl hE (pa_cons (pv 1) pa_nil) (pk_cons pe_int pk_nil)) (pg_tup rfl (pgs_cons (pg_name (i := 3) scReadN.nd rfl (.inl rfl)) (pgs_cons (pg_name (i := 4) scReadN.nd rfl (.inl rfl)) pgs_nil)))
      (pss_one (ps_if (pt_not (pt_val (pe_met cR hr (pv 2) (pa_cons (pv 4) pa_nil)))) pss_never pss_nil)))
    (pss_cons (ps_set (i := 5) scReadN.nd rfl (.inl rfl) (pe_met0 cD hr (pv 2)))
    (pss_cons (ps_if (pt_not (pt_val (pe_cal cI hr rfl (pa_cons (pv 5) pa_nil)))) pss_never pss_nil)
    (pss_one (ps_ret (pv 5)))))))), ?_⟩
  obtain ⟨rl, ro⟩ := netRows_ok hn
  obtain ⟨j1, j2⟩ := net_join rl ro
  have NG := netB_G hn
  obtain ⟨Sf, S1, hrows, hE, hc1, ha1, hz, h4⟩ := net_read hn
  have sl : (16777216 : Nat) = sizeLine := rfl
  refine ⟨_, rfl, .str (netT (cs.map pairD) as), _, _, _, _, rfl, .ty "str", .base (.str _), kit_ty (show kitB "str" "str" = some true by decide +kernel), _, rfl, ifF rfl ?_⟩
  refine ⟨_, rfl, ⟨_, rfl⟩, netT (cs.map pairD) as, "\n", rfl, rfl, by decide +kernel, by show (netT _ _).length + 2 ≤ _; unfold netT; omega, fun pz hpz => ?_⟩
  rw [show Txt.split (netT (cs.map pairD) as) "\n" = netRows (cs.map pairD) as from split_net (List.cons_ne_nil _ _) ro]
  generalize netRows (cs.map pairD) as = rows at rl ro hrows ⊢
  have sz := same_new hpz (.lst (rows.map V.str))
  have tb1 := tb.same sz
  have gz : upd H pz (.lst (rows.map V.str)) pz = some (.lst (rows.map V.str)) := upd_same
  have e01 : ExtN H (upd H pz (.lst (rows.map V.str))) := ext_same sz
  generalize upd H pz (.lst (rows.map V.str)) = G1 at tb1 gz e01 ⊢
  intro x dx nx ndx nex
  refine ⟨x, dx, rfl, upd_same, fun A B H2 hA hB nAB nAx nBx h1 h2 h3 h4' => ⟨rfl, ?_⟩⟩
  have nA1 : G1 A = none := by
    rw [upd_ne nAx] at hA
    by_cases e : A = dx
    · rw [e, upd_same] at hA
      cases hA
    · rw [upd_ne e] at hA
      exact hA
  have nB1 : G1 B = none := by
    rw [upd_ne nBx] at hB
    by_cases e : B = dx
    · rw [e, upd_same] at hB
      cases hB
    · rw [upd_ne e] at hB
      exact hB
  have s12 : Same G1 H2 := fun b u hb => by
    rw [h4' b (ne_of_none hb nx) (ne_of_none hb nA1) (ne_of_none hb nB1), upd_ne (ne_of_none hb nx), upd_ne (ne_of_none hb ndx)]
    exact hb
  have lo : ∀ {a : Addr}, G1 a = none → Loose a G1 := fun h u hu => by rw [h] at hu; cases hu
  have R0 : RdAt K C CB G1 H2 x ⟨none, [], [], 0⟩ := by
    refine ⟨A, B, [], ext_same s12, ⟨dx, .non, h1, .non⟩, ⟨[], h2, .nil⟩, rfl, h3, .nil, ?_, fun a ha => ?_⟩
    · simp only [ft, List.nodup_cons, List.mem_cons, List.not_mem_nil, or_false, not_false_eq_true, List.nodup_nil, and_true, not_or]
      exact ⟨⟨nAx.symm, nBx.symm⟩, nAB⟩
    · simp only [ft, List.mem_cons, List.not_mem_nil, or_false] at ha
      rcases ha with rfl | rfl | rfl
      · exact lo nx
      · exact lo nA1
      · exact lo nB1
  refine ⟨_, rfl, pz, rows.map V.str, rfl, rfl, SqL.of (s12 _ _ gz), ?_⟩
  refine for_enumK (xs := rows.map V.str) (fun j σ G => ∃ (S : RSt) (o3 o4 : Option V), σ = [some (.str (netT (cs.map pairD) as)), some (.ref pz), some (.ref x), o3, o4, none] ∧ RdAt K C CB G1 G x S ∧ Rows S (rows.drop j) Sf ∧ TabsG PT G)
    ⟨_, _, _, rfl, R0, hrows, tb1.same s12⟩ (fun j σ G _ h => ?_) (fun j v T σ G hv h hT => ?_) (fun σ G h => ?_)
  · obtain ⟨S, _, _, _, ⟨A1, B1, ps1, R⟩, _, _⟩ := h
    exact SqL.of (ext_lst R.ext gz)
  · obtain ⟨S, o3, o4, rfl, R, hR, tG⟩ := h
    obtain ⟨row, hrow, rfl⟩ := strs_get hv
    have hd : rows.drop j = row :: rows.drop (j + 1) := by
      obtain ⟨il, e⟩ := List.getElem?_eq_some_iff.mp hrow
      rw [← e]
      exact List.drop_eq_getElem_cons il
    rw [hd] at hR
    cases hR with
    | @cons _ S2 _ _ _ m sz a4 t =>
    have sT := same_new hT (.tup [.int ((j + 1 : Nat) : Int), V.str row])
    refine ⟨T, _, rfl, SqT.of upd_same, rfl, _, _, rfl, _, _, rfl, rfl, ?_⟩
    have R1 := R.move (ext_same sT)
    obtain ⟨A1, B1, ps1, RR⟩ := id R1
    obtain ⟨dx1, vch, hp, _⟩ := RR.obj
    refine ⟨_, rfl, x, dx1, _, rfl, hp, rdF_no _ _ _ _ (by decide +kernel) (by decide +kernel) (by decide +kernel) (by decide +kernel), _, rfl, G1, x, S, S2, row, rfl, R1, m, sz, a4, tG.same sT, fun G3 R3 t3 => ⟨_, rfl, ifF rfl ?_⟩⟩
    exact ⟨S2, _, _, rfl, R3, t, t3⟩
  · obtain ⟨S, o3, o4, rfl, R, hR, tG⟩ := h
    rw [List.length_map, List.drop_length] at hR
    cases hR
    obtain ⟨A1, B1, ps1, RR⟩ := id R
    obtain ⟨dx1, vch, hp, _⟩ := RR.obj
    refine ⟨_, rfl, x, dx1, _, rfl, hp, rdF_no _ _ _ _ (by decide +kernel) (by decide +kernel) (by decide +kernel) (by decide +kernel), G1, x, Sf, S1, cs.map pairD, rfl, R, hE, hc1, hz, h4, by rw [ha1]; exact NG.l4, tG, fun v H3 e3 t3 dv => ?_⟩
    rw [ha1, ← NG.ch] at dv
    refine ⟨_, rfl, v, _, rfl, dv, net_bk hn, t3, fun H4 e4 t4 => ⟨_, rfl, ?_⟩⟩
    rw [show netD (.tuple [.tuple cs, .tuple as]) = true from hn]
    refine ifF rfl ⟨_, rfl, ?_⟩
    exact fin v H4 ((e01.trans e3).trans e4) t4 (dp_ext e4 _ _ dv)
end
/-- the script, which nobody writes -/
def ScrOk (K : PySem.W.Frag) (H : Hp) (a : Addr) (xs : List V) : Prop := (∃ o, H a = some (.frz o (.lst xs))) ∨
  ∃ (o : Obj) (its : Array Value) (n : Nat), K.lookup a = some o ∧ o.cls = .type "list" ∧ o.dict = none ∧ o.data = .seq its n ∧ its.size ≤ sizeLine ∧ Vals xs its.toList
theorem ScrOk.kt {K : PySem.W.Frag} {H H' : Hp} {a : Addr} {xs : List V} (h : ScrOk K H a xs) (k : KT H H') : ScrOk K H' a xs := by
  rcases h with ⟨o, z⟩ | z
  · exact .inl ⟨o, k _ _ z (fun l q => by cases q)⟩
  · exact .inr z
theorem ScrOk.sq {K : PySem.W.Frag} {H : Hp} {a : Addr} {xs : List V} (h : ScrOk K H a xs) : SqL K H a xs := by
  rcases h with h | h
  · exact .inl (.inr h)
  · exact .inr h
/-! repr, where sys.modules stands in the base: no list and no dict of the law's is it -/
section
variable {X : Cx} {pins : List (Addr × Obj)} {σ : L2.St} {H : Hp} {s : Shared}
def SysB (base : Heap) : Prop := ∃ mm, base.Ns sysModules mm
theorem list_ne_sys (I : Inv X pins σ H s) (hs : SysB X.base) {r : Addr} {us : List V} (h : SqL X.K H r us) : r ≠ sysModules := by
  obtain ⟨mm, o0, es, ep, e0, d0, _⟩ := hs
  have hn := (I.bs _ _ e0).2
  intro e
  rw [e] at h
  rcases h with (z | ⟨o, z⟩) | ⟨o, its, n, hk, hc, hdn, hd, _⟩
  · rw [hn] at z
    cases z
  · rw [hn] at z
    cases z
  · have z := I.mod.kin _ _ hk
    rw [e0] at z
    cases z
    rw [d0] at hd
    cases hd
mutual
theorem Dp.rdS (I : Inv X pins σ H s) (hs : SysB X.base) : ∀ (d : PyData) (v : V) (u : Value), Dp X.K H v d → RelV v u → ∃ as, Reads s.heap u d as ∧ sysModules ∉ as
  | .none, v, u, h, r => by cases h; cases r; exact ⟨_, .none, fun z => nomatch z⟩
  | .bool b, v, u, h, r => by cases h; cases r; exact ⟨_, .bool b, fun z => nomatch z⟩
  | .int i, v, u, h, r => by cases h; obtain ⟨t, rfl⟩ := r; exact ⟨_, .int i t, fun z => nomatch z⟩
  | .str x, v, u, h, r => by cases h; obtain ⟨t, rfl⟩ := r; exact ⟨_, .str x t, fun z => nomatch z⟩
  | .list es, v, u, h, r => by
    cases h with
    | lst at_ each =>
      cases r
      have ne := list_ne_sys I hs at_
      obtain ⟨its, rv, ⟨o, n, ho, hc, _, hd⟩, _⟩ := I.list at_
      obtain ⟨as, hr, hn⟩ := Dp.rdsS I hs es _ its each rv
      refine ⟨_, .list ho hc hd hr, fun z => ?_⟩
      rcases List.mem_cons.mp z with z | z
      · exact ne z.symm
      · exact hn z
  | .tuple es, v, u, h, r => by
    cases h with
    | tup at_ each =>
      cases r
      obtain ⟨its, rv, ⟨o, ho, hc, n, hd⟩, _⟩ := I.tuple at_
      obtain ⟨as, hr, hn⟩ := Dp.rdsS I hs es _ its each rv
      exact ⟨_, .tuple ho hc hd hr, hn⟩
  | .dict kvs, v, u, h, r => by
    cases h with
    | dct at_ =>
      cases r
      obtain ⟨_, _, _, _, _, _, ns, rd⟩ := dct_reads I at_
      exact ⟨_, rd, fun z => by
        have z : sysModules ∈ [_] := z
        exact ns (List.mem_singleton.mp z).symm⟩
theorem Dp.rdsS (I : Inv X pins σ H s) (hs : SysB X.base) : ∀ (ds : List PyData) (vs : List V) (us : List Value), DpAll X.K H vs ds → Vals vs us → ∃ as, ReadsAll s.heap us ds as ∧ sysModules ∉ as
  | [], vs, us, h, r => by cases h; cases r; exact ⟨_, .nil, fun z => nomatch z⟩
  | d :: ds, vs, us, h, r => by
    cases h with
    | cons one more =>
      cases r with
      | cons r1 r2 =>
        obtain ⟨as, q1, n1⟩ := Dp.rdS I hs d _ _ one r1
        obtain ⟨bs, q2, n2⟩ := Dp.rdsS I hs ds _ _ more r2
        refine ⟨_, .cons q1 q2, fun hm => ?_⟩
        rcases List.mem_append.mp hm with hm | hm
        · exact n1 hm
        · exact n2 hm
end
end
theorem call_reprS {X : Cx} (hs : SysB X.base) (hg : X.A.guards = some []) (hu : X.A.units + 80 < cLine) : CallR X (.builtin "repr") (fun xs H Q => ∃ (a : Addr) (d : PyData), xs = [.ref a] ∧ Dp X.K H (.ref a) d ∧ d.showable = true ∧ d.depth ≤ 64 ∧ d.shown.length ≤ sizeLine ∧ Q (.str d.shown) H) := by
  intro pins s σ H xs us Q I r h
  obtain ⟨a, d, rfl, hd, h1, h3, h4, q⟩ := h
  obtain ⟨u, rfl, ru⟩ := vals1 r
  cases ru
  obtain ⟨as, hr, hn⟩ := Dp.rdS I hs d (.ref a) (.ref a) hd rfl
  exact repr_of_reads' hr h1 (fun _ => hn) hg (by omega) (fun _ _ e => e) (fun h' u tk hk => ⟨.str d.shown, H, I.kept hk, ⟨u, rfl⟩, q⟩) h4
theorem call_reprA {X : Cx} (hs : SysB X.base) (hg : X.A.guards = some []) (hu : X.A.units + 80 < cLine) : CallR X (.builtin "repr") (fun xs H Q => ∃ (v : V) (d : PyData), xs = [v] ∧ Dp X.K H v d ∧ d.showable = true ∧ d.depth ≤ 64 ∧ d.shown.length ≤ sizeLine ∧ Q (.str d.shown) H) := by
  intro pins s σ H xs us Q I r h
  obtain ⟨v, d, rfl, hd, h1, h3, h4, q⟩ := h
  have refs : ∀ a : Addr, v = .ref a → wpAny (model X.prog X.w) X.A (call (.builtin "repr") us) (EP X pins σ Q) X.xe s := fun a e => by
    subst e
    exact call_reprS hs hg hu pins s σ H _ us Q I r ⟨a, d, rfl, hd, h1, h3, h4, q⟩
  cases hd with
  | non =>
    obtain ⟨u, rfl, ru⟩ := vals1 r
    cases ru
    exact PySem.P.repr_of_none ⟨.str _, H, I.tok _, ⟨_, rfl⟩, q⟩
  | bl b =>
    obtain ⟨u, rfl, ru⟩ := vals1 r
    cases ru
    exact PySem.P.repr_of_bool ⟨.str _, H, I.tok _, ⟨_, rfl⟩, by simpa only [PyData.shown] using q⟩
  | int i =>
    obtain ⟨u, rfl, t, rfl⟩ := vals1 r
    exact PySem.P.repr_of_int (of_decide_eq_true (by simpa only [PyData.showable] using h1)) ⟨.str _, H, I.tok _, ⟨_, rfl⟩, by simpa only [PyData.shown] using q⟩
  | str x =>
    obtain ⟨u, rfl, t, rfl⟩ := vals1 r
    exact PySem.P.repr_of_str ⟨.str _, H, I.tok _, ⟨_, rfl⟩, by simpa only [PyData.shown] using q⟩ (by simpa only [PyData.shown] using h4)
  | lst _ _ => exact refs _ rfl
  | tup _ _ => exact refs _ rfl
  | dct _ => exact refs _ rfl
/-! the end of a law whose defs hold lambdas: the tables of their code are tracked, too -/
section
open PySem.Spec PyProof.Rows LamX
theorem run_law2 {P : Program} {w : World} {K : PySem.W.Frag} {mg : Str → Option Value} {base : Heap} {fa a : Addr} {fd : FuncData} {st : Stmt} {N : List Str} {k : Nat} {s : Shared} {H : Hp} {nm par : Str}
    (F : Fun K nm nm st fa fd) (S : FnScope N [par] (defScope st)) (room : Room (k + 1) callerA) (at0 : Env0 P w K mg base callerA [] s H) (bd : BindsTo s fd ⟨[.ref a], []⟩ [(par, .ref a)])
    (body : ∀ cdv, fd.code = cdv → Room k (callerA.deeper (envOfC nm (defScope st) s.heap.objs.size fa cdv)) →
      ∃ t, PSs (cxOf CX0 P w K mg base N nm (defScope st) fa cdv callerA [] s H E0).nox (defBody st) t ∧ t { nx := fun _ _ => False, rt := fun v _ => v = .bl true } (L2.start N [.ref a]) H) :
    codeAny (model P w) callerA (.call (.ref fa) ⟨[.ref a], []⟩) (CR CX0 [] P w H s (fun v _ => v = .bl true) E0) s := by
  obtain ⟨oc, od, kV, doc, pm, an, cdv, ct, osl, rfl, found, code⟩ := F.ex
  have kin : K.In s.heap := at0.mod.kin.keeps fun b o e => (at0.bs b o e).1
  have unl : s.heap.NoLimit := at0.mod.nolimit.keeps fun b o e => (at0.bs b o e).1
  have kinds : ∀ y ∈ [(par, Value.ref a)], (defScope st).names.lookup y.1 = some .local ∨ ((defScope st).names.lookup y.1 = some .cell ∧ ((cellsFrom (s.heap.objs.size + 1) (defScope st).names []).lookup y.1).isSome = true) := by
    intro y hy
    rcases List.mem_cons.mp hy with rfl | hy
    · rcases S.par par List.mem_cons_self with q | q
      · exact .inl q
      · exact .inr ⟨q, PySem.W.cellsFrom_some _ _ _ (.inl q)⟩
    · cases hy
  refine codeAny_call_function room.depth (kin _ _ found) rfl S.co S.gen rfl (PySem.W.codeRec_of kin code) (bd _ _ _ _ ?_)
  refine wpAny_newFunctionEnv_cells S.kind kinds fun env he s1 ic => ?_
  subst he
  refine ⟨unl.keeps ic.toInCall.keep, codeAny_func ?_⟩
  obtain ⟨t, ht, hq⟩ := body cdv rfl (room.deeper _)
  have start_ok := inv_start (CX := CX0) (E := E0) (us := [.ref a]) (vs := [.ref a]) S room.hd at0 rfl (.cons rfl .nil) ic
  refine wpAny_mono (ht.nox.run [] s1 _ H _ start_ok hq) (fun fl s' out => ?_) fun e s' out => out
  cases fl with
  | ret u =>
    obtain ⟨v, σ', H', J, rv, q⟩ := out
    exact ⟨v, H', J.os, J.bare, J.base, J.hok, rv, q⟩
  | next =>
    obtain ⟨_, _, _, q⟩ := out
    exact q.elim
  | brk =>
    obtain ⟨_, _, _, q⟩ := out
    exact q.elim
  | cont =>
    obtain ⟨_, _, _, q⟩ := out
    exact q.elim
/-- what the module's head leaves of tables -/
structure TabsAt (K : PySem.W.Frag) (mg : Str → Option Value) (h : Heap) (cs : List (Addr × Addr)) : Prop where
  empty : ∀ p ∈ cs, h.get? p.2 = some { cls := .none, data := .fields #[] }
  out : ∀ p ∈ cs, K.lookup p.2 = none
  heads : ∀ p ∈ cs, PySem.W.CodeHd h p.1 p.2
  sys : SysB h
  blt : ∃ (bm : Addr) (ob : Obj), mg "__builtins__" = some (.ref bm) ∧ bm ≠ builtinsNs ∧ h.get? bm = some ob ∧ ob.cls = .type "module" ∧ ob.dict = some builtinsNs ∧ ob.data = .plain
theorem law_endT {P : Program} {w : World} {K : PySem.W.Frag} {mg mb : Str → Option Value} {fa a : Addr} {cs : List (Addr × Addr)} {fd : FuncData} {st : Stmt} {N : List Str} {k : Nat} {s : Shared} {nm par : Str} {vs : List Value} {ns : List Int}
    (kin : K.In s.heap) (gl : s.heap.Ns mainGlobals mg) (bl : s.heap.Ns builtinsNs mb) (blb : ∀ x : Str, x ≠ "__name__" → mb x = bootBuiltins x) (unl : s.heap.NoLimit) (gens : s.gens = #[]) (TA : TabsAt K mg s.heap cs)
    (ha : s.heap.get? a = some { cls := .type "list", data := .seq vs.toArray }) (hi : IntsAre vs ns) (hl : ns.length ≤ sizeLine) (room : Room (k + 1) callerA)
    (F : Fun K nm nm st fa fd) (S : FnScope N [par] (defScope st)) (bd : ∀ (s : Shared) (u : Value), BindsTo s fd ⟨[u], []⟩ [(par, u)])
    (body : ∀ (base : Heap), K.In base → base.Ns mainGlobals mg → SysB base → (∀ p ∈ cs, TabB base mg p.1 p.2) → ∀ (H : Hp) cdv, fd.code = cdv → (∀ p ∈ cs, H p.2 = some (.tbl #[])) → ScrOk K H a (ns.map V.int) → Room k (callerA.deeper (envOfC nm (defScope st) s.heap.objs.size fa cdv)) →
      ∃ t, PSs (cxOf CX0 P w K mg base N nm (defScope st) fa cdv callerA [] s H E0).nox (defBody st) t ∧ t { nx := fun _ _ => False, rt := fun v _ => v = .bl true } (L2.start N [.ref a]) H) :
    codeAny (model P w) callerA (.call (.ref fa) ⟨[.ref a], []⟩) (fun r s' => r = .ok (.ret (.bool true)) ∧ OldK s.heap s'.heap ∧ s'.os = s.os ∧ AllBare s'.gens) s := by
  have vals := vals_ints hi
  have len := hi.length
  have no_tab : ∀ p ∈ cs, p.2 ≠ a := fun p hp z => by
    have e := TA.empty p hp
    rw [z, ha] at e
    have e : Data.seq vs.toArray _ = Data.fields #[] := congrArg Obj.data (Option.some.inj e)
    cases e
  -- whatever of the script is tracked
  have main : ∀ H : Hp, (∀ p ∈ cs, H p.2 = some (.tbl #[])) → ScrOk K H a (ns.map V.int) → HOk P w H s.heap →
      (∀ b u, H b = some u → (b = a ∧ K.lookup a = none ∧ ∃ o xs, u = .frz o (.lst xs)) ∨ ∃ p ∈ cs, b = p.2) →
      codeAny (model P w) callerA (.call (.ref fa) ⟨[.ref a], []⟩) (fun r s' => r = .ok (.ret (.bool true)) ∧ OldK s.heap s'.heap ∧ s'.os = s.os ∧ AllBare s'.gens) s := by
    intro H tabs scr hok alone
    have off : ∀ {b : Addr} {o : Obj}, s.heap.get? b = some o → (∀ us n, o.data ≠ .seq us n) → o.data ≠ .fields #[] → H b = none := by
      intro b o e n1 n2
      cases q : H b with
      | none => rfl
      | some u =>
        rcases alone b u q with ⟨rfl, _⟩ | ⟨p, hp, rfl⟩
        · rw [ha] at e
          cases e
          exact absurd rfl (n1 _ _)
        · rw [TA.empty p hp] at e
          cases e
          exact absurd rfl n2
    have spaces : ∀ {b : Addr} {m : Str → Option Value}, s.heap.Ns b m → (hidT s.heap H).Ns b m := by
      intro b m ⟨o, es, ep, e, d, r⟩
      refine ⟨o, es, ep, hidT_get e (off e (fun us n z => ?_) fun z => ?_), d, r⟩
      · rw [d] at z
        cases z
      · rw [d] at z
        cases z
    have kinB : K.In (hidT s.heap H) := by
      intro b o e
      refine hidT_get (kin b o e) ?_
      cases q : H b with
      | none => rfl
      | some u =>
        rcases alone b u q with ⟨rfl, z, _⟩ | ⟨p, hp, rfl⟩
        · rw [z] at e
          cases e
        · rw [TA.out p hp] at e
          cases e
    have TB : ∀ p ∈ cs, TabB (hidT s.heap H) mg p.1 p.2 := by
      intro p hp
      constructor
      · obtain ⟨o, us, x1, x2, x3, x4, x5, x6, x7, e, y1, y2, y3, y4⟩ := TA.heads p hp
        refine ⟨o, us, x1, x2, x3, x4, x5, x6, x7, hidT_get e (off e (fun vs n z => ?_) fun z => ?_), y1, y2, y3, y4⟩
        · rw [y2] at z
          cases z
        · rw [y2] at z
          cases z
          simp at y3
      · obtain ⟨bm, ob, g1, g2, g3, g4, g5, g6⟩ := TA.blt
        refine ⟨bm, ob, g1, g2, fun z => ?_, fun z => ?_, hidT_get g3 (off g3 (fun vs n z => ?_) fun z => ?_), g4, g5, g6⟩
        · obtain ⟨o, es, ep, e, d, _⟩ := gl
          rw [z, e] at g3
          cases g3
          rw [d] at g6
          cases g6
        · rw [z, TA.empty p hp] at g3
          cases g3
          cases g6
        · rw [g6] at z
          cases z
        · rw [g6] at z
          cases z
      · intro z
        obtain ⟨o, es, ep, e, d, _⟩ := gl
        rw [z, TA.empty p hp] at e
        cases e
        cases d
    obtain ⟨mc, un1, un2⟩ := unl
    have md : Mod K mg (hidT s.heap H) := ⟨kinB, spaces gl, ⟨mb, spaces bl, blb⟩, ⟨mc, spaces un1, un2⟩⟩
    have at0 : Env0 P w K mg (hidT s.heap H) callerA [] s H := by
      refine ⟨rfl, md, fun b o e => of_hidT e, Nat.le_of_eq (hidT_size _ _), trivial, fun b hb => ?_, hok, .of_eq gens⟩
      cases (show b ∈ ([] : List Addr) from hb)
    refine codeAny_mono (run_law2 F S room at0 (bd s (.ref a)) fun cdv hc hr => body _ kinB (spaces gl) (let ⟨mm, z⟩ := TA.sys; ⟨mm, spaces z⟩) TB H cdv hc tabs scr hr) fun r s' res => ?_
    match r, res with
    | .error e, res => exact (show False from res).elim
    | .ok .next, res => exact (show False from res).elim
    | .ok .brk, res => exact (show False from res).elim
    | .ok .cont, res => exact (show False from res).elim
    | .ok (.ret u), res =>
      obtain ⟨v, H', os, bare, un, hok', rv, q⟩ := res
      obtain rfl : v = .bl true := q
      obtain rfl : u = Value.bool true := rv
      have stays : ∀ b o, (∀ p ∈ cs, b ≠ p.2) → s.heap.get? b = some o → s'.heap.get? b = some o := by
        intro b o nb e
        cases q : H b with
        | none =>
          refine un.keep b o e q (fun z => ?_) (by simp)
          cases (show b ∈ ([] : List Addr) from z)
        | some u =>
          rcases alone b u q with ⟨_, _, ob, xs, rfl⟩ | ⟨p, hp, z⟩
          · obtain ⟨e1, _⟩ := hok b _ q
            obtain ⟨e2, _⟩ := hok' b _ (un.frzs b ob _ q)
            rw [e] at e1
            cases e1
            exact e2
          · exact absurd z (nb p hp)
      have grows : ∀ p ∈ cs, ∃ more : Array Value, s'.heap.get? p.2 = some { cls := .none, data := .fields more } := by
        intro p hp
        obtain ⟨more, z⟩ := un.tbls p.2 #[] (tabs p hp)
        exact ⟨_, hok' p.2 _ z⟩
      refine ⟨rfl, ⟨fun b o e => ?_, fun b o e => ?_⟩, os, bare⟩
      · by_cases nb : ∀ p ∈ cs, b ≠ p.2
        · exact .inl (stays b o nb e)
        · obtain ⟨p, hp, z⟩ : ∃ p ∈ cs, b = p.2 := by
            refine Classical.byContradiction fun no => nb fun p hp z => no ⟨p, hp, z⟩
          subst z
          obtain ⟨more, hm⟩ := grows p hp
          have e0 := TA.empty p hp
          rw [e0] at e
          cases e
          refine .inr (.inl ⟨((TA.heads p hp).tab (ps := #[]) e0).isCodeTable, rfl, #[], more, rfl, ?_⟩)
          rw [Array.empty_append]
          exact hm
      · by_cases nb : ∀ p ∈ cs, b ≠ p.2
        · exact ⟨o, stays b o nb e⟩
        · obtain ⟨p, hp, z⟩ : ∃ p ∈ cs, b = p.2 := by
            refine Classical.byContradiction fun no => nb fun p hp z => no ⟨p, hp, z⟩
          subst z
          obtain ⟨more, hm⟩ := grows p hp
          exact ⟨_, hm⟩
  -- the tables, and the script where it isn't written
  let tb : Addr → Bool := fun b => cs.any fun p => decide (b = p.2)
  have tb_in : ∀ {b}, tb b = true → ∃ p ∈ cs, b = p.2 := fun {b} z => by
    obtain ⟨p, hp, e⟩ := List.any_eq_true.mp z
    exact ⟨p, hp, of_decide_eq_true e⟩
  have in_tb : ∀ p ∈ cs, tb p.2 = true := fun p hp => List.any_eq_true.mpr ⟨p, hp, decide_eq_true rfl⟩
  cases hk : K.lookup a with
  | some o =>
    have e := kin a o hk
    rw [ha] at e
    cases e
    refine main (fun b => if tb b = true then some (.tbl #[]) else none) (fun p hp => if_pos (in_tb p hp)) (.inr ⟨_, vs.toArray, _, hk, rfl, rfl, rfl, by rw [List.size_toArray, len]; exact hl, by simpa using vals⟩) (fun b u z => ?_) (fun b u z => ?_)
    · by_cases c : tb b = true
      · obtain ⟨p, hp, rfl⟩ := tb_in c
        have z := (if_pos c).symm.trans z
        cases z
        exact TA.empty p hp
      · have z := (if_neg c).symm.trans z
        cases z
    · by_cases c : tb b = true
      · exact .inr (tb_in c)
      · have z := (if_neg c).symm.trans z
        cases z
  | none =>
    refine main (fun b => if b = a then some (.frz { cls := .type "list", data := .seq vs.toArray } (.lst (ns.map V.int))) else if tb b = true then some (.tbl #[]) else none) (fun p hp => (if_neg (no_tab p hp)).trans (if_pos (in_tb p hp))) (.inl ⟨_, if_pos rfl⟩) (fun b u z => ?_) (fun b u z => ?_)
    · by_cases c0 : b = a
      · have z := (if_pos c0).symm.trans z
        cases z
        rw [c0]
        exact ⟨ha, by rw [List.length_map]; exact hl, vs, _, vals, ha⟩
      · have z := (if_neg c0).symm.trans z
        by_cases c : tb b = true
        · obtain ⟨p, hp, rfl⟩ := tb_in c
          have z := (if_pos c).symm.trans z
          cases z
          exact TA.empty p hp
        · have z := (if_neg c).symm.trans z
          cases z
    · by_cases c0 : b = a
      · have z := (if_pos c0).symm.trans z
        exact .inl ⟨c0, hk, _, _, (Option.some.inj z).symm⟩
      · have z := (if_neg c0).symm.trans z
        by_cases c : tb b = true
        · exact .inr (tb_in c)
        · have z := (if_neg c).symm.trans z
          cases z
end
section
open PySem.Spec PyProof.Rows LamX
theorem st_ext {st : Addr} {H H' : Hp} (h : StAt H st) (e : ExtN H H') : StAt H' st := by
  obtain ⟨x, y, z, h, ok⟩ := h
  exact ⟨x, y, z, e _ _ h (fun ps q => by cases q), ok⟩
theorem scr_ext {K : PySem.W.Frag} {H H' : Hp} {a : Addr} {xs : List V} (h : ScrOk K H a xs) (e : ExtN H H') : ScrOk K H' a xs := by
  rcases h with ⟨o, z⟩ | z
  · exact .inl ⟨o, e _ _ z (fun ps q => by cases q)⟩
  · exact .inr z
end
def tKw (m : Nat) (sp : Sp) (gV : List V → List V → List V) (tk : TA) : TE := fun σ H Q => tk σ H fun zs H2 => zs.length = m ∧ sp (gV [] zs) H2 Q E0
def CalK (P : Program) (w : World) (K : PySem.W.Frag) (mg : Str → Option Value) (base : Heap) (x : Str) (k : Nat) (ps ks : List Str) (g : List Value → List Value → List Value) (gV : List V → List V → List V) (sp : Sp) : Prop :=
  ∃ (f : Addr) (fd : FuncData), FnOk P w K mg base CX0 k f fd ps sp ∧ mg x = some (.ref f) ∧ PySem.W.keepIn K (.ref f) = true ∧ KBn K fd ps 0 ks g gV
theorem pe_kw {X : Cx} {x : Str} {p pos : Pos} {k : Nat} {ps ks : List Str} {g : List Value → List Value → List Value} {gV : List V → List V → List V} {sp : Sp} {kws : List Keyword} {tk : TA}
    (C : CalK X.prog X.w X.K X.mg X.base x k ps ks g gV sp) (hr : Room k X.A) (hg : Gl X x) (hkw : PK X kws tk)
    (h1 : (backToKw pos (keywordEach kws X.env)).all (·.1.isSome) = true := by rfl) (h2 : (backToKw pos (keywordEach kws X.env)).filterMap (·.1) = ks := by rfl) (h3 : (x == ("__debug__" : Str)) = false := by decide)
    (h4 : ((backTo pos (starEach [] X.env)).any (·.1) || (backToKw pos (keywordEach kws X.env)).any (·.1.isNone)) = false := by rfl) :
    PE X (.Call (.Name x p) [] kws pos) (tKw ks.length sp gV tk) := by
  obtain ⟨f, fd, F, hm, hk, hb⟩ := C
  constructor
  intro pins s σ H Q I h
  refine wpAny_Call_Name_kw (ld_glob I hg hm ?_ h3)
  refine PySem.W.callWith_KW0 (h₀ := X.base) I.ok.mod.kin hk h1 ?_ h4
  refine thn (hkw.run pos pins s σ H _ I h) ?_
  rintro ws s2 ⟨zs, H2, I2, rz, l2, q2⟩
  refine ⟨I2.kIn, ?_⟩
  rw [h2]
  exact run_fnN (us := []) (vs := []) F hr hb pass0 I2 .nil rz rfl l2 q2
theorem net_tupO {d : PyData} (h : netD d = true) : tupOnly d = true := by
  obtain ⟨cs, as, rfl, nb, _⟩ := net_bd h
  have nb := and3 (show ((decide (cs.length ≤ 6) && (decide (1 ≤ as.length) && decide (as.length ≤ 4))) && (cs.all (chanD as.length) && actsB (cs.map pairD) 0 as)) = true from nb)
  have n2 := and3 nb.2
  have e := chans_of n2.1
  have hc : tupOnlyAll cs = true := by
    rw [e]
    generalize cs.map pairD = l
    induction l with
    | nil => rfl
    | cons c l ih => show (tupOnly (mkCh c) && tupOnlyAll (l.map mkCh)) = true; rw [ih]; rfl
  show (tupOnlyAll cs && (tupOnlyAll as && true)) = true
  rw [hc, Bool.true_and, Bool.and_true]
  have : ∀ {as : List PyData} {me : Int} {chs : List (Int × Int)}, actsB chs me as = true → tupOnlyAll as = true := fun {as} => by
    induction as with
    | nil => intro _ _ _; rfl
    | cons d as ih =>
      intro me chs h
      have h := and3 (show ((blkD _ _ 4 d).isSome && actsB chs (me + 1) as) = true from h)
      have h1 := h.1
      rw [blk_some] at h1
      show (tupOnly d && tupOnlyAll as) = true
      rw [lblk_tup 4 (and3 h1).1, ih h.2]
      rfl
  exact this n2.2
/-! how long the texts are -/
theorem netT_show {cs as : List PyData} (h : netB cs as = true) : (PyData.str (netT (cs.map pairD) as)).showable = true ∧ (PyData.str (netT (cs.map pairD) as)).depth ≤ 64 ∧ (PyData.str (netT (cs.map pairD) as)).shown.length ≤ sizeLine := by
  obtain ⟨rl, ro⟩ := netRows_ok h
  obtain ⟨j1, j2⟩ := net_join rl ro
  have l := PySem.StrLaws.reprText_len (netT (cs.map pairD) as) (fun c hc => by
    have h1 : c < 128 := by
      have e : (netT (cs.map pairD) as).cps.toList = TL.joinL [10] ((netRows (cs.map pairD) as).map fun r => r.cps.toList) := by
        show (Txt.join "\n" _).cps.toList = _
        rw [TL.join_eq, show (Str.join "\n" (netRows (cs.map pairD) as)).cps.toList = _ from TL.tl_join "\n" _, show TL.tl ("\n" : Str) = [10] by decide +kernel]
      rw [show (netT (cs.map pairD) as).cps.toList = _ from e] at hc
      rcases join_sgn _ _ c hc with hc | ⟨x, hx, hc⟩
      · rw [List.mem_singleton.mp hc]
        decide
      · obtain ⟨r, hr, rfl⟩ := List.mem_map.mp hx
        exact ((ro r hr).2 c hc).2
    have h2 : (128 : Nat) < 16 ^ 8 := by decide
    omega)
  have e : (netT (cs.map pairD) as).cps.toList.length = (netT (cs.map pairD) as).length := by simp [Str.length]
  have b1 : (netT (cs.map pairD) as).length ≤ 60000 := j2
  refine ⟨by simp only [PyData.showable], by simp only [PyData.depth]; omega, ?_⟩
  simp only [PyData.shown]
  have sl : (16777216 : Nat) = sizeLine := rfl
  omega
theorem show12 {z : PyData} (b : Bd 10000 40 z) (h3 : z.bulk ≤ 10000) (h4 : z.depth ≤ 20) : z.showable = true ∧ z.depth ≤ 64 ∧ z.shown.length ≤ sizeLine := by
  have l := PyData.shown_le_bulk 40 (by decide) z (b.sho (by decide))
  exact ⟨b.shw (by decide), Nat.le_trans h4 (by decide), big (by omega)⟩
theorem TabsG.kp {PT : List Addr} {H H' : Hp} {st : Addr} (t : TabsG PT H) (sa : StAt H st) (k : Kp st H H') : TabsG PT H' := fun P hP => by
  obtain ⟨l, hl⟩ := sa.some
  obtain ⟨ps, h1, h2⟩ := t P hP
  exact ⟨ps, k _ _ (fun z => by rw [z, hl] at h1; cases h1) h1, h2⟩
/-! data written down -/
section
variable {K : PySem.W.Frag}
def Bld (K : PySem.W.Frag) (t : TE) (d : PyData) : Prop := ∀ (σ : L2.St) (H : Hp) (Q : VK), (∀ v H', Same H H' → Dp K H' v d → Q v H') → t σ H Q
def BldA (K : PySem.W.Frag) (t : TA) (ds : List PyData) : Prop := ∀ (σ : L2.St) (H : Hp) (Q : List V → Hp → Prop), (∀ vs H', Same H H' → DpAll K H' vs ds → Q vs H') → t σ H Q
theorem bld_int {i : Int} : Bld K (tC (.int i)) (.int i) := fun σ H Q q => q _ H (Same.refl H) (.int i)
theorem bld_str {z : Str} : Bld K (tC (.str z)) (.str z) := fun σ H Q q => q _ H (Same.refl H) (.str z)
theorem bldA_nil : BldA K tNil [] := fun σ H Q q => q [] H (Same.refl H) .nil
theorem bldA_cons {te : TE} {ta : TA} {d : PyData} {ds : List PyData} (h : Bld K te d) (g : BldA K ta ds) : BldA K (tCons te ta) (d :: ds) := fun σ H Q q =>
  h σ H _ fun v H1 s1 hv => g σ H1 _ fun vs H2 s2 hvs => q (v :: vs) H2 (s1.trans s2) (.cons (dp_same s2 hv) hvs)
theorem bld_tup {ta : TA} {ds : List PyData} (h : BldA K ta ds) (l : ds.length ≤ 1000) : Bld K (tTup ta) (.tuple ds) := fun σ H Q q =>
  h σ H _ fun vs H1 s1 hvs => ⟨by rw [dpAll_len hvs]; exact Nat.le_trans l (small (Nat.le_refl _)), fun p hp => q (.ref p) _ (s1.trans (same_new hp _)) (.tup (SqT.of upd_same) (dps_same (same_new hp _) hvs))⟩
end
theorem ret_eq1 {K : PySem.W.Frag} {te : TE} {d : PyData} {sp : L2.Sp} {y : V} {D : L2.Ends} {σ : L2.St} {H : Hp} (b : Bld K te d) (h : ∀ v H1, Same H H1 → Dp K H1 v d → tRet (tOp rEq (tCall sp [] E0 (tCons (fun _ _ Q => Q v H1) tNil)) (tC y)) D σ H) : tRet (tOp rEq (tCall sp [] E0 (tCons te tNil)) (tC y)) D σ H :=
  b σ H (fun v H1 => tRet (tOp rEq (tCall sp [] E0 (tCons (fun _ _ Q => Q v H1) tNil)) (tC y)) D σ H) h
def mesh3 : PyData := .tuple [.tuple [], .tuple [.tuple []]]
def mesh4 : PyData := .tuple [.tuple [.tuple [.int 0, .int 1], .tuple [.int 0, .int 1], .tuple [.int 0, .int 1], .tuple [.int 0, .int 1], .tuple [.int 0, .int 1], .tuple [.int 0, .int 1]], .tuple [.tuple [], .tuple []]]
def mesh5 : PyData := .tuple [.tuple [], .tuple [.tuple [.tuple [.str "if", .str "a", .tuple [], .tuple [.tuple [.str "while", .str "b", .tuple []]]]]]]
section
open PySem.Spec PyProof.Rows LamX
variable {P : Program} {w : World} {K : PySem.W.Frag} {mg : Str → Option Value} {base : Heap} {f : Addr} {fd : FuncData} {PT : List Addr}
theorem kb_netT (F : Fun K "net_text" "net_text" sNetText f fd) : KBn K fd ["net"] 0 ["net"] (fun _ ws => ws) (fun _ zs => zs) := by
  obtain ⟨oc, od, kV, doc, pm, an, cdv, ct, osl, rfl, lk, hcd⟩ := F.ex
  refine ⟨fun s us ws _ l1 l2 => ?_, fun _ r => r⟩
  match us, ws, l1, l2 with
  | [], [a], _, _ => exact .of_eq rfl
theorem kb_readN (F : Fun K "read_net" "read_net" sReadNet f fd) : KBn K fd ["text"] 0 ["text"] (fun _ ws => ws) (fun _ zs => zs) := by
  obtain ⟨oc, od, kV, doc, pm, an, cdv, ct, osl, rfl, lk, hcd⟩ := F.ex
  refine ⟨fun s us ws _ l1 l2 => ?_, fun _ r => r⟩
  match us, ws, l1, l2 with
  | [], [a], _, _ => exact .of_eq rfl
abbrev NLaw : List Str := ["_law_script", "_law_k", "_law_state_here", "_law_mesh", "_law_due", "_law_kept", "_law_again"]
theorem scLaw : FnScope NLaw ["_law_script"] (defScope sLaw) := ⟨rfl, rfl, rfl, by decide +kernel, rfl, by decide +kernel, by decide +kernel⟩
structure Law67 (P : Program) (w : World) (K : PySem.W.Frag) (mg : Str → Option Value) (base : Heap) (PT : List Addr) (k : Nat) : Prop where
  cSt : Cal P w K mg base "_law_state" k ["_law_script", "_law_k"] (spState K)
  cN : Cal P w K mg base "_law_net" k ["_law_state_here", "_law_most", "_law_long"] (spNet K)
  cT : Cal P w K mg base "_law_written" k ["_law_mesh"] (spLWr K)
  cG : Cal P w K mg base "net_text" k ["net"] (spNetT K PT)
  kG : CalK P w K mg base "net_text" k ["net"] ["net"] (fun _ ws => ws) (fun _ zs => zs) (spNetT K PT)
  cR : Cal P w K mg base "read_net" k ["text"] (spReadN K PT)
  kR : CalK P w K mg base "read_net" k ["text"] ["text"] (fun _ ws => ws) (fun _ zs => zs) (spReadN K PT)
set_option maxHeartbeats 0 in
theorem law_body {k : Nat} {cdv : Value} {s : Shared} {H : Hp} {a : Addr} {ns : List Int} (T : Free mg) (sys : SysB base) (scr : ScrOk K H a (ns.map V.int)) (h63 : ns.length ≤ 63) (tbs : TabsG PT H)
    (hr : Room k (callerA.deeper (envOfC "law" (defScope sLaw) s.heap.objs.size f cdv))) (L : Law67 P w K mg base PT k) :
    ∃ t, PSs (cxOf CX0 P w K mg base NLaw "law" (defScope sLaw) f cdv callerA [] s H E0).nox (defBody sLaw) t ∧ t { nx := fun _ _ => False, rt := fun v _ => v = .bl true } (L2.start NLaw [.ref a]) H := by
  have hu : (callerA.deeper (envOfC "law" (defScope sLaw) s.heap.objs.size f cdv)).units + 80 < cLine := by
    have := hr.un
    omega
  refine ⟨_, pss_cons (ps_for PassesOwn.never rfl (pi_range1 rfl T.range (pa_cons (pe_callB (call_max2 rfl) rfl T.max (by decide +kernel) (pa_cons pe_int (pa_cons (pe_callB (call_min2 rfl) rfl T.min (by decide +kernel)
        (pa_cons (pe_callB call_len_seq rfl T.len PySem.boot_len (pa_cons (pv 0) pa_nil)) (pa_cons pe_int pa_nil))) pa_nil))) pa_nil)) (pg_name (i := 1) scLaw.nd rfl (.inl rfl))
    (pss_cons (ps_set (i := 2) scLaw.nd rfl (.inl rfl) (pe_cal L.cSt hr rfl (pa_cons (pv 0) (pa_cons (pv 1) pa_nil))))
    (pss_one (ps_for PassesOwn.never rfl (pi_list (pe_lst (pa_cons (pe_cal L.cN hr rfl (pa_cons (pv 2) (pa_cons pe_int (pa_cons pe_int pa_nil)))) (pa_cons (pe_cal L.cN hr rfl (pa_cons (pv 2) (pa_cons pe_int (pa_cons pe_int pa_nil))))
        (pa_cons (pe_tup (pa_cons (pe_tup pa_nil) (pa_cons (pe_tup (pa_cons (pe_tup pa_nil) pa_nil)) pa_nil)))
        (pa_cons (pe_tup (pa_cons (pe_op op_repT (pe_tup (pa_cons (pe_tup (pa_cons pe_int (pa_cons pe_int pa_nil))) pa_nil)) pe_int) (pa_cons (pe_tup (pa_cons (pe_tup pa_nil) (pa_cons (pe_tup pa_nil) pa_nil))) pa_nil))) pa_nil)))))) (pg_name (i := 3) scLaw.nd rfl (.inl rfl))
      (pss_cons (ps_par (i := 4) (j := 5) rfl scLaw.nd rfl rfl (by decide) rfl rfl (pa_cons (pe_cal L.cT hr rfl (pa_cons (pv 3) pa_nil)) (pa_cons (pe_callB (call_reprA sys rfl hu) rfl T.repr (by decide +kernel) (pa_cons (pv 3) pa_nil)) pa_nil)) rfl)
      (pss_cons (ps_for PassesOwn.never rfl (pi_range1 rfl T.range (pa_cons pe_int pa_nil)) (pg_name (i := 6) scLaw.nd rfl (.inl rfl))
        (pss_one (ps_if (PW.pt (pw_or (pt_cmpR op_ne (pe_callB (call_reprA sys rfl hu) rfl T.repr (by decide +kernel) (pa_cons (pe_cal L.cG hr rfl (pa_cons (pv 3) pa_nil)) pa_nil)) (pe_callB (call_reprA sys rfl hu) rfl T.repr (by decide +kernel) (pa_cons (pv 4) pa_nil)) (nomark _))
            (pw_or (pt_cmpR op_ne (pe_callB (call_reprA sys rfl hu) rfl T.repr (by decide +kernel) (pa_cons (pe_cal L.cR hr rfl (pa_cons (pv 4) pa_nil)) pa_nil)) (pv 5) (nomark _))
            (pw_or1 (pt_cmpR op_ne (pe_callB (call_reprA sys rfl hu) rfl T.repr (by decide +kernel) (pa_cons (pv 3) pa_nil)) (pv 5) (nomark _)))))) (pss_one (ps_ret pe_bl)) pss_nil)))
      (pss_one (ps_if (PW.pt (pw_or (pt_cmpR op_ne (pe_callB (call_reprA sys rfl hu) rfl T.repr (by decide +kernel) (pa_cons (pe_kw L.kG hr rfl (pk_cons (pv 3) pk_nil)) pa_nil)) (pe_callB (call_reprA sys rfl hu) rfl T.repr (by decide +kernel) (pa_cons (pv 4) pa_nil)) (nomark _))
          (pw_or1 (pt_cmpR op_ne (pe_callB (call_reprA sys rfl hu) rfl T.repr (by decide +kernel) (pa_cons (pe_kw L.kR hr rfl (pk_cons (pv 4) pk_nil)) pa_nil)) (pv 5) (nomark _))))) (pss_one (ps_ret pe_bl)) pss_nil))))))))
    (pss_one (ps_ret (pe_cmpR op_eq (pe_cal L.cG hr rfl (pa_cons (pe_tup (pa_cons (pe_tup pa_nil) (pa_cons (pe_tup (pa_cons (pe_tup (pa_cons (pe_tup (pa_cons pe_str (pa_cons pe_str (pa_cons (pe_tup pa_nil) (pa_cons (pe_tup (pa_cons (pe_tup (pa_cons pe_str (pa_cons pe_str (pa_cons (pe_tup pa_nil) pa_nil)))) pa_nil)) pa_nil))))) pa_nil)) pa_nil)) pa_nil))) pa_nil)) pe_str (nomark _)))), ?main⟩
  case main =>
    have ll : (ns.map V.int).length = ns.length := List.length_map _
    have hm : 0 ≤ (if (if (6 : Int) < ((ns.map V.int).length : Int) then 6 else ((ns.map V.int).length : Int)) > 1 then (if (6 : Int) < ((ns.map V.int).length : Int) then 6 else ((ns.map V.int).length : Int)) else 1) ∧
        (if (if (6 : Int) < ((ns.map V.int).length : Int) then 6 else ((ns.map V.int).length : Int)) > 1 then (if (6 : Int) < ((ns.map V.int).length : Int) then 6 else ((ns.map V.int).length : Int)) else 1) ≤ 6 := by
      split <;> split <;> omega
    refine ⟨_, rfl, a, _, rfl, .inl scr.sq, _, _, rfl, _, _, rfl, _, rfl, by omega, by omega, ?_⟩
    refine for_range (lo := 0) (fun i σ H' => ∃ o1 o2 o3 o4 o5 o6, σ = [some (.ref a), o1, o2, o3, o4, o5, o6] ∧ ScrOk K H' a (ns.map V.int) ∧ TabsG PT H') ⟨_, _, _, _, _, _, rfl, scr, tbs⟩ (fun i σ H' hi h => ?_) (fun σ H' h => ?_)
    · obtain ⟨o1, o2, o3, o4, o5, o6, rfl, sc, tb'⟩ := h
      refine ⟨_, rfl, _, rfl, a, ns, 0 + (i : Int), rfl, sc.sq, by omega, fun st x y z hst ok => ?_⟩
      have s0 := same_new hst (.lst [.int x, .int y, .int z])
      have sa0 : StAt (upd H' st (.lst [.int x, .int y, .int z])) st := ⟨x, y, z, upd_same, ok⟩
      have sc0 := scr_ext sc (ext_same s0)
      have tb0 := tb'.same s0
      generalize upd H' st (.lst [.int x, .int y, .int z]) = H0 at sa0 sc0 tb0 ⊢
      clear s0
      refine ⟨_, rfl, st, 4, 8, rfl, by decide, by decide, by decide, by decide, sa0, fun v1 d1 G1 mv1 hv1 n1 => ?_⟩
      have sc1 := sc0.kt (mv1.kp.kt sa0)
      have tb1 := tb0.kp sa0 mv1.kp
      have sa1 := mv1.sa
      refine ⟨_, rfl, st, 2, 12, rfl, by decide, by decide, by decide, by decide, sa1, fun v2 d2 G2 mv2 hv2 n2 => ?_⟩
      have sc2 := sc1.kt (mv2.kp.kt sa1)
      have tb2 := tb1.kp sa1 mv2.kp
      have sa2 := mv2.sa
      have hv12 := dp_kt (mv2.kp.kt sa1) _ _ (net_tupO n1) hv1
      have b3 : Bld K (tTup (tCons (tTup tNil) (tCons (tTup (tCons (tTup tNil) tNil)) tNil))) mesh3 := bld_tup (bldA_cons (bld_tup bldA_nil (by decide)) (bldA_cons (bld_tup (bldA_cons (bld_tup bldA_nil (by decide)) bldA_nil) (by decide)) bldA_nil)) (by decide)
      have b6 : Bld K (tOp (rRepT K) (tTup (tCons (tTup (tCons (tC (.int 0)) (tCons (tC (.int 1)) tNil))) tNil)) (tC (.int 6))) (.tuple [.tuple [.int 0, .int 1], .tuple [.int 0, .int 1], .tuple [.int 0, .int 1], .tuple [.int 0, .int 1], .tuple [.int 0, .int 1], .tuple [.int 0, .int 1]]) := fun σ H Q q => by
        refine (bld_tup (bldA_cons (bld_tup (bldA_cons bld_int (bldA_cons bld_int bldA_nil)) (by decide)) bldA_nil) (by decide) : Bld K _ (.tuple [.tuple [.int 0, .int 1]])) σ H _ fun v H1 s1 hv => ?_
        cases hv with
        | @tup la xs _ hsq heach =>
        cases heach with
        | @cons u us _ _ hu hus =>
        cases hus
        refine ⟨la, 6, [u], rfl, rfl, hsq, List.cons_ne_nil _ _, by decide, by decide, by show 1 ≤ 1000; decide, fun p hp => ?_⟩
        have sp := same_new hp (.tup (List.replicate (6 : Int).toNat [u]).flatten)
        have hu' := dp_same sp hu
        exact q (.ref p) _ (s1.trans sp) (.tup (SqT.of upd_same) (.cons hu' (.cons hu' (.cons hu' (.cons hu' (.cons hu' (.cons hu' .nil)))))))
      have b4 : Bld K (tTup (tCons (tOp (rRepT K) (tTup (tCons (tTup (tCons (tC (.int 0)) (tCons (tC (.int 1)) tNil))) tNil)) (tC (.int 6))) (tCons (tTup (tCons (tTup tNil) (tCons (tTup tNil) tNil))) tNil))) mesh4 := bld_tup (bldA_cons b6 (bldA_cons (bld_tup (bldA_cons (bld_tup bldA_nil (by decide)) (bldA_cons (bld_tup bldA_nil (by decide)) bldA_nil)) (by decide)) bldA_nil)) (by decide)
      refine b3 _ _ _ fun v3 G3 s3 hv3 => b4 _ _ _ fun v4 G4 s4 hv4 => ⟨by show 4 ≤ sizeLine; decide, fun Lm hLm => ?_⟩
      have sL := same_new hLm (.lst [v1, v2, v3, v4])
      have s2L := (s3.trans s4).trans sL
      have meshes : ∀ (j : Nat) (v : V), [v1, v2, v3, v4][j]? = some v → ∃ cs as, Dp K (upd G4 Lm (.lst [v1, v2, v3, v4])) v (.tuple [.tuple cs, .tuple as]) ∧ netB cs as = true := fun j v hj => by
        have out : ∀ {v : V} {d : PyData}, Dp K G2 v d → netD d = true → ∃ cs as, Dp K (upd G4 Lm (.lst [v1, v2, v3, v4])) v (.tuple [.tuple cs, .tuple as]) ∧ netB cs as = true := fun hv n => by
          obtain ⟨cs, as, rfl, nb, _⟩ := net_bd n
          exact ⟨cs, as, dp_same s2L hv, nb⟩
        match j, hj with
        | 0, hj => cases hj; exact out hv12 n1
        | 1, hj => cases hj; exact out hv2 n2
        | 2, hj => cases hj; exact ⟨_, _, dp_same (s4.trans sL) hv3, by decide +kernel⟩
        | 3, hj => cases hj; exact ⟨_, _, dp_same sL hv4, by decide +kernel⟩
      have gL : upd G4 Lm (.lst [v1, v2, v3, v4]) Lm = some (.lst [v1, v2, v3, v4]) := upd_same
      have scL := scr_ext sc2 (ext_same s2L)
      have tbL := tb2.same s2L
      generalize upd G4 Lm (.lst [v1, v2, v3, v4]) = G5 at meshes gL scL tbL ⊢
      refine ⟨Lm, rfl, ⟨_, SqL.of gL⟩, ?_⟩
      refine for_list (xs := [v1, v2, v3, v4]) (fun j σ G => ∃ o3 o4 o5 o6, σ = [some (.ref a), some (.int (0 + (i : Int))), some (.ref st), o3, o4, o5, o6] ∧ ExtN G5 G ∧ TabsG PT G)
        ⟨_, _, _, _, rfl, ExtN.refl _, tbL⟩ (fun j σ G _ h => ?_) (fun j v σ G hv h => ?_) (fun σ G h => ?_)
      · obtain ⟨_, _, _, _, _, e, _⟩ := h
        exact SqL.of (ext_lst e gL)
      · obtain ⟨o3, o4, o5, o6, rfl, e, tG⟩ := h
        obtain ⟨cs, as, hd5, nb⟩ := meshes j v hv
        have hdG := dp_ext e _ _ hd5
        have isN : netD (.tuple [.tuple cs, .tuple as]) = true := nb
        obtain ⟨cs', as', ed, _, bd, blk, dep⟩ := net_bd isN
        obtain ⟨w1, w2, w3⟩ := show12 (bd.mono (by decide) (by decide)) (by omega) (by omega)
        obtain ⟨u1, u2, u3⟩ := netT_show nb
        refine ⟨_, rfl, v, cs, as, rfl, hdG, nb, fun G6 s6 => ?_⟩
        have hd6 := dp_same s6 hdG
        have e6 := e.trans (ext_same s6)
        have t6 := tG.same s6
        refine ⟨_, rfl, v, _, rfl, hd6, w1, w2, w3, ?_⟩
        refine ⟨_, _, rfl, ?_⟩
        refine ⟨2, rfl, by decide, by decide, ?_⟩
        refine for_range (lo := 0) (n := 2) (fun l' σ G2 => ∃ o6 : Option V, σ = [some (.ref a), some (.int (0 + (i : Int))), some (.ref st), some v, some (.str (netT (cs.map pairD) as)), some (.str (PyData.tuple [.tuple cs, .tuple as]).shown), o6] ∧ ExtN G6 G2 ∧ TabsG PT G2)
          ⟨_, rfl, ExtN.refl _, t6⟩ (fun l' σ G7 hl' h => ?_) (fun σ G7 h => ?_)
        · obtain ⟨o6, rfl, e7, t7⟩ := h
          have hd7 := dp_ext e7 _ _ hd6
          refine ⟨_, rfl, v, cs, as, rfl, hd7, nb, t7, fun G8 e8 t8 => ?_⟩
          refine ⟨_, _, rfl, .str _, u1, u2, u3, _, rfl, .str (netT (cs.map pairD) as), _, rfl, .str _, u1, u2, u3, rfl, _, rfl, ?_⟩
          refine ifF (by rw [decide_eq_true rfl]; rfl) ⟨_, rfl, cs, as, rfl, nb, t8, fun v9 G9 e9 t9 hv9 => ?_⟩
          refine ⟨v9, _, rfl, hv9, w1, w2, w3, _, rfl, rfl, _, rfl, ?_⟩
          have e79 := (e7.trans e8).trans e9
          refine ifF (by rw [decide_eq_true rfl]; rfl) ⟨_, rfl, v, _, rfl, dp_ext e79 _ _ hd6, w1, w2, w3, _, rfl, rfl, _, rfl, ?_⟩
          exact ifF (by rw [decide_eq_true rfl]; rfl) ⟨_, rfl, e79, t9⟩
        · obtain ⟨o6, rfl, e7, t7⟩ := h
          have hd7 := dp_ext e7 _ _ hd6
          refine ⟨_, rfl, rfl, v, cs, as, rfl, hd7, nb, t7, fun G8 e8 t8 => ?_⟩
          refine ⟨_, _, rfl, .str _, u1, u2, u3, _, rfl, .str (netT (cs.map pairD) as), _, rfl, .str _, u1, u2, u3, rfl, _, rfl, ?_⟩
          refine ifF (by rw [decide_eq_true rfl]; rfl) ⟨_, rfl, rfl, cs, as, rfl, nb, t8, fun v9 G9 e9 t9 hv9 => ?_⟩
          refine ⟨v9, _, rfl, hv9, w1, w2, w3, _, rfl, rfl, _, rfl, ?_⟩
          exact ifF (by rw [decide_eq_true rfl]; rfl) ⟨_, _, _, _, rfl, ((e6.trans e7).trans e8).trans e9, t9⟩
      · obtain ⟨o3, o4, o5, o6, rfl, e, tG⟩ := h
        exact ⟨_, _, _, _, _, _, rfl, scr_ext scL e, tG⟩
    · obtain ⟨o1, o2, o3, o4, o5, o6, rfl, sc, tb'⟩ := h
      have b5 : Bld K (tTup (tCons (tTup tNil) (tCons (tTup (tCons (tTup (tCons (tTup (tCons (tC (.str "if")) (tCons (tC (.str "a")) (tCons (tTup tNil) (tCons (tTup (tCons (tTup (tCons (tC (.str "while")) (tCons (tC (.str "b")) (tCons (tTup tNil) tNil)))) tNil)) tNil))))) tNil)) tNil)) tNil))) mesh5 :=
        bld_tup (bldA_cons (bld_tup bldA_nil (by decide)) (bldA_cons (bld_tup (bldA_cons (bld_tup (bldA_cons (bld_tup (bldA_cons bld_str (bldA_cons bld_str (bldA_cons (bld_tup bldA_nil (by decide)) (bldA_cons (bld_tup (bldA_cons (bld_tup (bldA_cons bld_str (bldA_cons bld_str (bldA_cons (bld_tup bldA_nil (by decide)) bldA_nil))) (by decide)) bldA_nil) (by decide)) bldA_nil)))) (by decide)) bldA_nil) (by decide)) bldA_nil) (by decide)) bldA_nil)) (by decide)
      dsimp only
      refine ret_eq1 b5 fun v5 G5 s5 hv5 => ?_
      refine ⟨v5, [], _, rfl, hv5, by decide +kernel, tb'.same s5, fun G6 e6 t6 => ⟨rfl, ?_⟩⟩
      show V.bl _ = V.bl true
      congr 1
end
/-! what the top's tables hold -/
section
variable {K : PySem.W.Frag} {w : World}
/-- an entry of a table with text keys -/
def Ent (P : Params) (p : Str × Value) (e : DictEntry) : Prop := ∃ t, e = ⟨PyData.keyHash P p.1, .str p.1 t, p.2⟩
theorem ent_lit {P : Params} : ∀ {l : List (Str × Value)} {es : List DictEntry}, Paired (Ent P) l es → PySem.W.KeysLit P es
  | _, _, .nil => trivial
  | _, _, .cons h t => by
    obtain ⟨tk, rfl⟩ := h
    exact ⟨⟨_, tk, rfl, rfl⟩, ent_lit t⟩
theorem ent_find {P : Params} (z : Str) : ∀ {l : List (Str × Value)} {es : List DictEntry}, Paired (Ent P) l es → (es.find? (·.key.isStr z)).map (·.val) = l.lookup z ∧ es.any (·.refKey) = false
  | _, _, .nil => ⟨rfl, rfl⟩
  | (x, v) :: l, _, .cons h t => by
    obtain ⟨tk, rfl⟩ := h
    obtain ⟨i1, i2⟩ := ent_find z t
    refine ⟨?_, ?_⟩
    · rw [List.find?_cons, List.lookup_cons]
      have e : (Value.str x tk).isStr z = (z == x) := by
        show (x == z) = (z == x)
        rw [beq_sd, beq_sd]
        exact decide_eq_decide.mpr eq_comm
      show Option.map _ (match (Value.str x tk).isStr z with | true => some (⟨PyData.keyHash P x, .str x tk, v⟩ : DictEntry) | false => _) = _
      rw [e]
      cases z == x with
      | true => rfl
      | false => exact i1
    · rw [List.any_cons, i2]
      rfl
theorem ent_ns {d : Addr} {es : Array DictEntry} {n : Nat} {l : List (Str × Value)} (lk : K.lookup d = some ⟨.type "dict", none, .dict es n, #[]⟩) (h : Paired (Ent w.params) l es.toList) (z : Str) : PySem.W.nsIn K d z = some (l.lookup z) := by
  obtain ⟨h1, h2⟩ := ent_find z h
  unfold PySem.W.nsIn
  rw [lk]
  show (match es.toList.find? (·.key.isStr z) with | some e => some (some e.val) | none => if es.toList.any (·.refKey) = true then none else some none) = _
  cases hf : es.toList.find? (·.key.isStr z) with
  | some e =>
    rw [hf] at h1
    rw [← h1]
    rfl
  | none =>
    rw [hf] at h1
    rw [← h1, h2]
    rfl
theorem pair_look {α β γ : Type} [BEq α] [LawfulBEq α] {R : β → γ → Prop} (z : α) : ∀ {l : List (α × β)} {m : List (α × γ)}, Paired (fun p q => p.1 = q.1 ∧ R p.2 q.2) l m → (l.lookup z = none → m.lookup z = none) ∧ ∀ b, l.lookup z = some b → ∃ c, m.lookup z = some c ∧ R b c
  | _, _, .nil => ⟨fun _ => rfl, fun b h => by cases h⟩
  | (x, b) :: l, (y, c) :: m, .cons h t => by
    obtain ⟨i1, i2⟩ := pair_look z t
    obtain ⟨e, r⟩ := h
    have e : x = y := e
    subst e
    rw [List.lookup_cons, List.lookup_cons]
    cases z == x with
    | true => exact ⟨(fun q => by cases q), fun b' q => by cases q; exact ⟨c, rfl, r⟩⟩
    | false => exact ⟨i1, i2⟩
theorem deedT_of {d : Addr} {es : Array DictEntry} {n : Nat} {l : List (Str × Value)} (lk : K.lookup d = some ⟨.type "dict", none, .dict es n, #[]⟩) (low : (d == sysModules) = false) (h : Paired (Ent w.params) l es.toList) (hl : Paired (fun (p : Str × List Kd) (q : Str × Value) => p.1 = q.1 ∧ ∃ a, q.2 = .ref a ∧ SqK K a (p.2.map fun k => V.str (kdS k))) deedL l) : DeedT K w d := by
  refine ⟨⟨es, n, lk, ent_lit h, low⟩, fun z hz => ?_, fun z ks hz => ?_⟩
  · rw [ent_ns lk h, (pair_look (R := fun (p : List Kd) (q : Value) => ∃ a, q = .ref a ∧ SqK K a (p.map fun k => V.str (kdS k))) z hl).1 hz]
  · obtain ⟨c, h1, a, h2, h3⟩ := (pair_look (R := fun (p : List Kd) (q : Value) => ∃ a, q = .ref a ∧ SqK K a (p.map fun k => V.str (kdS k))) z hl).2 ks hz
    refine ⟨a, ?_, h3⟩
    rw [ent_ns lk h, h1, h2]
def brLst : List (Str × Nat) := [("if", 2), ("while", 1)]
theorem brK_look (z : Str) : brK z = brLst.lookup z := by
  unfold brK brLst
  rw [List.lookup_cons]
  by_cases e : z = "if"
  · rw [if_pos e, e]
    rfl
  · rw [if_neg e, show (z == ("if" : Str)) = false from beq_eq_false_iff_ne.mpr e]
    show _ = List.lookup z [(("while" : Str), 1)]
    rw [List.lookup_cons]
    by_cases e2 : z = "while"
    · rw [if_pos e2, e2]
      rfl
    · rw [if_neg e2, show (z == ("while" : Str)) = false from beq_eq_false_iff_ne.mpr e2]
      rfl
theorem branchT_of {d : Addr} {es : Array DictEntry} {n : Nat} {l : List (Str × Value)} (lk : K.lookup d = some ⟨.type "dict", none, .dict es n, #[]⟩) (low : (d == sysModules) = false) (h : Paired (Ent w.params) l es.toList) (hl : Paired (fun (p : Str × Nat) (q : Str × Value) => p.1 = q.1 ∧ ∃ t, q.2 = .int (p.2 : Nat) t) brLst l) : BranchT K w d := by
  refine ⟨⟨es, n, lk, ent_lit h, low⟩, fun z hz => ?_, fun z m hz => ?_⟩
  · rw [brK_look] at hz
    rw [ent_ns lk h, (pair_look (R := fun (p : Nat) (q : Value) => ∃ t, q = .int (p : Nat) t) z hl).1 hz]
  · rw [brK_look] at hz
    obtain ⟨c, h1, t, h2⟩ := (pair_look (R := fun (p : Nat) (q : Value) => ∃ t, q = .int (p : Nat) t) z hl).2 m hz
    refine ⟨t, ?_⟩
    rw [ent_ns lk h, h1, h2]
end
/-- a method of the text -/
structure MStd (K : PySem.W.Frag) (C : Addr) (m qual : Str) (st : Stmt) (ps : List Str) (f : Addr) (fd : FuncData) : Prop where
  fn : Fun K m qual st f fd
  me : Meth K C m f
  bi : Binds K fd ps []
theorem MStd.met {P : Program} {w : World} {K : PySem.W.Frag} {mg : Str → Option Value} {base : Heap} {C : Addr} {m qual : Str} {st : Stmt} {ps : List Str} {f : Addr} {fd : FuncData} {k j : Nat} {sp : Sp} (D : MStd K C m qual st ps f fd) (c : Cls K C) (F : FnOk P w K mg base CX0 k f fd ps sp) (h : k ≤ j := by omega) : MetC P w K mg base C m j ps sp :=
  ⟨f, fd, F.mono h, c, D.me, D.bi⟩
theorem MStd.mak {P : Program} {w : World} {K : PySem.W.Frag} {mg : Str → Option Value} {base : Heap} {C : Addr} {x qual : Str} {st : Stmt} {ps : List Str} {f : Addr} {fd : FuncData} {k j : Nat} {sp : Sp} (D : MStd K C "__init__" qual st ps f fd) (hm : PySem.W.makesIn K C = true) (hk : PySem.W.keepIn K (.ref C) = true) (mgC : mg x = some (.ref C)) (F : FnOk P w K mg base CX0 k f fd ps sp) (h : k ≤ j := by omega) : MakC P w K mg base x C j ps sp :=
  ⟨f, fd, F.mono h, ⟨hm, D.me.at_, D.me.fn, hk⟩, mgC, D.bi⟩
/-- a def of the text that stands under its name -/
structure Std0 (K : PySem.W.Frag) (mg : Str → Option Value) (x : Str) (st : Stmt) (f : Addr) (fd : FuncData) : Prop where
  fn : Fun K x x st f fd
  nm : mg x = some (.ref f)
structure Std (K : PySem.W.Frag) (mg : Str → Option Value) (x : Str) (st : Stmt) (ps : List Str) (f : Addr) (fd : FuncData) : Prop where
  fn : Fun K x x st f fd
  nm : mg x = some (.ref f)
  bi : Binds K fd ps []
theorem Std.cal {P : Program} {w : World} {K : PySem.W.Frag} {mg : Str → Option Value} {base : Heap} {x : Str} {st : Stmt} {ps : List Str} {f : Addr} {fd : FuncData} {k j : Nat} {sp : Sp} (D : Std K mg x st ps f fd) (F : FnOk P w K mg base CX0 k f fd ps sp) (h : k ≤ j := by omega) : Cal P w K mg base x j ps sp :=
  ⟨f, fd, F.mono h, D.nm, D.fn.kp, D.bi⟩
/-- the tables of methods' codes, from the head -/
abbrev tsM : List Addr := [322, 357]
section
open PySem.Spec PyProof.Rows LamX
theorem all_cals {P : Program} {w : World} {K : PySem.W.Frag} {mg : Str → Option Value} {base : Heap} {PA1 cA1 PA2 cA2 PA3 cA3 PA4 cA4 PA5 cA5 PA6 cA6 PA7 cA7 PA8 cA8 PM1 cM1 PM2 cM2 : Addr} {adS adU dtD dtB CBk gBk0 gBk1 gBk2 CNr gNr0 gNr1 gNr2 gNr3 gNr4 gNr5 gNr6 gNr7 gNr8 : Addr} (T : Free mg) (C : Cst mg) (e0 : mg "all" = none) (e1 : mg "str" = none) (e2 : mg "zip" = none) (e3 : mg "enumerate" = none)
    (mS : mg "SIGNS" = some (.ref adS)) (hS : SqK K adS (signs.map V.str)) (mU : mg "UNLIKE" = some (.ref adU)) (hU : SqK K adU (unlikeL.map V.str)) (mD : mg "DEEDS" = some (.ref dtD)) (hD : DeedT K w dtD) (mB : mg "BRANCHES" = some (.ref dtB)) (hB : BranchT K w dtB) (hMF : ∃ t, mg "MOST_FIGURES" = some (.int 5 t)) (hIN : ∃ t, mg "INDENT" = some (.str "  " t)) (SBk : BkC K mg CBk) (uBk : PySem.W.makesIn K CBk = true) (vBk : PySem.W.keepIn K (.ref CBk) = true) {dBk0 : FuncData} (MBk0 : MStd K CBk "__init__" "Block.__init__" sBkInit ["self", "head"] gBk0 dBk0) {dBk1 : FuncData} (MBk1 : MStd K CBk "parts" "Block.parts" sBkParts ["self"] gBk1 dBk1) {dBk2 : FuncData} (MBk2 : MStd K CBk "lacks_other" "Block.lacks_other" sBkLacksOther ["self"] gBk2 dBk2) (SNr : NrC K mg CNr) (uNr : PySem.W.makesIn K CNr = true) (vNr : PySem.W.keepIn K (.ref CNr) = true) {dNr0 : FuncData} (MNr0 : MStd K CNr "__init__" "NetRows.__init__" sNrInit ["self"] gNr0 dNr0) {dNr1 : FuncData} (MNr1 : MStd K CNr "read_row" "NetRows.read_row" sNrReadRow ["self", "row"] gNr1 dNr1) {dNr2 : FuncData} (MNr2 : MStd K CNr "read_channels" "NetRows.read_channels" sNrReadChannels ["self", "row"] gNr2 dNr2) {dNr3 : FuncData} (MNr3 : MStd K CNr "close_to" "NetRows.close_to" sNrCloseTo ["self", "level"] gNr3 dNr3) {dNr4 : FuncData} (MNr4 : MStd K CNr "end_actor" "NetRows.end_actor" sNrEndActor ["self"] gNr4 dNr4) {dNr5 : FuncData} (MNr5 : MStd K CNr "begin_actor" "NetRows.begin_actor" sNrBeginActor ["self"] gNr5 dNr5) {dNr6 : FuncData} (MNr6 : MStd K CNr "begin_other" "NetRows.begin_other" sNrBeginOther ["self", "level"] gNr6 dNr6) {dNr7 : FuncData} (MNr7 : MStd K CNr "read_statement" "NetRows.read_statement" sNrReadStatement ["self", "words", "level"] gNr7 dNr7) {dNr8 : FuncData} (MNr8 : MStd K CNr "made_net" "NetRows.made_net" sNrMadeNet ["self"] gNr8 dNr8)
    {f0 : Addr} {d0 : FuncData} (D0 : Std K mg "is_whole" sWhole ["thing"] f0 d0) {f1 : Addr} {d1 : FuncData} (D1 : Std K mg "is_within" sWithin ["thing", "least", "most"] f1 d1) {f2 : Addr} {d2 : FuncData} (D2 : Std K mg "is_tuple" sTuple ["thing", "least", "most"] f2 d2) {f3 : Addr} {d3 : FuncData} (D3 : Std K mg "is_number" sNumber ["thing"] f3 d3) {f4 : Addr} {d4 : FuncData} (D4 : Std K mg "is_place" sPlace ["thing"] f4 d4) {f5 : Addr} {d5 : FuncData} (D5 : Std K mg "are_small" sSmall ["text"] f5 d5) {f6 : Addr} {d6 : FuncData} (D6 : Std K mg "is_number_name" sNumName ["thing"] f6 d6) {f7 : Addr} {d7 : FuncData} (D7 : Std K mg "is_graph_name" sGraphName ["thing"] f7 d7) {f8 : Addr} {d8 : FuncData} (D8 : Std K mg "fits" sFits ["kind", "part", "sends", "takes"] f8 d8) {f9 : Addr} {d9 : FuncData} (D9 : Std K mg "word_of" sWordOf ["thing"] f9 d9) {f10 : Addr} {d10 : FuncData} (D10 : Std K mg "is_deed" sIsDeed ["thing", "sends", "takes"] f10 d10) {f11 : Addr} {d11 : FuncData} (D11 : Std K mg "is_branch" sIsBranch ["thing"] f11 d11) {f12 : Addr} {d12 : FuncData} (D12 : Std K mg "statement_size" sStSize ["thing", "level", "sends", "takes"] f12 d12) {f13 : Addr} {d13 : FuncData} (D13 : Std K mg "block_size" sBlSize ["thing", "level", "sends", "takes"] f13 d13) {f14 : Addr} {d14 : FuncData} (D14 : Std K mg "is_channel" sIsChan ["thing", "actors"] f14 d14) {f15 : Addr} {d15 : FuncData} (D15 : Std K mg "sends_of" sSends ["channels", "actor"] f15 d15) {f16 : Addr} {d16 : FuncData} (D16 : Std K mg "takes_of" sTakes ["channels", "actor"] f16 d16) {f17 : Addr} {d17 : FuncData} (D17 : Std K mg "is_net" sIsNet ["thing"] f17 d17) {f18 : Addr} {d18 : FuncData} (D18 : Std K mg "check_net" sCheckNet ["net"] f18 d18) {f19 : Addr} {d19 : FuncData} (D19 : Std K mg "whole_from" sWholeFrom ["word", "most"] f19 d19) {f20 : Addr} {d20 : FuncData} (D20 : Std K mg "words_text" sWordsText ["parts"] f20 d20) {f21 : Addr} {d21 : FuncData} (D21 : Std K mg "statement_rows" sStRows ["statement", "ahead"] f21 d21) {f22 : Addr} {d22 : FuncData} (D22 : Std K mg "block_rows" sBlRows ["block", "ahead"] f22 d22) {f23 : Addr} {d23 : FuncData} (D23 : Std K mg "net_text" sNetText ["net"] f23 d23) {f24 : Addr} {d24 : FuncData} (D24 : Std K mg "channel_from" sChanFrom ["word"] f24 d24) {f25 : Addr} {d25 : FuncData} (D25 : Std K mg "part_from" sPartFrom ["word"] f25 d25) {f26 : Addr} {d26 : FuncData} (D26 : Std K mg "is_head" sIsHead ["parts"] f26 d26) {f27 : Addr} {d27 : FuncData} (D27 : Std K mg "read_net" sReadNet ["text"] f27 d27) {f28 : Addr} {d28 : FuncData} (D28 : Std K mg "_law_cell_at" sCell ["_law_script", "_law_k"] f28 d28) {f29 : Addr} {d29 : FuncData} (D29 : Std K mg "_law_state" sState ["_law_script", "_law_k"] f29 d29) {f30 : Addr} {d30 : FuncData} (D30 : Std K mg "_law_choice" sChoice ["_law_state_here", "_law_many_here"] f30 d30) {f31 : Addr} {d31 : FuncData} (D31 : Std K mg "_law_many" sMany ["_law_block_here"] f31 d31) {f32 : Addr} {d32 : FuncData} (D32 : Std K mg "_law_simple" sSimple ["_law_state_here", "_law_sends", "_law_takes"] f32 d32) {f33 : Addr} {d33 : FuncData} (D33 : Std K mg "_law_block" sBlock ["_law_state_here", "_law_sends", "_law_takes", "_law_deep", "_law_most"] f33 d33) {f34 : Addr} {d34 : FuncData} (D34 : Std K mg "_law_ends" sEnds ["_law_channels", "_law_actor", "_law_side"] f34 d34) {f35 : Addr} {d35 : FuncData} (D35 : Std K mg "_law_net" sNet ["_law_state_here", "_law_most", "_law_long"] f35 d35) {f36 : Addr} {d36 : FuncData} (D36 : Std K mg "_law_rows" sLRows ["_law_block_here", "_law_ahead"] f36 d36) {f37 : Addr} {d37 : FuncData} (D37 : Std K mg "_law_written" sLWritten ["_law_mesh"] f37 d37)
    (cdA1 : d5.code = .ref cA1) (TA1 : LamX.TabB base mg cA1 PA1) (cdA2 : d10.code = .ref cA2) (TA2 : LamX.TabB base mg cA2 PA2) (cdA3 : d14.code = .ref cA3) (TA3 : LamX.TabB base mg cA3 PA3) (cdA4 : d15.code = .ref cA4) (TA4 : LamX.TabB base mg cA4 PA4) (cdA5 : d16.code = .ref cA5) (TA5 : LamX.TabB base mg cA5 PA5) (cdA6 : d17.code = .ref cA6) (TA6 : LamX.TabB base mg cA6 PA6) (cdA7 : d19.code = .ref cA7) (TA7 : LamX.TabB base mg cA7 PA7) (cdA8 : d24.code = .ref cA8) (TA8 : LamX.TabB base mg cA8 PA8) (cdM1 : dNr2.code = .ref cM1) (TM1 : LamX.TabB base mg cM1 PM1) (cdM2 : dNr7.code = .ref cM2) (TM2 : LamX.TabB base mg cM2 PM2) : Law67 P w K mg base [PA1, PA2, PA3, PA4, PA5, PA6, PA7, PA8, PM1, PM2] 24 := by
  have mA1 : PA1 ∈ [PA1, PA2, PA3, PA4, PA5, PA6, PA7, PA8, PM1, PM2] := List.mem_cons_self
  have mA2 : PA2 ∈ [PA1, PA2, PA3, PA4, PA5, PA6, PA7, PA8, PM1, PM2] := (List.mem_cons_of_mem _ List.mem_cons_self)
  have mA3 : PA3 ∈ [PA1, PA2, PA3, PA4, PA5, PA6, PA7, PA8, PM1, PM2] := (List.mem_cons_of_mem _ (List.mem_cons_of_mem _ List.mem_cons_self))
  have mA4 : PA4 ∈ [PA1, PA2, PA3, PA4, PA5, PA6, PA7, PA8, PM1, PM2] := (List.mem_cons_of_mem _ (List.mem_cons_of_mem _ (List.mem_cons_of_mem _ List.mem_cons_self)))
  have mA5 : PA5 ∈ [PA1, PA2, PA3, PA4, PA5, PA6, PA7, PA8, PM1, PM2] := (List.mem_cons_of_mem _ (List.mem_cons_of_mem _ (List.mem_cons_of_mem _ (List.mem_cons_of_mem _ List.mem_cons_self))))
  have mA6 : PA6 ∈ [PA1, PA2, PA3, PA4, PA5, PA6, PA7, PA8, PM1, PM2] := (List.mem_cons_of_mem _ (List.mem_cons_of_mem _ (List.mem_cons_of_mem _ (List.mem_cons_of_mem _ (List.mem_cons_of_mem _ List.mem_cons_self)))))
  have mA7 : PA7 ∈ [PA1, PA2, PA3, PA4, PA5, PA6, PA7, PA8, PM1, PM2] := (List.mem_cons_of_mem _ (List.mem_cons_of_mem _ (List.mem_cons_of_mem _ (List.mem_cons_of_mem _ (List.mem_cons_of_mem _ (List.mem_cons_of_mem _ List.mem_cons_self))))))
  have mA8 : PA8 ∈ [PA1, PA2, PA3, PA4, PA5, PA6, PA7, PA8, PM1, PM2] := (List.mem_cons_of_mem _ (List.mem_cons_of_mem _ (List.mem_cons_of_mem _ (List.mem_cons_of_mem _ (List.mem_cons_of_mem _ (List.mem_cons_of_mem _ (List.mem_cons_of_mem _ List.mem_cons_self)))))))
  have mM1 : PM1 ∈ [PA1, PA2, PA3, PA4, PA5, PA6, PA7, PA8, PM1, PM2] := (List.mem_cons_of_mem _ (List.mem_cons_of_mem _ (List.mem_cons_of_mem _ (List.mem_cons_of_mem _ (List.mem_cons_of_mem _ (List.mem_cons_of_mem _ (List.mem_cons_of_mem _ (List.mem_cons_of_mem _ List.mem_cons_self))))))))
  have mM2 : PM2 ∈ [PA1, PA2, PA3, PA4, PA5, PA6, PA7, PA8, PM1, PM2] := (List.mem_cons_of_mem _ (List.mem_cons_of_mem _ (List.mem_cons_of_mem _ (List.mem_cons_of_mem _ (List.mem_cons_of_mem _ (List.mem_cons_of_mem _ (List.mem_cons_of_mem _ (List.mem_cons_of_mem _ (List.mem_cons_of_mem _ List.mem_cons_self)))))))))
  have cW := D0.cal (j := 1) (ok_whole (P := P) (w := w) (base := base) (k := 0) D0.fn T)
  have cWi := D1.cal (j := 2) (ok_within D1.fn cW)
  have cTu := D2.cal (j := 1) (ok_tuple (P := P) (w := w) (base := base) (k := 0) D2.fn T)
  have cNu := D3.cal (j := 3) (ok_number D3.fn C cWi)
  have cPl := D4.cal (j := 3) (ok_placeD D4.fn C cWi)
  have cSm := D5.cal (j := 2) (ok_small (P := P) (w := w) (base := base) (k := 0) (PT := [PA1, PA2, PA3, PA4, PA5, PA6, PA7, PA8, PM1, PM2]) D5.fn cdA1 TA1 mA1 e0)
  have cNN := D6.cal (j := 3) (ok_numName D6.fn T e1 C cSm)
  have cGN := D7.cal (j := 3) (ok_graphName D7.fn T e1 C cSm)
  have cFi := D8.cal (j := 4) (ok_fits (k := 3) D8.fn mS hS cNN cGN cNu cPl (cW.mono (by omega)))
  have cWo := D9.cal (j := 1) (ok_wordOf (P := P) (w := w) (base := base) (k := 0) D9.fn T e1)
  have cDe := D10.cal (j := 6) (ok_isDeed (k := 4) D10.fn cdA2 TA2 mA2 T e0 e2 mD hD mU hU (cWo.mono (by omega)) cFi)
  have cBr := D11.cal (j := 4) (ok_isBranch (k := 3) D11.fn T mB hB (cWo.mono (by omega)) cNN)
  have cBl := D13.cal (j := 15) (all_blk (k := 6) (PT := [PA1, PA2, PA3, PA4, PA5, PA6, PA7, PA8, PM1, PM2]) D13.fn D12.fn D13.nm D12.nm D13.bi D12.bi C (cTu.mono (by omega)) cDe (cBr.mono (by omega)) 4 (by omega))
  have cCn := D14.cal (j := 4) (ok_isChan (k := 2) (PT := [PA1, PA2, PA3, PA4, PA5, PA6, PA7, PA8, PM1, PM2]) D14.fn cdA3 TA3 mA3 e0 (cTu.mono (by omega)) cWi)
  have cSd := D15.cal (j := 2) (ok_sSends (P := P) (w := w) (base := base) (k := 0) (PT := [PA1, PA2, PA3, PA4, PA5, PA6, PA7, PA8, PM1, PM2]) D15.fn cdA4 TA4 mA4 T)
  have cTk := D16.cal (j := 2) (ok_sTakes (P := P) (w := w) (base := base) (k := 0) (PT := [PA1, PA2, PA3, PA4, PA5, PA6, PA7, PA8, PM1, PM2]) D16.fn cdA5 TA5 mA5 T)
  have cIn := D17.cal (j := 17) (ok_isNet (k := 15) D17.fn cdA6 TA6 mA6 T C e0 e3 (cTu.mono (by omega)) (cCn.mono (by omega)) (cSd.mono (by omega)) (cTk.mono (by omega)) cBl)
  have cCk := D18.cal (j := 18) (ok_checkNet (k := 17) D18.fn cIn)
  have cCh := D30.cal (j := 1) (ok_choice (P := P) (w := w) (base := base) (mg := mg) (k := 0) D30.fn)
  have cCe := D28.cal (j := 1) (ok_cell (P := P) (w := w) (base := base) (k := 0) D28.fn T)
  have cMa : ∀ n, n ≤ 4 → Cal P w K mg base "_law_many" 4 ["_law_block_here"] (spMany K n) := fun n hn => D31.cal (j := 4) (all_many (P := P) (w := w) (base := base) (k := 0) D31.fn D31.nm D31.bi T n)
  have cSi := D32.cal (j := 2) (ok_simple (k := 1) D32.fn T cCh)
  have cLb := D33.cal (j := 6) (all_block (k := 2) D33.fn D33.nm D33.bi T (cCh.mono (by omega)) cSi 3 (by omega))
  have cEn := D34.cal (j := 1) (ok_ends (P := P) (w := w) (base := base) (k := 0) D34.fn e3)
  have cWf := D19.cal (j := 2) (ok_wholeFrom (P := P) (w := w) (base := base) (k := 0) (PT := [PA1, PA2, PA3, PA4, PA5, PA6, PA7, PA8, PM1, PM2]) D19.fn cdA7 TA7 mA7 T e0 e1)
  have cPf := D25.cal (j := 3) (ok_partF (k := 2) D25.fn hMF cWf)
  have cWT := D20.cal (j := 1) (ok_wordsT (P := P) (w := w) (base := base) (k := 0) D20.fn e1)
  have cWL := D20.cal (j := 1) (ok_wordsL (P := P) (w := w) (base := base) (k := 0) D20.fn e1)
  have cBR := D22.cal (j := 9) (all_blR (k := 1) D22.fn D21.fn D22.nm D21.nm D22.bi D21.bi mB hB hIN cWT 4)
  have oNT := ok_netT (k := 18) (PT := [PA1, PA2, PA3, PA4, PA5, PA6, PA7, PA8, PM1, PM2]) D23.fn cCk (cWL.mono (by omega)) (cBR.mono (by omega))
  have cHd := D26.cal (j := 4) (ok_isHead (k := 3) D26.fn mB hB (cTu.mono (by omega)) cNN)
  have cCf := D24.cal (j := 5) (ok_chanF (k := 3) D24.fn cdA8 TA8 mA8 T.tuple C.mostActors (cWf.mono (by omega)) cCn)
  have cPa := MBk1.met SBk.cl (j := 1) (ok_parts (P := P) (w := w) (base := base) (k := 0) MBk1.fn SBk T.tuple)
  have cLk := MBk2.met SBk.cl (j := 1) (ok_lacks (P := P) (w := w) (base := base) (k := 0) MBk2.fn SBk T.len)
  have cMB : ∀ j, 1 ≤ j → MakC P w K mg base "Block" CBk j ["self", "head"] (spBkInit CBk) := fun j hj => MBk0.mak uBk vBk SBk.mgC (j := j) (ok_bkInit (P := P) (w := w) (base := base) (k := 0) MBk0.fn SBk) (by omega)
  have cMN : MakC P w K mg base "NetRows" CNr 16 ["self"] (spNrInit CNr) := MNr0.mak uNr vNr SNr.mgC (ok_nrInit (P := P) (w := w) (base := base) (k := 0) MNr0.fn SNr)
  have cCl := MNr3.met SNr.cl (j := 2) (ok_close (k := 1) (PT := [PA1, PA2, PA3, PA4, PA5, PA6, PA7, PA8, PM1, PM2]) MNr3.fn SNr SBk T.len cLk cPa)
  have cEn2 := MNr4.met SNr.cl (j := 3) (ok_endA (k := 2) (PT := [PA1, PA2, PA3, PA4, PA5, PA6, PA7, PA8, PM1, PM2]) MNr4.fn SNr SBk T.tuple cCl)
  have cBA := MNr5.met SNr.cl (j := 4) (ok_begA (k := 2) (PT := [PA1, PA2, PA3, PA4, PA5, PA6, PA7, PA8, PM1, PM2]) MNr5.fn SNr SBk T.len C.mostActors C.mostStatements cEn2 (cMB 2 (by omega)))
  have cBO := MNr6.met SNr.cl (j := 3) (ok_begO (k := 1) (PT := [PA1, PA2, PA3, PA4, PA5, PA6, PA7, PA8, PM1, PM2]) MNr6.fn SNr T.len cCl (cLk.mono (by omega)) (cPa.mono (by omega)) (cMB 1 (by omega)))
  have cRS := MNr7.met SNr.cl (j := 7) (ok_rdS (k := 5) (PT := [PA1, PA2, PA3, PA4, PA5, PA6, PA7, PA8, PM1, PM2]) MNr7.fn cdM2 TM2 mM2 SNr SBk T.len T.tuple C.mostInBlock C.mostWithin (cCl.mono (by omega)) (cPf.mono (by omega)) cDe (cSd.mono (by omega)) (cTk.mono (by omega)) (cHd.mono (by omega)) (cMB 5 (by omega)))
  have cRC := MNr2.met SNr.cl (j := 7) (ok_rdCh (CB := CBk) (k := 5) (PT := [PA1, PA2, PA3, PA4, PA5, PA6, PA7, PA8, PM1, PM2]) MNr2.fn cdM1 TM1 mM1 SNr T.len T.tuple C.mostChannels cCf)
  have cRR := MNr1.met SNr.cl (j := 8) (ok_rdRow (k := 7) MNr1.fn SNr T.len hIN cRC (cBA.mono (by omega)) (cBO.mono (by omega)) cRS)
  have cMd := MNr8.met SNr.cl (j := 4) (ok_made (k := 3) MNr8.fn SNr T.tuple cEn2)
  have oRN := ok_readN (k := 16) D27.fn T e1 e3 cMN (cRR.mono (by omega)) (cMd.mono (by omega)) cIn
  have cLr := D36.cal (j := 5) (all_lrw (P := P) (w := w) (base := base) (k := 1) D36.fn D36.nm D36.bi e1 e3 4)
  exact {
    cSt := D29.cal (ok_state D29.fn T cCe)
    cN := D35.cal (ok_net (k := 6) D35.fn T (cCh.mono (by omega)) (cEn.mono (by omega)) cLb ((cMa 4 (by omega)).mono (by omega)))
    cT := D37.cal (ok_lwr (k := 5) D37.fn e1 cLr)
    cG := D23.cal oNT
    kG := ⟨_, _, oNT.mono (by omega), D23.nm, D23.fn.kp, kb_netT D23.fn⟩
    cR := D27.cal oRN
    kR := ⟨_, _, oRN.mono (by omega), D27.nm, D27.fn.kp, kb_readN D27.fn⟩ }
/-- a def with its code's table -/
def Coded (K : PySem.W.Frag) (mg : Str → Option Value) (x : Str) (st : Stmt) (c Pt : Addr) : Prop := ∃ (f : Addr) (fd : FuncData) (oT : Obj) (vT : Array Value), mg x = some (.ref f) ∧ Fun K x x st f fd ∧ fd.code = .ref c ∧ K.lookup c = some oT ∧ oT.data = .fields vT ∧ vT[11]? = some (.ref Pt) ∧ K.lookup Pt = none
/-- a method with its code's table -/
def MCoded (K : PySem.W.Frag) (c Pt : Addr) : Prop := K.lookup Pt = none ∧ Pt ∈ tsM ∧ PySem.W.codeHdIn K c Pt = true
/-- what the top leaves -/
def Left67 (K : PySem.W.Frag) (w : World) (mg : Str → Option Value) (fa : Addr) : Prop := ∃ (fd : FuncData) (cA1 PA1 cA2 PA2 cA3 PA3 cA4 PA4 cA5 PA5 cA6 PA6 cA7 PA7 cA8 PA8 cM1 PM1 cM2 PM2 : Addr), Fun K "law" "law" sLaw fa fd ∧ (∀ (s : Shared) (v : Value), BindsTo s fd ⟨[v], []⟩ [("_law_script", v)]) ∧ Free mg ∧ mg "all" = none ∧ mg "str" = none ∧ mg "zip" = none ∧ mg "enumerate" = none ∧ 
  Coded K mg "are_small" sSmall cA1 PA1 ∧ Coded K mg "is_deed" sIsDeed cA2 PA2 ∧ Coded K mg "is_channel" sIsChan cA3 PA3 ∧ Coded K mg "sends_of" sSends cA4 PA4 ∧ Coded K mg "takes_of" sTakes cA5 PA5 ∧ Coded K mg "is_net" sIsNet cA6 PA6 ∧ Coded K mg "whole_from" sWholeFrom cA7 PA7 ∧ Coded K mg "channel_from" sChanFrom cA8 PA8 ∧ MCoded K cM1 PM1 ∧ MCoded K cM2 PM2 ∧
  ∀ (P : Program) (base : Heap), LamX.TabB base mg cA1 PA1 → LamX.TabB base mg cA2 PA2 → LamX.TabB base mg cA3 PA3 → LamX.TabB base mg cA4 PA4 → LamX.TabB base mg cA5 PA5 → LamX.TabB base mg cA6 PA6 → LamX.TabB base mg cA7 PA7 → LamX.TabB base mg cA8 PA8 → LamX.TabB base mg cM1 PM1 → LamX.TabB base mg cM2 PM2 → Law67 P w K mg base [PA1, PA2, PA3, PA4, PA5, PA6, PA7, PA8, PM1, PM2] 24
set_option maxHeartbeats 8000000 in
theorem all_mk {K : PySem.W.Frag} {w : World} {h : Heap} {mg : Str → Option Value} {fa : Addr} (X : K.In h) (G : h.Ns mainGlobals mg) (hfa : mg "law" = some (.ref fa))
    {f0 : Addr} {od0 an0 : Option Addr} {sl0 : Array (Option Value)} {oc0 kV0 dc0 pm0 ct0 : Value} {cd0 : Value}
    (a0 : PySem.W.nsIn K mainGlobals "is_whole" = some (some (.ref f0))) (l0 : K.lookup f0 = some ⟨oc0, od0, .func (PySem.W.fnOf "is_whole" "is_whole" (defArgs sWhole) (defBody sWhole) (defScope sWhole) .none kV0 dc0 pm0 an0 cd0 ct0), sl0⟩) (c0 : PySem.W.codeIn K cd0 "is_whole" = true) (k0 : PySem.W.keepIn K (.ref f0) = true)
    {f1 : Addr} {od1 an1 : Option Addr} {sl1 : Array (Option Value)} {oc1 kV1 dc1 pm1 ct1 : Value} {cd1 : Value}
    (a1 : PySem.W.nsIn K mainGlobals "is_within" = some (some (.ref f1))) (l1 : K.lookup f1 = some ⟨oc1, od1, .func (PySem.W.fnOf "is_within" "is_within" (defArgs sWithin) (defBody sWithin) (defScope sWithin) .none kV1 dc1 pm1 an1 cd1 ct1), sl1⟩) (c1 : PySem.W.codeIn K cd1 "is_within" = true) (k1 : PySem.W.keepIn K (.ref f1) = true)
    {f2 : Addr} {od2 an2 : Option Addr} {sl2 : Array (Option Value)} {oc2 kV2 dc2 pm2 ct2 : Value} {cd2 : Value}
    (a2 : PySem.W.nsIn K mainGlobals "is_tuple" = some (some (.ref f2))) (l2 : K.lookup f2 = some ⟨oc2, od2, .func (PySem.W.fnOf "is_tuple" "is_tuple" (defArgs sTuple) (defBody sTuple) (defScope sTuple) .none kV2 dc2 pm2 an2 cd2 ct2), sl2⟩) (c2 : PySem.W.codeIn K cd2 "is_tuple" = true) (k2 : PySem.W.keepIn K (.ref f2) = true)
    {f3 : Addr} {od3 an3 : Option Addr} {sl3 : Array (Option Value)} {oc3 kV3 dc3 pm3 ct3 : Value} {cd3 : Value}
    (a3 : PySem.W.nsIn K mainGlobals "is_number" = some (some (.ref f3))) (l3 : K.lookup f3 = some ⟨oc3, od3, .func (PySem.W.fnOf "is_number" "is_number" (defArgs sNumber) (defBody sNumber) (defScope sNumber) .none kV3 dc3 pm3 an3 cd3 ct3), sl3⟩) (c3 : PySem.W.codeIn K cd3 "is_number" = true) (k3 : PySem.W.keepIn K (.ref f3) = true)
    {f4 : Addr} {od4 an4 : Option Addr} {sl4 : Array (Option Value)} {oc4 kV4 dc4 pm4 ct4 : Value} {cd4 : Value}
    (a4 : PySem.W.nsIn K mainGlobals "is_place" = some (some (.ref f4))) (l4 : K.lookup f4 = some ⟨oc4, od4, .func (PySem.W.fnOf "is_place" "is_place" (defArgs sPlace) (defBody sPlace) (defScope sPlace) .none kV4 dc4 pm4 an4 cd4 ct4), sl4⟩) (c4 : PySem.W.codeIn K cd4 "is_place" = true) (k4 : PySem.W.keepIn K (.ref f4) = true)
    {f5 : Addr} {od5 an5 : Option Addr} {sl5 : Array (Option Value)} {oc5 kV5 dc5 pm5 ct5 : Value} {cc5 : Addr}
    (a5 : PySem.W.nsIn K mainGlobals "are_small" = some (some (.ref f5))) (l5 : K.lookup f5 = some ⟨oc5, od5, .func (PySem.W.fnOf "are_small" "are_small" (defArgs sSmall) (defBody sSmall) (defScope sSmall) .none kV5 dc5 pm5 an5 (.ref cc5) ct5), sl5⟩) (c5 : PySem.W.codeIn K (.ref cc5) "are_small" = true) (k5 : PySem.W.keepIn K (.ref f5) = true)
    {f6 : Addr} {od6 an6 : Option Addr} {sl6 : Array (Option Value)} {oc6 kV6 dc6 pm6 ct6 : Value} {cd6 : Value}
    (a6 : PySem.W.nsIn K mainGlobals "is_number_name" = some (some (.ref f6))) (l6 : K.lookup f6 = some ⟨oc6, od6, .func (PySem.W.fnOf "is_number_name" "is_number_name" (defArgs sNumName) (defBody sNumName) (defScope sNumName) .none kV6 dc6 pm6 an6 cd6 ct6), sl6⟩) (c6 : PySem.W.codeIn K cd6 "is_number_name" = true) (k6 : PySem.W.keepIn K (.ref f6) = true)
    {f7 : Addr} {od7 an7 : Option Addr} {sl7 : Array (Option Value)} {oc7 kV7 dc7 pm7 ct7 : Value} {cd7 : Value}
    (a7 : PySem.W.nsIn K mainGlobals "is_graph_name" = some (some (.ref f7))) (l7 : K.lookup f7 = some ⟨oc7, od7, .func (PySem.W.fnOf "is_graph_name" "is_graph_name" (defArgs sGraphName) (defBody sGraphName) (defScope sGraphName) .none kV7 dc7 pm7 an7 cd7 ct7), sl7⟩) (c7 : PySem.W.codeIn K cd7 "is_graph_name" = true) (k7 : PySem.W.keepIn K (.ref f7) = true)
    {f8 : Addr} {od8 an8 : Option Addr} {sl8 : Array (Option Value)} {oc8 kV8 dc8 pm8 ct8 : Value} {cd8 : Value}
    (a8 : PySem.W.nsIn K mainGlobals "fits" = some (some (.ref f8))) (l8 : K.lookup f8 = some ⟨oc8, od8, .func (PySem.W.fnOf "fits" "fits" (defArgs sFits) (defBody sFits) (defScope sFits) .none kV8 dc8 pm8 an8 cd8 ct8), sl8⟩) (c8 : PySem.W.codeIn K cd8 "fits" = true) (k8 : PySem.W.keepIn K (.ref f8) = true)
    {f9 : Addr} {od9 an9 : Option Addr} {sl9 : Array (Option Value)} {oc9 kV9 dc9 pm9 ct9 : Value} {cd9 : Value}
    (a9 : PySem.W.nsIn K mainGlobals "word_of" = some (some (.ref f9))) (l9 : K.lookup f9 = some ⟨oc9, od9, .func (PySem.W.fnOf "word_of" "word_of" (defArgs sWordOf) (defBody sWordOf) (defScope sWordOf) .none kV9 dc9 pm9 an9 cd9 ct9), sl9⟩) (c9 : PySem.W.codeIn K cd9 "word_of" = true) (k9 : PySem.W.keepIn K (.ref f9) = true)
    {f10 : Addr} {od10 an10 : Option Addr} {sl10 : Array (Option Value)} {oc10 kV10 dc10 pm10 ct10 : Value} {cc10 : Addr}
    (a10 : PySem.W.nsIn K mainGlobals "is_deed" = some (some (.ref f10))) (l10 : K.lookup f10 = some ⟨oc10, od10, .func (PySem.W.fnOf "is_deed" "is_deed" (defArgs sIsDeed) (defBody sIsDeed) (defScope sIsDeed) .none kV10 dc10 pm10 an10 (.ref cc10) ct10), sl10⟩) (c10 : PySem.W.codeIn K (.ref cc10) "is_deed" = true) (k10 : PySem.W.keepIn K (.ref f10) = true)
    {f11 : Addr} {od11 an11 : Option Addr} {sl11 : Array (Option Value)} {oc11 kV11 dc11 pm11 ct11 : Value} {cd11 : Value}
    (a11 : PySem.W.nsIn K mainGlobals "is_branch" = some (some (.ref f11))) (l11 : K.lookup f11 = some ⟨oc11, od11, .func (PySem.W.fnOf "is_branch" "is_branch" (defArgs sIsBranch) (defBody sIsBranch) (defScope sIsBranch) .none kV11 dc11 pm11 an11 cd11 ct11), sl11⟩) (c11 : PySem.W.codeIn K cd11 "is_branch" = true) (k11 : PySem.W.keepIn K (.ref f11) = true)
    {f12 : Addr} {od12 an12 : Option Addr} {sl12 : Array (Option Value)} {oc12 kV12 dc12 pm12 ct12 : Value} {cd12 : Value}
    (a12 : PySem.W.nsIn K mainGlobals "statement_size" = some (some (.ref f12))) (l12 : K.lookup f12 = some ⟨oc12, od12, .func (PySem.W.fnOf "statement_size" "statement_size" (defArgs sStSize) (defBody sStSize) (defScope sStSize) .none kV12 dc12 pm12 an12 cd12 ct12), sl12⟩) (c12 : PySem.W.codeIn K cd12 "statement_size" = true) (k12 : PySem.W.keepIn K (.ref f12) = true)
    {f13 : Addr} {od13 an13 : Option Addr} {sl13 : Array (Option Value)} {oc13 kV13 dc13 pm13 ct13 : Value} {cd13 : Value}
    (a13 : PySem.W.nsIn K mainGlobals "block_size" = some (some (.ref f13))) (l13 : K.lookup f13 = some ⟨oc13, od13, .func (PySem.W.fnOf "block_size" "block_size" (defArgs sBlSize) (defBody sBlSize) (defScope sBlSize) .none kV13 dc13 pm13 an13 cd13 ct13), sl13⟩) (c13 : PySem.W.codeIn K cd13 "block_size" = true) (k13 : PySem.W.keepIn K (.ref f13) = true)
    {f14 : Addr} {od14 an14 : Option Addr} {sl14 : Array (Option Value)} {oc14 kV14 dc14 pm14 ct14 : Value} {cc14 : Addr}
    (a14 : PySem.W.nsIn K mainGlobals "is_channel" = some (some (.ref f14))) (l14 : K.lookup f14 = some ⟨oc14, od14, .func (PySem.W.fnOf "is_channel" "is_channel" (defArgs sIsChan) (defBody sIsChan) (defScope sIsChan) .none kV14 dc14 pm14 an14 (.ref cc14) ct14), sl14⟩) (c14 : PySem.W.codeIn K (.ref cc14) "is_channel" = true) (k14 : PySem.W.keepIn K (.ref f14) = true)
    {f15 : Addr} {od15 an15 : Option Addr} {sl15 : Array (Option Value)} {oc15 kV15 dc15 pm15 ct15 : Value} {cc15 : Addr}
    (a15 : PySem.W.nsIn K mainGlobals "sends_of" = some (some (.ref f15))) (l15 : K.lookup f15 = some ⟨oc15, od15, .func (PySem.W.fnOf "sends_of" "sends_of" (defArgs sSends) (defBody sSends) (defScope sSends) .none kV15 dc15 pm15 an15 (.ref cc15) ct15), sl15⟩) (c15 : PySem.W.codeIn K (.ref cc15) "sends_of" = true) (k15 : PySem.W.keepIn K (.ref f15) = true)
    {f16 : Addr} {od16 an16 : Option Addr} {sl16 : Array (Option Value)} {oc16 kV16 dc16 pm16 ct16 : Value} {cc16 : Addr}
    (a16 : PySem.W.nsIn K mainGlobals "takes_of" = some (some (.ref f16))) (l16 : K.lookup f16 = some ⟨oc16, od16, .func (PySem.W.fnOf "takes_of" "takes_of" (defArgs sTakes) (defBody sTakes) (defScope sTakes) .none kV16 dc16 pm16 an16 (.ref cc16) ct16), sl16⟩) (c16 : PySem.W.codeIn K (.ref cc16) "takes_of" = true) (k16 : PySem.W.keepIn K (.ref f16) = true)
    {f17 : Addr} {od17 an17 : Option Addr} {sl17 : Array (Option Value)} {oc17 kV17 dc17 pm17 ct17 : Value} {cc17 : Addr}
    (a17 : PySem.W.nsIn K mainGlobals "is_net" = some (some (.ref f17))) (l17 : K.lookup f17 = some ⟨oc17, od17, .func (PySem.W.fnOf "is_net" "is_net" (defArgs sIsNet) (defBody sIsNet) (defScope sIsNet) .none kV17 dc17 pm17 an17 (.ref cc17) ct17), sl17⟩) (c17 : PySem.W.codeIn K (.ref cc17) "is_net" = true) (k17 : PySem.W.keepIn K (.ref f17) = true)
    {f18 : Addr} {od18 an18 : Option Addr} {sl18 : Array (Option Value)} {oc18 kV18 dc18 pm18 ct18 : Value} {cd18 : Value}
    (a18 : PySem.W.nsIn K mainGlobals "check_net" = some (some (.ref f18))) (l18 : K.lookup f18 = some ⟨oc18, od18, .func (PySem.W.fnOf "check_net" "check_net" (defArgs sCheckNet) (defBody sCheckNet) (defScope sCheckNet) .none kV18 dc18 pm18 an18 cd18 ct18), sl18⟩) (c18 : PySem.W.codeIn K cd18 "check_net" = true) (k18 : PySem.W.keepIn K (.ref f18) = true)
    {f19 : Addr} {od19 an19 : Option Addr} {sl19 : Array (Option Value)} {oc19 kV19 dc19 pm19 ct19 : Value} {cc19 : Addr}
    (a19 : PySem.W.nsIn K mainGlobals "whole_from" = some (some (.ref f19))) (l19 : K.lookup f19 = some ⟨oc19, od19, .func (PySem.W.fnOf "whole_from" "whole_from" (defArgs sWholeFrom) (defBody sWholeFrom) (defScope sWholeFrom) .none kV19 dc19 pm19 an19 (.ref cc19) ct19), sl19⟩) (c19 : PySem.W.codeIn K (.ref cc19) "whole_from" = true) (k19 : PySem.W.keepIn K (.ref f19) = true)
    {f20 : Addr} {od20 an20 : Option Addr} {sl20 : Array (Option Value)} {oc20 kV20 dc20 pm20 ct20 : Value} {cd20 : Value}
    (a20 : PySem.W.nsIn K mainGlobals "words_text" = some (some (.ref f20))) (l20 : K.lookup f20 = some ⟨oc20, od20, .func (PySem.W.fnOf "words_text" "words_text" (defArgs sWordsText) (defBody sWordsText) (defScope sWordsText) .none kV20 dc20 pm20 an20 cd20 ct20), sl20⟩) (c20 : PySem.W.codeIn K cd20 "words_text" = true) (k20 : PySem.W.keepIn K (.ref f20) = true)
    {f21 : Addr} {od21 an21 : Option Addr} {sl21 : Array (Option Value)} {oc21 kV21 dc21 pm21 ct21 : Value} {cd21 : Value}
    (a21 : PySem.W.nsIn K mainGlobals "statement_rows" = some (some (.ref f21))) (l21 : K.lookup f21 = some ⟨oc21, od21, .func (PySem.W.fnOf "statement_rows" "statement_rows" (defArgs sStRows) (defBody sStRows) (defScope sStRows) .none kV21 dc21 pm21 an21 cd21 ct21), sl21⟩) (c21 : PySem.W.codeIn K cd21 "statement_rows" = true) (k21 : PySem.W.keepIn K (.ref f21) = true)
    {f22 : Addr} {od22 an22 : Option Addr} {sl22 : Array (Option Value)} {oc22 kV22 dc22 pm22 ct22 : Value} {cd22 : Value}
    (a22 : PySem.W.nsIn K mainGlobals "block_rows" = some (some (.ref f22))) (l22 : K.lookup f22 = some ⟨oc22, od22, .func (PySem.W.fnOf "block_rows" "block_rows" (defArgs sBlRows) (defBody sBlRows) (defScope sBlRows) .none kV22 dc22 pm22 an22 cd22 ct22), sl22⟩) (c22 : PySem.W.codeIn K cd22 "block_rows" = true) (k22 : PySem.W.keepIn K (.ref f22) = true)
    {f23 : Addr} {od23 an23 : Option Addr} {sl23 : Array (Option Value)} {oc23 kV23 dc23 pm23 ct23 : Value} {cd23 : Value}
    (a23 : PySem.W.nsIn K mainGlobals "net_text" = some (some (.ref f23))) (l23 : K.lookup f23 = some ⟨oc23, od23, .func (PySem.W.fnOf "net_text" "net_text" (defArgs sNetText) (defBody sNetText) (defScope sNetText) .none kV23 dc23 pm23 an23 cd23 ct23), sl23⟩) (c23 : PySem.W.codeIn K cd23 "net_text" = true) (k23 : PySem.W.keepIn K (.ref f23) = true)
    {f24 : Addr} {od24 an24 : Option Addr} {sl24 : Array (Option Value)} {oc24 kV24 dc24 pm24 ct24 : Value} {cc24 : Addr}
    (a24 : PySem.W.nsIn K mainGlobals "channel_from" = some (some (.ref f24))) (l24 : K.lookup f24 = some ⟨oc24, od24, .func (PySem.W.fnOf "channel_from" "channel_from" (defArgs sChanFrom) (defBody sChanFrom) (defScope sChanFrom) .none kV24 dc24 pm24 an24 (.ref cc24) ct24), sl24⟩) (c24 : PySem.W.codeIn K (.ref cc24) "channel_from" = true) (k24 : PySem.W.keepIn K (.ref f24) = true)
    {f25 : Addr} {od25 an25 : Option Addr} {sl25 : Array (Option Value)} {oc25 kV25 dc25 pm25 ct25 : Value} {cd25 : Value}
    (a25 : PySem.W.nsIn K mainGlobals "part_from" = some (some (.ref f25))) (l25 : K.lookup f25 = some ⟨oc25, od25, .func (PySem.W.fnOf "part_from" "part_from" (defArgs sPartFrom) (defBody sPartFrom) (defScope sPartFrom) .none kV25 dc25 pm25 an25 cd25 ct25), sl25⟩) (c25 : PySem.W.codeIn K cd25 "part_from" = true) (k25 : PySem.W.keepIn K (.ref f25) = true)
    {f26 : Addr} {od26 an26 : Option Addr} {sl26 : Array (Option Value)} {oc26 kV26 dc26 pm26 ct26 : Value} {cd26 : Value}
    (a26 : PySem.W.nsIn K mainGlobals "is_head" = some (some (.ref f26))) (l26 : K.lookup f26 = some ⟨oc26, od26, .func (PySem.W.fnOf "is_head" "is_head" (defArgs sIsHead) (defBody sIsHead) (defScope sIsHead) .none kV26 dc26 pm26 an26 cd26 ct26), sl26⟩) (c26 : PySem.W.codeIn K cd26 "is_head" = true) (k26 : PySem.W.keepIn K (.ref f26) = true)
    {f27 : Addr} {od27 an27 : Option Addr} {sl27 : Array (Option Value)} {oc27 kV27 dc27 pm27 ct27 : Value} {cd27 : Value}
    (a27 : PySem.W.nsIn K mainGlobals "read_net" = some (some (.ref f27))) (l27 : K.lookup f27 = some ⟨oc27, od27, .func (PySem.W.fnOf "read_net" "read_net" (defArgs sReadNet) (defBody sReadNet) (defScope sReadNet) .none kV27 dc27 pm27 an27 cd27 ct27), sl27⟩) (c27 : PySem.W.codeIn K cd27 "read_net" = true) (k27 : PySem.W.keepIn K (.ref f27) = true)
    {f28 : Addr} {od28 an28 : Option Addr} {sl28 : Array (Option Value)} {oc28 kV28 dc28 pm28 ct28 : Value} {cd28 : Value}
    (a28 : PySem.W.nsIn K mainGlobals "_law_cell_at" = some (some (.ref f28))) (l28 : K.lookup f28 = some ⟨oc28, od28, .func (PySem.W.fnOf "_law_cell_at" "_law_cell_at" (defArgs sCell) (defBody sCell) (defScope sCell) .none kV28 dc28 pm28 an28 cd28 ct28), sl28⟩) (c28 : PySem.W.codeIn K cd28 "_law_cell_at" = true) (k28 : PySem.W.keepIn K (.ref f28) = true)
    {f29 : Addr} {od29 an29 : Option Addr} {sl29 : Array (Option Value)} {oc29 kV29 dc29 pm29 ct29 : Value} {cd29 : Value}
    (a29 : PySem.W.nsIn K mainGlobals "_law_state" = some (some (.ref f29))) (l29 : K.lookup f29 = some ⟨oc29, od29, .func (PySem.W.fnOf "_law_state" "_law_state" (defArgs sState) (defBody sState) (defScope sState) .none kV29 dc29 pm29 an29 cd29 ct29), sl29⟩) (c29 : PySem.W.codeIn K cd29 "_law_state" = true) (k29 : PySem.W.keepIn K (.ref f29) = true)
    {f30 : Addr} {od30 an30 : Option Addr} {sl30 : Array (Option Value)} {oc30 kV30 dc30 pm30 ct30 : Value} {cd30 : Value}
    (a30 : PySem.W.nsIn K mainGlobals "_law_choice" = some (some (.ref f30))) (l30 : K.lookup f30 = some ⟨oc30, od30, .func (PySem.W.fnOf "_law_choice" "_law_choice" (defArgs sChoice) (defBody sChoice) (defScope sChoice) .none kV30 dc30 pm30 an30 cd30 ct30), sl30⟩) (c30 : PySem.W.codeIn K cd30 "_law_choice" = true) (k30 : PySem.W.keepIn K (.ref f30) = true)
    {f31 : Addr} {od31 an31 : Option Addr} {sl31 : Array (Option Value)} {oc31 kV31 dc31 pm31 ct31 : Value} {cd31 : Value}
    (a31 : PySem.W.nsIn K mainGlobals "_law_many" = some (some (.ref f31))) (l31 : K.lookup f31 = some ⟨oc31, od31, .func (PySem.W.fnOf "_law_many" "_law_many" (defArgs sMany) (defBody sMany) (defScope sMany) .none kV31 dc31 pm31 an31 cd31 ct31), sl31⟩) (c31 : PySem.W.codeIn K cd31 "_law_many" = true) (k31 : PySem.W.keepIn K (.ref f31) = true)
    {f32 : Addr} {od32 an32 : Option Addr} {sl32 : Array (Option Value)} {oc32 kV32 dc32 pm32 ct32 : Value} {cd32 : Value}
    (a32 : PySem.W.nsIn K mainGlobals "_law_simple" = some (some (.ref f32))) (l32 : K.lookup f32 = some ⟨oc32, od32, .func (PySem.W.fnOf "_law_simple" "_law_simple" (defArgs sSimple) (defBody sSimple) (defScope sSimple) .none kV32 dc32 pm32 an32 cd32 ct32), sl32⟩) (c32 : PySem.W.codeIn K cd32 "_law_simple" = true) (k32 : PySem.W.keepIn K (.ref f32) = true)
    {f33 : Addr} {od33 an33 : Option Addr} {sl33 : Array (Option Value)} {oc33 kV33 dc33 pm33 ct33 : Value} {cd33 : Value}
    (a33 : PySem.W.nsIn K mainGlobals "_law_block" = some (some (.ref f33))) (l33 : K.lookup f33 = some ⟨oc33, od33, .func (PySem.W.fnOf "_law_block" "_law_block" (defArgs sBlock) (defBody sBlock) (defScope sBlock) .none kV33 dc33 pm33 an33 cd33 ct33), sl33⟩) (c33 : PySem.W.codeIn K cd33 "_law_block" = true) (k33 : PySem.W.keepIn K (.ref f33) = true)
    {f34 : Addr} {od34 an34 : Option Addr} {sl34 : Array (Option Value)} {oc34 kV34 dc34 pm34 ct34 : Value} {cd34 : Value}
    (a34 : PySem.W.nsIn K mainGlobals "_law_ends" = some (some (.ref f34))) (l34 : K.lookup f34 = some ⟨oc34, od34, .func (PySem.W.fnOf "_law_ends" "_law_ends" (defArgs sEnds) (defBody sEnds) (defScope sEnds) .none kV34 dc34 pm34 an34 cd34 ct34), sl34⟩) (c34 : PySem.W.codeIn K cd34 "_law_ends" = true) (k34 : PySem.W.keepIn K (.ref f34) = true)
    {f35 : Addr} {od35 an35 : Option Addr} {sl35 : Array (Option Value)} {oc35 kV35 dc35 pm35 ct35 : Value} {cd35 : Value}
    (a35 : PySem.W.nsIn K mainGlobals "_law_net" = some (some (.ref f35))) (l35 : K.lookup f35 = some ⟨oc35, od35, .func (PySem.W.fnOf "_law_net" "_law_net" (defArgs sNet) (defBody sNet) (defScope sNet) .none kV35 dc35 pm35 an35 cd35 ct35), sl35⟩) (c35 : PySem.W.codeIn K cd35 "_law_net" = true) (k35 : PySem.W.keepIn K (.ref f35) = true)
    {f36 : Addr} {od36 an36 : Option Addr} {sl36 : Array (Option Value)} {oc36 kV36 dc36 pm36 ct36 : Value} {cd36 : Value}
    (a36 : PySem.W.nsIn K mainGlobals "_law_rows" = some (some (.ref f36))) (l36 : K.lookup f36 = some ⟨oc36, od36, .func (PySem.W.fnOf "_law_rows" "_law_rows" (defArgs sLRows) (defBody sLRows) (defScope sLRows) .none kV36 dc36 pm36 an36 cd36 ct36), sl36⟩) (c36 : PySem.W.codeIn K cd36 "_law_rows" = true) (k36 : PySem.W.keepIn K (.ref f36) = true)
    {f37 : Addr} {od37 an37 : Option Addr} {sl37 : Array (Option Value)} {oc37 kV37 dc37 pm37 ct37 : Value} {cd37 : Value}
    (a37 : PySem.W.nsIn K mainGlobals "_law_written" = some (some (.ref f37))) (l37 : K.lookup f37 = some ⟨oc37, od37, .func (PySem.W.fnOf "_law_written" "_law_written" (defArgs sLWritten) (defBody sLWritten) (defScope sLWritten) .none kV37 dc37 pm37 an37 cd37 ct37), sl37⟩) (c37 : PySem.W.codeIn K cd37 "_law_written" = true) (k37 : PySem.W.keepIn K (.ref f37) = true)
    {f38 : Addr} {od38 an38 : Option Addr} {sl38 : Array (Option Value)} {oc38 kV38 dc38 pm38 ct38 : Value} {cd38 : Value}
    (a38 : PySem.W.nsIn K mainGlobals "law" = some (some (.ref f38))) (l38 : K.lookup f38 = some ⟨oc38, od38, .func (PySem.W.fnOf "law" "law" (defArgs sLaw) (defBody sLaw) (defScope sLaw) .none kV38 dc38 pm38 an38 cd38 ct38), sl38⟩) (c38 : PySem.W.codeIn K cd38 "law" = true) (k38 : PySem.W.keepIn K (.ref f38) = true)
    {t0 : Tok} (n0 : PySem.W.nsIn K mainGlobals "MOST_SIGNS" = some (some (.int (6) t0)))
    {t1 : Tok} (n1 : PySem.W.nsIn K mainGlobals "MOST_IN_BLOCK" = some (some (.int (12) t1)))
    {t2 : Tok} (n2 : PySem.W.nsIn K mainGlobals "MOST_WITHIN" = some (some (.int (4) t2)))
    {t3 : Tok} (n3 : PySem.W.nsIn K mainGlobals "MOST_STATEMENTS" = some (some (.int (40) t3)))
    {t4 : Tok} (n4 : PySem.W.nsIn K mainGlobals "MOST_CHANNELS" = some (some (.int (6) t4)))
    {t5 : Tok} (n5 : PySem.W.nsIn K mainGlobals "MOST_ACTORS" = some (some (.int (4) t5)))
    {t6 : Tok} (n6 : PySem.W.nsIn K mainGlobals "PLACES" = some (some (.int (3) t6)))
    {t7 : Tok} (n7 : PySem.W.nsIn K mainGlobals "GREATEST" = some (some (.int (9999) t7)))
    (z0 : PySem.W.nsIn K mainGlobals "isinstance" = some none)
    (z1 : PySem.W.nsIn K mainGlobals "int" = some none)
    (z2 : PySem.W.nsIn K mainGlobals "bool" = some none)
    (z3 : PySem.W.nsIn K mainGlobals "tuple" = some none)
    (z4 : PySem.W.nsIn K mainGlobals "len" = some none)
    (z5 : PySem.W.nsIn K mainGlobals "range" = some none)
    (z6 : PySem.W.nsIn K mainGlobals "min" = some none)
    (z7 : PySem.W.nsIn K mainGlobals "max" = some none)
    (z8 : PySem.W.nsIn K mainGlobals "sum" = some none)
    (z9 : PySem.W.nsIn K mainGlobals "list" = some none)
    (z10 : PySem.W.nsIn K mainGlobals "repr" = some none)
    (z11 : PySem.W.nsIn K mainGlobals "all" = some none)
    (z12 : PySem.W.nsIn K mainGlobals "str" = some none)
    (z13 : PySem.W.nsIn K mainGlobals "zip" = some none)
    (z14 : PySem.W.nsIn K mainGlobals "enumerate" = some none)
    {oTA1 : Option Addr} {vTA1 : Array Value} {sTA1 : Array (Option Value)} {PA1 : Addr} (lkA1 : K.lookup cc5 = some ⟨.type "code", oTA1, .fields vTA1, sTA1⟩) (pA1 : vTA1[11]? = some (.ref PA1)) (noA1 : K.lookup PA1 = none)
    {oTA2 : Option Addr} {vTA2 : Array Value} {sTA2 : Array (Option Value)} {PA2 : Addr} (lkA2 : K.lookup cc10 = some ⟨.type "code", oTA2, .fields vTA2, sTA2⟩) (pA2 : vTA2[11]? = some (.ref PA2)) (noA2 : K.lookup PA2 = none)
    {oTA3 : Option Addr} {vTA3 : Array Value} {sTA3 : Array (Option Value)} {PA3 : Addr} (lkA3 : K.lookup cc14 = some ⟨.type "code", oTA3, .fields vTA3, sTA3⟩) (pA3 : vTA3[11]? = some (.ref PA3)) (noA3 : K.lookup PA3 = none)
    {oTA4 : Option Addr} {vTA4 : Array Value} {sTA4 : Array (Option Value)} {PA4 : Addr} (lkA4 : K.lookup cc15 = some ⟨.type "code", oTA4, .fields vTA4, sTA4⟩) (pA4 : vTA4[11]? = some (.ref PA4)) (noA4 : K.lookup PA4 = none)
    {oTA5 : Option Addr} {vTA5 : Array Value} {sTA5 : Array (Option Value)} {PA5 : Addr} (lkA5 : K.lookup cc16 = some ⟨.type "code", oTA5, .fields vTA5, sTA5⟩) (pA5 : vTA5[11]? = some (.ref PA5)) (noA5 : K.lookup PA5 = none)
    {oTA6 : Option Addr} {vTA6 : Array Value} {sTA6 : Array (Option Value)} {PA6 : Addr} (lkA6 : K.lookup cc17 = some ⟨.type "code", oTA6, .fields vTA6, sTA6⟩) (pA6 : vTA6[11]? = some (.ref PA6)) (noA6 : K.lookup PA6 = none)
    {oTA7 : Option Addr} {vTA7 : Array Value} {sTA7 : Array (Option Value)} {PA7 : Addr} (lkA7 : K.lookup cc19 = some ⟨.type "code", oTA7, .fields vTA7, sTA7⟩) (pA7 : vTA7[11]? = some (.ref PA7)) (noA7 : K.lookup PA7 = none)
    {oTA8 : Option Addr} {vTA8 : Array Value} {sTA8 : Array (Option Value)} {PA8 : Addr} (lkA8 : K.lookup cc24 = some ⟨.type "code", oTA8, .fields vTA8, sTA8⟩) (pA8 : vTA8[11]? = some (.ref PA8)) (noA8 : K.lookup PA8 = none)
    {adS : Addr} {oS : Option Addr} {mS : Nat} {slS : Array (Option Value)} {xS_0 xS_1 xS_2 xS_3 xS_4 : Tok} (aS : PySem.W.nsIn K mainGlobals "SIGNS" = some (some (.ref adS))) (qS : K.lookup adS = some ⟨.type "tuple", oS, .seq #[.str "+" xS_0, .str "-" xS_1, .str "*" xS_2, .str "<" xS_3, .str "=" xS_4] mS, slS⟩)
    {adU : Addr} {oU : Option Addr} {mU : Nat} {slU : Array (Option Value)} {xU_0 xU_1 : Tok} (aU : PySem.W.nsIn K mainGlobals "UNLIKE" = some (some (.ref adU))) (qU : K.lookup adU = some ⟨.type "tuple", oU, .seq #[.str "let" xU_0, .str "hang" xU_1] mU, slU⟩)
    {dtD : Addr} {esD : Array DictEntry} {nnD : Nat} {uD0 uD1 uD2 uD3 uD4 uD5 uD6 uD7 uD8 uD9 uD10 uD11 uD12 uD13 uD14 : Tok} {rD0 rD1 rD2 rD3 rD4 rD5 rD6 rD7 rD8 rD9 rD10 rD11 rD12 rD13 rD14 : Addr} (aDD : PySem.W.nsIn K mainGlobals "DEEDS" = some (some (.ref dtD))) (lDD : K.lookup dtD = some ⟨.type "dict", none, .dict esD nnD, #[]⟩) (lowDD : (dtD == sysModules) = false) (eDD : esD.toList = [⟨PyData.keyHash w.params "num", .str "num" uD0, .ref rD0⟩, ⟨PyData.keyHash w.params "sum", .str "sum" uD1, .ref rD1⟩, ⟨PyData.keyHash w.params "new", .str "new" uD2, .ref rD2⟩, ⟨PyData.keyHash w.params "let", .str "let" uD3, .ref rD3⟩, ⟨PyData.keyHash w.params "add", .str "add" uD4, .ref rD4⟩, ⟨PyData.keyHash w.params "put", .str "put" uD5, .ref rD5⟩, ⟨PyData.keyHash w.params "tie", .str "tie" uD6, .ref rD6⟩, ⟨PyData.keyHash w.params "hang", .str "hang" uD7, .ref rD7⟩, ⟨PyData.keyHash w.params "get", .str "get" uD8, .ref rD8⟩, ⟨PyData.keyHash w.params "sort", .str "sort" uD9, .ref rD9⟩, ⟨PyData.keyHash w.params "pick", .str "pick" uD10, .ref rD10⟩, ⟨PyData.keyHash w.params "send", .str "send" uD11, .ref rD11⟩, ⟨PyData.keyHash w.params "take", .str "take" uD12, .ref rD12⟩, ⟨PyData.keyHash w.params "tell", .str "tell" uD13, .ref rD13⟩, ⟨PyData.keyHash w.params "show", .str "show" uD14, .ref rD14⟩])
    {oTD0 : Option Addr} {mTD0 : Nat} {slTD0 : Array (Option Value)} {xTD0_0 xTD0_1 : Tok} (qTD0 : K.lookup rD0 = some ⟨.type "tuple", oTD0, .seq #[.str "name" xTD0_0, .str "number" xTD0_1] mTD0, slTD0⟩)
    {oTD1 : Option Addr} {mTD1 : Nat} {slTD1 : Array (Option Value)} {xTD1_0 xTD1_1 xTD1_2 xTD1_3 : Tok} (qTD1 : K.lookup rD1 = some ⟨.type "tuple", oTD1, .seq #[.str "name" xTD1_0, .str "name" xTD1_1, .str "sign" xTD1_2, .str "name" xTD1_3] mTD1, slTD1⟩)
    {oTD2 : Option Addr} {mTD2 : Nat} {slTD2 : Array (Option Value)} {xTD2_0 : Tok} (qTD2 : K.lookup rD2 = some ⟨.type "tuple", oTD2, .seq #[.str "graph" xTD2_0] mTD2, slTD2⟩)
    {oTD3 : Option Addr} {mTD3 : Nat} {slTD3 : Array (Option Value)} {xTD3_0 xTD3_1 : Tok} (qTD3 : K.lookup rD3 = some ⟨.type "tuple", oTD3, .seq #[.str "graph" xTD3_0, .str "graph" xTD3_1] mTD3, slTD3⟩)
    {oTD4 : Option Addr} {mTD4 : Nat} {slTD4 : Array (Option Value)} {xTD4_0 xTD4_1 : Tok} (qTD4 : K.lookup rD4 = some ⟨.type "tuple", oTD4, .seq #[.str "graph" xTD4_0, .str "name" xTD4_1] mTD4, slTD4⟩)
    {oTD5 : Option Addr} {mTD5 : Nat} {slTD5 : Array (Option Value)} {xTD5_0 xTD5_1 xTD5_2 xTD5_3 : Tok} (qTD5 : K.lookup rD5 = some ⟨.type "tuple", oTD5, .seq #[.str "graph" xTD5_0, .str "name" xTD5_1, .str "place" xTD5_2, .str "name" xTD5_3] mTD5, slTD5⟩)
    {oTD6 : Option Addr} {mTD6 : Nat} {slTD6 : Array (Option Value)} {xTD6_0 xTD6_1 xTD6_2 xTD6_3 : Tok} (qTD6 : K.lookup rD6 = some ⟨.type "tuple", oTD6, .seq #[.str "graph" xTD6_0, .str "name" xTD6_1, .str "place" xTD6_2, .str "name" xTD6_3] mTD6, slTD6⟩)
    {oTD7 : Option Addr} {mTD7 : Nat} {slTD7 : Array (Option Value)} {xTD7_0 xTD7_1 xTD7_2 xTD7_3 : Tok} (qTD7 : K.lookup rD7 = some ⟨.type "tuple", oTD7, .seq #[.str "graph" xTD7_0, .str "name" xTD7_1, .str "place" xTD7_2, .str "graph" xTD7_3] mTD7, slTD7⟩)
    {oTD8 : Option Addr} {mTD8 : Nat} {slTD8 : Array (Option Value)} {xTD8_0 xTD8_1 xTD8_2 xTD8_3 : Tok} (qTD8 : K.lookup rD8 = some ⟨.type "tuple", oTD8, .seq #[.str "name" xTD8_0, .str "graph" xTD8_1, .str "name" xTD8_2, .str "place" xTD8_3] mTD8, slTD8⟩)
    {oTD9 : Option Addr} {mTD9 : Nat} {slTD9 : Array (Option Value)} {xTD9_0 xTD9_1 xTD9_2 xTD9_3 : Tok} (qTD9 : K.lookup rD9 = some ⟨.type "tuple", oTD9, .seq #[.str "name" xTD9_0, .str "graph" xTD9_1, .str "name" xTD9_2, .str "place" xTD9_3] mTD9, slTD9⟩)
    {oTD10 : Option Addr} {mTD10 : Nat} {slTD10 : Array (Option Value)} {xTD10_0 xTD10_1 xTD10_2 xTD10_3 : Tok} (qTD10 : K.lookup rD10 = some ⟨.type "tuple", oTD10, .seq #[.str "graph" xTD10_0, .str "graph" xTD10_1, .str "name" xTD10_2, .str "place" xTD10_3] mTD10, slTD10⟩)
    {oTD11 : Option Addr} {mTD11 : Nat} {slTD11 : Array (Option Value)} {xTD11_0 xTD11_1 : Tok} (qTD11 : K.lookup rD11 = some ⟨.type "tuple", oTD11, .seq #[.str "into" xTD11_0, .str "graph" xTD11_1] mTD11, slTD11⟩)
    {oTD12 : Option Addr} {mTD12 : Nat} {slTD12 : Array (Option Value)} {xTD12_0 xTD12_1 : Tok} (qTD12 : K.lookup rD12 = some ⟨.type "tuple", oTD12, .seq #[.str "graph" xTD12_0, .str "from" xTD12_1] mTD12, slTD12⟩)
    {oTD13 : Option Addr} {mTD13 : Nat} {slTD13 : Array (Option Value)} {xTD13_0 : Tok} (qTD13 : K.lookup rD13 = some ⟨.type "tuple", oTD13, .seq #[.str "name" xTD13_0] mTD13, slTD13⟩)
    {oTD14 : Option Addr} {mTD14 : Nat} {slTD14 : Array (Option Value)} {xTD14_0 : Tok} (qTD14 : K.lookup rD14 = some ⟨.type "tuple", oTD14, .seq #[.str "graph" xTD14_0] mTD14, slTD14⟩)
    {dtB : Addr} {esB : Array DictEntry} {nnB : Nat} {uB0 uB1 : Tok} {vB0 vB1 : Tok} (aDB : PySem.W.nsIn K mainGlobals "BRANCHES" = some (some (.ref dtB))) (lDB : K.lookup dtB = some ⟨.type "dict", none, .dict esB nnB, #[]⟩) (lowDB : (dtB == sysModules) = false) (eDB : esB.toList = [⟨PyData.keyHash w.params "if", .str "if" uB0, .int 2 vB0⟩, ⟨PyData.keyHash w.params "while", .str "while" uB1, .int 1 vB1⟩])
    {tMF tIN : Tok} (nMF : PySem.W.nsIn K mainGlobals "MOST_FIGURES" = some (some (.int (5) tMF))) (nIN : PySem.W.nsIn K mainGlobals "INDENT" = some (some (.str "  " tIN)))
    {CBk : Addr} {gBk0 : Addr} {odBk0 anBk0 : Option Addr} {slBk0 : Array (Option Value)} {ocBk0 kVBk0 dcBk0 pmBk0 ctBk0 : Value} {cdBk0 : Value} {gBk1 : Addr} {odBk1 anBk1 : Option Addr} {slBk1 : Array (Option Value)} {ocBk1 kVBk1 dcBk1 pmBk1 ctBk1 : Value} {cdBk1 : Value} {gBk2 : Addr} {odBk2 anBk2 : Option Addr} {slBk2 : Array (Option Value)} {ocBk2 kVBk2 dcBk2 pmBk2 ctBk2 : Value} {cdBk2 : Value} (aBk : PySem.W.nsIn K mainGlobals "Block" = some (some (.ref CBk))) (fBk0 : PySem.W.findIn K (.ref CBk) "__init__" = some (some (.ref gBk0))) (iBk0 : PySem.W.isFn K (.ref gBk0) = true) (lBk0 : K.lookup gBk0 = some ⟨ocBk0, odBk0, .func (PySem.W.fnOf "__init__" "Block.__init__" (defArgs sBkInit) (defBody sBkInit) (defScope sBkInit) .none kVBk0 dcBk0 pmBk0 anBk0 cdBk0 ctBk0), slBk0⟩) (cBk0 : PySem.W.codeIn K cdBk0 "Block.__init__" = true) (kBk0 : PySem.W.keepIn K (.ref gBk0) = true) (fBk1 : PySem.W.findIn K (.ref CBk) "parts" = some (some (.ref gBk1))) (iBk1 : PySem.W.isFn K (.ref gBk1) = true) (lBk1 : K.lookup gBk1 = some ⟨ocBk1, odBk1, .func (PySem.W.fnOf "parts" "Block.parts" (defArgs sBkParts) (defBody sBkParts) (defScope sBkParts) .none kVBk1 dcBk1 pmBk1 anBk1 cdBk1 ctBk1), slBk1⟩) (cBk1 : PySem.W.codeIn K cdBk1 "Block.parts" = true) (kBk1 : PySem.W.keepIn K (.ref gBk1) = true) (fBk2 : PySem.W.findIn K (.ref CBk) "lacks_other" = some (some (.ref gBk2))) (iBk2 : PySem.W.isFn K (.ref gBk2) = true) (lBk2 : K.lookup gBk2 = some ⟨ocBk2, odBk2, .func (PySem.W.fnOf "lacks_other" "Block.lacks_other" (defArgs sBkLacksOther) (defBody sBkLacksOther) (defScope sBkLacksOther) .none kVBk2 dcBk2 pmBk2 anBk2 cdBk2 ctBk2), slBk2⟩) (cBk2 : PySem.W.codeIn K cdBk2 "Block.lacks_other" = true) (kBk2 : PySem.W.keepIn K (.ref gBk2) = true) (pgBk : PySem.W.plainGet K CBk Str.empty = true) (hdBk : PySem.W.hasDictIn K CBk = true) (poBk : PySem.W.plainOver K CBk = true) (saBk : PySem.W.findIn K (.ref CBk) "__setattr__" = some (some (.builtin "object.__setattr__"))) (mkBk : PySem.W.makesIn K CBk = true) (kcBk : PySem.W.keepIn K (.ref CBk) = true) (nBk0 : PySem.W.findIn K (.ref CBk) "head" = some none) (nBk1 : PySem.W.findIn K (.ref CBk) "statements" = some none)
    {CNr : Addr} {gNr0 : Addr} {odNr0 anNr0 : Option Addr} {slNr0 : Array (Option Value)} {ocNr0 kVNr0 dcNr0 pmNr0 ctNr0 : Value} {cdNr0 : Value} {gNr1 : Addr} {odNr1 anNr1 : Option Addr} {slNr1 : Array (Option Value)} {ocNr1 kVNr1 dcNr1 pmNr1 ctNr1 : Value} {cdNr1 : Value} {gNr2 : Addr} {odNr2 anNr2 : Option Addr} {slNr2 : Array (Option Value)} {ocNr2 kVNr2 dcNr2 pmNr2 ctNr2 : Value} {ccNr2 : Addr} {oTM1 : Option Addr} {vTM1 : Array Value} {sTM1 : Array (Option Value)} {PM1 : Addr} {gNr3 : Addr} {odNr3 anNr3 : Option Addr} {slNr3 : Array (Option Value)} {ocNr3 kVNr3 dcNr3 pmNr3 ctNr3 : Value} {cdNr3 : Value} {gNr4 : Addr} {odNr4 anNr4 : Option Addr} {slNr4 : Array (Option Value)} {ocNr4 kVNr4 dcNr4 pmNr4 ctNr4 : Value} {cdNr4 : Value} {gNr5 : Addr} {odNr5 anNr5 : Option Addr} {slNr5 : Array (Option Value)} {ocNr5 kVNr5 dcNr5 pmNr5 ctNr5 : Value} {cdNr5 : Value} {gNr6 : Addr} {odNr6 anNr6 : Option Addr} {slNr6 : Array (Option Value)} {ocNr6 kVNr6 dcNr6 pmNr6 ctNr6 : Value} {cdNr6 : Value} {gNr7 : Addr} {odNr7 anNr7 : Option Addr} {slNr7 : Array (Option Value)} {ocNr7 kVNr7 dcNr7 pmNr7 ctNr7 : Value} {ccNr7 : Addr} {oTM2 : Option Addr} {vTM2 : Array Value} {sTM2 : Array (Option Value)} {PM2 : Addr} {gNr8 : Addr} {odNr8 anNr8 : Option Addr} {slNr8 : Array (Option Value)} {ocNr8 kVNr8 dcNr8 pmNr8 ctNr8 : Value} {cdNr8 : Value} (aNr : PySem.W.nsIn K mainGlobals "NetRows" = some (some (.ref CNr))) (fNr0 : PySem.W.findIn K (.ref CNr) "__init__" = some (some (.ref gNr0))) (iNr0 : PySem.W.isFn K (.ref gNr0) = true) (lNr0 : K.lookup gNr0 = some ⟨ocNr0, odNr0, .func (PySem.W.fnOf "__init__" "NetRows.__init__" (defArgs sNrInit) (defBody sNrInit) (defScope sNrInit) .none kVNr0 dcNr0 pmNr0 anNr0 cdNr0 ctNr0), slNr0⟩) (cNr0 : PySem.W.codeIn K cdNr0 "NetRows.__init__" = true) (kNr0 : PySem.W.keepIn K (.ref gNr0) = true) (fNr1 : PySem.W.findIn K (.ref CNr) "read_row" = some (some (.ref gNr1))) (iNr1 : PySem.W.isFn K (.ref gNr1) = true) (lNr1 : K.lookup gNr1 = some ⟨ocNr1, odNr1, .func (PySem.W.fnOf "read_row" "NetRows.read_row" (defArgs sNrReadRow) (defBody sNrReadRow) (defScope sNrReadRow) .none kVNr1 dcNr1 pmNr1 anNr1 cdNr1 ctNr1), slNr1⟩) (cNr1 : PySem.W.codeIn K cdNr1 "NetRows.read_row" = true) (kNr1 : PySem.W.keepIn K (.ref gNr1) = true) (fNr2 : PySem.W.findIn K (.ref CNr) "read_channels" = some (some (.ref gNr2))) (iNr2 : PySem.W.isFn K (.ref gNr2) = true) (lNr2 : K.lookup gNr2 = some ⟨ocNr2, odNr2, .func (PySem.W.fnOf "read_channels" "NetRows.read_channels" (defArgs sNrReadChannels) (defBody sNrReadChannels) (defScope sNrReadChannels) .none kVNr2 dcNr2 pmNr2 anNr2 (.ref ccNr2) ctNr2), slNr2⟩) (cNr2 : PySem.W.codeIn K (.ref ccNr2) "NetRows.read_channels" = true) (kNr2 : PySem.W.keepIn K (.ref gNr2) = true) (lkM1 : K.lookup ccNr2 = some ⟨.type "code", oTM1, .fields vTM1, sTM1⟩) (pM1 : vTM1[11]? = some (.ref PM1)) (noM1 : K.lookup PM1 = none) (inM1 : PM1 ∈ tsM) (hcM1 : PySem.W.codeHdIn K ccNr2 PM1 = true) (fNr3 : PySem.W.findIn K (.ref CNr) "close_to" = some (some (.ref gNr3))) (iNr3 : PySem.W.isFn K (.ref gNr3) = true) (lNr3 : K.lookup gNr3 = some ⟨ocNr3, odNr3, .func (PySem.W.fnOf "close_to" "NetRows.close_to" (defArgs sNrCloseTo) (defBody sNrCloseTo) (defScope sNrCloseTo) .none kVNr3 dcNr3 pmNr3 anNr3 cdNr3 ctNr3), slNr3⟩) (cNr3 : PySem.W.codeIn K cdNr3 "NetRows.close_to" = true) (kNr3 : PySem.W.keepIn K (.ref gNr3) = true) (fNr4 : PySem.W.findIn K (.ref CNr) "end_actor" = some (some (.ref gNr4))) (iNr4 : PySem.W.isFn K (.ref gNr4) = true) (lNr4 : K.lookup gNr4 = some ⟨ocNr4, odNr4, .func (PySem.W.fnOf "end_actor" "NetRows.end_actor" (defArgs sNrEndActor) (defBody sNrEndActor) (defScope sNrEndActor) .none kVNr4 dcNr4 pmNr4 anNr4 cdNr4 ctNr4), slNr4⟩) (cNr4 : PySem.W.codeIn K cdNr4 "NetRows.end_actor" = true) (kNr4 : PySem.W.keepIn K (.ref gNr4) = true) (fNr5 : PySem.W.findIn K (.ref CNr) "begin_actor" = some (some (.ref gNr5))) (iNr5 : PySem.W.isFn K (.ref gNr5) = true) (lNr5 : K.lookup gNr5 = some ⟨ocNr5, odNr5, .func (PySem.W.fnOf "begin_actor" "NetRows.begin_actor" (defArgs sNrBeginActor) (defBody sNrBeginActor) (defScope sNrBeginActor) .none kVNr5 dcNr5 pmNr5 anNr5 cdNr5 ctNr5), slNr5⟩) (cNr5 : PySem.W.codeIn K cdNr5 "NetRows.begin_actor" = true) (kNr5 : PySem.W.keepIn K (.ref gNr5) = true) (fNr6 : PySem.W.findIn K (.ref CNr) "begin_other" = some (some (.ref gNr6))) (iNr6 : PySem.W.isFn K (.ref gNr6) = true) (lNr6 : K.lookup gNr6 = some ⟨ocNr6, odNr6, .func (PySem.W.fnOf "begin_other" "NetRows.begin_other" (defArgs sNrBeginOther) (defBody sNrBeginOther) (defScope sNrBeginOther) .none kVNr6 dcNr6 pmNr6 anNr6 cdNr6 ctNr6), slNr6⟩) (cNr6 : PySem.W.codeIn K cdNr6 "NetRows.begin_other" = true) (kNr6 : PySem.W.keepIn K (.ref gNr6) = true) (fNr7 : PySem.W.findIn K (.ref CNr) "read_statement" = some (some (.ref gNr7))) (iNr7 : PySem.W.isFn K (.ref gNr7) = true) (lNr7 : K.lookup gNr7 = some ⟨ocNr7, odNr7, .func (PySem.W.fnOf "read_statement" "NetRows.read_statement" (defArgs sNrReadStatement) (defBody sNrReadStatement) (defScope sNrReadStatement) .none kVNr7 dcNr7 pmNr7 anNr7 (.ref ccNr7) ctNr7), slNr7⟩) (cNr7 : PySem.W.codeIn K (.ref ccNr7) "NetRows.read_statement" = true) (kNr7 : PySem.W.keepIn K (.ref gNr7) = true) (lkM2 : K.lookup ccNr7 = some ⟨.type "code", oTM2, .fields vTM2, sTM2⟩) (pM2 : vTM2[11]? = some (.ref PM2)) (noM2 : K.lookup PM2 = none) (inM2 : PM2 ∈ tsM) (hcM2 : PySem.W.codeHdIn K ccNr7 PM2 = true) (fNr8 : PySem.W.findIn K (.ref CNr) "made_net" = some (some (.ref gNr8))) (iNr8 : PySem.W.isFn K (.ref gNr8) = true) (lNr8 : K.lookup gNr8 = some ⟨ocNr8, odNr8, .func (PySem.W.fnOf "made_net" "NetRows.made_net" (defArgs sNrMadeNet) (defBody sNrMadeNet) (defScope sNrMadeNet) .none kVNr8 dcNr8 pmNr8 anNr8 cdNr8 ctNr8), slNr8⟩) (cNr8 : PySem.W.codeIn K cdNr8 "NetRows.made_net" = true) (kNr8 : PySem.W.keepIn K (.ref gNr8) = true) (pgNr : PySem.W.plainGet K CNr Str.empty = true) (hdNr : PySem.W.hasDictIn K CNr = true) (poNr : PySem.W.plainOver K CNr = true) (saNr : PySem.W.findIn K (.ref CNr) "__setattr__" = some (some (.builtin "object.__setattr__"))) (mkNr : PySem.W.makesIn K CNr = true) (kcNr : PySem.W.keepIn K (.ref CNr) = true) (nNr0 : PySem.W.findIn K (.ref CNr) "channels" = some none) (nNr1 : PySem.W.findIn K (.ref CNr) "actors" = some none) (nNr2 : PySem.W.findIn K (.ref CNr) "blocks" = some none) (nNr3 : PySem.W.findIn K (.ref CNr) "room" = some none) :
    Left67 K w mg fa := by
  have e := hfa.symm.trans (PySem.W.mg_of X G a38)
  cases e
  have T : Free mg := ⟨PySem.W.mg_none_of X G z0, PySem.W.mg_none_of X G z1, PySem.W.mg_none_of X G z2, PySem.W.mg_none_of X G z3, PySem.W.mg_none_of X G z4, PySem.W.mg_none_of X G z5, PySem.W.mg_none_of X G z6, PySem.W.mg_none_of X G z7, PySem.W.mg_none_of X G z8, PySem.W.mg_none_of X G z9, PySem.W.mg_none_of X G z10⟩
  have C : Cst mg := ⟨⟨_, PySem.W.mg_of X G n0⟩, ⟨_, PySem.W.mg_of X G n1⟩, ⟨_, PySem.W.mg_of X G n2⟩, ⟨_, PySem.W.mg_of X G n3⟩, ⟨_, PySem.W.mg_of X G n4⟩, ⟨_, PySem.W.mg_of X G n5⟩, ⟨_, PySem.W.mg_of X G n6⟩, ⟨_, PySem.W.mg_of X G n7⟩⟩
  have F0 := fun_mk (st := sWhole) l0 c0 k0
  have S0 : Std K mg "is_whole" sWhole ["thing"] f0 _ := ⟨F0, PySem.W.mg_of X G a0, F0.binds (ps := ["thing"]) fun _ _ _ _ _ _ us hl => match us, hl with | [_], _ => rfl⟩
  have F1 := fun_mk (st := sWithin) l1 c1 k1
  have S1 : Std K mg "is_within" sWithin ["thing", "least", "most"] f1 _ := ⟨F1, PySem.W.mg_of X G a1, F1.binds (ps := ["thing", "least", "most"]) fun _ _ _ _ _ _ us hl => match us, hl with | [_, _, _], _ => rfl⟩
  have F2 := fun_mk (st := sTuple) l2 c2 k2
  have S2 : Std K mg "is_tuple" sTuple ["thing", "least", "most"] f2 _ := ⟨F2, PySem.W.mg_of X G a2, F2.binds (ps := ["thing", "least", "most"]) fun _ _ _ _ _ _ us hl => match us, hl with | [_, _, _], _ => rfl⟩
  have F3 := fun_mk (st := sNumber) l3 c3 k3
  have S3 : Std K mg "is_number" sNumber ["thing"] f3 _ := ⟨F3, PySem.W.mg_of X G a3, F3.binds (ps := ["thing"]) fun _ _ _ _ _ _ us hl => match us, hl with | [_], _ => rfl⟩
  have F4 := fun_mk (st := sPlace) l4 c4 k4
  have S4 : Std K mg "is_place" sPlace ["thing"] f4 _ := ⟨F4, PySem.W.mg_of X G a4, F4.binds (ps := ["thing"]) fun _ _ _ _ _ _ us hl => match us, hl with | [_], _ => rfl⟩
  have F5 := fun_mk (st := sSmall) l5 c5 k5
  have S5 : Std K mg "are_small" sSmall ["text"] f5 _ := ⟨F5, PySem.W.mg_of X G a5, F5.binds (ps := ["text"]) fun _ _ _ _ _ _ us hl => match us, hl with | [_], _ => rfl⟩
  have F6 := fun_mk (st := sNumName) l6 c6 k6
  have S6 : Std K mg "is_number_name" sNumName ["thing"] f6 _ := ⟨F6, PySem.W.mg_of X G a6, F6.binds (ps := ["thing"]) fun _ _ _ _ _ _ us hl => match us, hl with | [_], _ => rfl⟩
  have F7 := fun_mk (st := sGraphName) l7 c7 k7
  have S7 : Std K mg "is_graph_name" sGraphName ["thing"] f7 _ := ⟨F7, PySem.W.mg_of X G a7, F7.binds (ps := ["thing"]) fun _ _ _ _ _ _ us hl => match us, hl with | [_], _ => rfl⟩
  have F8 := fun_mk (st := sFits) l8 c8 k8
  have S8 : Std K mg "fits" sFits ["kind", "part", "sends", "takes"] f8 _ := ⟨F8, PySem.W.mg_of X G a8, F8.binds (ps := ["kind", "part", "sends", "takes"]) fun _ _ _ _ _ _ us hl => match us, hl with | [_, _, _, _], _ => rfl⟩
  have F9 := fun_mk (st := sWordOf) l9 c9 k9
  have S9 : Std K mg "word_of" sWordOf ["thing"] f9 _ := ⟨F9, PySem.W.mg_of X G a9, F9.binds (ps := ["thing"]) fun _ _ _ _ _ _ us hl => match us, hl with | [_], _ => rfl⟩
  have F10 := fun_mk (st := sIsDeed) l10 c10 k10
  have S10 : Std K mg "is_deed" sIsDeed ["thing", "sends", "takes"] f10 _ := ⟨F10, PySem.W.mg_of X G a10, F10.binds (ps := ["thing", "sends", "takes"]) fun _ _ _ _ _ _ us hl => match us, hl with | [_, _, _], _ => rfl⟩
  have F11 := fun_mk (st := sIsBranch) l11 c11 k11
  have S11 : Std K mg "is_branch" sIsBranch ["thing"] f11 _ := ⟨F11, PySem.W.mg_of X G a11, F11.binds (ps := ["thing"]) fun _ _ _ _ _ _ us hl => match us, hl with | [_], _ => rfl⟩
  have F12 := fun_mk (st := sStSize) l12 c12 k12
  have S12 : Std K mg "statement_size" sStSize ["thing", "level", "sends", "takes"] f12 _ := ⟨F12, PySem.W.mg_of X G a12, F12.binds (ps := ["thing", "level", "sends", "takes"]) fun _ _ _ _ _ _ us hl => match us, hl with | [_, _, _, _], _ => rfl⟩
  have F13 := fun_mk (st := sBlSize) l13 c13 k13
  have S13 : Std K mg "block_size" sBlSize ["thing", "level", "sends", "takes"] f13 _ := ⟨F13, PySem.W.mg_of X G a13, F13.binds (ps := ["thing", "level", "sends", "takes"]) fun _ _ _ _ _ _ us hl => match us, hl with | [_, _, _, _], _ => rfl⟩
  have F14 := fun_mk (st := sIsChan) l14 c14 k14
  have S14 : Std K mg "is_channel" sIsChan ["thing", "actors"] f14 _ := ⟨F14, PySem.W.mg_of X G a14, F14.binds (ps := ["thing", "actors"]) fun _ _ _ _ _ _ us hl => match us, hl with | [_, _], _ => rfl⟩
  have F15 := fun_mk (st := sSends) l15 c15 k15
  have S15 : Std K mg "sends_of" sSends ["channels", "actor"] f15 _ := ⟨F15, PySem.W.mg_of X G a15, F15.binds (ps := ["channels", "actor"]) fun _ _ _ _ _ _ us hl => match us, hl with | [_, _], _ => rfl⟩
  have F16 := fun_mk (st := sTakes) l16 c16 k16
  have S16 : Std K mg "takes_of" sTakes ["channels", "actor"] f16 _ := ⟨F16, PySem.W.mg_of X G a16, F16.binds (ps := ["channels", "actor"]) fun _ _ _ _ _ _ us hl => match us, hl with | [_, _], _ => rfl⟩
  have F17 := fun_mk (st := sIsNet) l17 c17 k17
  have S17 : Std K mg "is_net" sIsNet ["thing"] f17 _ := ⟨F17, PySem.W.mg_of X G a17, F17.binds (ps := ["thing"]) fun _ _ _ _ _ _ us hl => match us, hl with | [_], _ => rfl⟩
  have F18 := fun_mk (st := sCheckNet) l18 c18 k18
  have S18 : Std K mg "check_net" sCheckNet ["net"] f18 _ := ⟨F18, PySem.W.mg_of X G a18, F18.binds (ps := ["net"]) fun _ _ _ _ _ _ us hl => match us, hl with | [_], _ => rfl⟩
  have F19 := fun_mk (st := sWholeFrom) l19 c19 k19
  have S19 : Std K mg "whole_from" sWholeFrom ["word", "most"] f19 _ := ⟨F19, PySem.W.mg_of X G a19, F19.binds (ps := ["word", "most"]) fun _ _ _ _ _ _ us hl => match us, hl with | [_, _], _ => rfl⟩
  have F20 := fun_mk (st := sWordsText) l20 c20 k20
  have S20 : Std K mg "words_text" sWordsText ["parts"] f20 _ := ⟨F20, PySem.W.mg_of X G a20, F20.binds (ps := ["parts"]) fun _ _ _ _ _ _ us hl => match us, hl with | [_], _ => rfl⟩
  have F21 := fun_mk (st := sStRows) l21 c21 k21
  have S21 : Std K mg "statement_rows" sStRows ["statement", "ahead"] f21 _ := ⟨F21, PySem.W.mg_of X G a21, F21.binds (ps := ["statement", "ahead"]) fun _ _ _ _ _ _ us hl => match us, hl with | [_, _], _ => rfl⟩
  have F22 := fun_mk (st := sBlRows) l22 c22 k22
  have S22 : Std K mg "block_rows" sBlRows ["block", "ahead"] f22 _ := ⟨F22, PySem.W.mg_of X G a22, F22.binds (ps := ["block", "ahead"]) fun _ _ _ _ _ _ us hl => match us, hl with | [_, _], _ => rfl⟩
  have F23 := fun_mk (st := sNetText) l23 c23 k23
  have S23 : Std K mg "net_text" sNetText ["net"] f23 _ := ⟨F23, PySem.W.mg_of X G a23, F23.binds (ps := ["net"]) fun _ _ _ _ _ _ us hl => match us, hl with | [_], _ => rfl⟩
  have F24 := fun_mk (st := sChanFrom) l24 c24 k24
  have S24 : Std K mg "channel_from" sChanFrom ["word"] f24 _ := ⟨F24, PySem.W.mg_of X G a24, F24.binds (ps := ["word"]) fun _ _ _ _ _ _ us hl => match us, hl with | [_], _ => rfl⟩
  have F25 := fun_mk (st := sPartFrom) l25 c25 k25
  have S25 : Std K mg "part_from" sPartFrom ["word"] f25 _ := ⟨F25, PySem.W.mg_of X G a25, F25.binds (ps := ["word"]) fun _ _ _ _ _ _ us hl => match us, hl with | [_], _ => rfl⟩
  have F26 := fun_mk (st := sIsHead) l26 c26 k26
  have S26 : Std K mg "is_head" sIsHead ["parts"] f26 _ := ⟨F26, PySem.W.mg_of X G a26, F26.binds (ps := ["parts"]) fun _ _ _ _ _ _ us hl => match us, hl with | [_], _ => rfl⟩
  have F27 := fun_mk (st := sReadNet) l27 c27 k27
  have S27 : Std K mg "read_net" sReadNet ["text"] f27 _ := ⟨F27, PySem.W.mg_of X G a27, F27.binds (ps := ["text"]) fun _ _ _ _ _ _ us hl => match us, hl with | [_], _ => rfl⟩
  have F28 := fun_mk (st := sCell) l28 c28 k28
  have S28 : Std K mg "_law_cell_at" sCell ["_law_script", "_law_k"] f28 _ := ⟨F28, PySem.W.mg_of X G a28, F28.binds (ps := ["_law_script", "_law_k"]) fun _ _ _ _ _ _ us hl => match us, hl with | [_, _], _ => rfl⟩
  have F29 := fun_mk (st := sState) l29 c29 k29
  have S29 : Std K mg "_law_state" sState ["_law_script", "_law_k"] f29 _ := ⟨F29, PySem.W.mg_of X G a29, F29.binds (ps := ["_law_script", "_law_k"]) fun _ _ _ _ _ _ us hl => match us, hl with | [_, _], _ => rfl⟩
  have F30 := fun_mk (st := sChoice) l30 c30 k30
  have S30 : Std K mg "_law_choice" sChoice ["_law_state_here", "_law_many_here"] f30 _ := ⟨F30, PySem.W.mg_of X G a30, F30.binds (ps := ["_law_state_here", "_law_many_here"]) fun _ _ _ _ _ _ us hl => match us, hl with | [_, _], _ => rfl⟩
  have F31 := fun_mk (st := sMany) l31 c31 k31
  have S31 : Std K mg "_law_many" sMany ["_law_block_here"] f31 _ := ⟨F31, PySem.W.mg_of X G a31, F31.binds (ps := ["_law_block_here"]) fun _ _ _ _ _ _ us hl => match us, hl with | [_], _ => rfl⟩
  have F32 := fun_mk (st := sSimple) l32 c32 k32
  have S32 : Std K mg "_law_simple" sSimple ["_law_state_here", "_law_sends", "_law_takes"] f32 _ := ⟨F32, PySem.W.mg_of X G a32, F32.binds (ps := ["_law_state_here", "_law_sends", "_law_takes"]) fun _ _ _ _ _ _ us hl => match us, hl with | [_, _, _], _ => rfl⟩
  have F33 := fun_mk (st := sBlock) l33 c33 k33
  have S33 : Std K mg "_law_block" sBlock ["_law_state_here", "_law_sends", "_law_takes", "_law_deep", "_law_most"] f33 _ := ⟨F33, PySem.W.mg_of X G a33, F33.binds (ps := ["_law_state_here", "_law_sends", "_law_takes", "_law_deep", "_law_most"]) fun _ _ _ _ _ _ us hl => match us, hl with | [_, _, _, _, _], _ => rfl⟩
  have F34 := fun_mk (st := sEnds) l34 c34 k34
  have S34 : Std K mg "_law_ends" sEnds ["_law_channels", "_law_actor", "_law_side"] f34 _ := ⟨F34, PySem.W.mg_of X G a34, F34.binds (ps := ["_law_channels", "_law_actor", "_law_side"]) fun _ _ _ _ _ _ us hl => match us, hl with | [_, _, _], _ => rfl⟩
  have F35 := fun_mk (st := sNet) l35 c35 k35
  have S35 : Std K mg "_law_net" sNet ["_law_state_here", "_law_most", "_law_long"] f35 _ := ⟨F35, PySem.W.mg_of X G a35, F35.binds (ps := ["_law_state_here", "_law_most", "_law_long"]) fun _ _ _ _ _ _ us hl => match us, hl with | [_, _, _], _ => rfl⟩
  have F36 := fun_mk (st := sLRows) l36 c36 k36
  have S36 : Std K mg "_law_rows" sLRows ["_law_block_here", "_law_ahead"] f36 _ := ⟨F36, PySem.W.mg_of X G a36, F36.binds (ps := ["_law_block_here", "_law_ahead"]) fun _ _ _ _ _ _ us hl => match us, hl with | [_, _], _ => rfl⟩
  have F37 := fun_mk (st := sLWritten) l37 c37 k37
  have S37 : Std K mg "_law_written" sLWritten ["_law_mesh"] f37 _ := ⟨F37, PySem.W.mg_of X G a37, F37.binds (ps := ["_law_mesh"]) fun _ _ _ _ _ _ us hl => match us, hl with | [_], _ => rfl⟩
  have F38 := fun_mk (st := sLaw) l38 c38 k38
  have hS : SqK K adS (signs.map V.str) := ⟨_, _, _, qS, rfl, rfl, by show 5 ≤ sizeLine; decide, (.cons ⟨_, rfl⟩ (.cons ⟨_, rfl⟩ (.cons ⟨_, rfl⟩ (.cons ⟨_, rfl⟩ (.cons ⟨_, rfl⟩ .nil)))))⟩
  have hU : SqK K adU (unlikeL.map V.str) := ⟨_, _, _, qU, rfl, rfl, by show 2 ≤ sizeLine; decide, (.cons ⟨_, rfl⟩ (.cons ⟨_, rfl⟩ .nil))⟩
  have hD : DeedT K w dtD := deedT_of (l := [("num", .ref rD0), ("sum", .ref rD1), ("new", .ref rD2), ("let", .ref rD3), ("add", .ref rD4), ("put", .ref rD5), ("tie", .ref rD6), ("hang", .ref rD7), ("get", .ref rD8), ("sort", .ref rD9), ("pick", .ref rD10), ("send", .ref rD11), ("take", .ref rD12), ("tell", .ref rD13), ("show", .ref rD14)]) lDD lowDD (by rw [eDD]; exact (.cons ⟨_, rfl⟩ (.cons ⟨_, rfl⟩ (.cons ⟨_, rfl⟩ (.cons ⟨_, rfl⟩ (.cons ⟨_, rfl⟩ (.cons ⟨_, rfl⟩ (.cons ⟨_, rfl⟩ (.cons ⟨_, rfl⟩ (.cons ⟨_, rfl⟩ (.cons ⟨_, rfl⟩ (.cons ⟨_, rfl⟩ (.cons ⟨_, rfl⟩ (.cons ⟨_, rfl⟩ (.cons ⟨_, rfl⟩ (.cons ⟨_, rfl⟩ .nil)))))))))))))))) (.cons ⟨rfl, rD0, rfl, ⟨_, _, _, qTD0, rfl, rfl, by show 2 ≤ sizeLine; decide, (.cons ⟨_, rfl⟩ (.cons ⟨_, rfl⟩ .nil))⟩⟩ (.cons ⟨rfl, rD1, rfl, ⟨_, _, _, qTD1, rfl, rfl, by show 4 ≤ sizeLine; decide, (.cons ⟨_, rfl⟩ (.cons ⟨_, rfl⟩ (.cons ⟨_, rfl⟩ (.cons ⟨_, rfl⟩ .nil))))⟩⟩ (.cons ⟨rfl, rD2, rfl, ⟨_, _, _, qTD2, rfl, rfl, by show 1 ≤ sizeLine; decide, (.cons ⟨_, rfl⟩ .nil)⟩⟩ (.cons ⟨rfl, rD3, rfl, ⟨_, _, _, qTD3, rfl, rfl, by show 2 ≤ sizeLine; decide, (.cons ⟨_, rfl⟩ (.cons ⟨_, rfl⟩ .nil))⟩⟩ (.cons ⟨rfl, rD4, rfl, ⟨_, _, _, qTD4, rfl, rfl, by show 2 ≤ sizeLine; decide, (.cons ⟨_, rfl⟩ (.cons ⟨_, rfl⟩ .nil))⟩⟩ (.cons ⟨rfl, rD5, rfl, ⟨_, _, _, qTD5, rfl, rfl, by show 4 ≤ sizeLine; decide, (.cons ⟨_, rfl⟩ (.cons ⟨_, rfl⟩ (.cons ⟨_, rfl⟩ (.cons ⟨_, rfl⟩ .nil))))⟩⟩ (.cons ⟨rfl, rD6, rfl, ⟨_, _, _, qTD6, rfl, rfl, by show 4 ≤ sizeLine; decide, (.cons ⟨_, rfl⟩ (.cons ⟨_, rfl⟩ (.cons ⟨_, rfl⟩ (.cons ⟨_, rfl⟩ .nil))))⟩⟩ (.cons ⟨rfl, rD7, rfl, ⟨_, _, _, qTD7, rfl, rfl, by show 4 ≤ sizeLine; decide, (.cons ⟨_, rfl⟩ (.cons ⟨_, rfl⟩ (.cons ⟨_, rfl⟩ (.cons ⟨_, rfl⟩ .nil))))⟩⟩ (.cons ⟨rfl, rD8, rfl, ⟨_, _, _, qTD8, rfl, rfl, by show 4 ≤ sizeLine; decide, (.cons ⟨_, rfl⟩ (.cons ⟨_, rfl⟩ (.cons ⟨_, rfl⟩ (.cons ⟨_, rfl⟩ .nil))))⟩⟩ (.cons ⟨rfl, rD9, rfl, ⟨_, _, _, qTD9, rfl, rfl, by show 4 ≤ sizeLine; decide, (.cons ⟨_, rfl⟩ (.cons ⟨_, rfl⟩ (.cons ⟨_, rfl⟩ (.cons ⟨_, rfl⟩ .nil))))⟩⟩ (.cons ⟨rfl, rD10, rfl, ⟨_, _, _, qTD10, rfl, rfl, by show 4 ≤ sizeLine; decide, (.cons ⟨_, rfl⟩ (.cons ⟨_, rfl⟩ (.cons ⟨_, rfl⟩ (.cons ⟨_, rfl⟩ .nil))))⟩⟩ (.cons ⟨rfl, rD11, rfl, ⟨_, _, _, qTD11, rfl, rfl, by show 2 ≤ sizeLine; decide, (.cons ⟨_, rfl⟩ (.cons ⟨_, rfl⟩ .nil))⟩⟩ (.cons ⟨rfl, rD12, rfl, ⟨_, _, _, qTD12, rfl, rfl, by show 2 ≤ sizeLine; decide, (.cons ⟨_, rfl⟩ (.cons ⟨_, rfl⟩ .nil))⟩⟩ (.cons ⟨rfl, rD13, rfl, ⟨_, _, _, qTD13, rfl, rfl, by show 1 ≤ sizeLine; decide, (.cons ⟨_, rfl⟩ .nil)⟩⟩ (.cons ⟨rfl, rD14, rfl, ⟨_, _, _, qTD14, rfl, rfl, by show 1 ≤ sizeLine; decide, (.cons ⟨_, rfl⟩ .nil)⟩⟩ .nil)))))))))))))))
  have hB : BranchT K w dtB := branchT_of (l := [("if", .int 2 vB0), ("while", .int 1 vB1)]) lDB lowDB (by rw [eDB]; exact (.cons ⟨_, rfl⟩ (.cons ⟨_, rfl⟩ .nil))) (.cons ⟨rfl, _, rfl⟩ (.cons ⟨rfl, _, rfl⟩ .nil))
  have SBk : BkC K mg CBk := ⟨⟨pgBk, hdBk, poBk, saBk⟩, nBk0, nBk1, PySem.W.mg_of X G aBk⟩
  have FBk0 := fun_mk (st := sBkInit) lBk0 cBk0 kBk0
  have MBk0 : MStd K CBk "__init__" "Block.__init__" sBkInit ["self", "head"] gBk0 _ := ⟨FBk0, ⟨fBk0, iBk0, kBk0⟩, FBk0.binds (ps := ["self", "head"]) fun _ _ _ _ _ _ us hl => match us, hl with | [_, _], _ => rfl⟩
  have FBk1 := fun_mk (st := sBkParts) lBk1 cBk1 kBk1
  have MBk1 : MStd K CBk "parts" "Block.parts" sBkParts ["self"] gBk1 _ := ⟨FBk1, ⟨fBk1, iBk1, kBk1⟩, FBk1.binds (ps := ["self"]) fun _ _ _ _ _ _ us hl => match us, hl with | [_], _ => rfl⟩
  have FBk2 := fun_mk (st := sBkLacksOther) lBk2 cBk2 kBk2
  have MBk2 : MStd K CBk "lacks_other" "Block.lacks_other" sBkLacksOther ["self"] gBk2 _ := ⟨FBk2, ⟨fBk2, iBk2, kBk2⟩, FBk2.binds (ps := ["self"]) fun _ _ _ _ _ _ us hl => match us, hl with | [_], _ => rfl⟩
  have SNr : NrC K mg CNr := ⟨⟨pgNr, hdNr, poNr, saNr⟩, nNr0, nNr1, nNr2, nNr3, PySem.W.mg_of X G aNr⟩
  have FNr0 := fun_mk (st := sNrInit) lNr0 cNr0 kNr0
  have MNr0 : MStd K CNr "__init__" "NetRows.__init__" sNrInit ["self"] gNr0 _ := ⟨FNr0, ⟨fNr0, iNr0, kNr0⟩, FNr0.binds (ps := ["self"]) fun _ _ _ _ _ _ us hl => match us, hl with | [_], _ => rfl⟩
  have FNr1 := fun_mk (st := sNrReadRow) lNr1 cNr1 kNr1
  have MNr1 : MStd K CNr "read_row" "NetRows.read_row" sNrReadRow ["self", "row"] gNr1 _ := ⟨FNr1, ⟨fNr1, iNr1, kNr1⟩, FNr1.binds (ps := ["self", "row"]) fun _ _ _ _ _ _ us hl => match us, hl with | [_, _], _ => rfl⟩
  have FNr2 := fun_mk (st := sNrReadChannels) lNr2 cNr2 kNr2
  have MNr2 : MStd K CNr "read_channels" "NetRows.read_channels" sNrReadChannels ["self", "row"] gNr2 _ := ⟨FNr2, ⟨fNr2, iNr2, kNr2⟩, FNr2.binds (ps := ["self", "row"]) fun _ _ _ _ _ _ us hl => match us, hl with | [_, _], _ => rfl⟩
  have FNr3 := fun_mk (st := sNrCloseTo) lNr3 cNr3 kNr3
  have MNr3 : MStd K CNr "close_to" "NetRows.close_to" sNrCloseTo ["self", "level"] gNr3 _ := ⟨FNr3, ⟨fNr3, iNr3, kNr3⟩, FNr3.binds (ps := ["self", "level"]) fun _ _ _ _ _ _ us hl => match us, hl with | [_, _], _ => rfl⟩
  have FNr4 := fun_mk (st := sNrEndActor) lNr4 cNr4 kNr4
  have MNr4 : MStd K CNr "end_actor" "NetRows.end_actor" sNrEndActor ["self"] gNr4 _ := ⟨FNr4, ⟨fNr4, iNr4, kNr4⟩, FNr4.binds (ps := ["self"]) fun _ _ _ _ _ _ us hl => match us, hl with | [_], _ => rfl⟩
  have FNr5 := fun_mk (st := sNrBeginActor) lNr5 cNr5 kNr5
  have MNr5 : MStd K CNr "begin_actor" "NetRows.begin_actor" sNrBeginActor ["self"] gNr5 _ := ⟨FNr5, ⟨fNr5, iNr5, kNr5⟩, FNr5.binds (ps := ["self"]) fun _ _ _ _ _ _ us hl => match us, hl with | [_], _ => rfl⟩
  have FNr6 := fun_mk (st := sNrBeginOther) lNr6 cNr6 kNr6
  have MNr6 : MStd K CNr "begin_other" "NetRows.begin_other" sNrBeginOther ["self", "level"] gNr6 _ := ⟨FNr6, ⟨fNr6, iNr6, kNr6⟩, FNr6.binds (ps := ["self", "level"]) fun _ _ _ _ _ _ us hl => match us, hl with | [_, _], _ => rfl⟩
  have FNr7 := fun_mk (st := sNrReadStatement) lNr7 cNr7 kNr7
  have MNr7 : MStd K CNr "read_statement" "NetRows.read_statement" sNrReadStatement ["self", "words", "level"] gNr7 _ := ⟨FNr7, ⟨fNr7, iNr7, kNr7⟩, FNr7.binds (ps := ["self", "words", "level"]) fun _ _ _ _ _ _ us hl => match us, hl with | [_, _, _], _ => rfl⟩
  have FNr8 := fun_mk (st := sNrMadeNet) lNr8 cNr8 kNr8
  have MNr8 : MStd K CNr "made_net" "NetRows.made_net" sNrMadeNet ["self"] gNr8 _ := ⟨FNr8, ⟨fNr8, iNr8, kNr8⟩, FNr8.binds (ps := ["self"]) fun _ _ _ _ _ _ us hl => match us, hl with | [_], _ => rfl⟩
  exact ⟨_, _, _, _, _, _, _, _, _, _, _, _, _, _, _, _, _, _, _, _, _, F38, fun s v => .of_eq rfl, T, (PySem.W.mg_none_of X G z11), (PySem.W.mg_none_of X G z12), (PySem.W.mg_none_of X G z13), (PySem.W.mg_none_of X G z14), ⟨_, _, _, _, PySem.W.mg_of X G a5, F5, rfl, lkA1, rfl, pA1, noA1⟩, ⟨_, _, _, _, PySem.W.mg_of X G a10, F10, rfl, lkA2, rfl, pA2, noA2⟩, ⟨_, _, _, _, PySem.W.mg_of X G a14, F14, rfl, lkA3, rfl, pA3, noA3⟩, ⟨_, _, _, _, PySem.W.mg_of X G a15, F15, rfl, lkA4, rfl, pA4, noA4⟩, ⟨_, _, _, _, PySem.W.mg_of X G a16, F16, rfl, lkA5, rfl, pA5, noA5⟩, ⟨_, _, _, _, PySem.W.mg_of X G a17, F17, rfl, lkA6, rfl, pA6, noA6⟩, ⟨_, _, _, _, PySem.W.mg_of X G a19, F19, rfl, lkA7, rfl, pA7, noA7⟩, ⟨_, _, _, _, PySem.W.mg_of X G a24, F24, rfl, lkA8, rfl, pA8, noA8⟩, ⟨noM1, inM1, hcM1⟩, ⟨noM2, inM2, hcM2⟩, fun P base TA1 TA2 TA3 TA4 TA5 TA6 TA7 TA8 TM1 TM2 =>
    all_cals T C (PySem.W.mg_none_of X G z11) (PySem.W.mg_none_of X G z12) (PySem.W.mg_none_of X G z13) (PySem.W.mg_none_of X G z14) (PySem.W.mg_of X G aS) hS (PySem.W.mg_of X G aU) hU (PySem.W.mg_of X G aDD) hD (PySem.W.mg_of X G aDB) hB ⟨_, PySem.W.mg_of X G nMF⟩ ⟨_, PySem.W.mg_of X G nIN⟩ SBk mkBk kcBk MBk0 MBk1 MBk2 SNr mkNr kcNr MNr0 MNr1 MNr2 MNr3 MNr4 MNr5 MNr6 MNr7 MNr8 S0 S1 S2 S3 S4 S5 S6 S7 S8 S9 S10 S11 S12 S13 S14 S15 S16 S17 S18 S19 S20 S21 S22 S23 S24 S25 S26 S27 S28 S29 S30 S31 S32 S33 S34 S35 S36 S37 rfl TA1 rfl TA2 rfl TA3 rfl TA4 rfl TA5 rfl TA6 rfl TA7 rfl TA8 rfl TM1 rfl TM2⟩
theorem tab_of {q : Program} {loose : List Str} {mean : ExcName → Option Value} {mg mb : Str → Option Value} {h : Heap} (T : Top q loose mean mg mb h) {x : Str} (hx : (recsOf q).any (fun d => d.name == x) = true) {K : PySem.W.Frag} (KX : K.In h) {st : Stmt} {f c Pt : Addr} {fd : FuncData} (F : Fun K x x st f fd) (hm : mg x = some (.ref f)) (hc : fd.code = .ref c)
    {oT : Obj} {vT : Array Value} (lk : K.lookup c = some oT) (hd : oT.data = .fields vT) (hp : vT[11]? = some (.ref Pt)) : h.get? Pt = some { cls := .none, data := .fields #[] } ∧ PySem.W.CodeHd h c Pt := by
  obtain ⟨d, hdm, e⟩ := List.any_eq_true.mp hx
  have e : d.name = x := eq_of_beq e
  obtain ⟨a, o, fd', c', P', m1, g1, d1, c1, isC, tab⟩ := T.tab d hdm
  rw [e, hm] at m1
  cases m1
  obtain ⟨oc, od, kV, doc, pm, an, cdv, ct, osl, rfl, found, code⟩ := F.ex
  have g2 := KX _ _ found
  rw [g1] at g2
  cases g2
  cases d1
  have hc : cdv = .ref c := hc
  have c1 : cdv = .ref c' := c1
  rw [hc] at c1
  cases c1
  obtain ⟨⟨o2, vs2, e1, e2, e3, e4⟩, e5⟩ := id tab
  have g3 := KX _ _ lk
  rw [e1] at g3
  cases g3
  rw [e3] at hd
  cases hd
  rw [e4] at hp
  cases hp
  exact ⟨e5, PySem.W.CodeHd.of isC tab⟩
theorem walk {l : PySem.W.OpenLaw} {q : Program} {loose : List Str} {XP : (Str → Option Value) → Heap → Prop} {YP : World → Heap → Prop} {d : DefRec} {K : Params → PySem.W.Frag} (hn : l.most = some 63) (hdf : d.params.defaults = []) (hnm : d.name = "law") (hi : importsNone q = true) (hA1 : (recsOf q).any (fun d => d.name == ("are_small" : Str)) = true) (hA2 : (recsOf q).any (fun d => d.name == ("is_deed" : Str)) = true) (hA3 : (recsOf q).any (fun d => d.name == ("is_channel" : Str)) = true) (hA4 : (recsOf q).any (fun d => d.name == ("sends_of" : Str)) = true) (hA5 : (recsOf q).any (fun d => d.name == ("takes_of" : Str)) = true) (hA6 : (recsOf q).any (fun d => d.name == ("is_net" : Str)) = true) (hA7 : (recsOf q).any (fun d => d.name == ("whole_from" : Str)) = true) (hA8 : (recsOf q).any (fun d => d.name == ("channel_from" : Str)) = true)
    (hY : ∀ (w : World) (h : Heap), YP w h → (K w.params).In h)
    (hTS : ∀ (w : World) (h : Heap), YP w h → ∀ P ∈ tsM, h.get? P = some (PySem.W.tabObj #[]))
    (F : ∀ (w : World) (mg : Str → Option Value) (fa : Addr) (h : Heap), (K w.params).In h → h.Ns mainGlobals mg → mg d.name = some (.ref fa) → Left67 (K w.params) w mg fa) :
    PySem.W.WalkO q loose XP YP l.row.toRowW d [] (fun f vs => PySem.call f vs) := by
  refine Att.attach_call hn hdf fun w s0 s1 mg mb fa o pm cd doc a vs ns G Y ho hd hcd hmg hobj hints hlen hg => ?_
  have KX := hY w _ Y
  have KT := hTS w _ Y
  obtain ⟨fd, cA1, PA1, cA2, PA2, cA3, PA3, cA4, PA4, cA5, PA5, cA6, PA6, cA7, PA7, cA8, PA8, cM1, PM1, cM2, PM2, FL, bd, T, ex0, ex1, ex2, ex3, ⟨_, _, _, _, mA1, FA1, codeA1, lkA1, dA1, pA1, nA1⟩, ⟨_, _, _, _, mA2, FA2, codeA2, lkA2, dA2, pA2, nA2⟩, ⟨_, _, _, _, mA3, FA3, codeA3, lkA3, dA3, pA3, nA3⟩, ⟨_, _, _, _, mA4, FA4, codeA4, lkA4, dA4, pA4, nA4⟩, ⟨_, _, _, _, mA5, FA5, codeA5, lkA5, dA5, pA5, nA5⟩, ⟨_, _, _, _, mA6, FA6, codeA6, lkA6, dA6, pA6, nA6⟩, ⟨_, _, _, _, mA7, FA7, codeA7, lkA7, dA7, pA7, nA7⟩, ⟨_, _, _, _, mA8, FA8, codeA8, lkA8, dA8, pA8, nA8⟩, ⟨nM1, inM1, hcM1⟩, ⟨nM2, inM2, hcM2⟩, cals⟩ := F w mg fa _ KX G.T.g hmg
  obtain ⟨tA1, uA1⟩ := tab_of G.T hA1 KX FA1 mA1 codeA1 lkA1 dA1 pA1
  obtain ⟨tA2, uA2⟩ := tab_of G.T hA2 KX FA2 mA2 codeA2 lkA2 dA2 pA2
  obtain ⟨tA3, uA3⟩ := tab_of G.T hA3 KX FA3 mA3 codeA3 lkA3 dA3 pA3
  obtain ⟨tA4, uA4⟩ := tab_of G.T hA4 KX FA4 mA4 codeA4 lkA4 dA4 pA4
  obtain ⟨tA5, uA5⟩ := tab_of G.T hA5 KX FA5 mA5 codeA5 lkA5 dA5 pA5
  obtain ⟨tA6, uA6⟩ := tab_of G.T hA6 KX FA6 mA6 codeA6 lkA6 dA6 pA6
  obtain ⟨tA7, uA7⟩ := tab_of G.T hA7 KX FA7 mA7 codeA7 lkA7 dA7 pA7
  obtain ⟨tA8, uA8⟩ := tab_of G.T hA8 KX FA8 mA8 codeA8 lkA8 dA8 pA8
  have tM1 := KT PM1 inM1
  have uM1 := PySem.W.codeHd_of_K KX hcM1
  have tM2 := KT PM2 inM2
  have uM2 := PySem.W.codeHd_of_K KX hcM2
  obtain ⟨mm, sy, _⟩ := (G.T.seer hi).mods
  have each : ∀ {Pr : Addr × Addr → Prop}, Pr (cA1, PA1) → Pr (cA2, PA2) → Pr (cA3, PA3) → Pr (cA4, PA4) → Pr (cA5, PA5) → Pr (cA6, PA6) → Pr (cA7, PA7) → Pr (cA8, PA8) → Pr (cM1, PM1) → Pr (cM2, PM2) → ∀ p ∈ [(cA1, PA1), (cA2, PA2), (cA3, PA3), (cA4, PA4), (cA5, PA5), (cA6, PA6), (cA7, PA7), (cA8, PA8), (cM1, PM1), (cM2, PM2)], Pr p := fun h0 h1 h2 h3 h4 h5 h6 h7 h8 h9 p hp => by
    simp only [List.mem_cons, List.not_mem_nil, or_false] at hp
    rcases hp with rfl | rfl | rfl | rfl | rfl | rfl | rfl | rfl | rfl | rfl
    · exact h0
    · exact h1
    · exact h2
    · exact h3
    · exact h4
    · exact h5
    · exact h6
    · exact h7
    · exact h8
    · exact h9
  refine law_endT (k := 24) (cs := [(cA1, PA1), (cA2, PA2), (cA3, PA3), (cA4, PA4), (cA5, PA5), (cA6, PA6), (cA7, PA7), (cA8, PA8), (cM1, PM1), (cM2, PM2)]) KX G.T.g G.T.b G.T.builtins G.T.nolimit hg ⟨each tA1 tA2 tA3 tA4 tA5 tA6 tA7 tA8 tM1 tM2, each nA1 nA2 nA3 nA4 nA5 nA6 nA7 nA8 nM1 nM2, each uA1 uA2 uA3 uA4 uA5 uA6 uA7 uA8 uM1 uM2, ⟨mm, sy⟩, G.T.bmain⟩ hobj hints (small (by omega)) ⟨rfl, by decide, by decide⟩ FL scLaw bd fun base _ _ sb TB H cdv hc tabs scr hr => ?_
  refine law_body (k := 24) T  sb scr hlen (fun p hp => ?_) hr (cals l.prog base (TB _ List.mem_cons_self) (TB _ (List.mem_cons_of_mem _ List.mem_cons_self)) (TB _ (List.mem_cons_of_mem _ (List.mem_cons_of_mem _ List.mem_cons_self))) (TB _ (List.mem_cons_of_mem _ (List.mem_cons_of_mem _ (List.mem_cons_of_mem _ List.mem_cons_self)))) (TB _ (List.mem_cons_of_mem _ (List.mem_cons_of_mem _ (List.mem_cons_of_mem _ (List.mem_cons_of_mem _ List.mem_cons_self))))) (TB _ (List.mem_cons_of_mem _ (List.mem_cons_of_mem _ (List.mem_cons_of_mem _ (List.mem_cons_of_mem _ (List.mem_cons_of_mem _ List.mem_cons_self)))))) (TB _ (List.mem_cons_of_mem _ (List.mem_cons_of_mem _ (List.mem_cons_of_mem _ (List.mem_cons_of_mem _ (List.mem_cons_of_mem _ (List.mem_cons_of_mem _ List.mem_cons_self))))))) (TB _ (List.mem_cons_of_mem _ (List.mem_cons_of_mem _ (List.mem_cons_of_mem _ (List.mem_cons_of_mem _ (List.mem_cons_of_mem _ (List.mem_cons_of_mem _ (List.mem_cons_of_mem _ List.mem_cons_self)))))))) (TB _ (List.mem_cons_of_mem _ (List.mem_cons_of_mem _ (List.mem_cons_of_mem _ (List.mem_cons_of_mem _ (List.mem_cons_of_mem _ (List.mem_cons_of_mem _ (List.mem_cons_of_mem _ (List.mem_cons_of_mem _ List.mem_cons_self))))))))) (TB _ (List.mem_cons_of_mem _ (List.mem_cons_of_mem _ (List.mem_cons_of_mem _ (List.mem_cons_of_mem _ (List.mem_cons_of_mem _ (List.mem_cons_of_mem _ (List.mem_cons_of_mem _ (List.mem_cons_of_mem _ (List.mem_cons_of_mem _ List.mem_cons_self)))))))))))
  simp only [List.mem_cons, List.not_mem_nil, or_false] at hp
  rcases hp with rfl | rfl | rfl | rfl | rfl | rfl | rfl | rfl | rfl | rfl
  · exact ⟨#[], tabs _ List.mem_cons_self, trivial⟩
  · exact ⟨#[], tabs _ (List.mem_cons_of_mem _ List.mem_cons_self), trivial⟩
  · exact ⟨#[], tabs _ (List.mem_cons_of_mem _ (List.mem_cons_of_mem _ List.mem_cons_self)), trivial⟩
  · exact ⟨#[], tabs _ (List.mem_cons_of_mem _ (List.mem_cons_of_mem _ (List.mem_cons_of_mem _ List.mem_cons_self))), trivial⟩
  · exact ⟨#[], tabs _ (List.mem_cons_of_mem _ (List.mem_cons_of_mem _ (List.mem_cons_of_mem _ (List.mem_cons_of_mem _ List.mem_cons_self)))), trivial⟩
  · exact ⟨#[], tabs _ (List.mem_cons_of_mem _ (List.mem_cons_of_mem _ (List.mem_cons_of_mem _ (List.mem_cons_of_mem _ (List.mem_cons_of_mem _ List.mem_cons_self))))), trivial⟩
  · exact ⟨#[], tabs _ (List.mem_cons_of_mem _ (List.mem_cons_of_mem _ (List.mem_cons_of_mem _ (List.mem_cons_of_mem _ (List.mem_cons_of_mem _ (List.mem_cons_of_mem _ List.mem_cons_self)))))), trivial⟩
  · exact ⟨#[], tabs _ (List.mem_cons_of_mem _ (List.mem_cons_of_mem _ (List.mem_cons_of_mem _ (List.mem_cons_of_mem _ (List.mem_cons_of_mem _ (List.mem_cons_of_mem _ (List.mem_cons_of_mem _ List.mem_cons_self))))))), trivial⟩
  · exact ⟨#[], tabs _ (List.mem_cons_of_mem _ (List.mem_cons_of_mem _ (List.mem_cons_of_mem _ (List.mem_cons_of_mem _ (List.mem_cons_of_mem _ (List.mem_cons_of_mem _ (List.mem_cons_of_mem _ (List.mem_cons_of_mem _ List.mem_cons_self)))))))), trivial⟩
  · exact ⟨#[], tabs _ (List.mem_cons_of_mem _ (List.mem_cons_of_mem _ (List.mem_cons_of_mem _ (List.mem_cons_of_mem _ (List.mem_cons_of_mem _ (List.mem_cons_of_mem _ (List.mem_cons_of_mem _ (List.mem_cons_of_mem _ (List.mem_cons_of_mem _ List.mem_cons_self))))))))), trivial⟩
end
end Gw
open PySem PySem.W PyProof.Rows
local macro_rules
  | `(tactic| o_head ($h:ident $a $b $c)) => do
    if h.getId.eraseMacroScopes.getString! == "kHook" then `(tactic| o_head (PySem.W.kmHook $a $b $c Gw.tsM)) else Lean.Macro.throwUnsupported
set_option maxRecDepth 100000 in
set_option maxHeartbeats 0 in
theorem PySem.Challenge.cw_giveway_k67_nets_written_and_read_holds : PySem.Challenge.rw_giveway_k67_nets_written_and_read.Holds := by
  w_on; o_law; k_head; (case hw => w_witness2)
  k_fill
  refine Gw.walk (l := PySem.Challenge.rw_giveway_k67_nets_written_and_read) rfl rfl rfl (by decide +kernel) (by decide +kernel) (by decide +kernel) (by decide +kernel) (by decide +kernel) (by decide +kernel) (by decide +kernel) (by decide +kernel) (by decide +kernel) (fun w h Y => PySem.W.km_in_of Y) (fun w h Y => PySem.W.km_tabs_of Y) ?F
  case F =>
    intro w mg fa h KX G hmg
    refine' Gw.all_mk KX G hmg ?a0 ?l0 ?c0 ?k0 ?a1 ?l1 ?c1 ?k1 ?a2 ?l2 ?c2 ?k2 ?a3 ?l3 ?c3 ?k3 ?a4 ?l4 ?c4 ?k4 ?a5 ?l5 ?c5 ?k5 ?a6 ?l6 ?c6 ?k6 ?a7 ?l7 ?c7 ?k7 ?a8 ?l8 ?c8 ?k8 ?a9 ?l9 ?c9 ?k9 ?a10 ?l10 ?c10 ?k10 ?a11 ?l11 ?c11 ?k11 ?a12 ?l12 ?c12 ?k12 ?a13 ?l13 ?c13 ?k13 ?a14 ?l14 ?c14 ?k14 ?a15 ?l15 ?c15 ?k15 ?a16 ?l16 ?c16 ?k16 ?a17 ?l17 ?c17 ?k17 ?a18 ?l18 ?c18 ?k18 ?a19 ?l19 ?c19 ?k19 ?a20 ?l20 ?c20 ?k20 ?a21 ?l21 ?c21 ?k21 ?a22 ?l22 ?c22 ?k22 ?a23 ?l23 ?c23 ?k23 ?a24 ?l24 ?c24 ?k24 ?a25 ?l25 ?c25 ?k25 ?a26 ?l26 ?c26 ?k26 ?a27 ?l27 ?c27 ?k27 ?a28 ?l28 ?c28 ?k28 ?a29 ?l29 ?c29 ?k29 ?a30 ?l30 ?c30 ?k30 ?a31 ?l31 ?c31 ?k31 ?a32 ?l32 ?c32 ?k32 ?a33 ?l33 ?c33 ?k33 ?a34 ?l34 ?c34 ?k34 ?a35 ?l35 ?c35 ?k35 ?a36 ?l36 ?c36 ?k36 ?a37 ?l37 ?c37 ?k37 ?a38 ?l38 ?c38 ?k38 ?n0 ?n1 ?n2 ?n3 ?n4 ?n5 ?n6 ?n7 ?z0 ?z1 ?z2 ?z3 ?z4 ?z5 ?z6 ?z7 ?z8 ?z9 ?z10 ?z11 ?z12 ?z13 ?z14 ?lkA1 ?pA1 ?noA1 ?lkA2 ?pA2 ?noA2 ?lkA3 ?pA3 ?noA3 ?lkA4 ?pA4 ?noA4 ?lkA5 ?pA5 ?noA5 ?lkA6 ?pA6 ?noA6 ?lkA7 ?pA7 ?noA7 ?lkA8 ?pA8 ?noA8 ?aS ?qS ?aU ?qU ?aDD ?lDD ?lowDD ?eDD ?qTD0 ?qTD1 ?qTD2 ?qTD3 ?qTD4 ?qTD5 ?qTD6 ?qTD7 ?qTD8 ?qTD9 ?qTD10 ?qTD11 ?qTD12 ?qTD13 ?qTD14 ?aDB ?lDB ?lowDB ?eDB ?nMF ?nIN ?aBk ?fBk0 ?iBk0 ?lBk0 ?cBk0 ?kBk0 ?fBk1 ?iBk1 ?lBk1 ?cBk1 ?kBk1 ?fBk2 ?iBk2 ?lBk2 ?cBk2 ?kBk2 ?pgBk ?hdBk ?poBk ?saBk ?mkBk ?kcBk ?nBk0 ?nBk1 ?aNr ?fNr0 ?iNr0 ?lNr0 ?cNr0 ?kNr0 ?fNr1 ?iNr1 ?lNr1 ?cNr1 ?kNr1 ?fNr2 ?iNr2 ?lNr2 ?cNr2 ?kNr2 ?lkM1 ?pM1 ?noM1 ?inM1 ?hcM1 ?fNr3 ?iNr3 ?lNr3 ?cNr3 ?kNr3 ?fNr4 ?iNr4 ?lNr4 ?cNr4 ?kNr4 ?fNr5 ?iNr5 ?lNr5 ?cNr5 ?kNr5 ?fNr6 ?iNr6 ?lNr6 ?cNr6 ?kNr6 ?fNr7 ?iNr7 ?lNr7 ?cNr7 ?kNr7 ?lkM2 ?pM2 ?noM2 ?inM2 ?hcM2 ?fNr8 ?iNr8 ?lNr8 ?cNr8 ?kNr8 ?pgNr ?hdNr ?poNr ?saNr ?mkNr ?kcNr ?nNr0 ?nNr1 ?nNr2 ?nNr3
    (case a0 => k_is)
    (case l0 => k_is)
    (case c0 => k_is)
    (case k0 => k_is)
    (case a1 => k_is)
    (case l1 => k_is)
    (case c1 => k_is)
    (case k1 => k_is)
    (case a2 => k_is)
    (case l2 => k_is)
    (case c2 => k_is)
    (case k2 => k_is)
    (case a3 => k_is)
    (case l3 => k_is)
    (case c3 => k_is)
    (case k3 => k_is)
    (case a4 => k_is)
    (case l4 => k_is)
    (case c4 => k_is)
    (case k4 => k_is)
    (case a5 => k_is)
    (case l5 => k_is)
    (case c5 => k_is)
    (case k5 => k_is)
    (case a6 => k_is)
    (case l6 => k_is)
    (case c6 => k_is)
    (case k6 => k_is)
    (case a7 => k_is)
    (case l7 => k_is)
    (case c7 => k_is)
    (case k7 => k_is)
    (case a8 => k_is)
    (case l8 => k_is)
    (case c8 => k_is)
    (case k8 => k_is)
    (case a9 => k_is)
    (case l9 => k_is)
    (case c9 => k_is)
    (case k9 => k_is)
    (case a10 => k_is)
    (case l10 => k_is)
    (case c10 => k_is)
    (case k10 => k_is)
    (case a11 => k_is)
    (case l11 => k_is)
    (case c11 => k_is)
    (case k11 => k_is)
    (case a12 => k_is)
    (case l12 => k_is)
    (case c12 => k_is)
    (case k12 => k_is)
    (case a13 => k_is)
    (case l13 => k_is)
    (case c13 => k_is)
    (case k13 => k_is)
    (case a14 => k_is)
    (case l14 => k_is)
    (case c14 => k_is)
    (case k14 => k_is)
    (case a15 => k_is)
    (case l15 => k_is)
    (case c15 => k_is)
    (case k15 => k_is)
    (case a16 => k_is)
    (case l16 => k_is)
    (case c16 => k_is)
    (case k16 => k_is)
    (case a17 => k_is)
    (case l17 => k_is)
    (case c17 => k_is)
    (case k17 => k_is)
    (case a18 => k_is)
    (case l18 => k_is)
    (case c18 => k_is)
    (case k18 => k_is)
    (case a19 => k_is)
    (case l19 => k_is)
    (case c19 => k_is)
    (case k19 => k_is)
    (case a20 => k_is)
    (case l20 => k_is)
    (case c20 => k_is)
    (case k20 => k_is)
    (case a21 => k_is)
    (case l21 => k_is)
    (case c21 => k_is)
    (case k21 => k_is)
    (case a22 => k_is)
    (case l22 => k_is)
    (case c22 => k_is)
    (case k22 => k_is)
    (case a23 => k_is)
    (case l23 => k_is)
    (case c23 => k_is)
    (case k23 => k_is)
    (case a24 => k_is)
    (case l24 => k_is)
    (case c24 => k_is)
    (case k24 => k_is)
    (case a25 => k_is)
    (case l25 => k_is)
    (case c25 => k_is)
    (case k25 => k_is)
    (case a26 => k_is)
    (case l26 => k_is)
    (case c26 => k_is)
    (case k26 => k_is)
    (case a27 => k_is)
    (case l27 => k_is)
    (case c27 => k_is)
    (case k27 => k_is)
    (case a28 => k_is)
    (case l28 => k_is)
    (case c28 => k_is)
    (case k28 => k_is)
    (case a29 => k_is)
    (case l29 => k_is)
    (case c29 => k_is)
    (case k29 => k_is)
    (case a30 => k_is)
    (case l30 => k_is)
    (case c30 => k_is)
    (case k30 => k_is)
    (case a31 => k_is)
    (case l31 => k_is)
    (case c31 => k_is)
    (case k31 => k_is)
    (case a32 => k_is)
    (case l32 => k_is)
    (case c32 => k_is)
    (case k32 => k_is)
    (case a33 => k_is)
    (case l33 => k_is)
    (case c33 => k_is)
    (case k33 => k_is)
    (case a34 => k_is)
    (case l34 => k_is)
    (case c34 => k_is)
    (case k34 => k_is)
    (case a35 => k_is)
    (case l35 => k_is)
    (case c35 => k_is)
    (case k35 => k_is)
    (case a36 => k_is)
    (case l36 => k_is)
    (case c36 => k_is)
    (case k36 => k_is)
    (case a37 => k_is)
    (case l37 => k_is)
    (case c37 => k_is)
    (case k37 => k_is)
    (case a38 => k_is)
    (case l38 => k_is)
    (case c38 => k_is)
    (case k38 => k_is)
    (case n0 => k_is)
    (case n1 => k_is)
    (case n2 => k_is)
    (case n3 => k_is)
    (case n4 => k_is)
    (case n5 => k_is)
    (case n6 => k_is)
    (case n7 => k_is)
    (case z0 => k_is)
    (case z1 => k_is)
    (case z2 => k_is)
    (case z3 => k_is)
    (case z4 => k_is)
    (case z5 => k_is)
    (case z6 => k_is)
    (case z7 => k_is)
    (case z8 => k_is)
    (case z9 => k_is)
    (case z10 => k_is)
    (case z11 => k_is)
    (case z12 => k_is)
    (case z13 => k_is)
    (case z14 => k_is)
    (case lkA1 => k_is)
    (case pA1 => rfl)
    (case noA1 => first | rfl | k_is)
    (case lkA2 => k_is)
    (case pA2 => rfl)
    (case noA2 => first | rfl | k_is)
    (case lkA3 => k_is)
    (case pA3 => rfl)
    (case noA3 => first | rfl | k_is)
    (case lkA4 => k_is)
    (case pA4 => rfl)
    (case noA4 => first | rfl | k_is)
    (case lkA5 => k_is)
    (case pA5 => rfl)
    (case noA5 => first | rfl | k_is)
    (case lkA6 => k_is)
    (case pA6 => rfl)
    (case noA6 => first | rfl | k_is)
    (case lkA7 => k_is)
    (case pA7 => rfl)
    (case noA7 => first | rfl | k_is)
    (case lkA8 => k_is)
    (case pA8 => rfl)
    (case noA8 => first | rfl | k_is)
    (case aS => k_is)
    (case qS => k_is)
    (case aU => k_is)
    (case qU => k_is)
    (case aDD => k_is)
    (case lDD => k_is)
    (case lowDD => rfl)
    (case eDD => rfl)
    (case qTD0 => k_is)
    (case qTD1 => k_is)
    (case qTD2 => k_is)
    (case qTD3 => k_is)
    (case qTD4 => k_is)
    (case qTD5 => k_is)
    (case qTD6 => k_is)
    (case qTD7 => k_is)
    (case qTD8 => k_is)
    (case qTD9 => k_is)
    (case qTD10 => k_is)
    (case qTD11 => k_is)
    (case qTD12 => k_is)
    (case qTD13 => k_is)
    (case qTD14 => k_is)
    (case aDB => k_is)
    (case lDB => k_is)
    (case lowDB => rfl)
    (case eDB => rfl)
    (case nMF => k_is)
    (case nIN => k_is)
    (case aBk => k_is)
    (case fBk0 => k_is)
    (case iBk0 => k_is)
    (case lBk0 => k_is)
    (case cBk0 => k_is)
    (case kBk0 => k_is)
    (case fBk1 => k_is)
    (case iBk1 => k_is)
    (case lBk1 => k_is)
    (case cBk1 => k_is)
    (case kBk1 => k_is)
    (case fBk2 => k_is)
    (case iBk2 => k_is)
    (case lBk2 => k_is)
    (case cBk2 => k_is)
    (case kBk2 => k_is)
    (case pgBk => k_is)
    (case hdBk => k_is)
    (case poBk => k_is)
    (case saBk => k_is)
    (case mkBk => k_is)
    (case kcBk => k_is)
    (case nBk0 => k_is)
    (case nBk1 => k_is)
    (case aNr => k_is)
    (case fNr0 => k_is)
    (case iNr0 => k_is)
    (case lNr0 => k_is)
    (case cNr0 => k_is)
    (case kNr0 => k_is)
    (case fNr1 => k_is)
    (case iNr1 => k_is)
    (case lNr1 => k_is)
    (case cNr1 => k_is)
    (case kNr1 => k_is)
    (case fNr2 => k_is)
    (case iNr2 => k_is)
    (case lNr2 => k_is)
    (case cNr2 => k_is)
    (case kNr2 => k_is)
    (case lkM1 => k_is)
    (case pM1 => rfl)
    (case noM1 => first | rfl | k_is)
    (case inM1 => decide)
    (case hcM1 => first | k_is | kernel_rfl)
    (case fNr3 => k_is)
    (case iNr3 => k_is)
    (case lNr3 => k_is)
    (case cNr3 => k_is)
    (case kNr3 => k_is)
    (case fNr4 => k_is)
    (case iNr4 => k_is)
    (case lNr4 => k_is)
    (case cNr4 => k_is)
    (case kNr4 => k_is)
    (case fNr5 => k_is)
    (case iNr5 => k_is)
    (case lNr5 => k_is)
    (case cNr5 => k_is)
    (case kNr5 => k_is)
    (case fNr6 => k_is)
    (case iNr6 => k_is)
    (case lNr6 => k_is)
    (case cNr6 => k_is)
    (case kNr6 => k_is)
    (case fNr7 => k_is)
    (case iNr7 => k_is)
    (case lNr7 => k_is)
    (case cNr7 => k_is)
    (case kNr7 => k_is)
    (case lkM2 => k_is)
    (case pM2 => rfl)
    (case noM2 => first | rfl | k_is)
    (case inM2 => decide)
    (case hcM2 => first | k_is | kernel_rfl)
    (case fNr8 => k_is)
    (case iNr8 => k_is)
    (case lNr8 => k_is)
    (case cNr8 => k_is)
    (case kNr8 => k_is)
    (case pgNr => k_is)
    (case hdNr => k_is)
    (case poNr => k_is)
    (case saNr => k_is)
    (case mkNr => k_is)
    (case kcNr => k_is)
    (case nNr0 => k_is)
    (case nNr1 => k_is)
    (case nNr2 => k_is)
    (case nNr3 => k_is)
