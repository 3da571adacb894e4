import PyProof.Rows.All
import Wide.All
import OpenK.AllK
import Wide.FinOn
import HandS.ForMost
import HandS.IsInst
import HandS.Defaults
import HandS.Conv
import HandS.TupAny
import KE.DataMinMax
import HandS.SortKw
import HandS.TupLe
import HandS.NoneIn
import PySem.Challenge.RW_giveway_k24_whole_rows_of_deeds_on_graph
set_option Elab.async false
set_option linter.all false
set_option maxRecDepth 100000
namespace Gw
open PySem L2
def top (i : Nat) : Stmt := PySem.Challenge.pw_giveway_k24_whole_rows_of_deeds_on_graph.main.body.getD i (.Pass ⟨0, 0, 0, 0⟩)
abbrev sWhole : Stmt := top 5
abbrev sWithin : Stmt := top 6
abbrev sTuple : Stmt := top 7
abbrev sNumber : Stmt := top 19
abbrev sPlace : Stmt := top 20
abbrev sHasBox : Stmt := top 21
abbrev sTie : Stmt := top 22
abbrev sPsz : Stmt := top 23
abbrev sGsz : Stmt := top 24
abbrev sIsGraph : Stmt := top 25
abbrev sCheckG : Stmt := top 26
abbrev sCheckP : Stmt := top 27
abbrev sBoxesIn : Stmt := top 28
abbrev sSortOf : Stmt := top 29
abbrev sDepthOf : Stmt := top 30
abbrev sHeld : Stmt := top 31
abbrev sReplaced : Stmt := top 32
abbrev sCanGrow : Stmt := top 33
abbrev sGrown : Stmt := top 34
abbrev sWithNumber : Stmt := top 35
abbrev sWithTie : Stmt := top 36
abbrev sCanHang : Stmt := top 37
abbrev sWithGraph : Stmt := top 38
abbrev sSortAt : Stmt := top 39
abbrev sNumAt : Stmt := top 40
abbrev sGraphAt : Stmt := top 41
abbrev sSize : Stmt := top 43
abbrev sGraph : Stmt := top 44
abbrev sSome : Stmt := top 45
abbrev sCell : Stmt := top 46
abbrev sState : Stmt := top 47
abbrev sChoice : Stmt := top 48
abbrev sInner : Stmt := top 49
abbrev sSeen : Stmt := top 50
abbrev sTurned : Stmt := top 51
abbrev sDeed : Stmt := top 52
abbrev sLaw : Stmt := top 53
/-- the names that the module leaves to the built-ins -/
structure Free (mg : Str → Option Value) : Prop where
  isi : mg "isinstance" = none
  int : mg "int" = none
  bool : mg "bool" = none
  tuple : mg "tuple" = none
  len : mg "len" = none
  range : mg "range" = none
  min : mg "min" = none
  max : mg "max" = none
  sum : mg "sum" = none
  list : mg "list" = none
  repr : mg "repr" = none
/-- a def that stands under its name and keeps a promise -/
def Cal (P : Program) (w : World) (K : PySem.W.Frag) (mg : Str → Option Value) (base : Heap) (x : Str) (k : Nat) (ps : List Str) (sp : Sp) : Prop :=
  ∃ (f : Addr) (fd : FuncData), FnOk P w K mg base CX0 k f fd ps sp ∧ mg x = some (.ref f) ∧ PySem.W.keepIn K (.ref f) = true ∧ Binds K fd ps []
theorem Cal.mono {P : Program} {w : World} {K : PySem.W.Frag} {mg : Str → Option Value} {base : Heap} {x : Str} {j k : Nat} {ps : List Str} {sp : Sp} (C : Cal P w K mg base x j ps sp) (h : j ≤ k) : Cal P w K mg base x k ps sp := by
  obtain ⟨f, fd, F, r⟩ := C
  exact ⟨f, fd, F.mono h, r⟩
theorem pe_cal {X : Cx} {x : Str} {p pos : Pos} {e : Expr} {es : List Expr} {t : TA} {k : Nat} {ps : List Str} {sp : Sp} (C : Cal X.prog X.w X.K X.mg X.base x k ps sp) (hr : Room k X.A) (hg : Gl X x) (ha : PA X (e :: es) t)
    (hdb : (x == ("__debug__" : Str)) = false := by decide) (he : starEach (e :: es) X.env = (false, eval e X.env) :: starEach es X.env := by rfl) (hpl : ((backTo pos (starEach es X.env)).any fun x => x.fst) = false := by rfl) :
    PE X (.Call (.Name x p) (e :: es) [] pos) (tCall sp [] E0 t) := by
  obtain ⟨f, fd, F, hm, hk, hb⟩ := C
  exact pe_call F hr hg hm hk hb .nil pass0 ha hdb he hpl
/-! the kinds of data -/
def kindD : PyData → String
  | .none => "NoneType"
  | .bool _ => "bool"
  | .int _ => "int"
  | .str _ => "str"
  | .list _ => "list"
  | .tuple _ => "tuple"
  | .dict _ => "dict"
theorem ty_lst {K : PySem.W.Frag} {H : Hp} {a : Addr} {xs : List V} (h : SqL K H a xs) : TyX K H (.ref a) (.type "list") := by
  rcases h with (h | ⟨o, h⟩) | ⟨o, its, n, hk, hc, _⟩
  · exact .base (.lst h)
  · exact .base (.frz h)
  · exact .kList hk hc
theorem ty_tup {K : PySem.W.Frag} {H : Hp} {a : Addr} {xs : List V} (h : SqT K H a xs) : TyX K H (.ref a) (.type "tuple") := by
  rcases h with (h | ⟨o, h⟩) | ⟨o, its, n, hk, hc, _⟩
  · exact .base (.tup h)
  · exact .fTuple h
  · exact .kTuple hk hc
theorem ty_of {K : PySem.W.Frag} {H : Hp} {x : V} {d : PyData} (h : Dp K H x d) : TyX K H x (.type (kindD d)) := by
  cases h with
  | non => exact .base .non
  | bl b => exact .base (.bl b)
  | int i => exact .base (.int i)
  | str s => exact .base (.str s)
  | lst h _ => exact ty_lst h
  | tup h _ => exact ty_tup h
def intD : PyData → Bool
  | .int _ => true
  | .bool _ => true
  | _ => false
def boolD : PyData → Bool
  | .bool _ => true
  | _ => false
def tupleD : PyData → Bool
  | .tuple _ => true
  | _ => false
theorem kit_int {K : PySem.W.Frag} (d : PyData) : PySem.W.kitOne K (.type (kindD d)) (.type "int") = some (intD d) := by
  cases d with
  | none => exact kit_ty (show kitB "NoneType" "int" = some false by decide +kernel)
  | bool _ => exact kit_ty (show kitB "bool" "int" = some true by decide +kernel)
  | int _ => exact kit_ty (show kitB "int" "int" = some true by decide +kernel)
  | str _ => exact kit_ty (show kitB "str" "int" = some false by decide +kernel)
  | list _ => exact kit_ty (show kitB "list" "int" = some false by decide +kernel)
  | tuple _ => exact kit_ty (show kitB "tuple" "int" = some false by decide +kernel)
  | dict _ => exact kit_ty (show kitB "dict" "int" = some false by decide +kernel)
theorem kit_bool {K : PySem.W.Frag} (d : PyData) : PySem.W.kitOne K (.type (kindD d)) (.type "bool") = some (boolD d) := by
  cases d with
  | none => exact kit_ty (show kitB "NoneType" "bool" = some false by decide +kernel)
  | bool _ => exact kit_ty (show kitB "bool" "bool" = some true by decide +kernel)
  | int _ => exact kit_ty (show kitB "int" "bool" = some false by decide +kernel)
  | str _ => exact kit_ty (show kitB "str" "bool" = some false by decide +kernel)
  | list _ => exact kit_ty (show kitB "list" "bool" = some false by decide +kernel)
  | tuple _ => exact kit_ty (show kitB "tuple" "bool" = some false by decide +kernel)
  | dict _ => exact kit_ty (show kitB "dict" "bool" = some false by decide +kernel)
theorem kit_tuple {K : PySem.W.Frag} (d : PyData) : PySem.W.kitOne K (.type (kindD d)) (.type "tuple") = some (tupleD d) := by
  cases d with
  | none => exact kit_ty (show kitB "NoneType" "tuple" = some false by decide +kernel)
  | bool _ => exact kit_ty (show kitB "bool" "tuple" = some false by decide +kernel)
  | int _ => exact kit_ty (show kitB "int" "tuple" = some false by decide +kernel)
  | str _ => exact kit_ty (show kitB "str" "tuple" = some false by decide +kernel)
  | list _ => exact kit_ty (show kitB "list" "tuple" = some false by decide +kernel)
  | tuple _ => exact kit_ty (show kitB "tuple" "tuple" = some true by decide +kernel)
  | dict _ => exact kit_ty (show kitB "dict" "tuple" = some false by decide +kernel)
theorem ifT {c : Bool} {A B : Prop} (e : c = true) (h : A) : if c = true then A else B := by rw [if_pos e]; exact h
theorem ifF {c : Bool} {A B : Prop} (e : c = false) (h : B) : if c = true then A else B := by rw [if_neg (by rw [e]; decide)]; exact h
def wholeD : PyData → Bool
  | .int _ => true
  | _ => false
def withinD (lo hi : Int) : PyData → Bool
  | .int i => decide (lo ≤ i) && decide (i ≤ hi)
  | _ => false
def tupD (lo hi : Int) : PyData → Bool
  | .tuple xs => decide (lo ≤ (xs.length : Int)) && decide ((xs.length : Int) ≤ hi)
  | _ => false
theorem dpAll_len {K : PySem.W.Frag} {H : Hp} : ∀ {xs : List V} {ds : List PyData}, DpAll K H xs ds → xs.length = ds.length
  | _, _, .nil => rfl
  | _, _, .cons _ t => by rw [List.length_cons, List.length_cons, dpAll_len t]
theorem dpAll_get {K : PySem.W.Frag} {H : Hp} : ∀ {xs : List V} {ds : List PyData} {i : Nat} {d : PyData}, DpAll K H xs ds → ds[i]? = some d → ∃ x, xs[i]? = some x ∧ Dp K H x d
  | _, _, 0, _, .cons h _, e => by cases e; exact ⟨_, rfl, h⟩
  | _, _, i + 1, _, .cons _ t, e => dpAll_get (i := i) t e
  | _, _, _, _, .nil, e => by cases e
theorem dpAll_get' {K : PySem.W.Frag} {H : Hp} : ∀ {xs : List V} {ds : List PyData} {i : Nat} {x : V}, DpAll K H xs ds → xs[i]? = some x → ∃ d, ds[i]? = some d ∧ Dp K H x d
  | _, _, 0, _, .cons h _, e => by cases e; exact ⟨_, rfl, h⟩
  | _, _, i + 1, _, .cons _ t, e => dpAll_get' (i := i) t e
  | _, _, _, _, .nil, e => by cases e
section
variable {P : Program} {w : World} {K : PySem.W.Frag} {mg : Str → Option Value} {base : Heap} {f : Addr} {fd : FuncData}
def spWhole (K : PySem.W.Frag) : Sp := fun vs H Q _ => ∃ (x : V) (d : PyData), vs = [x] ∧ Dp K H x d ∧ Q (.bl (wholeD d)) H
theorem scWhole : FnScope ["thing"] ["thing"] (defScope sWhole) := ⟨rfl, rfl, rfl, by decide +kernel, rfl, by decide +kernel, by decide +kernel⟩
theorem ok_whole {k : Nat} (F : Fun K "is_whole" "is_whole" sWhole f fd) (T : Free mg) : FnOk P w K mg base CX0 (k + 1) f fd ["thing"] (spWhole K) := by
  refine F.ok scWhole (fun vs H Q E h => ?_) (fun cdv A outer s H vs Q E hr h => ?_)
  · obtain ⟨x, d, rfl, _⟩ := h
    rfl
  obtain ⟨x, d, rfl, hx, q⟩ := h
  refine ⟨_, pss_one (ps_ret (pe_and (pe_callB call_isi rfl T.isi (by decide +kernel) (pa_cons (pv 0) (pa_cons (pe_bltn (v := .ty "int") rfl T.int (by decide +kernel) rfl) pa_nil)))
    (pe_one (pe_not (pe_callB call_isi rfl T.isi (by decide +kernel) (pa_cons (pv 0) (pa_cons (pe_bltn (v := .ty "bool") rfl T.bool (by decide +kernel) rfl) pa_nil))))))), ?_⟩
  have ht := ty_of hx
  refine ⟨_, rfl, x, _, _, _, _, rfl, .ty "int", ht, kit_int d, _, rfl, ?_⟩
  cases d with
  | int i => exact ifT rfl ⟨_, rfl, _, _, _, _, _, rfl, .ty "bool", ht, kit_bool _, _, rfl, q⟩
  | bool b => exact ifT rfl ⟨_, rfl, _, _, _, _, _, rfl, .ty "bool", ht, kit_bool _, _, rfl, q⟩
  | none => exact ifF rfl q
  | str _ => exact ifF rfl q
  | list _ => exact ifF rfl q
  | tuple _ => exact ifF rfl q
  | dict _ => exact ifF rfl q
/-! is_within -/
def spWithin (K : PySem.W.Frag) : Sp := fun vs H Q _ => ∃ (x : V) (d : PyData) (lo hi : Int), vs = [x, .int lo, .int hi] ∧ Dp K H x d ∧ Q (.bl (withinD lo hi d)) H
theorem scWithin : FnScope ["thing", "least", "most"] ["thing", "least", "most"] (defScope sWithin) := ⟨rfl, rfl, rfl, by decide +kernel, rfl, by decide +kernel, by decide +kernel⟩
theorem ok_within {k : Nat} (F : Fun K "is_within" "is_within" sWithin f fd) (cW : Cal P w K mg base "is_whole" k ["thing"] (spWhole K)) : FnOk P w K mg base CX0 (k + 1) f fd ["thing", "least", "most"] (spWithin K) := by
  refine F.ok scWithin (fun vs H Q E h => ?_) (fun cdv A outer s H vs Q E hr h => ?_)
  · obtain ⟨x, d, lo, hi, rfl, _⟩ := h
    rfl
  obtain ⟨x, d, lo, hi, rfl, hx, q⟩ := h
  refine ⟨_, pss_one (ps_ret (pe_and (pe_cal cW hr rfl (pa_cons (pv 0) pa_nil)) (pe_one (pe_chain op_le op_le (pv 1) (pv 0) (pv 2))))), ?_⟩
  refine ⟨_, rfl, x, d, rfl, hx, _, rfl, ?_⟩
  cases d with
  | int i =>
    cases hx
    refine ifT rfl ⟨_, rfl, _, rfl, _, _, rfl, rfl, _, rfl, ?_⟩
    have e : withinD lo hi (.int i) = (decide (lo ≤ i) && decide (i ≤ hi)) := rfl
    rw [e] at q
    by_cases c : lo ≤ i
    · refine ifT (decide_eq_true c) ⟨_, rfl, _, _, rfl, rfl, ?_⟩
      rw [decide_eq_true c, Bool.true_and] at q
      exact q
    · refine ifF (decide_eq_false c) ?_
      rw [decide_eq_false c, Bool.false_and] at q
      exact q
  | bool b => exact ifF rfl q
  | none => exact ifF rfl q
  | str _ => exact ifF rfl q
  | list _ => exact ifF rfl q
  | tuple _ => exact ifF rfl q
  | dict _ => exact ifF rfl q
/-! is_tuple -/
def spTuple (K : PySem.W.Frag) : Sp := fun vs H Q _ => ∃ (x : V) (d : PyData) (lo hi : Int), vs = [x, .int lo, .int hi] ∧ Dp K H x d ∧ Q (.bl (tupD lo hi d)) H
theorem scTuple : FnScope ["thing", "least", "most"] ["thing", "least", "most"] (defScope sTuple) := ⟨rfl, rfl, rfl, by decide +kernel, rfl, by decide +kernel, by decide +kernel⟩
theorem ok_tuple {k : Nat} (F : Fun K "is_tuple" "is_tuple" sTuple f fd) (T : Free mg) : FnOk P w K mg base CX0 (k + 1) f fd ["thing", "least", "most"] (spTuple K) := by
  refine F.ok scTuple (fun vs H Q E h => ?_) (fun cdv A outer s H vs Q E hr h => ?_)
  · obtain ⟨x, d, lo, hi, rfl, _⟩ := h
    rfl
  obtain ⟨x, d, lo, hi, rfl, hx, q⟩ := h
  refine ⟨_, pss_one (ps_ret (pe_and (pe_callB call_isi rfl T.isi (by decide +kernel) (pa_cons (pv 0) (pa_cons (pe_bltn (v := .ty "tuple") rfl T.tuple (by decide +kernel) rfl) pa_nil)))
    (pe_one (pe_chain op_le op_le (pv 1) (pe_callB call_len_seq rfl T.len PySem.boot_len (pa_cons (pv 0) pa_nil)) (pv 2))))), ?_⟩
  have ht := ty_of hx
  refine ⟨_, rfl, x, _, _, _, _, rfl, .ty "tuple", ht, kit_tuple d, _, rfl, ?_⟩
  cases d with
  | tuple ds =>
    cases hx with
    | tup hs ha =>
      refine ifT rfl ⟨_, rfl, _, rfl, _, _, rfl, .inr hs, _, _, rfl, rfl, _, rfl, ?_⟩
      rw [dpAll_len ha]
      have e : tupD lo hi (.tuple ds) = (decide (lo ≤ (ds.length : Int)) && decide ((ds.length : Int) ≤ hi)) := rfl
      rw [e] at q
      by_cases c : lo ≤ (ds.length : Int)
      · refine ifT (decide_eq_true c) ⟨_, rfl, _, _, rfl, rfl, ?_⟩
        rw [decide_eq_true c, Bool.true_and] at q
        exact q
      · refine ifF (decide_eq_false c) ?_
        rw [decide_eq_false c, Bool.false_and] at q
        exact q
  | int _ => exact ifF rfl q
  | bool b => exact ifF rfl q
  | none => exact ifF rfl q
  | str _ => exact ifF rfl q
  | list _ => exact ifF rfl q
  | dict _ => exact ifF rfl q
end
/-- the module's numbers -/
structure Cst (mg : Str → Option Value) : Prop where
  mostBoxes : ∃ t, mg "MOST_BOXES" = some (.int 8 t)
  mostInAll : ∃ t, mg "MOST_IN_ALL" = some (.int 24 t)
  mostDeep : ∃ t, mg "MOST_DEEP" = some (.int 4 t)
  places : ∃ t, mg "PLACES" = some (.int 3 t)
  greatest : ∃ t, mg "GREATEST" = some (.int 9999 t)
  number : ∃ t, mg "NUMBER" = some (.int 0 t)
  tie : ∃ t, mg "TIE" = some (.int 1 t)
  graph : ∃ t, mg "GRAPH" = some (.int 2 t)
  nothing : ∃ t, mg "NOTHING" = some (.int 3 t)
theorem pe_globI {X : Cx} {x : Str} {n : Int} {pos : Pos} (hg : Gl X x) (h : ∃ t, X.mg x = some (.int n t)) (hd : (x == ("__debug__" : Str)) = false := by decide) : PE X (.Name x pos) (tC (.int n)) := by
  obtain ⟨t, h⟩ := h
  exact pe_glob hg h ⟨t, rfl⟩ hd
/-! shapes -/
theorem lay_mem : ∀ {ds : List PyData} {d : PyData}, PyData.canLayAll0 ds = true → d ∈ ds → d.canLay0 = true
  | x :: r, d, h, hm => by
    simp only [PyData.canLayAll0, Bool.and_eq_true] at h
    rcases List.mem_cons.mp hm with rfl | hm
    · exact h.1
    · exact lay_mem h.2 hm
theorem depth_mem : ∀ {ds : List PyData} {d : PyData}, d ∈ ds → d.depth ≤ PyData.depthAll ds
  | x :: r, d, hm => by
    simp only [PyData.depthAll]
    rcases List.mem_cons.mp hm with rfl | hm
    · omega
    · have := depth_mem hm
      omega
theorem shaped_mem {ds : List PyData} {d : PyData} (h : SeqAt.shaped (.tuple ds) = true) (hm : d ∈ ds) : SeqAt.shaped d = true := by
  have h1 : PyData.canLayAll0 ds = true := by
    have := SeqAt.canLay_of_shaped h
    simpa only [PyData.canLay0] using this
  have h2 := SeqAt.depth_of_shaped h
  have h3 := depth_mem hm
  simp only [PyData.depth] at h2
  show (d.canLay0 && decide (d.depth ≤ 64)) = true
  rw [lay_mem h1 hm, Bool.true_and]
  exact decide_eq_true (by omega)
theorem shaped_tie : SeqAt.shaped (.str "tie") = true := by decide +kernel
/-! the mirror -/
def numD (p : PyData) : Bool := withinD (-9999) 9999 p
def tieB (m : Int) : PyData → Bool
  | .tuple [p, q] => PyData.eqv p (.str "tie") && withinD 0 (m - 1) q
  | _ => false
def optV : Option Nat → V
  | none => .non
  | some n => .int n
def sumO (f : PyData → Option Nat) : List PyData → Option Nat
  | [] => some 0
  | x :: r => match f x with
    | none => none
    | some a => match sumO f r with
      | none => none
      | some b => some (a + b)
theorem sumO_none {f : PyData → Option Nat} : ∀ {l : List PyData} {x : PyData}, x ∈ l → f x = none → sumO f l = none
  | y :: r, x, hm, h => by
    rcases List.mem_cons.mp hm with rfl | hm
    · simp only [sumO, h]
    · have ih := sumO_none hm h
      simp only [sumO, ih]
      cases f y <;> rfl
theorem sumO_snoc {f : PyData → Option Nat} : ∀ {l : List PyData} {x : PyData} {s a : Nat}, sumO f l = some s → f x = some a → sumO f (l ++ [x]) = some (s + a)
  | [], x, s, a, h, hx => by
    simp only [sumO, Option.some.injEq] at h
    subst h
    simp [sumO, hx]
  | y :: r, x, s, a, h, hx => by
    simp only [sumO] at h
    cases hy : f y with
    | none => rw [hy] at h; cases h
    | some b =>
      rw [hy] at h
      cases hr : sumO f r with
      | none => rw [hr] at h; cases h
      | some c =>
        rw [hr] at h
        have ih := sumO_snoc hr hx
        simp only [Option.some.injEq] at h
        subst h
        show sumO f (y :: (r ++ [x])) = _
        simp only [sumO, hy, ih]
        congr 1
        omega
theorem sumO_mem {f : PyData → Option Nat} {l : List PyData} {x : PyData} {s : Nat} (h : sumO f l = some s) (hm : x ∈ l) : ∃ a, f x = some a := by
  cases e : f x with
  | none => rw [sumO_none hm e] at h; cases h
  | some a => exact ⟨a, rfl⟩
theorem take_more {α : Type} {l : List α} {i : Nat} {x : α} (h : l[i]? = some x) : l.take (i + 1) = l.take i ++ [x] := by
  rw [List.take_add_one, h]
  rfl
def boxN (f : PyData → Option Nat) : PyData → Option Nat
  | .tuple ps => if ps.length = 3 then sumO f ps else none
  | _ => none
def placeN (g : PyData → Option Nat) (m : Nat) (p : PyData) : Option Nat := if numD p = true then some 0 else if tieB m p = true then some 0 else g p
def fitN (m : Nat) : Option Nat → Option Nat
  | none => none
  | some s => if m + s ≤ 24 then some (m + s) else none
def gszT (g : PyData → Option Nat) (bs : List PyData) : Option Nat := if 1 ≤ bs.length ∧ bs.length ≤ 8 then fitN bs.length (sumO (boxN (placeN g bs.length)) bs) else none
def gsz : Nat → PyData → Option Nat
  | n + 1, .tuple bs => gszT (gsz n) bs
  | _, _ => none
section
variable {P : Program} {w : World} {K : PySem.W.Frag} {mg : Str → Option Value} {base : Heap} {f : Addr} {fd : FuncData}
/-! is_number, is_place, has_box -/
def spNumber (K : PySem.W.Frag) : Sp := fun vs H Q _ => ∃ (x : V) (d : PyData), vs = [x] ∧ Dp K H x d ∧ Q (.bl (numD d)) H
theorem scNumber : FnScope ["thing"] ["thing"] (defScope sNumber) := ⟨rfl, rfl, rfl, by decide +kernel, rfl, by decide +kernel, by decide +kernel⟩
theorem ok_number {k : Nat} (F : Fun K "is_number" "is_number" sNumber f fd) (C : Cst mg) (cW : Cal P w K mg base "is_within" k ["thing", "least", "most"] (spWithin K)) : FnOk P w K mg base CX0 (k + 1) f fd ["thing"] (spNumber K) := by
  refine F.ok scNumber (fun vs H Q E h => ?_) (fun cdv A outer s H vs Q E hr h => ?_)
  · obtain ⟨x, d, rfl, _⟩ := h
    rfl
  obtain ⟨x, d, rfl, hx, q⟩ := h
  refine ⟨_, pss_one (ps_ret (pe_cal cW hr rfl (pa_cons (pv 0) (pa_cons (pe_un un_neg (pe_globI rfl C.greatest)) (pa_cons (pe_globI rfl C.greatest) pa_nil))))), ?_⟩
  exact ⟨_, rfl, _, rfl, x, d, _, _, rfl, hx, q⟩
def spPlace : Sp := fun vs H Q _ => ∃ (i : Int), vs = [.int i] ∧ Q (.bl (decide (0 ≤ i) && decide (i ≤ 2))) H
theorem scPlace : FnScope ["thing"] ["thing"] (defScope sPlace) := ⟨rfl, rfl, rfl, by decide +kernel, rfl, by decide +kernel, by decide +kernel⟩
theorem ok_place {k : Nat} (F : Fun K "is_place" "is_place" sPlace f fd) (C : Cst mg) (cW : Cal P w K mg base "is_within" k ["thing", "least", "most"] (spWithin K)) : FnOk P w K mg base CX0 (k + 1) f fd ["thing"] spPlace := by
  refine F.ok scPlace (fun vs H Q E h => ?_) (fun cdv A outer s H vs Q E hr h => ?_)
  · obtain ⟨x, rfl, _⟩ := h
    rfl
  obtain ⟨i, rfl, q⟩ := h
  refine ⟨_, pss_one (ps_ret (pe_cal cW hr rfl (pa_cons (pv 0) (pa_cons pe_int (pa_cons (pe_op op_sub (pe_globI rfl C.places) pe_int) pa_nil))))), ?_⟩
  exact ⟨_, rfl, _, _, rfl, rfl, _, .int i, 0, 2, rfl, .int i, q⟩
def spHasBox (K : PySem.W.Frag) : Sp := fun vs H Q _ => ∃ (a : Addr) (xs : List V) (x : V) (d : PyData), vs = [.ref a, x] ∧ SqT K H a xs ∧ Dp K H x d ∧ Q (.bl (withinD 0 ((xs.length : Int) - 1) d)) H
theorem scHasBox : FnScope ["graph", "b"] ["graph", "b"] (defScope sHasBox) := ⟨rfl, rfl, rfl, by decide +kernel, rfl, by decide +kernel, by decide +kernel⟩
theorem ok_hasBox {k : Nat} (F : Fun K "has_box" "has_box" sHasBox f fd) (T : Free mg) (cW : Cal P w K mg base "is_within" k ["thing", "least", "most"] (spWithin K)) : FnOk P w K mg base CX0 (k + 1) f fd ["graph", "b"] (spHasBox K) := by
  refine F.ok scHasBox (fun vs H Q E h => ?_) (fun cdv A outer s H vs Q E hr h => ?_)
  · obtain ⟨a, xs, x, d, rfl, _⟩ := h
    rfl
  obtain ⟨a, xs, x, d, rfl, hs, hx, q⟩ := h
  refine ⟨_, pss_one (ps_ret (pe_cal cW hr rfl (pa_cons (pv 1) (pa_cons pe_int (pa_cons (pe_op op_sub (pe_callB call_len_seq rfl T.len PySem.boot_len (pa_cons (pv 0) pa_nil)) pe_int) pa_nil))))), ?_⟩
  exact ⟨_, rfl, _, rfl, a, xs, rfl, .inr hs, _, _, rfl, rfl, x, d, 0, _, rfl, hx, q⟩
/-! is_tie -/
def spTie (K : PySem.W.Frag) : Sp := fun vs H Q _ => ∃ (x : V) (d : PyData) (a : Addr) (xs : List V), vs = [x, .ref a] ∧ Dp K H x d ∧ SeqAt.shaped d = true ∧ SqT K H a xs ∧ Q (.bl (tieB xs.length d)) H
theorem scTie : FnScope ["thing", "graph"] ["thing", "graph"] (defScope sTie) := ⟨rfl, rfl, rfl, by decide +kernel, rfl, by decide +kernel, by decide +kernel⟩
theorem tup2 {d : PyData} (h : tupD 2 2 d = true) : ∃ p q, d = .tuple [p, q] := by
  cases d with
  | tuple ds =>
    match ds, h with
    | [], h => exact absurd h (by decide)
    | [a], h => exact absurd h (by simp [tupD])
    | [a, b], _ => exact ⟨a, b, rfl⟩
    | a :: b :: c :: r, h =>
      have : (2 : Int) ≤ ((a :: b :: c :: r).length : Int) ∧ ((a :: b :: c :: r).length : Int) ≤ 2 := by simpa [tupD] using h
      simp only [List.length_cons] at this
      omega
  | int _ => cases h
  | bool b => cases h
  | none => cases h
  | str _ => cases h
  | list _ => cases h
  | dict _ => cases h
theorem tieB_not {m : Int} {d : PyData} (h : tupD 2 2 d = false) : tieB m d = false := by
  unfold tieB
  split
  · rename_i p q
    exact absurd h (by show ¬ (true = false); decide)
  · rfl
theorem ok_tie {k : Nat} (F : Fun K "is_tie" "is_tie" sTie f fd) (cT : Cal P w K mg base "is_tuple" k ["thing", "least", "most"] (spTuple K)) (cH : Cal P w K mg base "has_box" k ["graph", "b"] (spHasBox K)) :
    FnOk P w K mg base CX0 (k + 1) f fd ["thing", "graph"] (spTie K) := by
  refine F.ok scTie (fun vs H Q E h => ?_) (fun cdv A outer s H vs Q E hr h => ?_)
  · obtain ⟨x, d, a, xs, rfl, _⟩ := h
    rfl
  obtain ⟨x, d, a, xs, rfl, hx, hsh, hs, q⟩ := h
  refine ⟨_, pss_one (ps_ret (pe_and (pe_cal cT hr rfl (pa_cons (pv 0) (pa_cons pe_int (pa_cons pe_int pa_nil))))
    (pe_and (pe_cmpR (op_eqD hr.units) (pe_ix ix_tup (pv 0) pe_int (fun _ _ => rfl)) pe_str (nomark _))
      (pe_one (pe_cal cH hr rfl (pa_cons (pv 1) (pa_cons (pe_ix ix_tup (pv 0) pe_int (fun _ _ => rfl)) pa_nil))))))), ?_⟩
  refine ⟨_, rfl, x, d, 2, 2, rfl, hx, _, rfl, ?_⟩
  cases h2 : tupD 2 2 d with
  | false =>
    rw [tieB_not h2] at q
    exact ifF rfl q
  | true =>
    obtain ⟨p, r, rfl⟩ := tup2 h2
    cases hx with
    | tup ht ha =>
      cases ha with
      | cons hp ha =>
        cases ha with
        | cons hq ha =>
          cases ha
          refine ifT rfl ⟨_, rfl, _, _, _, _, rfl, rfl, ht, rfl, p, .str "tie", hp, .str _, shaped_mem hsh List.mem_cons_self, shaped_tie, _, rfl, ?_⟩
          have e : tieB xs.length (.tuple [p, r]) = (PyData.eqv p (.str "tie") && withinD 0 ((xs.length : Int) - 1) r) := rfl
          rw [e] at q
          cases he : PyData.eqv p (.str "tie") with
          | false =>
            rw [he] at q
            exact ifF rfl q
          | true =>
            rw [he] at q
            exact ifT rfl ⟨_, rfl, _, rfl, _, _, _, _, rfl, rfl, ht, rfl, a, xs, _, r, rfl, hs, hq, q⟩
/-! place_size, graph_size -/
def spPsz (K : PySem.W.Frag) (n : Nat) : Sp := fun vs H Q _ => ∃ (x : V) (d : PyData) (a : Addr) (xs : List V), vs = [x, .ref a, .int n] ∧ Dp K H x d ∧ SeqAt.shaped d = true ∧ SqT K H a xs ∧ Q (optV (placeN (gsz n) xs.length d)) H
def spGsz (K : PySem.W.Frag) (n : Nat) : Sp := fun vs H Q _ => ∃ (x : V) (d : PyData), vs = [x, .int n] ∧ Dp K H x d ∧ SeqAt.shaped d = true ∧ Q (optV (gsz n d)) H
theorem scPsz : FnScope ["thing", "graph", "deep"] ["thing", "graph", "deep"] (defScope sPsz) := ⟨rfl, rfl, rfl, by decide +kernel, rfl, by decide +kernel, by decide +kernel⟩
theorem ok_psz {k n : Nat} (F : Fun K "place_size" "place_size" sPsz f fd) (cN : Cal P w K mg base "is_number" k ["thing"] (spNumber K)) (cT : Cal P w K mg base "is_tie" k ["thing", "graph"] (spTie K))
    (cG : Cal P w K mg base "graph_size" k ["thing", "deep"] (spGsz K n)) : FnOk P w K mg base CX0 (k + 1) f fd ["thing", "graph", "deep"] (spPsz K n) := by
  refine F.ok scPsz (fun vs H Q E h => ?_) (fun cdv A outer s H vs Q E hr h => ?_)
  · obtain ⟨x, d, a, xs, rfl, _⟩ := h
    rfl
  obtain ⟨x, d, a, xs, rfl, hx, hsh, hs, q⟩ := h
  refine ⟨_, pss_cons (ps_if (PW.pt (pw_or (pt_val (pe_cal cN hr rfl (pa_cons (pv 0) pa_nil))) (pw_or1 (pt_val (pe_cal cT hr rfl (pa_cons (pv 0) (pa_cons (pv 1) pa_nil))))))) (pss_one (ps_ret pe_int)) pss_nil)
    (pss_one (ps_ret (pe_cal cG hr rfl (pa_cons (pv 0) (pa_cons (pv 2) pa_nil))))), ?_⟩
  refine ⟨_, rfl, x, d, rfl, hx, _, rfl, ?_⟩
  unfold placeN at q
  cases h1 : numD d with
  | true =>
    rw [if_pos h1] at q
    exact ifT rfl (ifT rfl q)
  | false =>
    rw [if_neg (by rw [h1]; decide)] at q
    refine ifF rfl ⟨_, rfl, _, rfl, x, d, a, xs, rfl, hx, hsh, hs, _, rfl, ?_⟩
    cases h2 : tieB xs.length d with
    | true =>
      rw [if_pos h2] at q
      exact ifT rfl q
    | false =>
      rw [if_neg (by rw [h2]; decide)] at q
      exact ifF rfl ⟨_, rfl, _, rfl, x, d, rfl, hx, hsh, q⟩
end
section
variable {P : Program} {w : World} {K : PySem.W.Frag} {mg : Str → Option Value} {base : Heap} {f : Addr} {fd : FuncData}
theorem scGsz : FnScope ["thing", "deep", "total", "box", "place", "within"] ["thing", "deep"] (defScope sGsz) := ⟨rfl, rfl, rfl, by decide +kernel, rfl, by decide +kernel, by decide +kernel⟩
theorem len3 {ps : List PyData} : tupD 3 3 (.tuple ps) = decide (ps.length = 3) := by
  show (decide ((3 : Int) ≤ (ps.length : Int)) && decide ((ps.length : Int) ≤ 3)) = _
  by_cases h : ps.length = 3
  · rw [decide_eq_true h, decide_eq_true (by omega), decide_eq_true (by omega)]; rfl
  · rw [decide_eq_false h]
    by_cases h2 : (3 : Int) ≤ (ps.length : Int)
    · rw [decide_eq_false (p := (ps.length : Int) ≤ 3) (by omega), Bool.and_false]
    · rw [decide_eq_false h2, Bool.false_and]
theorem gsz_not {n : Nat} {d : PyData} (h : tupD 1 8 d = false) : gsz n d = none := by
  cases n with
  | zero => rfl
  | succ n =>
    cases d with
    | tuple bs =>
      show gszT (gsz n) bs = none
      unfold gszT
      rw [if_neg]
      intro ⟨h1, h2⟩
      have : tupD 1 8 (.tuple bs) = true := by
        show (decide ((1 : Int) ≤ (bs.length : Int)) && decide ((bs.length : Int) ≤ 8)) = true
        rw [decide_eq_true (by omega), decide_eq_true (by omega)]; rfl
      rw [this] at h
      cases h
    | int _ => rfl
    | bool b => rfl
    | none => rfl
    | str _ => rfl
    | list _ => rfl
    | dict _ => rfl
theorem tup18 {d : PyData} (h : tupD 1 8 d = true) : ∃ bs, d = .tuple bs ∧ 1 ≤ bs.length ∧ bs.length ≤ 8 := by
  cases d with
  | tuple bs =>
    have : (1 : Int) ≤ (bs.length : Int) ∧ (bs.length : Int) ≤ 8 := by simpa [tupD] using h
    exact ⟨bs, rfl, by omega, by omega⟩
  | int _ => cases h
  | bool b => cases h
  | none => cases h
  | str _ => cases h
  | list _ => cases h
  | dict _ => cases h
theorem ok_gsz {k n : Nat} (F : Fun K "graph_size" "graph_size" sGsz f fd) (T : Free mg) (C : Cst mg) (cT : Cal P w K mg base "is_tuple" k ["thing", "least", "most"] (spTuple K))
    (cP : n ≠ 0 → Cal P w K mg base "place_size" k ["thing", "graph", "deep"] (spPsz K (n - 1))) : FnOk P w K mg base CX0 (k + 1) f fd ["thing", "deep"] (spGsz K n) := by
  by_cases hn : n = 0
  · subst hn
    refine F.ok scGsz (fun vs H Q E h => ?_) (fun cdv A outer s H vs Q E hr h => ?_)
    · obtain ⟨x, d, rfl, _⟩ := h
      rfl
    obtain ⟨x, d, rfl, hx, hsh, q⟩ := h
    refine ⟨_, pss_cons (ps_if (PW.pt (pw_or (pt_cmpR op_eq (pv 1) pe_int (nomark _)) (pw_or1 (pt_not (pt_val (pe_cal cT hr rfl (pa_cons (pv 0) (pa_cons pe_int (pa_cons (pe_globI rfl C.mostBoxes) pa_nil))))))))) (pss_one (ps_ret pe_non)) pss_nil) pss_never, ?_⟩
    exact ⟨_, rfl, rfl, _, rfl, ifT (decide_eq_true rfl) (ifT rfl q)⟩
  · obtain ⟨n, rfl⟩ : ∃ m, n = m + 1 := ⟨n - 1, by omega⟩
    have cP : Cal P w K mg base "place_size" k ["thing", "graph", "deep"] (spPsz K n) := cP hn
    refine F.ok scGsz (fun vs H Q E h => ?_) (fun cdv A outer s H vs Q E hr h => ?_)
    · obtain ⟨x, d, rfl, _⟩ := h
      rfl
    obtain ⟨x, d, rfl, hx, hsh, q⟩ := h
    refine ⟨_, pss_cons (ps_if (PW.pt (pw_or (pt_cmpR op_eq (pv 1) pe_int (nomark _)) (pw_or1 (pt_not (pt_val (pe_cal cT hr rfl (pa_cons (pv 0) (pa_cons pe_int (pa_cons (pe_globI rfl C.mostBoxes) pa_nil))))))))) (pss_one (ps_ret pe_non)) pss_nil)
      (pss_cons (ps_set (i := 2) scGsz.nd rfl (.inl rfl) (pe_callB call_len_seq rfl T.len PySem.boot_len (pa_cons (pv 0) pa_nil)))
      (pss_cons (ps_for PassesOwn.never rfl (pi_tup (pv 0)) (pg_name (i := 3) scGsz.nd rfl (.inl rfl))
        (pss_cons (ps_if (pt_not (pt_val (pe_cal cT hr rfl (pa_cons (pv 3) (pa_cons (pe_globI rfl C.places) (pa_cons (pe_globI rfl C.places) pa_nil)))))) (pss_one (ps_ret pe_non)) pss_nil)
        (pss_one (ps_for PassesOwn.never rfl (pi_tup (pv 3)) (pg_name (i := 4) scGsz.nd rfl (.inl rfl))
          (pss_cons (ps_set (i := 5) scGsz.nd rfl (.inl rfl) (pe_cal cP hr rfl (pa_cons (pv 4) (pa_cons (pv 0) (pa_cons (pe_op op_sub (pv 1) pe_int) pa_nil)))))
          (pss_cons (ps_if (pt_cmpR op_isN (pv 5) pe_non (nomark _)) (pss_one (ps_ret pe_non)) pss_nil)
          (pss_one (ps_aug (i := 2) scGsz.nd rfl (.inl rfl) (pv 5) ip_add))))))))
      (pss_one (ps_ret (pe_ifExp (pt_cmpR op_le (pv 2) (pe_globI rfl C.mostInAll) (nomark _)) (pv 2) pe_non))))), ?_⟩
    refine ⟨_, rfl, rfl, _, rfl, ifF (decide_eq_false (by intro z; injection z with z; omega)) ⟨_, rfl, x, d, 1, 8, rfl, hx, _, rfl, ?_⟩⟩
    cases h18 : tupD 1 8 d with
    | false =>
      rw [gsz_not h18] at q
      exact ifT rfl q
    | true =>
      obtain ⟨bs, rfl, l1, l8⟩ := tup18 h18
      refine ifF rfl ?_
      cases hx with
      | @tup a xs _ ht ha =>
        have lx := dpAll_len ha
        refine ⟨_, rfl, a, xs, rfl, .inr ht, ?_⟩
        refine ⟨_, rfl, a, rfl, ⟨xs, ht⟩, ?_⟩
        have eg : gsz (n + 1) (.tuple bs) = fitN bs.length (sumO (boxN (placeN (gsz n) bs.length)) bs) := by
          show gszT (gsz n) bs = _
          unfold gszT
          rw [if_pos ⟨l1, l8⟩]
        rw [eg] at q
        refine for_tup (xs := xs) (fun i σ H' => ∃ (sm : Nat) (o3 o4 o5 : Option V), sumO (boxN (placeN (gsz n) bs.length)) (bs.take i) = some sm ∧ σ = [some (.ref a), some (.int ((n + 1 : Nat) : Int)), some (.int ((bs.length : Int) + (sm : Int))), o3, o4, o5] ∧ H' = H)
          ⟨0, none, none, none, rfl, by rw [lx]; show _ = [_, _, some (V.int ((bs.length : Int) + 0)), _, _, _]; rw [Int.add_zero]; rfl, rfl⟩ (fun i σ H' _ h => by obtain ⟨_, _, _, _, _, _, rfl⟩ := h; exact ht) (fun i x σ H' hxi h => ?_) (fun σ H' h => ?_)
        · obtain ⟨sm, o3, o4, o5, hsm, rfl, rfl⟩ := h
          obtain ⟨b, hb, hdb⟩ := dpAll_get' ha hxi
          have hbm : b ∈ bs := List.mem_of_getElem? hb
          have none_out : boxN (placeN (gsz n) bs.length) b = none → Q .non H' := fun e => by
            rw [sumO_none hbm e] at q
            exact q
          refine ⟨_, rfl, x, b, 3, 3, rfl, hdb, _, rfl, ?_⟩
          cases h3 : tupD 3 3 b with
          | false =>
            refine ifT rfl (none_out ?_)
            unfold boxN
            split
            · rename_i ps
              rw [len3] at h3
              rw [if_neg (of_decide_eq_false h3)]
            · rfl
          | true =>
            refine ifF rfl ?_
            cases b with
            | tuple ps =>
              rw [len3] at h3
              have l3 : ps.length = 3 := of_decide_eq_true h3
              have hshb := shaped_mem hsh hbm
              cases hdb with
              | @tup ab ys _ htb hab =>
                refine ⟨_, rfl, ab, rfl, ⟨ys, htb⟩, ?_⟩
                refine for_tup (xs := ys) (fun j σ H'' => ∃ (s2 : Nat) (o4 o5 : Option V), sumO (placeN (gsz n) bs.length) (ps.take j) = some s2 ∧ σ = [some (.ref a), some (.int ((n + 1 : Nat) : Int)), some (.int ((bs.length : Int) + (sm : Int) + (s2 : Int))), some (.ref ab), o4, o5] ∧ H'' = H')
                  ⟨0, o4, o5, rfl, by show _ = [_, _, some (V.int ((bs.length : Int) + (sm : Int) + 0)), _, _, _]; rw [Int.add_zero]; rfl, rfl⟩ (fun j σ H'' _ h => by obtain ⟨_, _, _, _, _, rfl⟩ := h; exact htb) (fun j y σ H'' hyj h => ?_) (fun σ H'' h => ?_)
                · obtain ⟨s2, o4', o5', hs2, rfl, rfl⟩ := h
                  obtain ⟨p, hp, hdp⟩ := dpAll_get' hab hyj
                  have hpm : p ∈ ps := List.mem_of_getElem? hp
                  have eN : ((n + 1 : Nat) : Int) - 1 = (n : Int) := by omega
                  refine ⟨_, rfl, _, rfl, _, rfl, _, _, rfl, rfl, y, p, a, xs, congrArg (fun z => [y, V.ref a, V.int z]) eN, hdp, shaped_mem hshb hpm, ht, ?_⟩
                  rw [lx]
                  cases hpn : placeN (gsz n) bs.length p with
                  | none =>
                    refine ⟨_, rfl, rfl, _, rfl, ifT (decide_eq_true rfl) (none_out ?_)⟩
                    show (if ps.length = 3 then sumO (placeN (gsz n) bs.length) ps else none) = none
                    rw [if_pos l3]
                    exact sumO_none hpm hpn
                  | some v =>
                    refine ⟨_, rfl, rfl, _, rfl, ifF (decide_eq_false (fun z => by cases z)) ?_⟩
                    refine ⟨_, rfl, _, rfl, _, _, rfl, rfl, s2 + v, some y, some (.int v), ?_, ?_, rfl⟩
                    · rw [take_more hp]
                      exact sumO_snoc hs2 hpn
                    · show [_, _, some (V.int ((bs.length : Int) + (sm : Int) + (s2 : Int) + (v : Int))), _, _, _] = [_, _, some (V.int ((bs.length : Int) + (sm : Int) + ((s2 + v : Nat) : Int))), _, _, _]
                      rw [show ((s2 + v : Nat) : Int) = (s2 : Int) + (v : Int) by omega, ← Int.add_assoc]
                      rfl
                · obtain ⟨s2, o4', o5', hs2, rfl, rfl⟩ := h
                  have ly := dpAll_len hab
                  rw [ly, List.take_length] at hs2
                  refine ⟨sm + s2, some (.ref ab), o4', o5', ?_, ?_, rfl⟩
                  · rw [take_more hb]
                    refine sumO_snoc hsm ?_
                    show (if ps.length = 3 then sumO (placeN (gsz n) bs.length) ps else none) = some s2
                    rw [if_pos l3]
                    exact hs2
                  · rw [show ((sm + s2 : Nat) : Int) = (sm : Int) + (s2 : Int) by omega, ← Int.add_assoc]
            | int _ => cases h3
            | bool b => cases h3
            | none => cases h3
            | str _ => cases h3
            | list _ => cases h3
            | dict _ => cases h3
        · obtain ⟨sm, o3, o4, o5, hsm, rfl, rfl⟩ := h
          rw [lx, List.take_length] at hsm
          rw [hsm] at q
          refine ⟨_, rfl, _, _, rfl, rfl, _, rfl, ?_⟩
          by_cases c : bs.length + sm ≤ 24
          · have q : Q (optV (if bs.length + sm ≤ 24 then some (bs.length + sm) else none)) H' := q
            rw [if_pos c] at q
            refine ifT (decide_eq_true (by omega)) ⟨_, rfl, ?_⟩
            have q : Q (.int ((bs.length + sm : Nat) : Int)) H' := q
            rw [show ((bs.length + sm : Nat) : Int) = (bs.length : Int) + (sm : Int) by omega] at q
            exact q
          · have q : Q (optV (if bs.length + sm ≤ 24 then some (bs.length + sm) else none)) H' := q
            rw [if_neg c] at q
            exact ifF (decide_eq_false (by omega)) q
end
/-! places of a good graph -/
inductive PlaceOk (n m : Nat) : PyData → Prop where
  | num {i : Int} (h1 : -9999 ≤ i) (h2 : i ≤ 9999) : PlaceOk n m (.int i)
  | tie {j : Int} (h1 : 0 ≤ j) (h2 : j < m) : PlaceOk n m (.tuple [.str "tie", .int j])
  | graph {ps r : List PyData} {k : Nat} (h : gsz n (.tuple (.tuple ps :: r)) = some k) : PlaceOk n m (.tuple (.tuple ps :: r))
theorem eqv_str {p : PyData} {x : Str} (h : PyData.eqv p (.str x) = true) : p = .str x := by
  cases p with
  | str y =>
    simp only [PyData.eqv] at h
    rw [eq_of_beq h]
  | int _ => simp [PyData.eqv] at h
  | bool _ => simp [PyData.eqv] at h
  | none => simp [PyData.eqv] at h
  | list _ => simp [PyData.eqv] at h
  | tuple _ => simp [PyData.eqv] at h
  | dict _ => simp [PyData.eqv] at h
theorem gsz_some {n : Nat} {d : PyData} {k : Nat} (h : gsz n d = some k) : ∃ m bs s, n = m + 1 ∧ d = .tuple bs ∧ 1 ≤ bs.length ∧ bs.length ≤ 8 ∧ sumO (boxN (placeN (gsz m) bs.length)) bs = some s ∧ k = bs.length + s ∧ k ≤ 24 := by
  cases n with
  | zero => cases h
  | succ m =>
    cases d with
    | tuple bs =>
      have h : gszT (gsz m) bs = some k := h
      unfold gszT at h
      by_cases hl : 1 ≤ bs.length ∧ bs.length ≤ 8
      · rw [if_pos hl] at h
        cases hs : sumO (boxN (placeN (gsz m) bs.length)) bs with
        | none => rw [hs] at h; cases h
        | some s =>
          rw [hs] at h
          have h : (if bs.length + s ≤ 24 then some (bs.length + s) else none) = some k := h
          by_cases c : bs.length + s ≤ 24
          · rw [if_pos c] at h
            cases h
            exact ⟨m, bs, s, rfl, rfl, hl.1, hl.2, hs, rfl, c⟩
          · rw [if_neg c] at h
            cases h
      · rw [if_neg hl] at h
        cases h
    | int _ => cases h
    | bool _ => cases h
    | none => cases h
    | str _ => cases h
    | list _ => cases h
    | dict _ => cases h
theorem boxN_some {f : PyData → Option Nat} {b : PyData} {k : Nat} (h : boxN f b = some k) : ∃ p q r, b = .tuple [p, q, r] ∧ sumO f [p, q, r] = some k := by
  cases b with
  | tuple ps =>
    have h : (if ps.length = 3 then sumO f ps else none) = some k := h
    by_cases l : ps.length = 3
    · rw [if_pos l] at h
      match ps, l, h with
      | [p, q, r], _, h => exact ⟨p, q, r, rfl, h⟩
    · rw [if_neg l] at h
      cases h
  | int _ => cases h
  | bool _ => cases h
  | none => cases h
  | str _ => cases h
  | list _ => cases h
  | dict _ => cases h
theorem placeN_some {n m : Nat} {p : PyData} {k : Nat} (h : placeN (gsz n) m p = some k) : PlaceOk n m p := by
  unfold placeN at h
  by_cases h1 : numD p = true
  · cases p with
    | int i =>
      have : -9999 ≤ i ∧ i ≤ 9999 := by simpa [numD, withinD] using h1
      exact .num this.1 this.2
    | tuple _ => cases h1
    | bool _ => cases h1
    | none => cases h1
    | str _ => cases h1
    | list _ => cases h1
    | dict _ => cases h1
  · rw [if_neg h1] at h
    by_cases h2 : tieB m p = true
    · unfold tieB at h2
      split at h2
      · rename_i p q
        rw [Bool.and_eq_true] at h2
        obtain ⟨e, wi⟩ := h2
        rw [eqv_str e]
        cases q with
        | int j =>
          have : 0 ≤ j ∧ j ≤ (m : Int) - 1 := by simpa [withinD] using wi
          exact .tie this.1 (by omega)
        | tuple _ => cases wi
        | bool _ => cases wi
        | none => cases wi
        | str _ => cases wi
        | list _ => cases wi
        | dict _ => cases wi
      · cases h2
    · rw [if_neg h2] at h
      obtain ⟨m', bs, s, rfl, rfl, l1, l8, hs, rfl, h24⟩ := gsz_some h
      cases bs with
      | nil => simp at l1
      | cons b r =>
        obtain ⟨a, ha⟩ := sumO_mem hs List.mem_cons_self
        obtain ⟨p, q, t, rfl, _⟩ := boxN_some ha
        exact .graph h
/-- a good graph's boxes -/
theorem box_of {n : Nat} {bs : List PyData} {k i : Nat} {b : PyData} (h : gsz (n + 1) (.tuple bs) = some k) (hb : bs[i]? = some b) : ∃ p q r, b = .tuple [p, q, r] ∧ PlaceOk n bs.length p ∧ PlaceOk n bs.length q ∧ PlaceOk n bs.length r := by
  obtain ⟨m, bs', s, e, e2, l1, l8, hs, _⟩ := gsz_some h
  cases e
  cases e2
  obtain ⟨a, ha⟩ := sumO_mem hs (List.mem_of_getElem? hb)
  obtain ⟨p, q, r, rfl, hp⟩ := boxN_some ha
  obtain ⟨_, h1⟩ := sumO_mem hp (x := p) (by simp)
  obtain ⟨_, h2⟩ := sumO_mem hp (x := q) (by simp)
  obtain ⟨_, h3⟩ := sumO_mem hp (x := r) (by simp)
  exact ⟨p, q, r, rfl, placeN_some h1, placeN_some h2, placeN_some h3⟩
def sortD : PyData → Int
  | .tuple (p :: _) => if PyData.eqv p (.str "tie") = true then 1 else 2
  | _ => 0
def placeAt (b k : Int) : PyData → Option PyData
  | .tuple bs => if 0 ≤ b ∧ b < bs.length then (match bs[b.toNat]? with
    | some (.tuple ps) => ps[k.toNat]?
    | _ => none) else none
  | _ => none
def sortAt (b k : Int) (d : PyData) : Int := match placeAt b k d with
  | some p => sortD p
  | none => 3
def numIn : PyData → Int
  | .int i => i
  | .tuple [.str _, .int j] => j
  | _ => 0
def numberAt (b k : Int) (d : PyData) : Int := match placeAt b k d with
  | some p => numIn p
  | none => 0
def bareD : PyData := .tuple [.tuple [.int 0, .int 0, .int 0]]
def graphAt (b k : Int) (d : PyData) : PyData := match placeAt b k d with
  | some p => if sortD p = 2 then p else bareD
  | none => bareD
theorem eqv_tup_str (xs : List PyData) (x : Str) : PyData.eqv (.tuple xs) (.str x) = false := by simp [PyData.eqv]
theorem eqv_str_str (x : Str) : PyData.eqv (.str x) (.str x) = true := by simp [PyData.eqv]
/-- graph[b][k], where there is such a box -/
theorem place_there {n : Nat} {bs : List PyData} {c : Nat} {b k : Int} (h : gsz (n + 1) (.tuple bs) = some c) (hb : 0 ≤ b ∧ b < bs.length) (hk : 0 ≤ k ∧ k ≤ 2) :
    ∃ ps p, bs[b.toNat]? = some (.tuple ps) ∧ ps[k.toNat]? = some p ∧ PlaceOk n bs.length p ∧ placeAt b k (.tuple bs) = some p := by
  have hl : b.toNat < bs.length := by omega
  have e := List.getElem?_eq_getElem hl
  obtain ⟨p, q, r, eb, h1, h2, h3⟩ := box_of h e
  rw [eb] at e
  have ep : ∀ x, [p, q, r][k.toNat]? = some x → placeAt b k (.tuple bs) = some x := fun x hx => by
    show (if 0 ≤ b ∧ b < bs.length then _ else none) = some x
    rw [if_pos hb, e]
    exact hx
  have hk3 : k.toNat = 0 ∨ k.toNat = 1 ∨ k.toNat = 2 := by omega
  rcases hk3 with z | z | z
  · exact ⟨_, p, e, by rw [z]; rfl, h1, ep _ (by rw [z]; rfl)⟩
  · exact ⟨_, q, e, by rw [z]; rfl, h2, ep _ (by rw [z]; rfl)⟩
  · exact ⟨_, r, e, by rw [z]; rfl, h3, ep _ (by rw [z]; rfl)⟩
theorem place_none {bs : List PyData} {b k : Int} (hb : ¬ (0 ≤ b ∧ b < bs.length)) : placeAt b k (.tuple bs) = none := by
  show (if 0 ≤ b ∧ b < bs.length then _ else none) = none
  rw [if_neg hb]
theorem atI_at {α : Type} {xs : List α} {i : Int} {v : α} (h0 : 0 ≤ i) (h : xs[i.toNat]? = some v) : atI xs i = some v := by
  have q := atI_nat h
  rw [show ((i.toNat : Nat) : Int) = i by omega] at q
  exact q
section
variable {P : Program} {w : World} {K : PySem.W.Frag} {mg : Str → Option Value} {base : Heap} {f : Addr} {fd : FuncData}
/-- graph[b][k] in the heap -/
theorem dp_place {H : Hp} {xs : List V} {bs ps : List PyData} {p : PyData} {b k : Int} (ha : DpAll K H xs bs) (hb : 0 ≤ b) (hk : 0 ≤ k) (e1 : bs[b.toNat]? = some (.tuple ps)) (e2 : ps[k.toNat]? = some p) :
    ∃ ab ys y, atI xs b = some (.ref ab) ∧ SqT K H ab ys ∧ atI ys k = some y ∧ Dp K H y p := by
  obtain ⟨x, hx, hd⟩ := dpAll_get ha e1
  cases hd with
  | @tup ab ys _ ht hy =>
    obtain ⟨y, hy1, hy2⟩ := dpAll_get hy e2
    exact ⟨ab, ys, y, atI_at hb hx, ht, atI_at hk hy1, hy2⟩
def spIsGraph (K : PySem.W.Frag) : Sp := fun vs H Q _ => ∃ (x : V) (d : PyData), vs = [x] ∧ Dp K H x d ∧ SeqAt.shaped d = true ∧ Q (.bl (gsz 4 d).isSome) H
theorem scIsGraph : FnScope ["thing"] ["thing"] (defScope sIsGraph) := ⟨rfl, rfl, rfl, by decide +kernel, rfl, by decide +kernel, by decide +kernel⟩
theorem ok_isGraph {k : Nat} (F : Fun K "is_graph" "is_graph" sIsGraph f fd) (C : Cst mg) (cG : Cal P w K mg base "graph_size" k ["thing", "deep"] (spGsz K 4)) : FnOk P w K mg base CX0 (k + 1) f fd ["thing"] (spIsGraph K) := by
  refine F.ok scIsGraph (fun vs H Q E h => ?_) (fun cdv A outer s H vs Q E hr h => ?_)
  · obtain ⟨x, d, rfl, _⟩ := h
    rfl
  obtain ⟨x, d, rfl, hx, hsh, q⟩ := h
  refine ⟨_, pss_one (ps_ret (pe_cmpR op_notN (pe_cal cG hr rfl (pa_cons (pv 0) (pa_cons (pe_globI rfl C.mostDeep) pa_nil))) pe_non (nomark _))), ?_⟩
  refine ⟨_, rfl, x, d, rfl, hx, hsh, rfl, ?_⟩
  cases e : gsz 4 d with
  | none =>
    rw [e] at q
    exact q
  | some c =>
    rw [e] at q
    exact q
def spCheckG (K : PySem.W.Frag) : Sp := fun vs H Q _ => ∃ (x : V) (d : PyData) (c : Nat), vs = [x] ∧ Dp K H x d ∧ SeqAt.shaped d = true ∧ gsz 4 d = some c ∧ Q .non H
theorem scCheckG : FnScope ["graph"] ["graph"] (defScope sCheckG) := ⟨rfl, rfl, rfl, by decide +kernel, rfl, by decide +kernel, by decide +kernel⟩
theorem ok_checkG {k : Nat} (F : Fun K "check_graph" "check_graph" sCheckG f fd) (cG : Cal P w K mg base "is_graph" k ["thing"] (spIsGraph K)) : FnOk P w K mg base CX0 (k + 1) f fd ["graph"] (spCheckG K) := by
  refine F.ok scCheckG (fun vs H Q E h => ?_) (fun cdv A outer s H vs Q E hr h => ?_)
  · obtain ⟨x, d, c, rfl, _⟩ := h
    rfl
  obtain ⟨x, d, c, rfl, hx, hsh, hg, q⟩ := h
  refine ⟨_, pss_one (ps_if (pt_not (pt_val (pe_cal cG hr rfl (pa_cons (pv 0) pa_nil)))) pss_never pss_nil), ?_⟩
  exact ⟨_, rfl, x, d, rfl, hx, hsh, _, rfl, by rw [hg]; exact ifF rfl q⟩
def spCheckP : Sp := fun vs H Q _ => ∃ (k : Int), vs = [.int k] ∧ 0 ≤ k ∧ k ≤ 2 ∧ Q .non H
theorem scCheckP : FnScope ["k"] ["k"] (defScope sCheckP) := ⟨rfl, rfl, rfl, by decide +kernel, rfl, by decide +kernel, by decide +kernel⟩
theorem ok_checkP {k : Nat} (F : Fun K "check_place" "check_place" sCheckP f fd) (cP : Cal P w K mg base "is_place" k ["thing"] spPlace) : FnOk P w K mg base CX0 (k + 1) f fd ["k"] spCheckP := by
  refine F.ok scCheckP (fun vs H Q E h => ?_) (fun cdv A outer s H vs Q E hr h => ?_)
  · obtain ⟨i, rfl, _⟩ := h
    rfl
  obtain ⟨i, rfl, h0, h2, q⟩ := h
  refine ⟨_, pss_one (ps_if (pt_not (pt_val (pe_cal cP hr rfl (pa_cons (pv 0) pa_nil)))) pss_never pss_nil), ?_⟩
  exact ⟨_, rfl, i, rfl, _, rfl, by rw [decide_eq_true h0, decide_eq_true h2]; exact ifF rfl q⟩
end
section
variable {P : Program} {w : World} {K : PySem.W.Frag} {mg : Str → Option Value} {base : Heap} {f : Addr} {fd : FuncData}
def spSortOf (K : PySem.W.Frag) : Sp := fun vs H Q _ => ∃ (x : V) (d : PyData), vs = [x] ∧ Dp K H x d ∧ SeqAt.shaped d = true ∧ d ≠ .tuple [] ∧ Q (.int (sortD d)) H
theorem scSortOf : FnScope ["place"] ["place"] (defScope sSortOf) := ⟨rfl, rfl, rfl, by decide +kernel, rfl, by decide +kernel, by decide +kernel⟩
theorem ok_sortOf {k : Nat} (F : Fun K "sort_of" "sort_of" sSortOf f fd) (T : Free mg) (C : Cst mg) : FnOk P w K mg base CX0 (k + 1) f fd ["place"] (spSortOf K) := by
  refine F.ok scSortOf (fun vs H Q E h => ?_) (fun cdv A outer s H vs Q E hr h => ?_)
  · obtain ⟨x, d, rfl, _⟩ := h
    rfl
  obtain ⟨x, d, rfl, hx, hsh, hne, q⟩ := h
  refine ⟨_, pss_cons (ps_if (pt_not (pt_val (pe_callB call_isi rfl T.isi (by decide +kernel) (pa_cons (pv 0) (pa_cons (pe_bltn (v := .ty "tuple") rfl T.tuple (by decide +kernel) rfl) pa_nil))))) (pss_one (ps_ret (pe_globI rfl C.number))) pss_nil)
    (pss_one (ps_ret (pe_ifExp (pt_cmpR (op_eqD hr.units) (pe_ix ix_tup (pv 0) pe_int (fun _ _ => rfl)) pe_str (nomark _)) (pe_globI rfl C.tie) (pe_globI rfl C.graph)))), ?_⟩
  refine ⟨_, rfl, x, _, _, _, _, rfl, .ty "tuple", ty_of hx, kit_tuple d, _, rfl, ?_⟩
  cases d with
  | tuple ds =>
    cases ds with
    | nil => exact absurd rfl hne
    | cons p r =>
      cases hx with
      | tup ht ha =>
        cases ha with
        | cons hp ha =>
          refine ifF rfl ⟨_, rfl, _, _, _, _, rfl, rfl, ht, atI_nat (j := 0) rfl, p, .str "tie", hp, .str _, shaped_mem hsh List.mem_cons_self, shaped_tie, _, rfl, ?_⟩
          have q : Q (.int (if PyData.eqv p (.str "tie") = true then 1 else 2)) H := q
          cases e : PyData.eqv p (.str "tie") with
          | true =>
            rw [e] at q
            exact ifT rfl q
          | false =>
            rw [e] at q
            exact ifF rfl q
  | int _ => exact ifT rfl q
  | bool _ => exact ifT rfl q
  | none => exact ifT rfl q
  | str _ => exact ifT rfl q
  | list _ => exact ifT rfl q
  | dict _ => exact ifT rfl q
def GoodG (K : PySem.W.Frag) (H : Hp) (x : V) (d : PyData) : Prop := Dp K H x d ∧ SeqAt.shaped d = true ∧ ∃ c, gsz 4 d = some c
def spSortAt (K : PySem.W.Frag) : Sp := fun vs H Q _ => ∃ (x : V) (d : PyData) (b k : Int), vs = [x, .int b, .int k] ∧ GoodG K H x d ∧ 0 ≤ k ∧ k ≤ 2 ∧ Q (.int (sortAt b k d)) H
theorem scSortAt : FnScope ["graph", "b", "k"] ["graph", "b", "k"] (defScope sSortAt) := ⟨rfl, rfl, rfl, by decide +kernel, rfl, by decide +kernel, by decide +kernel⟩
theorem ok_sortAt {n : Nat} (F : Fun K "sort_at" "sort_at" sSortAt f fd) (C : Cst mg) (cG : Cal P w K mg base "check_graph" n ["graph"] (spCheckG K)) (cP : Cal P w K mg base "check_place" n ["k"] spCheckP)
    (cS : Cal P w K mg base "sort_of" n ["place"] (spSortOf K)) (cH : Cal P w K mg base "has_box" n ["graph", "b"] (spHasBox K)) : FnOk P w K mg base CX0 (n + 1) f fd ["graph", "b", "k"] (spSortAt K) := by
  refine F.ok scSortAt (fun vs H Q E h => ?_) (fun cdv A outer s H vs Q E hr h => ?_)
  · obtain ⟨x, d, b, k, rfl, _⟩ := h
    rfl
  obtain ⟨x, d, b, k, rfl, ⟨hx, hsh, c, hg⟩, h0, h2, q⟩ := h
  refine ⟨_, pss_cons (ps_expr (pe_cal cG hr rfl (pa_cons (pv 0) pa_nil))) (pss_cons (ps_expr (pe_cal cP hr rfl (pa_cons (pv 2) pa_nil)))
    (pss_one (ps_ret (pe_ifExp (pt_val (pe_cal cH hr rfl (pa_cons (pv 0) (pa_cons (pv 1) pa_nil)))) (pe_cal cS hr rfl (pa_cons (pe_ix ix_tup (pe_ix ix_tup (pv 0) (pv 1) (fun _ _ => rfl)) (pv 2) (fun _ _ => rfl)) pa_nil)) (pe_globI rfl C.nothing))))), ?_⟩
  refine ⟨_, rfl, x, d, c, rfl, hx, hsh, hg, ?_⟩
  refine ⟨_, rfl, k, rfl, h0, h2, ?_⟩
  obtain ⟨m, bs, s', _, rfl, l1, l8, _⟩ := gsz_some hg
  cases hx with
  | @tup a xs _ ht ha =>
    have lx := dpAll_len ha
    refine ⟨_, rfl, _, rfl, a, xs, .int b, .int b, rfl, ht, .int b, _, rfl, ?_⟩
    rw [lx]
    by_cases hb : 0 ≤ b ∧ b < bs.length
    · obtain ⟨ps, p, e1, e2, hp, epl⟩ := place_there (b := b) (k := k) hg hb ⟨h0, h2⟩
      obtain ⟨ab, ys, y, a1, hty, a2, hy⟩ := dp_place ha hb.1 h0 e1 e2
      have hw : withinD 0 ((bs.length : Int) - 1) (.int b) = true := by
        show (decide (0 ≤ b) && decide (b ≤ (bs.length : Int) - 1)) = true
        rw [decide_eq_true hb.1, decide_eq_true (by omega)]; rfl
      refine ifT hw ⟨_, rfl, _, rfl, a, xs, b, _, rfl, rfl, ht, a1, _, rfl, ab, ys, k, y, rfl, rfl, hty, a2, y, p, rfl, hy, shaped_mem (shaped_mem hsh (List.mem_of_getElem? e1)) (List.mem_of_getElem? e2), ?_, ?_⟩
      · cases hp <;> (intro z; cases z)
      · unfold sortAt at q
        rw [epl] at q
        exact q
    · have hw : withinD 0 ((bs.length : Int) - 1) (.int b) = false := by
        show (decide (0 ≤ b) && decide (b ≤ (bs.length : Int) - 1)) = false
        by_cases z : 0 ≤ b
        · rw [decide_eq_false (p := b ≤ (bs.length : Int) - 1) (by omega), Bool.and_false]
        · rw [decide_eq_false z, Bool.false_and]
      refine ifF hw ?_
      unfold sortAt at q
      rw [place_none hb] at q
      exact q
def spNumAt (K : PySem.W.Frag) : Sp := fun vs H Q _ => ∃ (x : V) (d : PyData) (b k : Int), vs = [x, .int b, .int k] ∧ GoodG K H x d ∧ 0 ≤ k ∧ k ≤ 2 ∧ Q (.int (numberAt b k d)) H
theorem scNumAt : FnScope ["graph", "b", "k", "sort"] ["graph", "b", "k"] (defScope sNumAt) := ⟨rfl, rfl, rfl, by decide +kernel, rfl, by decide +kernel, by decide +kernel⟩
theorem sort_kinds {n m : Nat} {p : PyData} (h : PlaceOk n m p) : (∃ i, p = .int i ∧ sortD p = 0) ∨ (∃ j, p = .tuple [.str "tie", .int j] ∧ sortD p = 1) ∨ (∃ ps r k, p = .tuple (.tuple ps :: r) ∧ gsz n p = some k ∧ sortD p = 2) := by
  cases h with
  | num _ _ => exact .inl ⟨_, rfl, rfl⟩
  | tie _ _ => exact .inr (.inl ⟨_, rfl, by show (if PyData.eqv (.str "tie") (.str "tie") = true then (1 : Int) else 2) = 1; rw [if_pos (eqv_str_str _)]⟩)
  | @graph ps r k h => exact .inr (.inr ⟨ps, r, k, rfl, h, by show (if PyData.eqv (.tuple ps) (.str "tie") = true then (1 : Int) else 2) = 2; rw [if_neg (by rw [eqv_tup_str]; decide)]⟩)
theorem ok_numAt {n : Nat} (F : Fun K "number_at" "number_at" sNumAt f fd) (C : Cst mg) (cS : Cal P w K mg base "sort_at" n ["graph", "b", "k"] (spSortAt K)) : FnOk P w K mg base CX0 (n + 1) f fd ["graph", "b", "k"] (spNumAt K) := by
  refine F.ok scNumAt (fun vs H Q E h => ?_) (fun cdv A outer s H vs Q E hr h => ?_)
  · obtain ⟨x, d, b, k, rfl, _⟩ := h
    rfl
  obtain ⟨x, d, b, k, rfl, hG, h0, h2, q⟩ := h
  refine ⟨_, pss_cons (ps_set (i := 3) scNumAt.nd rfl (.inl rfl) (pe_cal cS hr rfl (pa_cons (pv 0) (pa_cons (pv 1) (pa_cons (pv 2) pa_nil)))))
    (pss_cons (ps_if (pt_cmpR op_eq (pv 3) (pe_globI rfl C.number) (nomark _)) (pss_one (ps_ret (pe_ix ix_tup (pe_ix ix_tup (pv 0) (pv 1) (fun _ _ => rfl)) (pv 2) (fun _ _ => rfl)))) pss_nil)
    (pss_one (ps_ret (pe_ifExp (pt_cmpR op_eq (pv 3) (pe_globI rfl C.tie) (nomark _)) (pe_ix ix_tup (pe_ix ix_tup (pe_ix ix_tup (pv 0) (pv 1) (fun _ _ => rfl)) (pv 2) (fun _ _ => rfl)) pe_int (fun _ _ => rfl)) pe_int)))), ?_⟩
  refine ⟨_, rfl, _, rfl, _, rfl, x, d, b, k, rfl, hG, h0, h2, ?_⟩
  obtain ⟨hx, hsh, c, hg⟩ := hG
  obtain ⟨m, bs, s', _, rfl, l1, l8, _⟩ := gsz_some hg
  refine ⟨_, rfl, rfl, _, rfl, ?_⟩
  cases hx with
  | @tup a xs _ ht ha =>
    by_cases hb : 0 ≤ b ∧ b < bs.length
    · obtain ⟨ps, p, e1, e2, hp, epl⟩ := place_there (b := b) (k := k) hg hb ⟨h0, h2⟩
      obtain ⟨ab, ys, y, a1, hty, a2, hy⟩ := dp_place ha hb.1 h0 e1 e2
      have es : sortAt b k (.tuple bs) = sortD p := by unfold sortAt; rw [epl]
      have en : numberAt b k (.tuple bs) = numIn p := by unfold numberAt; rw [epl]
      rw [en] at q
      rcases sort_kinds hp with ⟨i, rfl, e⟩ | ⟨j, rfl, e⟩ | ⟨qs, r, kk, rfl, _, e⟩
      · rw [e] at es
        refine ifT (decide_eq_true (by rw [es])) ?_
        cases hy
        exact ⟨_, rfl, _, rfl, a, xs, b, _, rfl, rfl, ht, a1, _, rfl, ab, ys, k, _, rfl, rfl, hty, a2, q⟩
      · rw [e] at es
        refine ifF (decide_eq_false (by rw [es]; intro z; cases z)) ?_
        refine ⟨_, rfl, rfl, _, rfl, ifT (decide_eq_true (by rw [es])) ?_⟩
        cases hy with
        | tup htt hat =>
          cases hat with
          | cons h1 hat =>
            cases hat with
            | cons h2' hat =>
              cases h2'
              exact ⟨_, rfl, _, rfl, a, xs, b, _, rfl, rfl, ht, a1, _, rfl, ab, ys, k, _, rfl, rfl, hty, a2, _, _, _, _, rfl, rfl, htt, atI_nat (j := 1) rfl, q⟩
      · rw [e] at es
        refine ifF (decide_eq_false (by rw [es]; intro z; cases z)) ?_
        exact ⟨_, rfl, rfl, _, rfl, ifF (decide_eq_false (by rw [es]; intro z; cases z)) q⟩
    · have es : sortAt b k (.tuple bs) = 3 := by unfold sortAt; rw [place_none hb]
      have en : numberAt b k (.tuple bs) = 0 := by unfold numberAt; rw [place_none hb]
      rw [en] at q
      refine ifF (decide_eq_false (by rw [es]; intro z; cases z)) ?_
      exact ⟨_, rfl, rfl, _, rfl, ifF (decide_eq_false (by rw [es]; intro z; cases z)) q⟩
def spGraphAt (K : PySem.W.Frag) : Sp := fun vs H Q _ => ∃ (x : V) (d : PyData) (b k : Int), vs = [x, .int b, .int k] ∧ GoodG K H x d ∧ 0 ≤ k ∧ k ≤ 2 ∧ ∀ v, Dp K H v (graphAt b k d) → Q v H
theorem scGraphAt : FnScope ["graph", "b", "k"] ["graph", "b", "k"] (defScope sGraphAt) := ⟨rfl, rfl, rfl, by decide +kernel, rfl, by decide +kernel, by decide +kernel⟩
theorem ok_graphAt {n : Nat} {ba : Addr} (F : Fun K "graph_at" "graph_at" sGraphAt f fd) (C : Cst mg) (mB : mg "BARE" = some (.ref ba)) (dB : ∀ H, Dp K H (.ref ba) bareD) (cS : Cal P w K mg base "sort_at" n ["graph", "b", "k"] (spSortAt K)) : FnOk P w K mg base CX0 (n + 1) f fd ["graph", "b", "k"] (spGraphAt K) := by
  refine F.ok scGraphAt (fun vs H Q E h => ?_) (fun cdv A outer s H vs Q E hr h => ?_)
  · obtain ⟨x, d, b, k, rfl, _⟩ := h
    rfl
  obtain ⟨x, d, b, k, rfl, hG, h0, h2, q⟩ := h
  refine ⟨_, pss_one (ps_ret (pe_ifExp (pt_cmpR op_eq (pe_cal cS hr rfl (pa_cons (pv 0) (pa_cons (pv 1) (pa_cons (pv 2) pa_nil)))) (pe_globI rfl C.graph) (nomark _))
    (pe_ix ix_tup (pe_ix ix_tup (pv 0) (pv 1) (fun _ _ => rfl)) (pv 2) (fun _ _ => rfl)) (pe_glob (v := .ref ba) rfl mB rfl))), ?_⟩
  refine ⟨_, rfl, _, rfl, _, rfl, x, d, b, k, rfl, hG, h0, h2, rfl, _, rfl, ?_⟩
  obtain ⟨hx, hsh, c, hg⟩ := hG
  obtain ⟨m, bs, s', _, rfl, l1, l8, _⟩ := gsz_some hg
  cases hx with
  | @tup a xs _ ht ha =>
    by_cases hb : 0 ≤ b ∧ b < bs.length
    · obtain ⟨ps, p, e1, e2, hp, epl⟩ := place_there (b := b) (k := k) hg hb ⟨h0, h2⟩
      obtain ⟨ab, ys, y, a1, hty, a2, hy⟩ := dp_place ha hb.1 h0 e1 e2
      have es : sortAt b k (.tuple bs) = sortD p := by unfold sortAt; rw [epl]
      have en : graphAt b k (.tuple bs) = if sortD p = 2 then p else bareD := by unfold graphAt; rw [epl]
      rw [en] at q
      by_cases e : sortD p = 2
      · rw [if_pos e] at q
        refine ifT (decide_eq_true (by rw [es, e])) ?_
        exact ⟨_, rfl, _, rfl, a, xs, b, _, rfl, rfl, ht, a1, _, rfl, ab, ys, k, _, rfl, rfl, hty, a2, q _ hy⟩
      · rw [if_neg e] at q
        refine ifF (decide_eq_false (by rw [es]; intro z; injection z with z; exact e z)) ?_
        exact q _ (dB H)
    · have es : sortAt b k (.tuple bs) = 3 := by unfold sortAt; rw [place_none hb]
      have en : graphAt b k (.tuple bs) = bareD := by unfold graphAt; rw [place_none hb]
      rw [en] at q
      refine ifF (decide_eq_false (by rw [es]; intro z; cases z)) ?_
      exact q _ (dB H)
end
/-! heaps: what stands, but for the state's list -/
def StOk (x y z : Int) : Prop := 0 ≤ x ∧ 0 ≤ y ∧ y < 4294967296
def StAt (H : Hp) (st : Addr) : Prop := ∃ x y z, H st = some (.lst [.int x, .int y, .int z]) ∧ StOk x y z
def Kp (st : Addr) (H H' : Hp) : Prop := ∀ b u, b ≠ st → H b = some u → H' b = some u
structure Mv (st : Addr) (H H' : Hp) : Prop where
  kp : Kp st H H'
  sa : StAt H' st
/-- what is no list stands -/
def KT (H H' : Hp) : Prop := ∀ b u, H b = some u → (∀ l, u ≠ .lst l) → H' b = some u
theorem Kp.refl (st : Addr) (H : Hp) : Kp st H H := fun _ _ _ h => h
theorem Kp.trans {st : Addr} {H H1 H2 : Hp} (a : Kp st H H1) (b : Kp st H1 H2) : Kp st H H2 := fun c u n h => b c u n (a c u n h)
theorem Kp.of_same {st : Addr} {H H' : Hp} (a : Same H H') : Kp st H H' := fun c u _ h => a c u h
theorem KT.refl (H : Hp) : KT H H := fun _ _ h _ => h
theorem KT.trans {H H1 H2 : Hp} (a : KT H H1) (b : KT H1 H2) : KT H H2 := fun c u h n => b c u (a c u h n) n
theorem KT.of_same {H H' : Hp} (a : Same H H') : KT H H' := fun c u h _ => a c u h
theorem Kp.kt {st : Addr} {H H' : Hp} (k : Kp st H H') (s : StAt H st) : KT H H' := fun b u h n => k b u (fun e => by
  obtain ⟨x, y, z, hs, _⟩ := s
  rw [e, hs] at h
  cases h
  exact n _ rfl) h
theorem KT.upd {H : Hp} {p : Addr} {l l' : List V} (h : H p = some (.lst l)) : KT H (upd H p (.lst l')) := fun b u hb n => by
  by_cases e : b = p
  · subst e
    rw [h] at hb
    cases hb
    exact absurd rfl (n l)
  · rw [upd_ne e]
    exact hb
theorem same_new {H : Hp} {p : Addr} (h : H p = none) (o : HO) : Same H (upd H p o) := fun b u q => by rw [upd_ne (ne_of_none q h)]; exact q
theorem Kp.upd {st : Addr} {H0 H : Hp} {p : Addr} {o : HO} (k : Kp st H0 H) (h : H0 p = none) : Kp st H0 (upd H p o) := fun b u n hb => by
  rw [upd_ne (ne_of_none hb h)]
  exact k b u n hb
theorem Kp.free {st : Addr} {H H' : Hp} (k : Kp st H H') {p : Addr} (n : p ≠ st) (h : H' p = none) : H p = none := by
  cases e : H p with
  | none => rfl
  | some u =>
    rw [k p u n e] at h
    cases h
theorem StAt.some {H : Hp} {st : Addr} (s : StAt H st) : ∃ l, H st = some (.lst l) := by
  obtain ⟨x, y, z, h, _⟩ := s
  exact ⟨_, h⟩
theorem StAt.ne {H : Hp} {st p : Addr} (s : StAt H st) (h : H p = none) : p ≠ st := fun e => by
  obtain ⟨l, hs⟩ := s.some
  rw [e, hs] at h
  cases h
theorem StAt.same {H H' : Hp} {st : Addr} (s : StAt H st) (k : Same H H') : StAt H' st := by
  obtain ⟨x, y, z, h, ok⟩ := s
  exact ⟨x, y, z, k _ _ h, ok⟩
theorem StAt.upd {H : Hp} {st p : Addr} {o : HO} (s : StAt H st) (n : p ≠ st) : StAt (upd H p o) st := by
  obtain ⟨x, y, z, h, ok⟩ := s
  exact ⟨x, y, z, by rw [upd_ne n.symm]; exact h, ok⟩
/-! data that is tuples, ints and texts alone -/
mutual
def tupOnly : PyData → Bool
  | .int _ | .str _ => true
  | .tuple xs => tupOnlyAll xs
  | _ => false
def tupOnlyAll : List PyData → Bool
  | [] => true
  | x :: r => tupOnly x && tupOnlyAll r
end
theorem sqT_kt {K : PySem.W.Frag} {H H' : Hp} {a : Addr} {xs : List V} (k : KT H H') (h : SqT K H a xs) : SqT K H' a xs := by
  rcases h with (h | ⟨o, h⟩) | h
  · exact .inl (.inl (k _ _ h (fun l z => by cases z)))
  · exact .inl (.inr ⟨o, k _ _ h (fun l z => by cases z)⟩)
  · exact .inr h
mutual
theorem dp_kt {K : PySem.W.Frag} {H H' : Hp} (k : KT H H') : ∀ (d : PyData) (v : V), tupOnly d = true → Dp K H v d → Dp K H' v d
  | .int i, v, _, h => by cases h; exact .int i
  | .str x, v, _, h => by cases h; exact .str x
  | .tuple ds, v, t, h => by
    cases h with
    | tup hs ha => exact .tup (sqT_kt k hs) (dpAll_kt k ds _ (by simpa only [tupOnly] using t) ha)
  | .none, v, t, h => by simp [tupOnly] at t
  | .bool _, v, t, h => by simp [tupOnly] at t
  | .list _, v, t, h => by simp [tupOnly] at t
  | .dict _, v, t, h => by simp [tupOnly] at t
theorem dpAll_kt {K : PySem.W.Frag} {H H' : Hp} (k : KT H H') : ∀ (ds : List PyData) (vs : List V), tupOnlyAll ds = true → DpAll K H vs ds → DpAll K H' vs ds
  | [], vs, _, h => by cases h; exact .nil
  | d :: ds, vs, t, h => by
    simp only [tupOnlyAll, Bool.and_eq_true] at t
    cases h with
    | cons h1 h2 => exact .cons (dp_kt k d _ t.1 h1) (dpAll_kt k ds _ t.2 h2)
end
theorem dpAll_snoc {K : PySem.W.Frag} {H : Hp} {v : V} {d : PyData} (h : Dp K H v d) : ∀ {vs : List V} {ds : List PyData}, DpAll K H vs ds → DpAll K H (vs ++ [v]) (ds ++ [d])
  | _, _, .nil => .cons h .nil
  | _, _, .cons a t => .cons a (dpAll_snoc h t)
theorem dpAll_append {K : PySem.W.Frag} {H : Hp} {ws : List V} {es : List PyData} (h : DpAll K H ws es) : ∀ {vs : List V} {ds : List PyData}, DpAll K H vs ds → DpAll K H (vs ++ ws) (ds ++ es)
  | _, _, .nil => h
  | _, _, .cons a t => .cons a (dpAll_append h t)
theorem tupOnly_snoc : ∀ {ds : List PyData} {d : PyData}, tupOnlyAll ds = true → tupOnly d = true → tupOnlyAll (ds ++ [d]) = true
  | [], d, _, h => by simp [tupOnlyAll, h]
  | x :: r, d, t, h => by
    simp only [tupOnlyAll, Bool.and_eq_true, List.cons_append] at *
    exact ⟨t.1, tupOnly_snoc t.2 h⟩
theorem small {n : Nat} (h : n ≤ 1000) : n ≤ sizeLine := Nat.le_of_lt (small1000 h)
section
variable {P : Program} {w : World} {K : PySem.W.Frag} {mg : Str → Option Value} {base : Heap} {f : Addr} {fd : FuncData}
/-! _law_cell_at -/
def spCell (K : PySem.W.Frag) : Sp := fun vs H Q _ => ∃ (a : Addr) (ns : List Int) (i : Int), vs = [.ref a, .int i] ∧ SqL K H a (ns.map V.int) ∧ 0 ≤ i ∧ ∀ n : Int, Q (.int n) H
theorem scCell : FnScope ["_law_script", "_law_k"] ["_law_script", "_law_k"] (defScope sCell) := ⟨rfl, rfl, rfl, by decide +kernel, rfl, by decide +kernel, by decide +kernel⟩
theorem ok_cell {k : Nat} (F : Fun K "_law_cell_at" "_law_cell_at" sCell f fd) (T : Free mg) : FnOk P w K mg base CX0 (k + 1) f fd ["_law_script", "_law_k"] (spCell K) := by
  refine F.ok scCell (fun vs H Q E h => ?_) (fun cdv A outer s H vs Q E hr h => ?_)
  · obtain ⟨a, ns, i, rfl, _⟩ := h
    rfl
  obtain ⟨a, ns, i, rfl, hs, h0, q⟩ := h
  refine ⟨_, pss_cons (ps_if (pt_cmpR op_lt (pv 1) (pe_callB call_len_seq rfl T.len PySem.boot_len (pa_cons (pv 0) pa_nil)) (nomark _)) (pss_one (ps_ret (pe_ix ix_list (pv 0) (pv 1) (fun _ _ => rfl)))) pss_nil) (pss_one (ps_ret pe_int)), ?_⟩
  refine ⟨_, rfl, _, rfl, a, _, rfl, .inl hs, _, _, rfl, rfl, _, rfl, ?_⟩
  refine ite2 (fun c => ?_) (fun c => q 0)
  have c : i < (((ns.map V.int).length : Nat) : Int) := of_decide_eq_true c
  have hk : i.toNat < ns.length := by rw [List.length_map] at c; omega
  exact ⟨_, rfl, _, rfl, a, _, i, .int ns[i.toNat], rfl, rfl, hs, atI_at h0 (by rw [List.getElem?_map, List.getElem?_eq_getElem hk] <;> rfl), q _⟩
/-! _law_state -/
def spState (K : PySem.W.Frag) : Sp := fun vs H Q _ => ∃ (a : Addr) (ns : List Int) (i : Int), vs = [.ref a, .int i] ∧ SqL K H a (ns.map V.int) ∧ 0 ≤ i ∧ ∀ p x y z, H p = none → StOk x y z → Q (.ref p) (upd H p (.lst [.int x, .int y, .int z]))
theorem scState : FnScope ["_law_script", "_law_k", "_law_cell"] ["_law_script", "_law_k"] (defScope sState) := ⟨rfl, rfl, rfl, by decide +kernel, rfl, by decide +kernel, by decide +kernel⟩
theorem ok_state {k : Nat} (F : Fun K "_law_state" "_law_state" sState f fd) (T : Free mg) (cC : Cal P w K mg base "_law_cell_at" k ["_law_script", "_law_k"] (spCell K)) : FnOk P w K mg base CX0 (k + 1) f fd ["_law_script", "_law_k"] (spState K) := by
  refine F.ok scState (fun vs H Q E h => ?_) (fun cdv A outer s H vs Q E hr h => ?_)
  · obtain ⟨a, ns, i, rfl, _⟩ := h
    rfl
  obtain ⟨a, ns, i, rfl, hs, h0, q⟩ := h
  refine ⟨_, pss_cons (ps_set (i := 2) scState.nd rfl (.inl rfl) (pe_cal cC hr rfl (pa_cons (pv 0) (pa_cons (pv 1) pa_nil))))
    (pss_one (ps_ret (pe_lst (pa_cons (pe_callB (call_max2 rfl) rfl T.max (by decide +kernel) (pa_cons pe_int (pa_cons (pe_op op_sub (pv 2) (pe_op op_pow pe_int pe_int)) pa_nil)))
      (pa_cons (pe_op op_add (pe_op op_mod (pv 2) pe_int) pe_int) (pa_cons pe_int pa_nil)))))), ?_⟩
  refine ⟨_, rfl, _, rfl, a, ns, i, rfl, hs, h0, fun n => ?_⟩
  refine ⟨_, rfl, _, _, rfl, rfl, ⟨by decide, by decide, by decide⟩, _, _, rfl, rfl, _, _, rfl, ?_⟩
  refine ⟨_, rfl, _, _, rfl, rfl, (by show (0 : Int) < 2147483629; decide), _, _, rfl, rfl, small (by show 3 ≤ 1000; decide), fun p hp => ?_⟩
  refine q p _ _ _ hp ⟨?_, ?_, ?_⟩
  · split <;> omega
  · have := Int.emod_nonneg n (show (2147483629 : Int) ≠ 0 by decide)
    omega
  · have := Int.emod_lt_of_pos n (show (0 : Int) < 2147483629 by decide)
    omega
/-! _law_choice -/
def spChoice : Sp := fun vs H Q _ => ∃ (st : Addr) (many : Int), vs = [.ref st, .int many] ∧ StAt H st ∧ 0 < many ∧ many < 1000000 ∧ ∀ r H', 0 ≤ r → r < many → Mv st H H' → Q (.int r) H'
theorem scChoice : FnScope ["_law_state_here", "_law_many", "_law_found", "_law_mixed"] ["_law_state_here", "_law_many"] (defScope sChoice) := ⟨rfl, rfl, rfl, by decide +kernel, rfl, by decide +kernel, by decide +kernel⟩
theorem mv_upd {H : Hp} {st : Addr} {x y z : Int} (ok : StOk x y z) : Mv st H (upd H st (.lst [.int x, .int y, .int z])) :=
  ⟨fun b u n h => by rw [upd_ne n]; exact h, ⟨x, y, z, upd_same, ok⟩⟩
theorem ok_choice {k : Nat} (F : Fun K "_law_choice" "_law_choice" sChoice f fd) : FnOk P w K mg base CX0 (k + 1) f fd ["_law_state_here", "_law_many"] spChoice := by
  refine F.ok scChoice (fun vs H Q E h => ?_) (fun cdv A outer s H vs Q E hr h => ?_)
  · obtain ⟨st, many, rfl, _⟩ := h
    rfl
  obtain ⟨st, many, rfl, ⟨x, y, z, hst, hx, hy, hy2⟩, h0, hm, q⟩ := h
  refine ⟨_, pss_cons (ps_if (pt_cmpR op_gt (pe_ix ix_list (pv 0) pe_int (fun _ _ => rfl)) pe_int (nomark _))
      (pss_cons (ps_set (i := 2) scChoice.nd rfl (.inl rfl) (pe_op op_mod (pe_ix ix_list (pv 0) pe_int (fun _ _ => rfl)) (pv 1)))
      (pss_cons (ps_asg (pe_op op_fdiv (pe_ix ix_list (pv 0) pe_int (fun _ _ => rfl)) (pv 1)) (pg_sub (pv 0) pe_int set_list))
      (pss_one (ps_ret (pv 2))))) pss_nil)
    (pss_cons (ps_asg (pe_op op_add (pe_ix ix_list (pv 0) pe_int (fun _ _ => rfl)) pe_int) (pg_sub (pv 0) pe_int set_list))
    (pss_cons (ps_asg (pe_op op_mod (pe_op op_add (pe_op op_add (pe_op op_mul (pe_ix ix_list (pv 0) pe_int (fun _ _ => rfl)) pe_int) pe_int) (pe_ix ix_list (pv 0) pe_int (fun _ _ => rfl))) pe_int) (pg_sub (pv 0) pe_int set_list))
    (pss_cons (ps_set (i := 3) scChoice.nd rfl (.inl rfl) (pe_op op_mod (pe_op op_add (pe_op op_add (pe_op op_mul (pe_ix ix_list (pv 0) pe_int (fun _ _ => rfl)) (pe_ix ix_list (pv 0) pe_int (fun _ _ => rfl))) (pe_op op_mul pe_int (pe_ix ix_list (pv 0) pe_int (fun _ _ => rfl)))) pe_int) pe_int))
    (pss_cons (ps_set (i := 3) scChoice.nd rfl (.inl rfl) (pe_op op_mod (pe_op op_add (pe_op op_mul (pv 3) (pv 3)) (pe_op op_mul pe_int (pv 3))) pe_int))
    (pss_one (ps_ret (pe_op op_mod (pe_op op_fdiv (pv 3) pe_int) (pv 1)))))))), ?_⟩
  have rd : ∀ {H : Hp} {x y z : Int}, H st = some (.lst [.int x, .int y, .int z]) → SqL K H st [.int x, .int y, .int z] := fun h => SqL.of h
  refine ⟨_, rfl, st, _, 0, _, rfl, rfl, rd hst, rfl, _, _, rfl, rfl, _, rfl, ?_⟩
  refine ite2 (fun c => ?_) (fun c => ?_)
  · refine ⟨_, rfl, st, _, 0, _, rfl, rfl, rd hst, rfl, _, rfl, _, _, rfl, rfl, h0, ?_⟩
    refine ⟨_, rfl, st, _, 0, _, rfl, rfl, rd hst, rfl, _, rfl, _, _, rfl, rfl, ⟨h0, by omega⟩, ?_⟩
    refine ⟨_, rfl, st, _, 0, 0, rfl, rfl, hst, rfl, ?_⟩
    refine ⟨_, rfl, q _ _ (Int.emod_nonneg x (by omega)) (Int.emod_lt_of_pos x h0) (mv_upd (x := x / many) (y := y) (z := z) ⟨Int.ediv_nonneg hx (by omega), hy, hy2⟩)⟩
  · refine ⟨_, rfl, st, _, 2, _, rfl, rfl, rd hst, rfl, _, _, rfl, rfl, ?_⟩
    refine ⟨_, rfl, st, _, 2, 2, rfl, rfl, hst, rfl, ?_⟩
    refine ⟨_, rfl, st, _, 1, _, rfl, rfl, rd upd_same, rfl, _, _, rfl, rfl, .inl ⟨by omega, by omega⟩, _, _, rfl, rfl, _, rfl, st, _, 2, _, rfl, rfl, rd upd_same, rfl, _, _, rfl, rfl, _, _, rfl, rfl, (by show (0 : Int) < 2147483647; decide), ?_⟩
    refine ⟨_, rfl, st, _, 1, 1, rfl, rfl, upd_same, rfl, ?_⟩
    rw [upd_upd]
    have b1 := Int.emod_nonneg (y * 48271 + 29 + (z + 1)) (show (2147483647 : Int) ≠ 0 by decide)
    have b2 := Int.emod_lt_of_pos (y * 48271 + 29 + (z + 1)) (show (0 : Int) < 2147483647 by decide)
    generalize hv : (y * 48271 + 29 + (z + 1)) % 2147483647 = v at b1 b2
    show tSeq _ _ _ _ (upd H st (.lst [.int x, .int ((y * 48271 + 29 + (z + 1)) % 2147483647), .int (z + 1)]))
    rw [hv]
    refine ⟨_, rfl, st, _, 1, _, rfl, rfl, rd upd_same, rfl, _, rfl, st, _, 1, _, rfl, rfl, rd upd_same, rfl, _, _, rfl, rfl, .inl ⟨by omega, by omega⟩, _, rfl, st, _, 1, _, rfl, rfl, rd upd_same, rfl, _, _, rfl, rfl, .inl ⟨by decide, by decide⟩, _, _, rfl, rfl, _, _, rfl, rfl, _, _, rfl, rfl, (by show (0 : Int) < 2147483629; decide), ?_⟩
    have c1 := Int.emod_nonneg (v * v + 39373 * v + 7) (show (2147483629 : Int) ≠ 0 by decide)
    have c2 := Int.emod_lt_of_pos (v * v + 39373 * v + 7) (show (0 : Int) < 2147483629 by decide)
    refine ⟨_, rfl, _, rfl, _, _, rfl, rfl, .inl ⟨by omega, by omega⟩, _, rfl, _, _, rfl, rfl, .inl ⟨by decide, by decide⟩, _, _, rfl, rfl, _, _, rfl, rfl, (by show (0 : Int) < 2147483587; decide), ?_⟩
    refine ⟨_, rfl, _, _, rfl, rfl, ⟨by decide, by decide⟩, _, rfl, _, _, rfl, rfl, h0, ?_⟩
    exact q _ _ (Int.emod_nonneg _ (by omega)) (Int.emod_lt_of_pos _ h0) (mv_upd ⟨hx, b1, by omega⟩)
end
/-! the graphs straight within -/
def isG : PyData → Bool
  | .tuple (q :: _) => !PyData.eqv q (.str "tie")
  | _ => false
def boxInner : PyData → List PyData
  | .tuple ps => ps.filter isG
  | _ => []
def innerD : PyData → List PyData
  | .tuple bs => bs.flatMap boxInner
  | _ => []
theorem tupOnly_mem : ∀ {ds : List PyData} {d : PyData}, tupOnlyAll ds = true → d ∈ ds → tupOnly d = true
  | x :: r, d, h, hm => by
    simp only [tupOnlyAll, Bool.and_eq_true] at h
    rcases List.mem_cons.mp hm with rfl | hm
    · exact h.1
    · exact tupOnly_mem h.2 hm
theorem tupOnly_tup {ds : List PyData} (h : tupOnly (.tuple ds) = true) : tupOnlyAll ds = true := by simpa only [tupOnly] using h
theorem tupOnly_all : ∀ {l : List PyData}, (∀ z ∈ l, tupOnly z = true) → tupOnlyAll l = true
  | [], _ => rfl
  | u :: v, h => by
    simp only [tupOnlyAll, Bool.and_eq_true]
    exact ⟨h u List.mem_cons_self, tupOnly_all fun z hz => h z (List.mem_cons_of_mem _ hz)⟩
theorem inner_mem {bs : List PyData} {p : PyData} (h : p ∈ bs.flatMap boxInner) : ∃ ps, .tuple ps ∈ bs ∧ p ∈ ps := by
  obtain ⟨b, hb, hp⟩ := List.mem_flatMap.mp h
  cases b with
  | tuple ps => exact ⟨ps, hb, (List.mem_filter.mp hp).1⟩
  | int _ => cases hp
  | bool _ => cases hp
  | none => cases hp
  | str _ => cases hp
  | list _ => cases hp
  | dict _ => cases hp
theorem isG_int (i : Int) : isG (.int i) = false := rfl
theorem isG_tie (j : Int) : isG (.tuple [.str "tie", .int j]) = false := by
  show (!PyData.eqv (.str "tie") (.str "tie")) = false
  rw [eqv_str_str]
  rfl
theorem isG_graph (ps r : List PyData) : isG (.tuple (.tuple ps :: r)) = true := by
  show (!PyData.eqv (.tuple ps) (.str "tie")) = true
  rw [eqv_tup_str]
  rfl
theorem placeN_val {n m : Nat} {p : PyData} {a : Nat} (h : placeN (gsz n) m p = some a) : (isG p = false ∧ a = 0) ∨ (isG p = true ∧ gsz n p = some a) := by
  have ok := placeN_some h
  cases ok with
  | @num i h1 h2 =>
    refine .inl ⟨rfl, ?_⟩
    unfold placeN at h
    rw [if_pos (show numD (.int i) = true by show (decide (-9999 ≤ i) && decide (i ≤ 9999)) = true; rw [decide_eq_true h1, decide_eq_true h2]; rfl)] at h
    cases h
    rfl
  | @tie j h1 h2 =>
    refine .inl ⟨isG_tie j, ?_⟩
    unfold placeN at h
    rw [if_neg (show ¬ numD (.tuple [.str "tie", .int j]) = true by intro z; cases z)] at h
    rw [if_pos (show tieB m (.tuple [.str "tie", .int j]) = true by
      show (PyData.eqv (.str "tie") (.str "tie") && (decide (0 ≤ j) && decide (j ≤ (m : Int) - 1))) = true
      rw [eqv_str_str, decide_eq_true h1, decide_eq_true (by omega)]; rfl)] at h
    cases h
    rfl
  | @graph ps r k hg =>
    refine .inr ⟨isG_graph ps r, ?_⟩
    unfold placeN at h
    rw [if_neg (show ¬ numD (.tuple (.tuple ps :: r)) = true by intro z; cases z)] at h
    rw [if_neg (show ¬ tieB m (.tuple (.tuple ps :: r)) = true by
      unfold tieB
      split
      · rename_i e
        cases e
        rw [eqv_tup_str]
        intro z
        cases z
      · intro z
        cases z)] at h
    exact h
theorem sumO_cons {f : PyData → Option Nat} {x : PyData} {r : List PyData} {s : Nat} (h : sumO f (x :: r) = some s) : ∃ a b, f x = some a ∧ sumO f r = some b ∧ s = a + b := by
  simp only [sumO] at h
  cases hx : f x with
  | none => rw [hx] at h; cases h
  | some a =>
    rw [hx] at h
    cases hr : sumO f r with
    | none => rw [hr] at h; cases h
    | some b =>
      rw [hr] at h
      simp only [Option.some.injEq] at h
      exact ⟨a, b, rfl, rfl, h.symm⟩
theorem sumO_cons' {f : PyData → Option Nat} {x : PyData} {r : List PyData} {a b : Nat} (h1 : f x = some a) (h2 : sumO f r = some b) : sumO f (x :: r) = some (a + b) := by
  simp only [sumO, h1, h2]
theorem sumO_append {f : PyData → Option Nat} {l' : List PyData} {b : Nat} (h2 : sumO f l' = some b) : ∀ {l : List PyData} {a : Nat}, sumO f l = some a → sumO f (l ++ l') = some (a + b)
  | [], a, h => by
    simp only [sumO, Option.some.injEq] at h
    subst h
    rw [Nat.zero_add]
    exact h2
  | x :: r, a, h => by
    obtain ⟨u, v, h1, h3, rfl⟩ := sumO_cons h
    rw [List.cons_append, sumO_cons' h1 (sumO_append h2 h3), Nat.add_assoc]
theorem places_inner {n m : Nat} : ∀ {ps : List PyData} {s : Nat}, sumO (placeN (gsz n) m) ps = some s → sumO (gsz n) (ps.filter isG) = some s
  | [], s, h => h
  | p :: r, s, h => by
    obtain ⟨u, v, h1, h3, rfl⟩ := sumO_cons h
    have ih := places_inner h3
    rcases placeN_val h1 with ⟨e, rfl⟩ | ⟨e, e2⟩
    · rw [List.filter_cons_of_neg (by rw [e]; decide), Nat.zero_add]
      exact ih
    · rw [List.filter_cons_of_pos e]
      exact sumO_cons' e2 ih
theorem boxes_inner {n m : Nat} : ∀ {bs : List PyData} {s : Nat}, sumO (boxN (placeN (gsz n) m)) bs = some s → sumO (gsz n) (bs.flatMap boxInner) = some s
  | [], s, h => h
  | b :: r, s, h => by
    obtain ⟨u, v, h1, h3, rfl⟩ := sumO_cons h
    have ih := boxes_inner h3
    obtain ⟨p, q, t, rfl, hp⟩ := boxN_some h1
    rw [List.flatMap_cons]
    exact sumO_append ih (places_inner hp)
/-! good graphs are of tuples, ints and texts alone -/
theorem lay_all : ∀ {l : List PyData}, (∀ z ∈ l, z.canLay0 = true) → PyData.canLayAll0 l = true
  | [], _ => by simp only [PyData.canLayAll0]
  | u :: v, h => by
    simp only [PyData.canLayAll0, Bool.and_eq_true]
    exact ⟨h u List.mem_cons_self, lay_all fun z hz => h z (List.mem_cons_of_mem _ hz)⟩
theorem depth_all {k : Nat} : ∀ {l : List PyData}, (∀ z ∈ l, z.depth ≤ k) → PyData.depthAll l ≤ k
  | [], _ => by simp only [PyData.depthAll]; exact Nat.zero_le _
  | u :: v, h => by
    have h1 := h u List.mem_cons_self
    have h2 := depth_all (l := v) fun z hz => h z (List.mem_cons_of_mem _ hz)
    simp only [PyData.depthAll]
    omega
def Shp (k : Nat) (d : PyData) : Prop := tupOnly d = true ∧ d.canLay0 = true ∧ d.depth ≤ k
theorem shp_tup {k : Nat} {l : List PyData} (h : ∀ z ∈ l, Shp k z) : Shp (k + 1) (.tuple l) := by
  refine ⟨?_, ?_, ?_⟩
  · simp only [tupOnly]
    exact tupOnly_all fun z hz => (h z hz).1
  · simp only [PyData.canLay0]
    exact lay_all fun z hz => (h z hz).2.1
  · simp only [PyData.depth]
    have := depth_all fun z hz => (h z hz).2.2
    omega
theorem shp_mono {j k : Nat} {d : PyData} (h : Shp j d) (l : j ≤ k) : Shp k d := ⟨h.1, h.2.1, by have := h.2.2; omega⟩
theorem shp_int (k : Nat) (i : Int) : Shp k (.int i) := ⟨rfl, by simp only [PyData.canLay0], by simp only [PyData.depth]; exact Nat.zero_le _⟩
theorem shp_tie (k : Nat) (j : Int) : Shp (k + 1) (.tuple [.str "tie", .int j]) := by
  refine shp_tup fun z hz => ?_
  rcases List.mem_cons.mp hz with rfl | hz
  · exact ⟨rfl, by decide +kernel, by simp only [PyData.depth]; exact Nat.zero_le _⟩
  · rcases List.mem_cons.mp hz with rfl | hz
    · exact shp_int k j
    · cases hz
theorem good_shape : ∀ (n : Nat) (d : PyData) (c : Nat), gsz n d = some c → Shp (2 * n + 1) d
  | 0, d, c, h => by cases h
  | n + 1, d, c, h => by
    obtain ⟨m, bs, s, e, rfl, l1, l8, hs, _⟩ := gsz_some h
    cases e
    refine shp_mono (shp_tup (k := 2 * n + 2) fun b hb => ?_) (by omega)
    obtain ⟨a, ha⟩ := sumO_mem hs hb
    obtain ⟨p, q, r, rfl, hp⟩ := boxN_some ha
    refine shp_mono (shp_tup (k := 2 * n + 1) fun z hz => ?_) (by omega)
    obtain ⟨u, hu⟩ := sumO_mem hp hz
    cases placeN_some hu with
    | num _ _ => exact shp_int _ _
    | tie _ _ => exact shp_mono (shp_tie 0 _) (by omega)
    | graph hg => exact good_shape n _ _ hg
theorem shp_shaped {k : Nat} {d : PyData} (h : Shp k d) (l : k ≤ 64) : SeqAt.shaped d = true := by
  show (d.canLay0 && decide (d.depth ≤ 64)) = true
  rw [h.2.1, Bool.true_and]
  exact decide_eq_true (by have := h.2.2; omega)
theorem place_shape {n m : Nat} {p : PyData} {a : Nat} (h : placeN (gsz n) m p = some a) : Shp (2 * n + 1) p := by
  cases placeN_some h with
  | num _ _ => exact shp_int _ _
  | tie _ _ => exact shp_mono (shp_tie 0 _) (by omega)
  | graph hg => exact good_shape n _ _ hg
theorem box_shape {n m : Nat} {p : PyData} {a : Nat} (h : boxN (placeN (gsz n) m) p = some a) : Shp (2 * n + 2) p := by
  obtain ⟨p, q, r, rfl, hp⟩ := boxN_some h
  refine shp_tup fun z hz => ?_
  obtain ⟨u, hu⟩ := sumO_mem hp hz
  exact place_shape hu
theorem placeN_graph {n m : Nat} {d : PyData} {c : Nat} (h : gsz n d = some c) : placeN (gsz n) m d = some c := by
  obtain ⟨n', bs, s, rfl, rfl, l1, l8, hs, rfl, h24⟩ := gsz_some h
  cases bs with
  | nil => simp at l1
  | cons b r =>
    obtain ⟨a, ha⟩ := sumO_mem hs List.mem_cons_self
    obtain ⟨p, q, t, rfl, _⟩ := boxN_some ha
    unfold placeN
    rw [if_neg (show ¬ numD (.tuple (.tuple [p, q, t] :: r)) = true by intro z; cases z)]
    rw [if_neg (show ¬ tieB m (.tuple (.tuple [p, q, t] :: r)) = true by
      unfold tieB
      split
      · rename_i e
        cases e
        rw [eqv_tup_str]
        intro z
        cases z
      · intro z
        cases z)]
    exact h
theorem placeN_num {g : PyData → Option Nat} {m : Nat} {i : Int} (h1 : -9999 ≤ i) (h2 : i ≤ 9999) : placeN g m (.int i) = some 0 := by
  unfold placeN
  rw [if_pos (show numD (.int i) = true by show (decide (-9999 ≤ i) && decide (i ≤ 9999)) = true; rw [decide_eq_true h1, decide_eq_true h2]; rfl)]
theorem placeN_tie {g : PyData → Option Nat} {m : Nat} {j : Int} (h1 : 0 ≤ j) (h2 : j < m) : placeN g m (.tuple [.str "tie", .int j]) = some 0 := by
  unfold placeN
  rw [if_neg (show ¬ numD (.tuple [.str "tie", .int j]) = true by intro z; cases z)]
  rw [if_pos (show tieB m (.tuple [.str "tie", .int j]) = true by
    show (PyData.eqv (.str "tie") (.str "tie") && (decide (0 ≤ j) && decide (j ≤ (m : Int) - 1))) = true
    rw [eqv_str_str, decide_eq_true h1, decide_eq_true (by omega)]; rfl)]
theorem Mv.trans {st : Addr} {H H1 H2 : Hp} (a : Mv st H H1) (b : Mv st H1 H2) : Mv st H H2 := ⟨a.kp.trans b.kp, b.sa⟩
theorem Mv.same {st : Addr} {H H1 H2 : Hp} (a : Mv st H H1) (b : Same H1 H2) : Mv st H H2 := ⟨a.kp.trans (Kp.of_same b), a.sa.same b⟩
/-! the two lists that _law_graph fills -/
structure OuterSt (K : PySem.W.Frag) (st fa : Addr) (H0 : Hp) (m many : Nat) (room : Int) (fs : List V) (ds : List PyData) (lf : Int) (H : Hp) : Prop where
  mv : Mv st H0 H
  hf : H fa = some (.lst fs)
  df : DpAll K H fs ds
  su : ∃ s : Nat, sumO (boxN (placeN (gsz m) many)) ds = some s ∧ lf = room - s
  nn : 0 ≤ lf
structure InnerSt (K : PySem.W.Frag) (st fa pa : Addr) (H0 : Hp) (m many : Nat) (rest : Int) (fs : List V) (ds : List PyData) (ps : List V) (es : List PyData) (lf : Int) (H : Hp) : Prop where
  mv : Mv st H0 H
  hf : H fa = some (.lst fs)
  hp : H pa = some (.lst ps)
  df : DpAll K H fs ds
  dp : DpAll K H ps es
  su : ∃ s : Nat, sumO (placeN (gsz m) many) es = some s ∧ lf = rest - s
  nn : 0 ≤ lf
section
variable {K : PySem.W.Frag} {st fa pa : Addr} {H0 H H' : Hp} {m many : Nat} {rest room lf : Int} {fs ps : List V} {ds es : List PyData}
theorem InnerSt.tup (g : InnerSt K st fa pa H0 m many rest fs ds ps es lf H) : tupOnlyAll es = true := by
  obtain ⟨s, hs, _⟩ := g.su
  exact tupOnly_all fun z hz => by
    obtain ⟨u, hu⟩ := sumO_mem hs hz
    exact (place_shape hu).1
theorem InnerSt.go (g : InnerSt K st fa pa H0 m many rest fs ds ps es lf H) (td : tupOnlyAll ds = true) (n1 : fa ≠ st) (n2 : pa ≠ st) (k : Mv st H H') : InnerSt K st fa pa H0 m many rest fs ds ps es lf H' := by
  have kt := k.kp.kt g.mv.sa
  exact ⟨g.mv.trans k, k.kp _ _ n1 g.hf, k.kp _ _ n2 g.hp, dpAll_kt kt _ _ td g.df, dpAll_kt kt _ _ g.tup g.dp, g.su, g.nn⟩
theorem InnerSt.same (g : InnerSt K st fa pa H0 m many rest fs ds ps es lf H) (td : tupOnlyAll ds = true) (k : Same H H') : InnerSt K st fa pa H0 m many rest fs ds ps es lf H' := by
  have kt := KT.of_same k
  exact ⟨g.mv.same k, k _ _ g.hf, k _ _ g.hp, dpAll_kt kt _ _ td g.df, dpAll_kt kt _ _ g.tup g.dp, g.su, g.nn⟩
theorem InnerSt.push (g : InnerSt K st fa pa H0 m many rest fs ds ps es lf H) (td : tupOnlyAll ds = true) (h0 : H0 pa = none) (n2 : pa ≠ st) (n3 : fa ≠ pa) {v : V} {d : PyData} {c : Nat} (hv : Dp K H v d) (hc : placeN (gsz m) many d = some c) (hl : 0 ≤ lf - c) :
    InnerSt K st fa pa H0 m many rest fs ds (ps ++ [v]) (es ++ [d]) (lf - c) (upd H pa (.lst (ps ++ [v]))) := by
  have kt := KT.upd (l' := ps ++ [v]) g.hp
  obtain ⟨s, hs, e⟩ := g.su
  exact ⟨⟨g.mv.kp.upd h0, g.mv.sa.upd n2⟩, by rw [upd_ne n3]; exact g.hf, upd_same, dpAll_kt kt _ _ td g.df, dpAll_snoc (dp_kt kt _ _ (place_shape hc).1 hv) (dpAll_kt kt _ _ g.tup g.dp), ⟨s + c, sumO_snoc hs hc, by omega⟩, hl⟩
theorem OuterSt.tup (g : OuterSt K st fa H0 m many room fs ds lf H) : tupOnlyAll ds = true := by
  obtain ⟨s, hs, _⟩ := g.su
  exact tupOnly_all fun z hz => by
    obtain ⟨u, hu⟩ := sumO_mem hs hz
    exact (box_shape hu).1
theorem OuterSt.push (g : InnerSt K st fa pa H0 m many rest fs ds ps es lf H) (td : tupOnlyAll ds = true) (h0 : H0 fa = none) (n1 : fa ≠ st) (l3 : es.length = 3) (su : ∃ s : Nat, sumO (boxN (placeN (gsz m) many)) ds = some s ∧ rest = room - s) {tp : Addr} (ht : H tp = none) :
    OuterSt K st fa H0 m many room (fs ++ [.ref tp]) (ds ++ [.tuple es]) lf (upd (upd H tp (.tup ps)) fa (.lst (fs ++ [.ref tp]))) := by
  have s1 := same_new ht (.tup ps)
  have hf := s1 _ _ g.hf
  have kt := KT.upd (l' := fs ++ [.ref tp]) hf
  have kt2 := (KT.of_same s1).trans kt
  have nft : tp ≠ fa := (ne_of_none g.hf ht).symm
  obtain ⟨s, hs, e⟩ := g.su
  obtain ⟨s0, hs0, e0⟩ := su
  refine ⟨⟨(g.mv.kp.trans (Kp.of_same s1)).upd h0, (g.mv.sa.same s1).upd n1⟩, upd_same, dpAll_snoc (.tup (SqT.of ?_) (dpAll_kt kt2 _ _ g.tup g.dp)) (dpAll_kt kt2 _ _ td g.df), ⟨s0 + s, sumO_snoc hs0 ?_, by omega⟩, g.nn⟩
  · rw [upd_ne nft]
    exact upd_same
  · show (if es.length = 3 then sumO (placeN (gsz m) many) es else none) = some s
    rw [if_pos l3]
    exact hs
end
section
variable {P : Program} {w : World} {K : PySem.W.Frag} {mg : Str → Option Value} {base : Heap} {f : Addr} {fd : FuncData}
/-! _law_inner -/
def spInner (K : PySem.W.Frag) : Sp := fun vs H Q _ => ∃ (x : V) (d : PyData) (n c : Nat), vs = [x] ∧ Dp K H x d ∧ SeqAt.shaped d = true ∧ tupOnly d = true ∧ gsz n d = some c ∧
  ∀ p ls H', Same H H' → H' p = some (.lst ls) → ls.length ≤ 24 → DpAll K H' ls (innerD d) → Q (.ref p) H'
theorem scInner : FnScope ["_law_graph_here", "_law_found", "_law_box", "_law_place"] ["_law_graph_here"] (defScope sInner) := ⟨rfl, rfl, rfl, by decide +kernel, rfl, by decide +kernel, by decide +kernel⟩
theorem ok_inner {k : Nat} (F : Fun K "_law_inner" "_law_inner" sInner f fd) (T : Free mg) : FnOk P w K mg base CX0 (k + 1) f fd ["_law_graph_here"] (spInner K) := by
  refine F.ok scInner (fun vs H Q E h => ?_) (fun cdv A outer s H vs Q E hr h => ?_)
  · obtain ⟨x, d, n, c, rfl, _⟩ := h
    rfl
  obtain ⟨x, d, n, c, rfl, hx, hsh, hto, hg, q⟩ := h
  refine ⟨_, pss_cons (ps_set (i := 1) scInner.nd rfl (.inl rfl) (pe_lst pa_nil))
    (pss_cons (ps_for PassesOwn.never rfl (pi_tup (pv 0)) (pg_name (i := 2) scInner.nd rfl (.inl rfl))
      (pss_one (ps_set (i := 1) scInner.nd rfl (.inl rfl) (pe_op op_cat (pv 1)
        (pe_lc (own := [("_law_place", 3)]) (g := gName 3) (tt := tAnd (tB (tCB (rIsi K) (tCons (tVar 3) (tCons (tC (.ty "tuple")) tNil)))) (tTest (tOp (rNeD K) (tOp (rIxT K) (tVar 3) (tC (.int 0))) (tC (.str "tie"))))) (te := tVar 3) rfl scInner.nd (pi_tup (pv 2)) (blkOk_by (own := [("_law_place", 3)]) (N := ["_law_graph_here", "_law_found", "_law_box", "_law_place"]) (sc := defScope sInner) (by decide +kernel))
          (fun _ _ _ _ _ => pg_name (i := 3) scInner.nd rfl (Or.inl rfl))
          (fun _ _ _ _ _ => pts_one (PW.pt (pw_and (pt_val (pe_callB call_isi rfl T.isi (by decide +kernel) (pa_cons (pv 3) (pa_cons (pe_bltn (v := .ty "tuple") rfl T.tuple (by decide +kernel) rfl) pa_nil))))
            (pw_and1 (pt_cmpR (op_neD hr.units) (pe_ix ix_tup (pv 3) pe_int (fun _ _ => rfl)) pe_str (nomark _))))))
          (fun _ _ _ _ _ => pv 3))))))
    (pss_one (ps_ret (pv 1)))), ?_⟩
  obtain ⟨m, bs, s', rfl, rfl, l1, l8, _⟩ := gsz_some hg
  have hta := tupOnly_tup hto
  cases hx with
  | @tup a xs _ ht ha =>
    have lx := dpAll_len ha
    refine ⟨small (by show 0 ≤ 1000; decide), fun fa hfa => ?_⟩
    refine ⟨_, rfl, a, rfl, ⟨xs, sqT_kt (KT.of_same (same_new hfa _)) ht⟩, ?_⟩
    refine for_tup (xs := xs) (fun i σ H' => ∃ (fa : Addr) (acc : List V) (o2 o3 : Option V), σ = [some (.ref a), some (.ref fa), o2, o3] ∧ Same H H' ∧ H' fa = some (.lst acc) ∧ acc.length ≤ 3 * i ∧ DpAll K H' acc ((bs.take i).flatMap boxInner))
      ⟨fa, [], none, none, rfl, same_new hfa _, upd_same, Nat.le_refl _, .nil⟩ (fun i σ H' _ h => by obtain ⟨_, _, _, _, _, sm, _⟩ := h; exact sqT_kt (KT.of_same sm) ht) (fun i y σ H' hyi h => ?_) (fun σ H' h => ?_)
    · obtain ⟨fa, acc, o2, o3, rfl, sm, hf, hl, hacc⟩ := h
      obtain ⟨b, hb, hdb⟩ := dpAll_get' ha hyi
      have hbm : b ∈ bs := List.mem_of_getElem? hb
      obtain ⟨p, q', r, rfl, hp1, hp2, hp3⟩ := box_of hg hb
      have htb := tupOnly_tup (tupOnly_mem hta hbm)
      have hshb := shaped_mem hsh hbm
      have hpl : ∀ z ∈ [p, q', r], PlaceOk m bs.length z := by
        intro z hz
        rcases List.mem_cons.mp hz with rfl | hz
        · exact hp1
        rcases List.mem_cons.mp hz with rfl | hz
        · exact hp2
        rcases List.mem_cons.mp hz with rfl | hz
        · exact hp3
        cases hz
      cases hdb with
      | @tup ab ys _ hty hay =>
        have ly := dpAll_len hay
        refine ⟨_, rfl, _, rfl, ab, rfl, ⟨ys, sqT_kt (KT.of_same sm) hty⟩, fun D hD => ?_⟩
        refine lc_tup (xs := ys) (fun j H2 => Same H' H2 ∧ ∃ zs : List V, H2 D = some (.lst zs) ∧ zs.length ≤ j ∧ DpAll K H2 zs (([p, q', r].take j).filter isG)) ⟨same_new hD _, [], upd_same, Nat.le_refl _, .nil⟩
          (fun j H2 _ h => sqT_kt (KT.of_same (sm.trans h.1)) hty) (fun j z H2 hz h => ?_) (fun H2 h => ?_)
        · obtain ⟨s2, zs, hz2, hzl, hzd⟩ := h
          obtain ⟨pd, hpd, hdz⟩ := dpAll_get' hay hz
          have hpm : pd ∈ [p, q', r] := List.mem_of_getElem? hpd
          have hj3 : j < 3 := (List.getElem?_eq_some_iff.mp hpd).1
          have hdz2 : Dp K H2 z pd := dp_kt (KT.of_same (sm.trans s2)) pd z (tupOnly_mem htb hpm) hdz
          have etk := take_more hpd
          have skip : isG pd = false → Same H' H2 ∧ ∃ zs : List V, H2 D = some (.lst zs) ∧ zs.length ≤ j + 1 ∧ DpAll K H2 zs (([p, q', r].take (j + 1)).filter isG) := fun e =>
            ⟨s2, zs, hz2, by omega, by rw [etk, List.filter_append, List.filter_cons_of_neg (by rw [e]; decide), List.filter_nil, List.append_nil]; exact hzd⟩
          refine ⟨rfl, _, rfl, z, _, _, _, _, rfl, .ty "tuple", ty_of hdz2, kit_tuple pd, _, rfl, ?_⟩
          rcases sort_kinds (hpl pd hpm) with ⟨i', rfl, _⟩ | ⟨j', rfl, _⟩ | ⟨qs, r', kk, rfl, _, _⟩
          · exact ifF rfl (ifF rfl (skip rfl))
          · cases hdz2 with
            | tup htz haz =>
              cases haz with
              | cons h1 haz =>
                refine ifT rfl ⟨_, rfl, _, _, _, _, rfl, rfl, htz, atI_nat (j := 0) rfl, .str "tie", .str "tie", h1, .str _, shaped_tie, shaped_tie, _, rfl, ?_⟩
                rw [eqv_str_str]
                exact ifF rfl (skip (isG_tie j'))
          · cases hdz2 with
            | @tup az _ _ htz haz =>
              cases haz with
              | cons h1 haz' =>
                refine ifT rfl ⟨_, rfl, _, _, _, _, rfl, rfl, htz, atI_nat (j := 0) rfl, .tuple qs, .str "tie", h1, .str _, shaped_mem (shaped_mem hshb hpm) List.mem_cons_self, shaped_tie, _, rfl, ?_⟩
                rw [eqv_tup_str]
                refine ifT rfl ⟨_, rfl, zs, hz2, Nat.lt_of_lt_of_le (show zs.length < 1000 by omega) (small (Nat.le_refl _)), ?_, zs ++ [.ref az], upd_same, by rw [List.length_append, List.length_singleton]; omega, ?_⟩
                · exact fun bb u e => by rw [upd_ne (ne_of_none e hD)]; exact s2 bb u e
                · rw [etk, List.filter_append, List.filter_cons_of_pos (isG_graph qs r'), List.filter_nil]
                  have hk2 := KT.upd (l' := zs ++ [.ref az]) hz2
                  refine dpAll_snoc (dp_kt hk2 _ _ (tupOnly_mem htb hpm) (.tup htz (.cons h1 haz'))) ?_
                  exact dpAll_kt hk2 _ _ (tupOnly_all fun z hz => tupOnly_mem htb (List.mem_of_mem_take (List.mem_filter.mp hz).1)) hzd
        · obtain ⟨s2, zs, hz2, hzl, hzd⟩ := h
          rw [ly] at hzl hzd
          have hzd : DpAll K H2 zs ([p, q', r].filter isG) := hzd
          have hzl : zs.length ≤ 3 := hzl
          have hi8 : i < bs.length := (List.getElem?_eq_some_iff.mp hb).1
          refine ⟨fa, D, acc, zs, rfl, rfl, s2 _ _ hf, hz2, small (by omega), fun p' hp' => ?_⟩
          have s3 : Same H2 (upd H2 p' (.lst (acc ++ zs))) := same_new hp' _
          refine ⟨p', acc ++ zs, _, _, rfl, sm.trans (s2.trans s3), upd_same, by rw [List.length_append]; omega, ?_⟩
          rw [take_more hb, List.flatMap_append, List.flatMap_cons, List.flatMap_nil, List.append_nil]
          refine dpAll_append (dpAll_kt (KT.of_same s3) _ _ ?_ hzd) (dpAll_kt (KT.of_same (s2.trans s3)) _ _ ?_ hacc)
          · exact tupOnly_all fun z hz => tupOnly_mem htb (List.mem_filter.mp hz).1
          · refine tupOnly_all fun z hz => ?_
            obtain ⟨ps', h1, h2⟩ := inner_mem hz
            exact tupOnly_mem (tupOnly_tup (tupOnly_mem hta (List.mem_of_mem_take h1))) h2
    · obtain ⟨fa, acc, o2, o3, rfl, sm, hf, hl, hacc⟩ := h
      rw [lx] at hl
      rw [lx, List.take_length] at hacc
      exact ⟨_, rfl, q fa acc H' sm hf (by omega) hacc⟩
end
section
variable {P : Program} {w : World} {K : PySem.W.Frag} {mg : Str → Option Value} {base : Heap} {f : Addr} {fd : FuncData}
/-! _law_size -/
def spSize (K : PySem.W.Frag) (n : Nat) : Sp := fun vs H Q _ => ∃ (x : V) (d : PyData) (c : Nat), vs = [x] ∧ Dp K H x d ∧ SeqAt.shaped d = true ∧ tupOnly d = true ∧ gsz n d = some c ∧ ∀ H', Same H H' → Q (.int c) H'
theorem scSize : FnScope ["_law_graph_here", "_law_inner_here"] ["_law_graph_here"] (defScope sSize) := ⟨rfl, rfl, rfl, by decide +kernel, rfl, by decide +kernel, by decide +kernel⟩
theorem yesT {σ : L2.St} {H : Hp} {A B : Hp → Prop} (h : A H) : tYes σ H (fun b H3 => if b = true then A H3 else B H3) := by
  show (if true = true then A H else B H)
  rw [if_pos rfl]
  exact h
theorem sum_snoc (ks : List Int) (x : Int) : (ks ++ [x]).sum = ks.sum + x := by rw [List.sum_append]; simp
theorem ok_size {k n : Nat} (F : Fun K "_law_size" "_law_size" sSize f fd) (T : Free mg) (cI : Cal P w K mg base "_law_inner" k ["_law_graph_here"] (spInner K)) (cS : Cal P w K mg base "_law_size" k ["_law_graph_here"] (spSize K n)) :
    FnOk P w K mg base CX0 (k + 1) f fd ["_law_graph_here"] (spSize K (n + 1)) := by
  refine F.ok scSize (fun vs H Q E h => ?_) (fun cdv A outer s H vs Q E hr h => ?_)
  · obtain ⟨x, d, c, rfl, _⟩ := h
    rfl
  obtain ⟨x, d, c, rfl, hx, hsh, hto, hg, q⟩ := h
  refine ⟨_, pss_one (ps_ret (pe_op op_add (pe_callB call_len_seq rfl T.len PySem.boot_len (pa_cons (pv 0) pa_nil)) (pe_callB (cr_sum rfl) rfl T.sum (by decide +kernel) (pa_cons
    (pe_lc (own := [("_law_inner_here", 1)]) (g := gName 1) (tt := tYes) (te := tCall (spSize K n) [] E0 (tCons (tVar 1) tNil)) rfl scSize.nd (pi_list (pe_cal cI hr rfl (pa_cons (pv 0) pa_nil)))
      (blkOk_by (own := [("_law_inner_here", 1)]) (N := ["_law_graph_here", "_law_inner_here"]) (sc := defScope sSize) (by decide +kernel))
      (fun _ _ _ _ _ => pg_name (i := 1) scSize.nd rfl (Or.inl rfl)) (fun _ _ _ _ _ => pts_nil) (fun _ _ _ _ _ => pe_cal cS hr rfl (pa_cons (pv 1) pa_nil))) pa_nil)))), ?_⟩
  obtain ⟨m, bs, s', e, rfl, l1, l8, hs, rfl, h24⟩ := gsz_some hg
  cases e
  have hin := boxes_inner hs
  have hta := tupOnly_tup hto
  have hin_ok : ∀ z ∈ bs.flatMap boxInner, SeqAt.shaped z = true ∧ tupOnly z = true := fun z hz => by
    obtain ⟨ps, h1, h2⟩ := inner_mem hz
    exact ⟨shaped_mem (shaped_mem hsh h1) h2, tupOnly_mem (tupOnly_tup (tupOnly_mem hta h1)) h2⟩
  cases hx with
  | @tup a xs _ ht ha =>
    have lx := dpAll_len ha
    refine ⟨_, rfl, a, xs, rfl, .inr ht, ?_⟩
    refine ⟨_, rfl, .ref a, .tuple bs, n + 1, _, rfl, .tup ht ha, hsh, hto, hg, fun p ls H1 s1 hp hl hd => ?_⟩
    refine ⟨p, rfl, ⟨ls, SqL.of hp⟩, fun D hD => ?_⟩
    have hd : DpAll K H1 ls (bs.flatMap boxInner) := hd
    have ll := dpAll_len hd
    refine lc_list (xs := ls) (fun j H2 => Same H1 H2 ∧ ∃ ks : List Int, H2 D = some (.lst (ks.map V.int)) ∧ ks.length = j ∧ ∃ u : Nat, sumO (gsz n) ((bs.flatMap boxInner).take j) = some u ∧ ks.sum = (u : Int)) ⟨same_new hD _, [], upd_same, rfl, 0, rfl, rfl⟩
      (fun j H2 _ h => SqL.of (h.1 _ _ hp)) (fun j z H2 hz h => ?_) (fun H2 h => ?_)
    · obtain ⟨s2, ks, hk, hkl, u, hu, hku⟩ := h
      obtain ⟨pd, hpd, hdz⟩ := dpAll_get' hd hz
      have hpm := List.mem_of_getElem? hpd
      obtain ⟨hsz, htz⟩ := hin_ok pd hpm
      obtain ⟨v, hv⟩ := sumO_mem hin hpm
      refine ⟨rfl, yesT ?_⟩
      refine ⟨_, rfl, z, pd, v, rfl, dp_kt (KT.of_same s2) pd z htz hdz, hsz, htz, hv, fun H3 s3 => ?_⟩
      have hj : j < ls.length := (List.getElem?_eq_some_iff.mp hz).1
      refine ⟨ks.map V.int, s3 _ _ hk, Nat.lt_of_lt_of_le (show (ks.map V.int).length < 1000 by rw [List.length_map]; omega) (small (Nat.le_refl _)), ?_, ks ++ [(v : Int)], ?_, by rw [List.length_append, hkl]; rfl, u + v, ?_, ?_⟩
      · exact fun bb o e => by rw [upd_ne (ne_of_none e hD)]; exact s3 bb o (s2 bb o e)
      · rw [List.map_append]
        exact upd_same
      · rw [take_more hpd]
        exact sumO_snoc hu hv
      · rw [sum_snoc, hku]
        omega
    · obtain ⟨s2, ks, hk, hkl, u, hu, hku⟩ := h
      rw [ll, List.take_length] at hu
      have : u = s' := Option.some.inj (hu.symm.trans hin)
      subst this
      refine ⟨D, ks, rfl, SqL.of hk, _, _, rfl, rfl, ?_⟩
      have r := q H2 (s1.trans s2)
      rw [lx, hku]
      have e : ((bs.length + u : Nat) : Int) = (bs.length : Int) + (u : Int) := by omega
      rw [e] at r
      exact r
theorem no_size {k : Nat} (F : Fun K "_law_size" "_law_size" sSize f fd) : FnOk P w K mg base CX0 k f fd ["_law_graph_here"] (spSize K 0) := by
  have no : ∀ vs H Q E, ¬ spSize K 0 vs H Q E := fun vs H Q E h => by
    obtain ⟨x, d, c, _, _, _, _, h, _⟩ := h
    cases h
  exact ⟨fun vs H Q E h => absurd h (no vs H Q E), fun A outer s H args us vs Q E _ _ _ _ h => absurd h (no vs H Q E)⟩
end
section
variable {P : Program} {w : World} {K : PySem.W.Frag} {mg : Str → Option Value} {base : Heap} {f : Addr} {fd : FuncData}
def spGraph (K : PySem.W.Frag) (n : Nat) : Sp := fun vs H Q _ => ∃ (st : Addr) (room : Int), vs = [.ref st, .int n, .int room] ∧ 1 ≤ n ∧ n ≤ 4 ∧ StAt H st ∧ 1 ≤ room ∧ room ≤ 24 ∧
  ∀ v d (c : Nat) H', Mv st H H' → Dp K H' v d → gsz n d = some c → (c : Int) ≤ room → Q v H'
theorem scGraph : FnScope ["_law_state_here", "_law_deep", "_law_room", "_law_many", "_law_left", "_law_found", "_law_b", "_law_places", "_law_k", "_law_way", "_law_tie", "_law_place"] ["_law_state_here", "_law_deep", "_law_room"] (defScope sGraph) :=
  ⟨rfl, rfl, rfl, by decide +kernel, rfl, by decide +kernel, by decide +kernel⟩
theorem pick4 {H : Hp} {m many : Nat} {tp : Addr} {t e n3 : Int} {w4 : Int} (h0 : 0 ≤ w4) (h4 : w4 < 4) (ht : H tp = some (.tup [.str "tie", .int t])) (t0 : 0 ≤ t) (t1 : t < many) (e1 : e = 9999 ∨ e = -9999) (n0 : -9999 ≤ n3) (n1 : n3 ≤ 9999) :
    ∃ v d, atI [V.int 0, .ref tp, .int n3, .int e] w4 = some v ∧ Dp K H v d ∧ placeN (gsz m) many d = some 0 := by
  have : w4 = 0 ∨ w4 = 1 ∨ w4 = 2 ∨ w4 = 3 := by omega
  rcases this with rfl | rfl | rfl | rfl
  · exact ⟨_, _, atI_nat (j := 0) rfl, .int 0, placeN_num (by decide) (by decide)⟩
  · exact ⟨_, _, atI_nat (j := 1) rfl, .tup (SqT.of ht) (.cons (.str _) (.cons (.int t) .nil)), placeN_tie t0 t1⟩
  · exact ⟨_, _, atI_nat (j := 2) rfl, .int n3, placeN_num n0 n1⟩
  · exact ⟨_, _, atI_nat (j := 3) rfl, .int e, placeN_num (by omega) (by omega)⟩
theorem ok_graph {k m : Nat} (F : Fun K "_law_graph" "_law_graph" sGraph f fd) (T : Free mg) (cC : Cal P w K mg base "_law_choice" k ["_law_state_here", "_law_many"] spChoice) (cS : Cal P w K mg base "_law_size" k ["_law_graph_here"] (spSize K m))
    (cG : Cal P w K mg base "_law_graph" k ["_law_state_here", "_law_deep", "_law_room"] (spGraph K m)) : FnOk P w K mg base CX0 (k + 1) f fd ["_law_state_here", "_law_deep", "_law_room"] (spGraph K (m + 1)) := by
  refine F.ok scGraph (fun vs H Q E h => ?_) (fun cdv A outer s H vs Q E hr h => ?_)
  · obtain ⟨st, room, rfl, _⟩ := h
    rfl
  obtain ⟨st, room, rfl, n1, n4, sa, r1, r24, q⟩ := h
  refine ⟨_, pss_cons (ps_set (i := 3) scGraph.nd rfl (.inl rfl) (pe_op op_add pe_int (pe_cal cC hr rfl (pa_cons (pv 0) (pa_cons (pe_callB (call_min2 rfl) rfl T.min (by decide +kernel) (pa_cons pe_int (pa_cons (pv 2) pa_nil))) pa_nil)))))
    (pss_cons (ps_par (i := 4) (j := 5) rfl scGraph.nd rfl rfl (by decide) rfl rfl (pa_cons (pe_op op_sub (pv 2) (pv 3)) (pa_cons (pe_lst pa_nil) pa_nil)) rfl)
    (pss_cons (ps_for PassesOwn.never rfl (pi_range1 rfl T.range (pa_cons (pv 3) pa_nil)) (pg_name (i := 6) scGraph.nd rfl (.inl rfl))
      (pss_cons (ps_set (i := 7) scGraph.nd rfl (.inl rfl) (pe_lst pa_nil))
      (pss_cons (ps_for PassesOwn.never rfl (pi_range1 rfl T.range (pa_cons pe_int pa_nil)) (pg_name (i := 8) scGraph.nd rfl (.inl rfl))
        (pss_cons (ps_par (i := 9) (j := 10) rfl scGraph.nd rfl rfl (by decide) rfl rfl (pa_cons (pe_cal cC hr rfl (pa_cons (pv 0) (pa_cons pe_int pa_nil))) (pa_cons (pe_tup (pa_cons pe_str (pa_cons (pe_cal cC hr rfl (pa_cons (pv 0) (pa_cons (pv 3) pa_nil))) pa_nil))) pa_nil)) rfl)
        (pss_cons (ps_set (i := 11) scGraph.nd rfl (.inl rfl) (pe_ix ix_list (pe_lst (pa_cons pe_int (pa_cons (pv 10) (pa_cons (pe_op op_sub (pe_cal cC hr rfl (pa_cons (pv 0) (pa_cons pe_int pa_nil))) pe_int)
            (pa_cons (pe_ix ix_list (pe_lst (pa_cons pe_int (pa_cons (pe_un un_neg pe_int) pa_nil))) (pe_op op_mod (pv 6) pe_int) (fun _ _ => rfl)) pa_nil))))) (pe_op op_mod (pv 9) pe_int) (fun _ _ => rfl)))
        (pss_cons (ps_if (PW.pt (pw_and (pt_cmpR op_gt (pv 9) pe_int (nomark _)) (pw_and (pt_cmpR op_gt (pv 1) pe_int (nomark _)) (pw_and1 (pt_cmpR op_gt (pv 4) pe_int (nomark _))))))
            (pss_cons (ps_set (i := 11) scGraph.nd rfl (.inl rfl) (pe_cal cG hr rfl (pa_cons (pv 0) (pa_cons (pe_op op_sub (pv 1) pe_int) (pa_cons (pe_callB (call_min2 rfl) rfl T.min (by decide +kernel) (pa_cons (pv 4) (pa_cons (pe_op op_add pe_int (pe_cal cC hr rfl (pa_cons (pv 0) (pa_cons pe_int pa_nil)))) pa_nil))) pa_nil)))))
            (pss_one (ps_set (i := 4) scGraph.nd rfl (.inl rfl) (pe_op op_sub (pv 4) (pe_cal cS hr rfl (pa_cons (pv 11) pa_nil)))))) pss_nil)
        (pss_one (ps_expr (pe_bm PySem.F.plainAttrs_list PySem.F.slot_list_append PySem.F.type_list_append mt_append (pv 7) (pa_cons (pv 11) pa_nil))))))))
      (pss_one (ps_expr (pe_bm PySem.F.plainAttrs_list PySem.F.slot_list_append PySem.F.type_list_append mt_append (pv 5) (pa_cons (pe_callTy call_tuple_of rfl T.tuple (by decide +kernel) (pa_cons (pv 7) pa_nil)) pa_nil)))))))
    (pss_one (ps_ret (pe_callTy call_tuple_of rfl T.tuple (by decide +kernel) (pa_cons (pv 5) pa_nil)))))), ?_⟩
  -- many
  have hmin : 0 < (if room < 8 then room else 8) ∧ (if room < 8 then room else 8) ≤ 8 ∧ (if room < 8 then room else 8) ≤ room := by split <;> omega
  refine ⟨_, rfl, _, rfl, 8, room, rfl, st, _, rfl, sa, hmin.1, by omega, fun r H1 r0 rl mv1 => ⟨_, _, rfl, rfl, ?_⟩⟩
  obtain ⟨many, hmany⟩ : ∃ many : Nat, (many : Int) = 1 + r := ⟨(1 + r).toNat, by omega⟩
  show gName 3 (V.int (1 + r)) _ _ _
  rw [← hmany]
  have m1 : 1 ≤ many := by omega
  have m8 : many ≤ 8 := by omega
  have mr : (many : Int) ≤ room := by omega
  -- left, found
  refine ⟨_, rfl, _, rfl, _, _, rfl, rfl, small (by show 0 ≤ 1000; decide), fun fa hfa => ⟨_, _, rfl, ?_⟩⟩
  have nfs : fa ≠ st := mv1.sa.ne hfa
  have h0f : H fa = none := mv1.kp.free nfs hfa
  -- the boxes
  refine ⟨_, rfl, _, rfl, by omega, by omega, ?_⟩
  rw [Int.toNat_natCast]
  refine for_range (lo := 0) (n := many) (fun i σ H' => ∃ (fs : List V) (ds : List PyData) (lf : Int) (o6 o7 o8 o9 o10 o11 : Option V), σ = [some (.ref st), some (.int ((m + 1 : Nat) : Int)), some (.int room), some (.int many), some (.int lf), some (.ref fa), o6, o7, o8, o9, o10, o11] ∧ ds.length = i ∧
      OuterSt K st fa H m many (room - many) fs ds lf H')
    ⟨[], [], _, _, _, _, _, _, _, rfl, rfl, ⟨(mv1.same (same_new hfa _)), upd_same, .nil, ⟨0, rfl, by show _ = room - (many : Int) - 0; omega⟩, by omega⟩⟩ (fun i σ H' hi h => ?_) (fun σ H' h => ?_)
  · obtain ⟨fs, ds, lf, o6, o7, o8, o9, o10, o11, rfl, hdl, g⟩ := h
    have td := g.tup
    have su := g.su
    -- places
    refine ⟨small (by show 0 ≤ 1000; decide), fun pa hpa => ?_⟩
    have nps : pa ≠ st := g.mv.sa.ne hpa
    have h0p : H pa = none := g.mv.kp.free nps hpa
    have nfp : fa ≠ pa := ne_of_none g.hf hpa
    have s1 := same_new hpa (.lst [])
    refine ⟨3, rfl, by decide, by decide, ?_⟩
    refine for_range (lo := 0) (n := 3) (fun j σ H' => ∃ (ps : List V) (es : List PyData) (lf' : Int) (o8 o9 o10 o11 : Option V), σ = [some (.ref st), some (.int ((m + 1 : Nat) : Int)), some (.int room), some (.int many), some (.int lf'), some (.ref fa), some (.int (0 + (i : Int))), some (.ref pa), o8, o9, o10, o11] ∧ es.length = j ∧
        InnerSt K st fa pa H m many lf fs ds ps es lf' H')
      ⟨[], [], lf, _, _, _, _, rfl, rfl, ⟨g.mv.same s1, s1 _ _ g.hf, upd_same, dpAll_kt (KT.of_same s1) _ _ td g.df, .nil, ⟨0, rfl, by show lf = lf - 0; omega⟩, g.nn⟩⟩ (fun j σ H' hj h => ?_) (fun σ H' h => ?_)
    · obtain ⟨ps, es, lf', o8, o9, o10, o11, rfl, hel, g2⟩ := h
      have lps := dpAll_len g2.dp
      -- way, tie
      refine ⟨_, rfl, st, 8, rfl, g2.mv.sa, by decide, by decide, fun way Ha w0 w8 ma => ?_⟩
      have ga := g2.go td nfs nps ma
      refine ⟨_, rfl, _, rfl, st, many, rfl, ga.mv.sa, by omega, by omega, fun t Hb t0 tl mb => ?_⟩
      have gb := ga.go td nfs nps mb
      refine ⟨small (by show 2 ≤ 1000; decide), fun tp htp => ⟨_, _, rfl, ?_⟩⟩
      have gc := gb.same td (same_new htp (.tup [.str "tie", .int t]))
      -- place
      refine ⟨_, rfl, _, rfl, st, 19999, rfl, gc.mv.sa, by decide, by decide, fun r3 Hd r30 r31 md => ⟨_, _, rfl, rfl, ?_⟩⟩
      have gd := gc.go td nfs nps md
      have hntp : tp ≠ st := gb.mv.sa.ne htp
      have htd : Hd tp = some (.tup [.str "tie", .int t]) := md.kp _ _ hntp upd_same
      refine ⟨_, rfl, small (by show 2 ≤ 1000; decide), fun q1 hq1 => ?_⟩
      have ge := gd.same td (same_new hq1 (.lst [.int 9999, .int (-9999)]))
      have hte := same_new hq1 (.lst [.int 9999, .int (-9999)]) _ _ htd
      have hspot : ∃ e : Int, atI [V.int 9999, .int (-9999)] ((0 + (i : Int)) % 2) = some (.int e) ∧ (e = 9999 ∨ e = -9999) := by
        have : (0 + (i : Int)) % 2 = 0 ∨ (0 + (i : Int)) % 2 = 1 := by omega
        rcases this with e | e <;> rw [e]
        · exact ⟨9999, atI_nat (j := 0) rfl, .inl rfl⟩
        · exact ⟨-9999, atI_nat (j := 1) rfl, .inr rfl⟩
      obtain ⟨e, he, he2⟩ := hspot
      refine ⟨_, rfl, _, _, rfl, rfl, (by show (0 : Int) < 2; decide), q1, _, _, _, rfl, rfl, SqL.of upd_same, he, ?_⟩
      refine ⟨small (by show 4 ≤ 1000; decide), fun q2 hq2 => ?_⟩
      have gf := ge.same td (same_new hq2 (.lst [.int 0, .ref tp, .int (r3 - 9999), .int e]))
      have htf := same_new hq2 (.lst [.int 0, .ref tp, .int (r3 - 9999), .int e]) _ _ hte
      obtain ⟨v, d, hat, hdv, hpl⟩ := pick4 (K := K) (m := m) (many := many) (w4 := way % 4) (e := e) (n3 := r3 - 9999) (by omega) (by omega) htf t0 tl he2 (by omega) (by omega)
      refine ⟨_, rfl, _, _, rfl, rfl, (by show (0 : Int) < 4; decide), q2, _, _, v, rfl, rfl, SqL.of upd_same, hat, ?_⟩
      -- the end of a turn
      have fin : ∀ {v : V} {d : PyData} {c : Nat} {Hz : Hp} {o9 o10 : Option V} {lz : Int}, InnerSt K st fa pa H m many lf fs ds ps es lf' Hz → Dp K Hz v d → placeN (gsz m) many d = some c → lz = lf' - c → 0 ≤ lz →
          ∃ (ps' : List V) (es' : List PyData) (lf'' : Int) (p8 p9 p10 p11 : Option V), [some (V.ref st), some (V.int ((m + 1 : Nat) : Int)), some (V.int room), some (V.int many), some (V.int lz), some (V.ref fa), some (V.int (0 + (i : Int))), some (V.ref pa), some (V.int (0 + (j : Int))), o9, o10, some v] =
            [some (V.ref st), some (V.int ((m + 1 : Nat) : Int)), some (V.int room), some (V.int many), some (V.int lf''), some (V.ref fa), some (V.int (0 + (i : Int))), some (V.ref pa), p8, p9, p10, p11] ∧ es'.length = j + 1 ∧
            InnerSt K st fa pa H m many lf fs ds ps' es' lf'' (upd Hz pa (.lst (ps ++ [v]))) := by
        intro v d c Hz o9 o10 lz gz hv hc e hl
        subst e
        exact ⟨ps ++ [v], es ++ [d], lf' - c, _, _, _, _, rfl, by rw [List.length_append, hel]; rfl, gz.push td h0p nps nfp hv hc hl⟩
      have room3 : ps.length < sizeLine := Nat.lt_of_lt_of_le (show ps.length < 1000 by omega) (small (Nat.le_refl _))
      refine ⟨_, rfl, _, _, rfl, rfl, _, rfl, ?_⟩
      have stay : InnerSt K st fa pa H m many lf fs ds ps es lf' _ := gf
      refine ite2 (fun c1 => ?_) (fun c1 => ?_)
      · refine ⟨_, rfl, _, _, rfl, rfl, _, rfl, ?_⟩
        refine ite2 (fun c2 => ?_) (fun c2 => ?_)
        · refine ⟨_, rfl, _, _, rfl, rfl, _, rfl, ?_⟩
          refine ite2 (fun c3 => ?_) (fun c3 => ?_)
          · have c2 : 1 < ((m + 1 : Nat) : Int) := of_decide_eq_true c2
            have c3 : 0 < lf' := of_decide_eq_true c3
            have lf24 : lf' ≤ 24 := by
              obtain ⟨s2, _, e2⟩ := g2.su
              obtain ⟨s3, _, e3⟩ := g.su
              omega
            refine ⟨_, rfl, _, rfl, _, _, rfl, rfl, _, rfl, _, rfl, st, 9, rfl, gf.mv.sa, by decide, by decide, fun r4 Hg r40 r41 mg' => ⟨_, _, rfl, rfl, _, _, rfl, ?_⟩⟩
            have gg := gf.go td nfs nps mg'
            have hroom : 1 ≤ (if 1 + r4 < lf' then 1 + r4 else lf') ∧ (if 1 + r4 < lf' then 1 + r4 else lf') ≤ lf' := by split <;> omega
            refine ⟨st, _, congrArg (fun z => [V.ref st, V.int z, V.int (if 1 + r4 < lf' then 1 + r4 else lf')]) (show ((m + 1 : Nat) : Int) - 1 = (m : Int) by omega), by omega, by omega, gg.mv.sa, hroom.1, by omega, fun v' d' c' Hh mh hd' hg' hc' => ?_⟩
            have gh := gg.go td nfs nps mh
            have shp := good_shape _ _ _ hg'
            refine ⟨_, rfl, _, rfl, v', d', c', rfl, hd', shp_shaped shp (by omega), shp.1, hg', fun Hi si => ⟨_, _, rfl, rfl, ?_⟩⟩
            have gi := gh.same td si
            refine ⟨_, rfl, .inl ⟨rfl, _, SqL.of gi.hp⟩, _, rfl, pa, ps, v', rfl, rfl, gi.hp, room3, ?_⟩
            exact fin gi (dp_kt (KT.of_same si) _ _ shp.1 hd') (placeN_graph hg') rfl (by omega)
          · refine ⟨_, rfl, .inl ⟨rfl, _, SqL.of gf.hp⟩, _, rfl, pa, ps, v, rfl, rfl, gf.hp, room3, ?_⟩
            exact fin gf hdv hpl (by show lf' = lf' - ((0 : Nat) : Int); omega) gf.nn
        · refine ifF rfl ⟨_, rfl, .inl ⟨rfl, _, SqL.of gf.hp⟩, _, rfl, pa, ps, v, rfl, rfl, gf.hp, room3, ?_⟩
          exact fin gf hdv hpl (by show lf' = lf' - ((0 : Nat) : Int); omega) gf.nn
      · refine ifF rfl ⟨_, rfl, .inl ⟨rfl, _, SqL.of gf.hp⟩, _, rfl, pa, ps, v, rfl, rfl, gf.hp, room3, ?_⟩
        exact fin gf hdv hpl (by show lf' = lf' - ((0 : Nat) : Int); omega) gf.nn
    · obtain ⟨ps, es, lf', o8, o9, o10, o11, rfl, hel, g2⟩ := h
      have lfs := dpAll_len g2.df
      refine ⟨_, rfl, .inl ⟨rfl, _, SqL.of g2.hf⟩, _, rfl, pa, ps, rfl, .inl ⟨SqL.of g2.hp, fun tp htp => ?_⟩⟩
      refine ⟨fa, fs, .ref tp, rfl, rfl, same_new htp _ _ _ g2.hf, Nat.lt_of_lt_of_le (show fs.length < 1000 by omega) (small (Nat.le_refl _)), ?_⟩
      exact ⟨_, _, lf', _, _, _, _, _, _, rfl, by rw [List.length_append, hdl]; rfl, OuterSt.push g2 td h0f nfs hel su htp⟩
  · obtain ⟨fs, ds, lf, o6, o7, o8, o9, o10, o11, rfl, hdl, g⟩ := h
    refine ⟨_, rfl, fa, fs, rfl, .inl ⟨SqL.of g.hf, fun tp htp => ?_⟩⟩
    have s1 := same_new htp (.tup fs)
    obtain ⟨s2, hs2, e2⟩ := g.su
    have hnn := g.nn
    refine q _ (.tuple ds) (many + s2) _ (g.mv.same s1) (.tup (SqT.of upd_same) (dpAll_kt (KT.of_same s1) _ _ g.tup g.df)) ?_ (by omega)
    show gszT (gsz m) ds = some (many + s2)
    unfold gszT
    rw [hdl, if_pos ⟨m1, m8⟩, hs2]
    show (if many + s2 ≤ 24 then some (many + s2) else none) = some (many + s2)
    rw [if_pos (by omega)]
theorem no_graph {k : Nat} : FnOk P w K mg base CX0 k f fd ["_law_state_here", "_law_deep", "_law_room"] (spGraph K 0) := by
  have no : ∀ vs H Q E, ¬ spGraph K 0 vs H Q E := fun vs H Q E h => by
    obtain ⟨st, room, _, h, _⟩ := h
    omega
  exact ⟨fun vs H Q E h => absurd h (no vs H Q E), fun A outer s H args us vs Q E _ _ _ _ h => absurd h (no vs H Q E)⟩
end
section
variable {K : PySem.W.Frag}
/-- a bare graph, newly made -/
theorem bare_new {H : Hp} {p p' : Addr} (h : H p = none) (h' : (upd H p (.tup [.int 0, .int 0, .int 0])) p' = none) :
    Same H (upd (upd H p (.tup [.int 0, .int 0, .int 0])) p' (.tup [.ref p])) ∧ Dp K (upd (upd H p (.tup [.int 0, .int 0, .int 0])) p' (.tup [.ref p])) (.ref p') bareD := by
  have s1 := same_new h (.tup [.int 0, .int 0, .int 0])
  have s2 := same_new h' (.tup [.ref p])
  refine ⟨s1.trans s2, .tup (SqT.of upd_same) (.cons (.tup (SqT.of (s2 _ _ upd_same)) (.cons (.int 0) (.cons (.int 0) (.cons (.int 0) .nil)))) .nil)⟩
end
def tieD (j : Int) : PyData := .tuple [.str "tie", .int j]
def boxI (k : Nat) : PyData := .tuple [.int k, tieD k, .int 0]
def innerT : PyData := .tuple ((List.range 8).map boxI)
def innerC : PyData := .tuple ((List.range 7).map boxI)
def itemF (k : Nat) : PyData := if k < 2 then innerT else if k = 2 then .int 0 else .int (-1)
def boxF (k : Nat) : PyData := .tuple [itemF k, .int k, tieD (7 - k)]
def fullT : PyData := .tuple ((List.range 8).map boxF)
def wideT : PyData := .tuple [.tuple [innerT, innerT, innerC]]
def chainT : Nat → PyData
  | 0 => .tuple [.tuple [.int 5, .int 0, .int 0]]
  | i + 1 => .tuple [.tuple [chainT i, tieD 0, .int i]]
theorem g_bare : gsz 4 bareD = some 1 := by decide +kernel
theorem g_full : gsz 4 fullT = some 24 := by decide +kernel
theorem g_wide : gsz 4 wideT = some 24 := by decide +kernel
theorem g_chain : gsz 4 (chainT 3) = some 4 := by decide +kernel
theorem sumO_mono {f g : PyData → Option Nat} (h : ∀ x a, f x = some a → g x = some a) : ∀ {l : List PyData} {s : Nat}, sumO f l = some s → sumO g l = some s
  | [], s, e => e
  | x :: r, s, e => by
    obtain ⟨a, b, h1, h2, rfl⟩ := sumO_cons e
    exact sumO_cons' (h _ _ h1) (sumO_mono h h2)
theorem placeN_mono {f g : PyData → Option Nat} {m : Nat} (h : ∀ x a, f x = some a → g x = some a) (p : PyData) (a : Nat) (e : placeN f m p = some a) : placeN g m p = some a := by
  unfold placeN at e ⊢
  by_cases h1 : numD p = true
  · rw [if_pos h1] at e ⊢
    exact e
  · rw [if_neg h1] at e ⊢
    by_cases h2 : tieB m p = true
    · rw [if_pos h2] at e ⊢
      exact e
    · rw [if_neg h2] at e ⊢
      exact h _ _ e
theorem boxN_mono {f g : PyData → Option Nat} (h : ∀ x a, f x = some a → g x = some a) (p : PyData) (a : Nat) (e : boxN f p = some a) : boxN g p = some a := by
  obtain ⟨x, y, z, rfl, e'⟩ := boxN_some e
  show (if [x, y, z].length = 3 then sumO g [x, y, z] else none) = some a
  rw [if_pos (show [x, y, z].length = 3 from rfl)]
  exact sumO_mono h e'
theorem gsz_succ : ∀ (n : Nat) (d : PyData) (c : Nat), gsz n d = some c → gsz (n + 1) d = some c
  | 0, _, _, h => by cases h
  | n + 1, d, c, h => by
    obtain ⟨m, bs, s, e, rfl, l1, l8, hs, rfl, h24⟩ := gsz_some h
    cases e
    show gszT (gsz (n + 1)) bs = some (bs.length + s)
    unfold gszT
    rw [if_pos ⟨l1, l8⟩, sumO_mono (boxN_mono (placeN_mono (gsz_succ n))) hs]
    show (if bs.length + s ≤ 24 then some (bs.length + s) else none) = some (bs.length + s)
    rw [if_pos h24]
theorem gsz_mono {n : Nat} {d : PyData} {c : Nat} (h : gsz n d = some c) : ∀ {m : Nat}, n ≤ m → gsz m d = some c := by
  intro m hm
  induction hm with
  | refl => exact h
  | step _ ih => exact gsz_succ _ _ _ ih

theorem range_more {α : Type} (g : Nat → α) (j : Nat) : (List.range (j + 1)).map g = (List.range j).map g ++ [g j] := by
  rw [List.range_succ, List.map_append]
  rfl
theorem shp_box (k : Nat) : Shp 2 (boxI k) := by
  refine shp_tup fun z hz => ?_
  rcases List.mem_cons.mp hz with rfl | hz
  · exact shp_int _ _
  rcases List.mem_cons.mp hz with rfl | hz
  · exact shp_tie 0 _
  rcases List.mem_cons.mp hz with rfl | hz
  · exact shp_int _ _
  cases hz
theorem shp_boxes (n : Nat) : Shp 3 (.tuple ((List.range n).map boxI)) := shp_tup fun z hz => by
  obtain ⟨k, _, rfl⟩ := List.mem_map.mp hz
  exact shp_box k
theorem shp_item (k : Nat) : Shp 3 (itemF k) := by
  unfold itemF
  split
  · exact shp_boxes 8
  · split <;> exact shp_int _ _
theorem shp_boxF (k : Nat) : Shp 4 (boxF k) := by
  refine shp_tup fun z hz => ?_
  rcases List.mem_cons.mp hz with rfl | hz
  · exact shp_item k
  rcases List.mem_cons.mp hz with rfl | hz
  · exact shp_int _ _
  rcases List.mem_cons.mp hz with rfl | hz
  · exact shp_mono (shp_tie 0 _) (by decide)
  cases hz
theorem tup_boxes (n : Nat) : tupOnlyAll ((List.range n).map boxI) = true := tupOnly_tup (shp_boxes n).1
theorem tup_boxesF (n : Nat) : tupOnlyAll ((List.range n).map boxF) = true := tupOnly_all fun z hz => by
  obtain ⟨k, _, rfl⟩ := List.mem_map.mp hz
  exact (shp_boxF k).1
theorem dp_int {K : PySem.W.Frag} {H : Hp} {i j : Int} (h : i = j) : Dp K H (.int i) (.int j) := by
  subst h
  exact .int i
section
variable {P : Program} {w : World} {K : PySem.W.Frag} {mg : Str → Option Value} {base : Heap} {f : Addr} {fd : FuncData}
def spGraphAny (K : PySem.W.Frag) : Sp := fun vs H Q E => ∃ n, n ≤ 4 ∧ spGraph K n vs H Q E
theorem FnOk.anyG {k : Nat} {ps : List Str} (F : ∀ n, n ≤ 4 → FnOk P w K mg base CX0 k f fd ps (spGraph K n)) : FnOk P w K mg base CX0 k f fd ps (spGraphAny K) :=
  ⟨fun vs H Q E ⟨n, hn, h⟩ => (F n hn).len vs H Q E h, fun A outer s H args us vs Q E h1 h2 h3 h4 ⟨n, hn, h⟩ => (F n hn).run A outer s H args us vs Q E h1 h2 h3 h4 h⟩
def spSome (K : PySem.W.Frag) : Sp := fun vs H Q _ => ∃ (st : Addr), vs = [.ref st] ∧ StAt H st ∧ ∀ v d (c : Nat) H', Mv st H H' → Dp K H' v d → gsz 4 d = some c → Q v H'
theorem scSome : FnScope ["_law_state_here", "_law_way", "_law_k", "_law_inner_here", "_law_found"] ["_law_state_here"] (defScope sSome) :=
  ⟨rfl, rfl, rfl, by decide +kernel, rfl, by decide +kernel, by decide +kernel⟩
abbrev teI : TE := tTup (tCons (tVar 2) (tCons (tTup (tCons (tC (.str "tie")) (tCons (tVar 2) tNil))) (tCons (tC (.int 0)) tNil)))
abbrev rMin2 : List V → Hp → VK → Prop := fun xs H Q => ∃ i j, xs = [.int i, .int j] ∧ Q (.int (if j < i then j else i)) H
abbrev teF (K : PySem.W.Frag) : TE := tTup (tCons (tOp (rIxL K) (tLst (tCons (tVar 3) (tCons (tVar 3) (tCons (tC (.int 0)) (tCons (tUn (rU fun i => .int (-i)) (tC (.int 1))) tNil))))) (tCB rMin2 (tCons (tVar 2) (tCons (tC (.int 3)) tNil))))
  (tCons (tVar 2) (tCons (tTup (tCons (tC (.str "tie")) (tCons (tOp (rI0 fun i j => .int (i - j)) (tC (.int 7)) (tVar 2)) tNil))) tNil)))
theorem ok_some {k : Nat} (F : Fun K "_law_some_graph" "_law_some_graph" sSome f fd) (T : Free mg) (cC : Cal P w K mg base "_law_choice" k ["_law_state_here", "_law_many"] spChoice)
    (cG : Cal P w K mg base "_law_graph" k ["_law_state_here", "_law_deep", "_law_room"] (spGraphAny K)) : FnOk P w K mg base CX0 (k + 1) f fd ["_law_state_here"] (spSome K) := by
  refine F.ok scSome (fun vs H Q E h => ?_) (fun cdv A outer s H vs Q E hr h => ?_)
  · obtain ⟨st, rfl, _⟩ := h
    rfl
  obtain ⟨st, rfl, sa, q⟩ := h
  refine ⟨_, pss_cons (ps_set (i := 1) scSome.nd rfl (.inl rfl) (pe_cal cC hr rfl (pa_cons (pv 0) (pa_cons pe_int pa_nil))))
    (pss_cons (ps_set (i := 3) scSome.nd rfl (.inr rfl) (pe_callTy call_tuple_of rfl T.tuple (by decide +kernel) (pa_cons
      (pe_lc (own := [("_law_k", 2)]) (g := gName 2) (tt := tYes) (te := teI) rfl scSome.nd (pi_range1 rfl T.range (pa_cons pe_int pa_nil))
        (blkOk_by (own := [("_law_k", 2)]) (N := ["_law_state_here", "_law_way", "_law_k", "_law_inner_here", "_law_found"]) (sc := defScope sSome) (by decide +kernel))
        (fun _ _ _ _ _ => pg_name (i := 2) scSome.nd rfl (Or.inl rfl)) (fun _ _ _ _ _ => pts_nil) (fun _ _ _ _ _ => pe_tup (pa_cons (pv 2) (pa_cons (pe_tup (pa_cons pe_str (pa_cons (pv 2) pa_nil))) (pa_cons pe_int pa_nil))))) pa_nil)))
    (pss_cons (ps_if (pt_cmpR op_eq (pv 1) pe_int (nomark _)) (pss_one (ps_ret (pe_tup (pa_cons (pe_tup (pa_cons pe_int (pa_cons pe_int (pa_cons pe_int pa_nil)))) pa_nil)))) pss_nil)
    (pss_cons (ps_if (pt_cmpR op_eq (pv 1) pe_int (nomark _)) (pss_one (ps_ret (pe_callTy call_tuple_of rfl T.tuple (by decide +kernel) (pa_cons
      (pe_lc (own := [("_law_k", 2)]) (g := gName 2) (tt := tYes) (te := teF K) rfl scSome.nd (pi_range1 rfl T.range (pa_cons pe_int pa_nil))
        (blkOk_by (own := [("_law_k", 2)]) (N := ["_law_state_here", "_law_way", "_law_k", "_law_inner_here", "_law_found"]) (sc := defScope sSome) (by decide +kernel))
        (fun _ _ _ _ _ => pg_name (i := 2) scSome.nd rfl (Or.inl rfl)) (fun _ _ _ _ _ => pts_nil)
        (fun _ _ _ _ _ => pe_tup (pa_cons (pe_ix ix_list (pe_lst (pa_cons (pv 3) (pa_cons (pv 3) (pa_cons pe_int (pa_cons (pe_un un_neg pe_int) pa_nil))))) (pe_callB (call_min2 rfl) rfl T.min (by decide +kernel) (pa_cons (pv 2) (pa_cons pe_int pa_nil))) (fun _ _ => rfl))
          (pa_cons (pv 2) (pa_cons (pe_tup (pa_cons pe_str (pa_cons (pe_op op_sub pe_int (pv 2)) pa_nil))) pa_nil))))) pa_nil)))) pss_nil)
    (pss_cons (ps_if (pt_cmpR op_eq (pv 1) pe_int (nomark _)) (pss_one (ps_ret (pe_tup (pa_cons (pe_tup (pa_cons (pv 3) (pa_cons (pv 3) (pa_cons (pe_slice sl_tup (pv 3) po_none (po_some pe_int)) pa_nil)))) pa_nil)))) pss_nil)
    (pss_cons (ps_if (pt_cmpR op_eq (pv 1) pe_int (nomark _))
      (pss_cons (ps_set (i := 4) scSome.nd rfl (.inl rfl) (pe_tup (pa_cons (pe_tup (pa_cons pe_int (pa_cons pe_int (pa_cons pe_int pa_nil)))) pa_nil)))
      (pss_cons (ps_for PassesOwn.never rfl (pi_range1 rfl T.range (pa_cons pe_int pa_nil)) (pg_name (i := 2) scSome.nd rfl (.inl rfl))
        (pss_one (ps_set (i := 4) scSome.nd rfl (.inl rfl) (pe_tup (pa_cons (pe_tup (pa_cons (pv 4) (pa_cons (pe_tup (pa_cons pe_str (pa_cons pe_int pa_nil))) (pa_cons (pv 2) pa_nil)))) pa_nil)))))
      (pss_one (ps_ret (pv 4))))) pss_nil)
    (pss_one (ps_ret (pe_cal cG hr rfl (pa_cons (pv 0) (pa_cons (pe_op op_add pe_int (pe_cal cC hr rfl (pa_cons (pv 0) (pa_cons pe_int pa_nil)))) (pa_cons (pe_ix ix_list (pe_lst (pa_cons pe_int (pa_cons pe_int (pa_cons pe_int pa_nil)))) (pe_op op_sub (pv 1) pe_int) (fun _ _ => rfl)) pa_nil))))))))))), ?_⟩
  -- way
  refine ⟨_, rfl, st, 7, rfl, sa, by decide, by decide, fun way H1 w0 w7 mv1 => ?_⟩
  -- the inner one
  refine ⟨8, rfl, by decide, by decide, fun D hD => ?_⟩
  refine lc_range (lo := 0) (n := 8) (fun j H' => Same H1 H' ∧ ∃ zs, H' D = some (.lst zs) ∧ DpAll K H' zs ((List.range j).map boxI)) ⟨same_new hD _, [], upd_same, .nil⟩ (fun j H2 hj h => ?_) (fun H2 h => ?_)
  · obtain ⟨s2, zs, hz, hd⟩ := h
    have lz := dpAll_len hd
    rw [List.length_map, List.length_range] at lz
    refine ⟨rfl, yesT ?_⟩
    refine ⟨_, rfl, _, rfl, small (by show 2 ≤ 1000; decide), fun p1 hp1 => ⟨small (by show 3 ≤ 1000; decide), fun p2 hp2 => ?_⟩⟩
    have s3 := same_new hp1 (.tup [.str "tie", .int (0 + (j : Int))])
    have s4 := same_new hp2 (.tup [.int (0 + (j : Int)), .ref p1, .int 0])
    have hz4 := s4 _ _ (s3 _ _ hz)
    refine ⟨zs, hz4, Nat.lt_of_lt_of_le (show zs.length < 1000 by omega) (small (Nat.le_refl _)), ?_, zs ++ [.ref p2], upd_same, ?_⟩
    · exact fun b u e => by rw [upd_ne (ne_of_none e hD)]; exact s4 _ _ (s3 _ _ (s2 _ _ e))
    · have kt := KT.upd (l' := zs ++ [.ref p2]) hz4
      rw [range_more]
      refine dpAll_snoc (dp_kt kt _ _ (shp_box j).1 ?_) (dpAll_kt ((KT.of_same (s3.trans s4)).trans kt) _ _ (tup_boxes j) hd)
      have e0 : (0 + (j : Int)) = (j : Int) := by omega
      exact .tup (SqT.of upd_same) (.cons (dp_int e0) (.cons (.tup (SqT.of (s4 _ _ upd_same)) (.cons (.str _) (.cons (dp_int e0) .nil))) (.cons (.int 0) .nil)))
  · obtain ⟨s2, zs, hz, hd⟩ := h
    refine ⟨D, zs, rfl, .inl ⟨SqL.of hz, fun ia hia => ?_⟩⟩
    have s3 := same_new hia (.tup zs)
    have hI : Dp K (upd H2 ia (.tup zs)) (.ref ia) innerT := .tup (SqT.of upd_same) (dpAll_kt (KT.of_same s3) _ _ (tup_boxes 8) hd)
    have mvI : Mv st H (upd H2 ia (.tup zs)) := (mv1.same s2).same s3
    generalize upd H2 ia (.tup zs) = H3 at hI mvI
    have lz := dpAll_len hd
    -- the ways
    refine ⟨_, rfl, rfl, _, rfl, ?_⟩
    refine ite2 (fun c0 => ?_) (fun c0 => ?_)
    · refine ⟨small (by show 3 ≤ 1000; decide), fun p1 hp1 => ⟨small (by show 1 ≤ 1000; decide), fun p2 hp2 => ?_⟩⟩
      obtain ⟨sb, db⟩ := bare_new (K := K) hp1 hp2
      exact q _ _ 1 _ (mvI.same sb) db g_bare
    refine ⟨_, rfl, rfl, _, rfl, ?_⟩
    refine ite2 (fun c1 => ?_) (fun c1 => ?_)
    · refine ⟨8, rfl, by decide, by decide, fun D2 hD2 => ?_⟩
      refine lc_range (lo := 0) (n := 8) (fun j H' => Same H3 H' ∧ ∃ zs, H' D2 = some (.lst zs) ∧ DpAll K H' zs ((List.range j).map boxF)) ⟨same_new hD2 _, [], upd_same, .nil⟩ (fun j H4 hj h => ?_) (fun H4 h => ?_)
      · obtain ⟨s4, ws, hw, hd4⟩ := h
        have lw := dpAll_len hd4
        rw [List.length_map, List.length_range] at lw
        refine ⟨rfl, yesT ?_⟩
        refine ⟨_, rfl, _, rfl, _, rfl, small (by show 4 ≤ 1000; decide), fun p1 hp1 => ?_⟩
        have s5 := same_new hp1 (.lst [.ref ia, .ref ia, .int 0, .int (-1)])
        have hI5 := dp_kt (KT.of_same (s4.trans s5)) _ _ (shp_boxes 8).1 hI
        have hit : ∃ v, atI [V.ref ia, .ref ia, .int 0, .int (-1)] (if (3 : Int) < 0 + (j : Int) then 3 else 0 + (j : Int)) = some v ∧ Dp K (upd H4 p1 (.lst [.ref ia, .ref ia, .int 0, .int (-1)])) v (itemF j) := by
          have : j = 0 ∨ j = 1 ∨ j = 2 ∨ 3 ≤ j := by omega
          rcases this with rfl | rfl | rfl | h3
          · exact ⟨_, atI_nat (j := 0) rfl, hI5⟩
          · exact ⟨_, atI_nat (j := 1) rfl, hI5⟩
          · exact ⟨_, atI_nat (j := 2) rfl, .int 0⟩
          · have e : (if (3 : Int) < 0 + (j : Int) then 3 else 0 + (j : Int)) = ((3 : Nat) : Int) := by split <;> omega
            rw [e]
            refine ⟨_, atI_nat (j := 3) rfl, ?_⟩
            have e2 : itemF j = .int (-1) := by unfold itemF; rw [if_neg (by omega), if_neg (by omega)]
            rw [e2]
            exact .int (-1)
        obtain ⟨v, hv, hdv⟩ := hit
        refine ⟨_, rfl, _, _, rfl, p1, _, _, v, rfl, rfl, SqL.of upd_same, hv, _, rfl, _, rfl, _, _, rfl, rfl, small (by show 2 ≤ 1000; decide), fun p2 hp2 => ⟨small (by show 3 ≤ 1000; decide), fun p3 hp3 => ?_⟩⟩
        have s6 := same_new hp2 (.tup [.str "tie", .int (7 - (0 + (j : Int)))])
        have s7 := same_new hp3 (.tup [v, .int (0 + (j : Int)), .ref p2])
        have hw7 := s7 _ _ (s6 _ _ (s5 _ _ hw))
        refine ⟨ws, hw7, Nat.lt_of_lt_of_le (show ws.length < 1000 by omega) (small (Nat.le_refl _)), ?_, ws ++ [.ref p3], upd_same, ?_⟩
        · exact fun b u e => by rw [upd_ne (ne_of_none e hD2)]; exact s7 _ _ (s6 _ _ (s5 _ _ (s4 _ _ e)))
        · have kt := KT.upd (l' := ws ++ [.ref p3]) hw7
          rw [range_more]
          refine dpAll_snoc (dp_kt kt _ _ (shp_boxF j).1 ?_) (dpAll_kt ((KT.of_same (s5.trans (s6.trans s7))).trans kt) _ _ (tup_boxesF j) hd4)
          have e0 : (0 + (j : Int)) = (j : Int) := by omega
          have d1 : Dp K (upd (upd (upd H4 p1 (.lst [.ref ia, .ref ia, .int 0, .int (-1)])) p2 (.tup [.str "tie", .int (7 - (0 + (j : Int)))])) p3 (.tup [v, .int (0 + (j : Int)), .ref p2])) v (itemF j) := dp_kt (KT.of_same (s6.trans s7)) _ _ (shp_item j).1 hdv
          refine .tup (SqT.of upd_same) (.cons d1 (.cons (dp_int e0) (.cons (.tup (SqT.of (s7 _ _ upd_same)) (.cons (.str _) (.cons (dp_int (show 7 - (0 + (j : Int)) = 7 - (j : Int) by omega)) .nil))) .nil)))
      · obtain ⟨s4, ws, hw, hd4⟩ := h
        refine ⟨D2, ws, rfl, .inl ⟨SqL.of hw, fun p hp => ?_⟩⟩
        have s5 := same_new hp (.tup ws)
        exact q _ fullT 24 _ ((mvI.same s4).same s5) (.tup (SqT.of upd_same) (dpAll_kt (KT.of_same s5) _ _ (tup_boxesF 8) hd4)) g_full
    refine ⟨_, rfl, rfl, _, rfl, ?_⟩
    refine ite2 (fun c2 => ?_) (fun c2 => ?_)
    · cases hI with
      | @tup _ is _ hti hai =>
        have li : is.length = 8 := by rw [dpAll_len hai, List.length_map, List.length_range]
        refine ⟨_, rfl, _, rfl, _, rfl, 7, rfl, ia, is, rfl, hti, ?_, fun p1 hp1 => ⟨small (by show 3 ≤ 1000; decide), fun p2 hp2 => ⟨small (by show 1 ≤ 1000; decide), fun p3 hp3 => ?_⟩⟩⟩
        · intro z
          have z2 := z.2
          rw [show HT.sIx is.length is.length (some 7) = min 7 is.length from HT.sIx_nat is.length is.length 7] at z2
          omega
        · have s5 := same_new hp1 (.tup (cutV is none (some 7)))
          have s6 := same_new hp2 (.tup [.ref ia, .ref ia, .ref p1])
          have s7 := same_new hp3 (.tup [.ref p2])
          have ec : cutV is none (some 7) = is.take 7 := by
            unfold cutV
            rw [HT.sIx_none, show HT.sIx is.length is.length (some 7) = min 7 is.length from HT.sIx_nat is.length is.length 7, li]
            rfl
          have hc : ∀ {H' : Hp} {n : Nat} {xs : List V} {ds : List PyData}, DpAll K H' xs ds → DpAll K H' (xs.take n) (ds.take n) := by
            intro H' n xs
            induction n generalizing xs with
            | zero => intro ds h; exact .nil
            | succ n ih =>
              intro ds h
              cases h with
              | nil => exact .nil
              | cons a t => exact .cons a (ih t)
          have hcut : ∀ Hx, DpAll K Hx (is.take 7) ((List.range 7).map boxI) → DpAll K Hx (cutV is none (some 7)) ((List.range 7).map boxI) := fun Hx h => by
            rw [ec]
            exact h
          have k7 := KT.of_same (s5.trans (s6.trans s7))
          have dI := dp_kt k7 _ _ (shp_boxes 8).1 (.tup hti hai)
          have dC : Dp K (upd (upd (upd H3 p1 (.tup (cutV is none (some 7)))) p2 (.tup [.ref ia, .ref ia, .ref p1])) p3 (.tup [.ref p2])) (.ref p1) innerC := by
            refine .tup (SqT.of (s7 _ _ (s6 _ _ upd_same))) (hcut _ ?_)
            exact dpAll_kt k7 _ _ (tup_boxes 7) (show DpAll K H3 (is.take 7) ((List.range 7).map boxI) from hc (n := 7) hai)
          exact q _ wideT 24 _ (mvI.same (s5.trans (s6.trans s7))) (.tup (SqT.of upd_same) (.cons (.tup (SqT.of (s7 _ _ upd_same)) (.cons dI (.cons dI (.cons dC .nil)))) .nil)) g_wide
    refine ⟨_, rfl, rfl, _, rfl, ?_⟩
    refine ite2 (fun c3 => ?_) (fun c3 => ?_)
    · refine ⟨small (by show 3 ≤ 1000; decide), fun p1 hp1 => ⟨small (by show 1 ≤ 1000; decide), fun p2 hp2 => ?_⟩⟩
      have s4 := same_new hp1 (.tup [.int 5, .int 0, .int 0])
      have s5 := same_new hp2 (.tup [.ref p1])
      refine ⟨3, rfl, by decide, by decide, ?_⟩
      have shc : ∀ i, Shp (2 * i + 2) (chainT i) := fun i => by
        induction i with
        | zero =>
          refine shp_tup fun z hz => ?_
          rcases List.mem_cons.mp hz with rfl | hz
          · refine shp_tup (k := 0) fun z hz => ?_
            rcases List.mem_cons.mp hz with rfl | hz
            · exact shp_int _ _
            rcases List.mem_cons.mp hz with rfl | hz
            · exact shp_int _ _
            rcases List.mem_cons.mp hz with rfl | hz
            · exact shp_int _ _
            cases hz
          · cases hz
        | succ i ih =>
          refine shp_tup (k := 2 * i + 3) fun z hz => ?_
          rcases List.mem_cons.mp hz with rfl | hz
          · refine shp_tup (k := 2 * i + 2) fun z hz => ?_
            rcases List.mem_cons.mp hz with rfl | hz
            · exact ih
            rcases List.mem_cons.mp hz with rfl | hz
            · exact shp_tie _ _
            rcases List.mem_cons.mp hz with rfl | hz
            · exact shp_int _ _
            cases hz
          · cases hz
      refine for_range (lo := 0) (n := 3) (fun i σ H' => ∃ (fa : Addr) (o2 : Option V), σ = [some (.ref st), some (.int way), o2, some (.ref ia), some (.ref fa)] ∧ Same H3 H' ∧ Dp K H' (.ref fa) (chainT i))
        ⟨p2, _, rfl, s4.trans s5, .tup (SqT.of upd_same) (.cons (.tup (SqT.of (s5 _ _ upd_same)) (.cons (.int 5) (.cons (.int 0) (.cons (.int 0) .nil)))) .nil)⟩ (fun i σ H' hi h => ?_) (fun σ H' h => ?_)
      · obtain ⟨fa, o2, rfl, sm, hf⟩ := h
        refine ⟨_, rfl, small (by show 2 ≤ 1000; decide), fun t1 ht1 => ⟨_, rfl, small (by show 3 ≤ 1000; decide), fun t2 ht2 => ⟨small (by show 1 ≤ 1000; decide), fun t3 ht3 => ?_⟩⟩⟩
        have z1 := same_new ht1 (.tup [.str "tie", .int 0])
        have z2 := same_new ht2 (.tup [.ref fa, .ref t1, .int (0 + (i : Int))])
        have z3 := same_new ht3 (.tup [.ref t2])
        have e0 : (0 + (i : Int)) = (i : Int) := by omega
        exact ⟨t3, _, rfl, sm.trans (z1.trans (z2.trans z3)), .tup (SqT.of upd_same) (.cons (.tup (SqT.of (z3 _ _ upd_same)) (.cons (dp_kt (KT.of_same (z1.trans (z2.trans z3))) _ _ (shc i).1 hf) (.cons (.tup (SqT.of (z3 _ _ (z2 _ _ upd_same))) (.cons (.str _) (.cons (.int 0) .nil))) (.cons (dp_int e0) .nil)))) .nil)⟩
      · obtain ⟨fa, o2, rfl, sm, hf⟩ := h
        exact ⟨_, rfl, q _ _ 4 _ (mvI.same sm) hf g_chain⟩
    · have hw : way = 4 ∨ way = 5 ∨ way = 6 := by
        have a0 : ¬ V.int way = V.int 0 := of_decide_eq_false (Bool.eq_false_iff.mpr c0)
        have a1 : ¬ V.int way = V.int 1 := of_decide_eq_false (Bool.eq_false_iff.mpr c1)
        have a2 : ¬ V.int way = V.int 2 := of_decide_eq_false (Bool.eq_false_iff.mpr c2)
        have a3 : ¬ V.int way = V.int 3 := of_decide_eq_false (Bool.eq_false_iff.mpr c3)
        have b0 : way ≠ 0 := fun z => a0 (by rw [z])
        have b1 : way ≠ 1 := fun z => a1 (by rw [z])
        have b2 : way ≠ 2 := fun z => a2 (by rw [z])
        have b3 : way ≠ 3 := fun z => a3 (by rw [z])
        omega
      refine ⟨_, rfl, _, rfl, st, 4, rfl, mvI.sa, by decide, by decide, fun r H4 r0 r4 mv4 => ⟨_, _, rfl, rfl, small (by show 3 ≤ 1000; decide), fun p1 hp1 => ?_⟩⟩
      have s5 := same_new hp1 (.lst [.int 3, .int 8, .int 24])
      have mv5 := mv4.same s5
      have hroom : ∃ room : Int, atI [V.int 3, .int 8, .int 24] (way - 4) = some (.int room) ∧ 1 ≤ room ∧ room ≤ 24 := by
        rcases hw with rfl | rfl | rfl
        · exact ⟨3, atI_nat (j := 0) rfl, by decide, by decide⟩
        · exact ⟨8, atI_nat (j := 1) rfl, by decide, by decide⟩
        · exact ⟨24, atI_nat (j := 2) rfl, by decide, by decide⟩
      obtain ⟨room, hat, g1, g24⟩ := hroom
      refine ⟨_, rfl, _, _, rfl, rfl, p1, _, _, _, rfl, rfl, SqL.of upd_same, hat, ?_⟩
      refine ⟨(1 + r).toNat, by omega, st, room, congrArg (fun z => [V.ref st, V.int z, V.int room]) (show 1 + r = (((1 + r).toNat : Nat) : Int) by omega), by omega, by omega, mv5.sa, g1, g24, fun v d c H6 mv6 hd6 hg6 _ => ?_⟩
      exact q v d c H6 (mvI.trans (mv5.trans mv6)) hd6 (gsz_mono hg6 (by omega))
end
def fitW (m : Nat) : Option Nat → Option Nat
  | none => none
  | some s => if m + s ≤ 1000 then some (m + s) else none
def wszT (g : PyData → Option Nat) (bs : List PyData) : Option Nat := if 1 ≤ bs.length ∧ bs.length ≤ 8 then fitW bs.length (sumO (boxN (placeN g bs.length)) bs) else none
def wsz : Nat → PyData → Option Nat
  | n + 1, .tuple bs => wszT (wsz n) bs
  | _, _ => none
inductive PlaceOkW (n m : Nat) : PyData → Prop where
  | num {i : Int} (h1 : -9999 ≤ i) (h2 : i ≤ 9999) : PlaceOkW n m (.int i)
  | tie {j : Int} (h1 : 0 ≤ j) (h2 : j < m) : PlaceOkW n m (.tuple [.str "tie", .int j])
  | graph {ps r : List PyData} {k : Nat} (h : wsz n (.tuple (.tuple ps :: r)) = some k) : PlaceOkW n m (.tuple (.tuple ps :: r))
theorem wsz_some {n : Nat} {d : PyData} {k : Nat} (h : wsz n d = some k) : ∃ m bs s, n = m + 1 ∧ d = .tuple bs ∧ 1 ≤ bs.length ∧ bs.length ≤ 8 ∧ sumO (boxN (placeN (wsz m) bs.length)) bs = some s ∧ k = bs.length + s ∧ k ≤ 1000 := by
  cases n with
  | zero => cases h
  | succ m =>
    cases d with
    | tuple bs =>
      have h : wszT (wsz m) bs = some k := h
      unfold wszT at h
      by_cases hl : 1 ≤ bs.length ∧ bs.length ≤ 8
      · rw [if_pos hl] at h
        cases hs : sumO (boxN (placeN (wsz m) bs.length)) bs with
        | none => rw [hs] at h; cases h
        | some s =>
          rw [hs] at h
          have h : (if bs.length + s ≤ 1000 then some (bs.length + s) else none) = some k := h
          by_cases c : bs.length + s ≤ 1000
          · rw [if_pos c] at h
            cases h
            exact ⟨m, bs, s, rfl, rfl, hl.1, hl.2, hs, rfl, c⟩
          · rw [if_neg c] at h
            cases h
      · rw [if_neg hl] at h
        cases h
    | int _ => cases h
    | bool _ => cases h
    | none => cases h
    | str _ => cases h
    | list _ => cases h
    | dict _ => cases h
theorem placeW_some {n m : Nat} {p : PyData} {k : Nat} (h : placeN (wsz n) m p = some k) : PlaceOkW n m p := by
  unfold placeN at h
  by_cases h1 : numD p = true
  · cases p with
    | int i =>
      have : -9999 ≤ i ∧ i ≤ 9999 := by simpa [numD, withinD] using h1
      exact .num this.1 this.2
    | tuple _ => cases h1
    | bool _ => cases h1
    | none => cases h1
    | str _ => cases h1
    | list _ => cases h1
    | dict _ => cases h1
  · rw [if_neg h1] at h
    by_cases h2 : tieB m p = true
    · unfold tieB at h2
      split at h2
      · rename_i p q
        rw [Bool.and_eq_true] at h2
        obtain ⟨e, wi⟩ := h2
        rw [eqv_str e]
        cases q with
        | int j =>
          have : 0 ≤ j ∧ j ≤ (m : Int) - 1 := by simpa [withinD] using wi
          exact .tie this.1 (by omega)
        | tuple _ => cases wi
        | bool _ => cases wi
        | none => cases wi
        | str _ => cases wi
        | list _ => cases wi
        | dict _ => cases wi
      · cases h2
    · rw [if_neg h2] at h
      obtain ⟨m', bs, s, rfl, rfl, l1, l8, hs, rfl, h24⟩ := wsz_some h
      cases bs with
      | nil => simp at l1
      | cons b r =>
        obtain ⟨a, ha⟩ := sumO_mem hs List.mem_cons_self
        obtain ⟨p, q, t, rfl, _⟩ := boxN_some ha
        exact .graph h
theorem boxW_of {n : Nat} {bs : List PyData} {k i : Nat} {b : PyData} (h : wsz (n + 1) (.tuple bs) = some k) (hb : bs[i]? = some b) : ∃ p q r, b = .tuple [p, q, r] ∧ PlaceOkW n bs.length p ∧ PlaceOkW n bs.length q ∧ PlaceOkW n bs.length r := by
  obtain ⟨m, bs', s, e, e2, l1, l8, hs, _⟩ := wsz_some h
  cases e
  cases e2
  obtain ⟨a, ha⟩ := sumO_mem hs (List.mem_of_getElem? hb)
  obtain ⟨p, q, r, rfl, hp⟩ := boxN_some ha
  obtain ⟨_, h1⟩ := sumO_mem hp (x := p) (by simp)
  obtain ⟨_, h2⟩ := sumO_mem hp (x := q) (by simp)
  obtain ⟨_, h3⟩ := sumO_mem hp (x := r) (by simp)
  exact ⟨p, q, r, rfl, placeW_some h1, placeW_some h2, placeW_some h3⟩
theorem sort_kindsW {n m : Nat} {p : PyData} (h : PlaceOkW n m p) : (∃ i, p = .int i ∧ sortD p = 0) ∨ (∃ j, p = .tuple [.str "tie", .int j] ∧ sortD p = 1) ∨ (∃ ps r k, p = .tuple (.tuple ps :: r) ∧ wsz n p = some k ∧ sortD p = 2) := by
  cases h with
  | num _ _ => exact .inl ⟨_, rfl, rfl⟩
  | tie _ _ => exact .inr (.inl ⟨_, rfl, by show (if PyData.eqv (.str "tie") (.str "tie") = true then (1 : Int) else 2) = 1; rw [if_pos (eqv_str_str _)]⟩)
  | @graph ps r k h => exact .inr (.inr ⟨ps, r, k, rfl, h, by show (if PyData.eqv (.tuple ps) (.str "tie") = true then (1 : Int) else 2) = 2; rw [if_neg (by rw [eqv_tup_str]; decide)]⟩)
theorem placeW_val {n m : Nat} {p : PyData} {a : Nat} (h : placeN (wsz n) m p = some a) : (isG p = false ∧ a = 0) ∨ (isG p = true ∧ wsz n p = some a) := by
  have ok := placeW_some h
  cases ok with
  | @num i h1 h2 =>
    refine .inl ⟨rfl, ?_⟩
    unfold placeN at h
    rw [if_pos (show numD (.int i) = true by show (decide (-9999 ≤ i) && decide (i ≤ 9999)) = true; rw [decide_eq_true h1, decide_eq_true h2]; rfl)] at h
    cases h
    rfl
  | @tie j h1 h2 =>
    refine .inl ⟨isG_tie j, ?_⟩
    unfold placeN at h
    rw [if_neg (show ¬ numD (.tuple [.str "tie", .int j]) = true by intro z; cases z)] at h
    rw [if_pos (show tieB m (.tuple [.str "tie", .int j]) = true by
      show (PyData.eqv (.str "tie") (.str "tie") && (decide (0 ≤ j) && decide (j ≤ (m : Int) - 1))) = true
      rw [eqv_str_str, decide_eq_true h1, decide_eq_true (by omega)]; rfl)] at h
    cases h
    rfl
  | @graph ps r k hg =>
    refine .inr ⟨isG_graph ps r, ?_⟩
    unfold placeN at h
    rw [if_neg (show ¬ numD (.tuple (.tuple ps :: r)) = true by intro z; cases z)] at h
    rw [if_neg (show ¬ tieB m (.tuple (.tuple ps :: r)) = true by
      unfold tieB
      split
      · rename_i e
        cases e
        rw [eqv_tup_str]
        intro z
        cases z
      · intro z
        cases z)] at h
    exact h
theorem placesW_inner {n m : Nat} : ∀ {ps : List PyData} {s : Nat}, sumO (placeN (wsz n) m) ps = some s → sumO (wsz n) (ps.filter isG) = some s
  | [], s, h => h
  | p :: r, s, h => by
    obtain ⟨u, v, h1, h3, rfl⟩ := sumO_cons h
    have ih := placesW_inner h3
    rcases placeW_val h1 with ⟨e, rfl⟩ | ⟨e, e2⟩
    · rw [List.filter_cons_of_neg (by rw [e]; decide), Nat.zero_add]
      exact ih
    · rw [List.filter_cons_of_pos e]
      exact sumO_cons' e2 ih
theorem boxesW_inner {n m : Nat} : ∀ {bs : List PyData} {s : Nat}, sumO (boxN (placeN (wsz n) m)) bs = some s → sumO (wsz n) (bs.flatMap boxInner) = some s
  | [], s, h => h
  | b :: r, s, h => by
    obtain ⟨u, v, h1, h3, rfl⟩ := sumO_cons h
    have ih := boxesW_inner h3
    obtain ⟨p, q, t, rfl, hp⟩ := boxN_some h1
    rw [List.flatMap_cons]
    exact sumO_append ih (placesW_inner hp)

theorem good_shapeW : ∀ (n : Nat) (d : PyData) (c : Nat), wsz n d = some c → Shp (2 * n + 1) d
  | 0, d, c, h => by cases h
  | n + 1, d, c, h => by
    obtain ⟨m, bs, s, e, rfl, l1, l8, hs, _⟩ := wsz_some h
    cases e
    refine shp_mono (shp_tup (k := 2 * n + 2) fun b hb => ?_) (by omega)
    obtain ⟨a, ha⟩ := sumO_mem hs hb
    obtain ⟨p, q, r, rfl, hp⟩ := boxN_some ha
    refine shp_mono (shp_tup (k := 2 * n + 1) fun z hz => ?_) (by omega)
    obtain ⟨u, hu⟩ := sumO_mem hp hz
    cases placeW_some hu with
    | num _ _ => exact shp_int _ _
    | tie _ _ => exact shp_mono (shp_tie 0 _) (by omega)
    | graph hg => exact good_shapeW n _ _ hg
theorem wsz_mk {n : Nat} {bs : List PyData} {s : Nat} (l1 : 1 ≤ bs.length) (l8 : bs.length ≤ 8) (h : sumO (boxN (placeN (wsz n) bs.length)) bs = some s) (hb : bs.length + s ≤ 1000) : wsz (n + 1) (.tuple bs) = some (bs.length + s) := by
  show wszT (wsz n) bs = some (bs.length + s)
  unfold wszT
  rw [if_pos ⟨l1, l8⟩, h]
  show (if bs.length + s ≤ 1000 then some (bs.length + s) else none) = some (bs.length + s)
  rw [if_pos hb]
theorem gsz_mk {n : Nat} {bs : List PyData} {s : Nat} (l1 : 1 ≤ bs.length) (l8 : bs.length ≤ 8) (h : sumO (boxN (placeN (gsz n) bs.length)) bs = some s) (hb : bs.length + s ≤ 24) : gsz (n + 1) (.tuple bs) = some (bs.length + s) := by
  show gszT (gsz n) bs = some (bs.length + s)
  unfold gszT
  rw [if_pos ⟨l1, l8⟩, h]
  show (if bs.length + s ≤ 24 then some (bs.length + s) else none) = some (bs.length + s)
  rw [if_pos hb]
theorem sumO_monoM {f g : PyData → Option Nat} : ∀ {l : List PyData} {s : Nat}, (∀ x ∈ l, ∀ a, f x = some a → a ≤ s → g x = some a) → sumO f l = some s → sumO g l = some s
  | [], s, h, e => e
  | x :: r, s, h, e => by
    obtain ⟨a, b, h1, h2, rfl⟩ := sumO_cons e
    exact sumO_cons' (h x List.mem_cons_self _ h1 (by omega)) (sumO_monoM (fun y hy c hc hl => h y (List.mem_cons_of_mem _ hy) c hc (by omega)) h2)
theorem placeN_monoM {f g : PyData → Option Nat} {m : Nat} {p : PyData} {a : Nat} (h : f p = some a → g p = some a) (e : placeN f m p = some a) : placeN g m p = some a := by
  unfold placeN at e ⊢
  by_cases h1 : numD p = true
  · rw [if_pos h1] at e ⊢
    exact e
  · rw [if_neg h1] at e ⊢
    by_cases h2 : tieB m p = true
    · rw [if_pos h2] at e ⊢
      exact e
    · rw [if_neg h2] at e ⊢
      exact h e
theorem boxN_monoM {f g : PyData → Option Nat} {p : PyData} {a : Nat} (h : ∀ x b, f x = some b → b ≤ a → g x = some b) (e : boxN f p = some a) : boxN g p = some a := by
  obtain ⟨x, y, z, rfl, e'⟩ := boxN_some e
  show (if [x, y, z].length = 3 then sumO g [x, y, z] else none) = some a
  rw [if_pos (show [x, y, z].length = 3 from rfl)]
  exact sumO_monoM (fun x _ b hb hl => h x b hb hl) e'
theorem gsz_wsz : ∀ (n : Nat) (d : PyData) (c : Nat), gsz n d = some c → wsz n d = some c
  | 0, _, _, h => by cases h
  | n + 1, d, c, h => by
    obtain ⟨m, bs, s, e, rfl, l1, l8, hs, rfl, h24⟩ := gsz_some h
    cases e
    exact wsz_mk l1 l8 (sumO_monoM (fun b _ a ha _ => boxN_monoM (fun p u hu _ => placeN_monoM (fun z => gsz_wsz n p u z) hu) ha) hs) (by omega)
theorem wsz_gsz : ∀ (n : Nat) (d : PyData) (c : Nat), wsz n d = some c → c ≤ 24 → gsz n d = some c
  | 0, _, _, h, _ => by cases h
  | n + 1, d, c, h, h24 => by
    obtain ⟨m, bs, s, e, rfl, l1, l8, hs, rfl, _⟩ := wsz_some h
    cases e
    exact gsz_mk l1 l8 (sumO_monoM (fun b _ a ha hl => boxN_monoM (fun p u hu hl2 => placeN_monoM (fun z => wsz_gsz n p u z (by omega)) hu) ha) hs) h24
theorem wsz_succ : ∀ (n : Nat) (d : PyData) (c : Nat), wsz n d = some c → wsz (n + 1) d = some c
  | 0, _, _, h => by cases h
  | n + 1, d, c, h => by
    obtain ⟨m, bs, s, e, rfl, l1, l8, hs, rfl, hb⟩ := wsz_some h
    cases e
    exact wsz_mk l1 l8 (sumO_monoM (fun b _ a ha _ => boxN_monoM (fun p u hu _ => placeN_monoM (fun z => wsz_succ n p u z) hu) ha) hs) hb
theorem wsz_mono {n : Nat} {d : PyData} {c : Nat} (h : wsz n d = some c) : ∀ {m : Nat}, n ≤ m → wsz m d = some c := by
  intro m hm
  induction hm with
  | refl => exact h
  | step _ ih => exact wsz_succ _ _ _ ih
/-! how deep -/
def maxL : List Nat → Nat
  | [] => 0
  | x :: r => max x (maxL r)
theorem maxL_le {l : List Nat} {m : Nat} : maxL l ≤ m ↔ ∀ x ∈ l, x ≤ m := by
  induction l with
  | nil => simp [maxL]
  | cons a r ih =>
    simp only [maxL, List.mem_cons, forall_eq_or_imp]
    rw [← ih]
    omega
def deepN : Nat → PyData → Nat
  | 0, _ => 0
  | n + 1, d => 1 + maxL ((innerD d).map (deepN n))
theorem deep_ok : ∀ (n : Nat) (d : PyData) (c : Nat), wsz n d = some c → ∀ m, deepN n d ≤ m → wsz m d = some c
  | 0, _, _, h, _, _ => by cases h
  | n + 1, d, c, h, m, hm => by
    obtain ⟨n', bs, s, e, rfl, l1, l8, hs, rfl, hb⟩ := wsz_some h
    cases e
    cases m with
    | zero => simp only [deepN] at hm; omega
    | succ m =>
      have hin : ∀ p ∈ bs.flatMap boxInner, deepN n p ≤ m := by
        have : maxL ((innerD (.tuple bs)).map (deepN n)) ≤ m := by simp only [deepN] at hm; omega
        intro p hp
        exact maxL_le.mp this _ (List.mem_map.mpr ⟨p, hp, rfl⟩)
      refine wsz_mk l1 l8 (sumO_monoM (fun b hbm a ha _ => ?_) hs) hb
      obtain ⟨x, y, z, rfl, e'⟩ := boxN_some ha
      show (if [x, y, z].length = 3 then sumO _ [x, y, z] else none) = some a
      rw [if_pos (show [x, y, z].length = 3 from rfl)]
      refine sumO_monoM (fun p hp u hu _ => ?_) e'
      rcases placeW_val hu with ⟨e1, rfl⟩ | ⟨e1, e2⟩
      · cases placeW_some hu with
        | num h1 h2 => exact placeN_num h1 h2
        | tie h1 h2 => exact placeN_tie h1 h2
        | graph hg => rw [isG_graph] at e1; cases e1
      · refine placeN_monoM (fun z => deep_ok n p u z m (hin p (List.mem_flatMap.mpr ⟨_, hbm, ?_⟩))) hu
        show p ∈ [x, y, _].filter isG
        exact List.mem_filter.mpr ⟨hp, e1⟩
theorem deep_le : ∀ (n m : Nat) (d : PyData) (c : Nat), wsz m d = some c → deepN n d ≤ m
  | 0, m, _, _, _ => Nat.zero_le _
  | n + 1, m, d, c, h => by
    obtain ⟨m', bs, s, rfl, rfl, l1, l8, hs, rfl, hb⟩ := wsz_some h
    have hin := boxesW_inner hs
    have : maxL ((innerD (.tuple bs)).map (deepN n)) ≤ m' := by
      refine maxL_le.mpr fun x hx => ?_
      obtain ⟨p, hp, rfl⟩ := List.mem_map.mp hx
      obtain ⟨a, ha⟩ := sumO_mem hin hp
      exact deep_le n m' p a ha
    simp only [deepN]
    omega
/-! repr of data -/
theorem call_reprD {X : Cx} (hg : X.A.guards = some []) (hu : X.A.units + 80 < cLine) : CallR X (.builtin "repr") (fun xs H Q => ∃ (a : Addr) (d : PyData), xs = [.ref a] ∧ Dp X.K H (.ref a) d ∧ d.showable = true ∧ d.hasDict = false ∧ d.depth ≤ 64 ∧ d.shown.length ≤ sizeLine ∧ Q (.str d.shown) H) := by
  intro pins s σ H xs us Q I r h
  obtain ⟨a, d, rfl, hd, h1, h2, h3, h4, q⟩ := h
  obtain ⟨u, rfl, ru⟩ := vals1 r
  cases ru
  obtain ⟨as, hr⟩ := Dp.reads I d (.ref a) (.ref a) hd rfl
  exact repr_of_reads' hr h1 (PyData.noDict_hsm h2) hg (by omega) (fun _ _ e => e) (fun h' u tk hk => ⟨.str d.shown, H, I.kept hk, ⟨u, rfl⟩, q⟩) h4
/-! a call by names alone -/
def tKw (m : Nat) (sp : Sp) (gV : List V → List V → List V) (tk : TA) : TE := fun σ H Q => tk σ H fun zs H2 => zs.length = m ∧ sp (gV [] zs) H2 Q E0
def CalK (P : Program) (w : World) (K : PySem.W.Frag) (mg : Str → Option Value) (base : Heap) (x : Str) (k : Nat) (ps ks : List Str) (g : List Value → List Value → List Value) (gV : List V → List V → List V) (sp : Sp) : Prop :=
  ∃ (f : Addr) (fd : FuncData), FnOk P w K mg base CX0 k f fd ps sp ∧ mg x = some (.ref f) ∧ PySem.W.keepIn K (.ref f) = true ∧ KBn K fd ps 0 ks g gV
theorem pe_kw {X : Cx} {x : Str} {p pos : Pos} {k : Nat} {ps ks : List Str} {g : List Value → List Value → List Value} {gV : List V → List V → List V} {sp : Sp} {kws : List Keyword} {tk : TA}
    (C : CalK X.prog X.w X.K X.mg X.base x k ps ks g gV sp) (hr : Room k X.A) (hg : Gl X x) (hkw : PK X kws tk)
    (h1 : (backToKw pos (keywordEach kws X.env)).all (·.1.isSome) = true := by rfl) (h2 : (backToKw pos (keywordEach kws X.env)).filterMap (·.1) = ks := by rfl) (h3 : (x == ("__debug__" : Str)) = false := by decide)
    (h4 : ((backTo pos (starEach [] X.env)).any (·.1) || (backToKw pos (keywordEach kws X.env)).any (·.1.isNone)) = false := by rfl) :
    PE X (.Call (.Name x p) [] kws pos) (tKw ks.length sp gV tk) := by
  obtain ⟨f, fd, F, hm, hk, hb⟩ := C
  constructor
  intro pins s σ H Q I h
  refine wpAny_Call_Name_kw (ld_glob I hg hm ?_ h3)
  refine PySem.W.callWith_KW0 (h₀ := X.base) I.ok.mod.kin hk h1 ?_ h4
  refine thn (hkw.run pos pins s σ H _ I h) ?_
  rintro ws s2 ⟨zs, H2, I2, rz, l2, q2⟩
  refine ⟨I2.kIn, ?_⟩
  rw [h2]
  exact run_fnN (us := []) (vs := []) F hr hb pass0 I2 .nil rz rfl l2 q2
/-! the size of what is shown -/
theorem short_all {B : Nat} : ∀ {l : List PyData}, (∀ z ∈ l, z.leavesShort B = true) → PyData.leavesShortAll B l = true
  | [], _ => by simp only [PyData.leavesShortAll]
  | u :: v, h => by
    simp only [PyData.leavesShortAll, Bool.and_eq_true]
    exact ⟨h u List.mem_cons_self, short_all fun z hz => h z (List.mem_cons_of_mem _ hz)⟩
theorem show_all : ∀ {l : List PyData}, (∀ z ∈ l, z.showable = true) → PyData.showableAll l = true
  | [], _ => by simp only [PyData.showableAll]
  | u :: v, h => by
    simp only [PyData.showableAll, Bool.and_eq_true]
    exact ⟨h u List.mem_cons_self, show_all fun z hz => h z (List.mem_cons_of_mem _ hz)⟩
theorem dict_all : ∀ {l : List PyData}, (∀ z ∈ l, z.hasDict = false) → PyData.hasDictAll l = false
  | [], _ => by simp only [PyData.hasDictAll]
  | u :: v, h => by
    simp only [PyData.hasDictAll, Bool.or_eq_false_iff]
    exact ⟨h u List.mem_cons_self, dict_all fun z hz => h z (List.mem_cons_of_mem _ hz)⟩
theorem bulk_all {k : Nat} : ∀ {l : List PyData}, (∀ z ∈ l, z.bulk ≤ k) → PyData.bulkAll l ≤ (k + 1) * l.length
  | [], _ => by simp only [PyData.bulkAll]; exact Nat.zero_le _
  | u :: v, h => by
    have h1 := h u List.mem_cons_self
    have h2 := bulk_all (l := v) fun z hz => h z (List.mem_cons_of_mem _ hz)
    simp only [PyData.bulkAll, List.length_cons]
    rw [Nat.mul_add]
    omega
/-- may be shown, within this bulk and depth -/
structure Sh (b dp : Nat) (d : PyData) : Prop where
  shw : d.showable = true
  nod : d.hasDict = false
  sho : d.leavesShort 40 = true
  blk : d.bulk ≤ b
  dep : d.depth ≤ dp
theorem Sh.mono {b b' p p' : Nat} {d : PyData} (h : Sh b p d) (l : b ≤ b') (l' : p ≤ p') : Sh b' p' d := ⟨h.shw, h.nod, h.sho, Nat.le_trans h.blk l, Nat.le_trans h.dep l'⟩
theorem sh_tup {b p : Nat} {l : List PyData} (h : ∀ z ∈ l, Sh b p z) : Sh ((b + 1) * l.length) (p + 1) (.tuple l) :=
  ⟨by simp only [PyData.showable]; exact show_all fun z hz => (h z hz).shw, by simp only [PyData.hasDict]; exact dict_all fun z hz => (h z hz).nod, by simp only [PyData.leavesShort]; exact short_all fun z hz => (h z hz).sho,
    by simp only [PyData.bulk]; exact bulk_all fun z hz => (h z hz).blk, by simp only [PyData.depth]; have := depth_all fun z hz => (h z hz).dep; omega⟩
theorem sh_lst {b p : Nat} {l : List PyData} (h : ∀ z ∈ l, Sh b p z) : Sh ((b + 1) * l.length) (p + 1) (.list l) :=
  ⟨by simp only [PyData.showable]; exact show_all fun z hz => (h z hz).shw, by simp only [PyData.hasDict]; exact dict_all fun z hz => (h z hz).nod, by simp only [PyData.leavesShort]; exact short_all fun z hz => (h z hz).sho,
    by simp only [PyData.bulk]; exact bulk_all fun z hz => (h z hz).blk, by simp only [PyData.depth]; have := depth_all fun z hz => (h z hz).dep; omega⟩
theorem Sh.fits {b p : Nat} {d : PyData} (h : Sh b p d) (hb : b ≤ 100000) : d.shown.length ≤ sizeLine := by
  have h1 := PyData.shown_le_bulk 40 (by decide) d h.sho
  have h2 := h.blk
  have h3 := sizeLine_eq
  have : (40 + 2) * d.bulk ≤ 42 * 100000 := Nat.mul_le_mul_left 42 (Nat.le_trans h2 hb)
  omega
/-! what is shown of graphs -/
theorem sh_int {i : Int} (h : i.natAbs < 10 ^ 12) : Sh 0 0 (.int i) := by
  refine ⟨?_, by simp only [PyData.hasDict], ?_, by simp only [PyData.bulk]; exact Nat.le_refl _, by simp only [PyData.depth]; exact Nat.le_refl _⟩
  · simp only [PyData.showable, decide_eq_true_eq]
    by_cases z : i.natAbs = 0
    · rw [z]
      decide
    · exact Nat.lt_of_lt_of_le ((Nat.log2_lt z).mpr (Nat.lt_of_lt_of_le h (show 10 ^ 12 ≤ 2 ^ 40 by decide))) (by decide)
  · simp only [PyData.leavesShort, decide_eq_true_eq]
    exact Nat.le_trans (PyData.shown_int_le h) (by decide)
theorem sh_str : Sh 3 0 (.str "tie") := ⟨by simp only [PyData.showable], by simp only [PyData.hasDict], by decide +kernel, by decide +kernel, by simp only [PyData.depth]; exact Nat.le_refl _⟩
theorem sh_tie {j : Int} (h : j.natAbs < 10 ^ 12) : Sh 8 1 (.tuple [.str "tie", .int j]) := by
  refine (sh_tup (b := 3) (p := 0) fun z hz => ?_).mono (by simp) (by omega)
  rcases List.mem_cons.mp hz with rfl | hz
  · exact sh_str
  · rcases List.mem_cons.mp hz with rfl | hz
    · exact (sh_int h).mono (by omega) (by omega)
    · cases hz
theorem place_bulk {n m : Nat} (ih : ∀ d c, gsz n d = some c → d.bulk ≤ 40 * c) {p : PyData} {a : Nat} (h : placeN (gsz n) m p = some a) (hm : m ≤ 8) : p.bulk ≤ 8 + 40 * a := by
  rcases placeN_val h with ⟨e, rfl⟩ | ⟨_, e⟩
  · cases placeN_some h with
    | num _ _ => simp only [PyData.bulk]; omega
    | @tie j h1 h2 => exact Nat.le_trans (sh_tie (j := j) (by omega)).blk (by omega)
    | @graph ps r k hg => rw [isG_graph] at e; cases e
  · have := ih _ _ e
    omega
theorem bulk_places {n m : Nat} (hm : m ≤ 8) (ih : ∀ d c, gsz n d = some c → d.bulk ≤ 40 * c) : ∀ {ps : List PyData} {s : Nat}, sumO (placeN (gsz n) m) ps = some s → PyData.bulkAll ps ≤ 9 * ps.length + 40 * s
  | [], s, h => by simp only [PyData.bulkAll]; omega
  | p :: r, s, h => by
    obtain ⟨u, v, h1, h3, rfl⟩ := sumO_cons h
    have i1 := place_bulk ih h1 hm
    have i2 := bulk_places hm ih h3
    simp only [PyData.bulkAll, List.length_cons]
    omega
theorem bulk_boxes {n m : Nat} (hm : m ≤ 8) (ih : ∀ d c, gsz n d = some c → d.bulk ≤ 40 * c) : ∀ {bs : List PyData} {s : Nat}, sumO (boxN (placeN (gsz n) m)) bs = some s → PyData.bulkAll bs ≤ 28 * bs.length + 40 * s
  | [], s, h => by simp only [PyData.bulkAll]; omega
  | b :: r, s, h => by
    obtain ⟨u, v, h1, h3, rfl⟩ := sumO_cons h
    obtain ⟨p, q, t, rfl, hp⟩ := boxN_some h1
    have i1 := bulk_places hm ih hp
    have i2 := bulk_boxes hm ih h3
    simp only [PyData.bulkAll, PyData.bulk, List.length_cons, List.length_nil] at i1 ⊢
    omega
theorem bulk_graph : ∀ (n : Nat) (d : PyData) (c : Nat), gsz n d = some c → d.bulk ≤ 40 * c
  | 0, d, c, h => by cases h
  | n + 1, d, c, h => by
    obtain ⟨m, bs, s, e, rfl, l1, l8, hs, rfl, h24⟩ := gsz_some h
    cases e
    have := bulk_boxes l8 (bulk_graph n) hs
    simp only [PyData.bulk]
    omega
theorem shq_graph : ∀ (n : Nat) (d : PyData) (c : Nat), gsz n d = some c → Sh (40 * c) (2 * n + 1) d
  | 0, d, c, h => by cases h
  | n + 1, d, c, h => by
    have hb := bulk_graph _ _ _ h
    obtain ⟨m, bs, s, e, rfl, l1, l8, hs, _⟩ := gsz_some h
    cases e
    have q : Sh ((200 * (40 * 24 + 60) + 1) * bs.length) (2 * n + 3) (.tuple bs) := by
      refine sh_tup (b := 200 * (40 * 24 + 60)) (p := 2 * n + 2) fun b hbm => ?_
      obtain ⟨a, ha⟩ := sumO_mem hs hbm
      have hba : b.bulk ≤ 200 * (40 * 24 + 60) := by
        have z : ∀ {l : List PyData} {x : PyData}, x ∈ l → x.bulk ≤ PyData.bulkAll l := by
          intro l x
          induction l with
          | nil => intro hx; cases hx
          | cons u v ih =>
            intro hx
            simp only [PyData.bulkAll]
            rcases List.mem_cons.mp hx with rfl | hx
            · omega
            · have := ih hx
              omega
        have z1 := z hbm
        have z2 : (PyData.tuple bs).bulk = PyData.bulkAll bs := by simp only [PyData.bulk]
        obtain ⟨_, _, _, _, _, _, _, _, _, h24⟩ := gsz_some h
        omega
      obtain ⟨p, r, t, rfl, hp⟩ := boxN_some ha
      have q2 := sh_tup (l := [p, r, t]) (b := 200 * (40 * 24 + 60)) (p := 2 * n + 1) fun z hz => by
        obtain ⟨u, hu⟩ := sumO_mem hp hz
        have hzb : z.bulk ≤ 200 * (40 * 24 + 60) := by
          have z3 : z.bulk ≤ PyData.bulkAll [p, r, t] := by
            simp only [PyData.bulkAll]
            rcases List.mem_cons.mp hz with rfl | hz
            · omega
            rcases List.mem_cons.mp hz with rfl | hz
            · omega
            rcases List.mem_cons.mp hz with rfl | hz
            · omega
            cases hz
          have z4 : (PyData.tuple [p, r, t]).bulk = PyData.bulkAll [p, r, t] := by simp only [PyData.bulk]
          omega
        cases placeN_some hu with
        | @num i h1 h2 => exact (sh_int (i := i) (by omega)).mono (Nat.zero_le _) (by omega)
        | @tie j h1 h2 => exact (sh_tie (j := j) (by omega)).mono (by omega) (by omega)
        | graph hg =>
          have i := shq_graph n _ _ hg
          exact ⟨i.shw, i.nod, i.sho, hzb, i.dep⟩
      exact ⟨q2.shw, q2.nod, q2.sho, hba, q2.dep⟩
    exact ⟨q.shw, q.nod, q.sho, hb, q.dep⟩
mutual
theorem eqv_refl : ∀ d : PyData, tupOnly d = true → PyData.eqv d d = true
  | .int i, _ => by simp [PyData.eqv]
  | .str x, _ => by simp [PyData.eqv]
  | .tuple xs, h => by simp only [PyData.eqv]; exact eqvAll_refl xs (by simpa only [tupOnly] using h)
  | .none, h => by simp [tupOnly] at h
  | .bool _, h => by simp [tupOnly] at h
  | .list _, h => by simp [tupOnly] at h
  | .dict _, h => by simp [tupOnly] at h
theorem eqvAll_refl : ∀ ds : List PyData, tupOnlyAll ds = true → PyData.eqvAll ds ds = true
  | [], _ => by simp [PyData.eqvAll]
  | d :: ds, h => by
    simp only [tupOnlyAll, Bool.and_eq_true] at h
    simp only [PyData.eqvAll, Bool.and_eq_true]
    exact ⟨eqv_refl d h.1, eqvAll_refl ds h.2⟩
end
/-! max(.., default=..) of a list of ints -/
def maxI (d : Int) : List Int → Int
  | [] => d
  | n :: r => r.foldl max n
theorem call_maxD {X : Cx} (hc : X.calm = true) (hu : X.A.units + 64 < cLine) : CallRK X (.builtin "max") ["default"] (fun xs zs H Q => ∃ (a : Addr) (ns : List Int) (d : Int), xs = [.ref a] ∧ zs = [.int d] ∧ SqL X.K H a (ns.map V.int) ∧ Q (.int (maxI d ns)) H) := by
  intro pins s σ H xs zs us ws Q I r rz h
  obtain ⟨a, ns, d, rfl, rfl, hs, q⟩ := h
  obtain ⟨u, rfl, ru⟩ := vals1 r
  obtain ⟨w', rfl, rw'⟩ := vals1 rz
  cases ru
  obtain ⟨t, rfl⟩ := rw'
  obtain ⟨its, rv, pl, hz⟩ := I.list hs
  have da : ∀ ns : List Int, DpAll X.K H (ns.map V.int) (ns.map PyData.int) := fun ns => by
    induction ns with
    | nil => exact .nil
    | cons n r ih => exact .cons (.int n) ih
  obtain ⟨as, hr⟩ := Dp.readsAll I (ns.map PyData.int) _ its (da ns) rv
  have dp0 : ∀ ns : List Int, PyData.depthAll (ns.map PyData.int) = 0 := fun ns => by
    induction ns with
    | nil => simp [PyData.depthAll]
    | cons n r ih => simp [PyData.depthAll, PyData.depth, ih]
  refine PySem.W.max_list_default (vs := its.toArray) (I.ok.hd hc) pl.isList hr ⟨fun x hx y hy => ?_, fun x hx => ?_⟩ (by rw [dp0]; omega) (fun e h' tk hk => ?_) (fun y ys i v h' tk bs e hv hrd hk => ?_)
  · obtain ⟨i, _, rfl⟩ := List.mem_map.mp hx
    obtain ⟨j, _, rfl⟩ := List.mem_map.mp hy
    simp [PySem.W.alike]
  · obtain ⟨i, _, rfl⟩ := List.mem_map.mp hx
    intro z
    cases z
  · cases ns with
    | nil => exact ⟨.int d, H, I.kept hk, ⟨t, rfl⟩, q⟩
    | cons n r => cases e
  · cases ns with
    | nil => cases e
    | cons n r =>
      cases e
      rw [PySem.W.maxD_ints] at hrd
      cases hrd
      exact ⟨.int (r.foldl max n), H, I.kept hk, ⟨_, rfl⟩, q⟩
/-! tuples cut and put together, the tokens of the empty and the whole ones told alike -/
section
variable {K : PySem.W.Frag}
theorem catA_run {H : Hp} {a b : Addr} {xs ys : List V} {Q : VK} (ha : SqT K H a xs) (hb : SqT K H b ys) (hz : xs.length + ys.length ≤ 1000) (q : ∀ r H', Same H H' → SqT K H' r (xs ++ ys) → Q (.ref r) H') : rCatA K (.ref a) (.ref b) H Q := by
  refine ⟨a, b, xs, ys, rfl, rfl, ha, hb, small hz, fun e => ?_, fun _ e => ?_, fun _ _ p hp => q p _ (same_new hp _) (SqT.of upd_same)⟩
  · subst e
    exact q b H (Same.refl _) hb
  · subst e
    exact q a H (Same.refl _) (by rw [List.append_nil]; exact ha)
theorem slA_run {H : Hp} {a : Addr} {xs : List V} {lo hi : Option Int} {Q : VK} (ha : SqT K H a xs) (q : ∀ r H', Same H H' → SqT K H' r (cutV xs lo hi) → Q (.ref r) H') : rSlA K (.ref a) lo hi H Q := by
  refine ⟨a, xs, rfl, ha, fun wh => ?_, fun _ p hp => q p _ (same_new hp _) (SqT.of upd_same)⟩
  refine q a H (Same.refl _) ?_
  unfold cutV
  rw [wh.1, wh.2, Nat.sub_zero, List.drop_zero, List.take_length]
  exact ha
theorem cut_to {xs : List V} {b : Int} (h0 : 0 ≤ b) (h1 : b ≤ xs.length) : cutV xs none (some b) = xs.take b.toNat := by
  obtain ⟨n, rfl⟩ : ∃ n : Nat, b = n := ⟨b.toNat, by omega⟩
  unfold cutV
  rw [HT.sIx_none, HT.sIx_nat, List.drop_zero, Nat.sub_zero, Nat.min_eq_left (by omega)]
  rfl
theorem cut_from {xs : List V} {b : Int} (h0 : 0 ≤ b) (h1 : b ≤ xs.length) : cutV xs (some b) none = xs.drop b.toNat := by
  obtain ⟨n, rfl⟩ : ∃ n : Nat, b = n := ⟨b.toNat, by omega⟩
  unfold cutV
  rw [HT.sIx_none, HT.sIx_nat, Nat.min_eq_left (by omega)]
  have e : xs.length - n = (xs.drop n).length := by rw [List.length_drop]
  rw [e, List.take_length]
  rfl
theorem set_split {α : Type} : ∀ (xs : List α) (b : Nat) (v : α), b < xs.length → xs.take b ++ [v] ++ xs.drop (b + 1) = xs.set b v
  | x :: r, 0, v, _ => rfl
  | x :: r, b + 1, v, h => by
    have ih := set_split r b v (by simpa using h)
    simp only [List.take_succ_cons, List.cons_append, List.drop_succ_cons, List.set_cons_succ]
    rw [ih]
theorem dpAll_set {H : Hp} {v : V} {d : PyData} (h : Dp K H v d) : ∀ {xs : List V} {ds : List PyData} (i : Nat), DpAll K H xs ds → DpAll K H (xs.set i v) (ds.set i d)
  | _, _, _, .nil => .nil
  | _, _, 0, .cons _ t => .cons h t
  | _, _, i + 1, .cons a t => .cons a (dpAll_set h i t)
end
theorem maxL_cast : ∀ (r : List Nat) (a : Nat), (r.map (fun x : Nat => (x : Int))).foldl max (a : Int) = ((max a (maxL r) : Nat) : Int)
  | [], a => by simp [maxL]
  | x :: r, a => by
    have e : max (a : Int) (x : Int) = ((max a x : Nat) : Int) := by omega
    simp only [List.map_cons, List.foldl_cons, e, maxL_cast r (max a x), maxL]
    congr 1
    omega
theorem maxI_cast (l : List Nat) : maxI 0 (l.map (fun x : Nat => (x : Int))) = (maxL l : Int) := by
  cases l with
  | nil => rfl
  | cons a r =>
    show (r.map (fun x : Nat => (x : Int))).foldl max (a : Int) = _
    rw [maxL_cast]
    rfl
/-! a place of a graph otherwise -/
def setP (b k : Int) (o : PyData) : PyData → PyData
  | .tuple bs => match bs[b.toNat]? with
    | some (.tuple ps) => .tuple (bs.set b.toNat (.tuple (ps.set k.toNat o)))
    | _ => .tuple bs
  | d => d
theorem setP_eq {bs ps : List PyData} {b k : Int} {o : PyData} (e : bs[b.toNat]? = some (.tuple ps)) : setP b k o (.tuple bs) = .tuple (bs.set b.toNat (.tuple (ps.set k.toNat o))) := by
  simp only [setP, e]
def heldI (n : Int) : Int := if (if n < 9999 then n else 9999) > -9999 then (if n < 9999 then n else 9999) else -9999
theorem held_le (n : Int) : -9999 ≤ heldI n ∧ heldI n ≤ 9999 := by
  unfold heldI
  split <;> split <;> omega
def hasB (b : Int) : PyData → Bool
  | .tuple bs => decide (0 ≤ b ∧ b < bs.length)
  | _ => false
def boxes : PyData → Nat
  | .tuple bs => bs.length
  | _ => 0
def grownD : PyData → PyData
  | .tuple bs => if (gsz 4 (.tuple bs)).getD 99 < 24 ∧ bs.length < 8 then .tuple (bs ++ [.tuple [.int 0, .int 0, .int 0]]) else .tuple bs
  | d => d
def numberD (b k n : Int) (d : PyData) : PyData := if hasB b d = true then setP b k (.int (heldI n)) d else d
def tiedD (b k t : Int) (d : PyData) : PyData := if hasB b d = true ∧ hasB t d = true then setP b k (.tuple [.str "tie", .int t]) d else d
def hungD (b k : Int) (o d : PyData) : PyData := if hasB b d = true then (if (gsz 4 (setP b k o d)).isSome = true then setP b k o d else d) else d
theorem grownD_eq {bs : List PyData} {c : Nat} (h : gsz 4 (.tuple bs) = some c) : grownD (.tuple bs) = if c < 24 ∧ bs.length < 8 then .tuple (bs ++ [.tuple [.int 0, .int 0, .int 0]]) else .tuple bs := by
  show (if (gsz 4 (.tuple bs)).getD 99 < 24 ∧ bs.length < 8 then _ else _) = _
  rw [h]
  rfl
theorem sumO_set {f : PyData → Option Nat} {x : PyData} {a : Nat} (hx : f x = some a) : ∀ {l : List PyData} {i s : Nat} {y : PyData}, sumO f l = some s → l[i]? = some y → ∃ c s', f y = some c ∧ sumO f (l.set i x) = some s' ∧ s' + c = s + a
  | z :: r, 0, s, y, h, e => by
    cases e
    obtain ⟨u, v, h1, h2, rfl⟩ := sumO_cons h
    exact ⟨u, a + v, h1, sumO_cons' hx h2, by omega⟩
  | z :: r, i + 1, s, y, h, e => by
    obtain ⟨u, v, h1, h2, rfl⟩ := sumO_cons h
    obtain ⟨c, s', h3, h4, h5⟩ := sumO_set hx h2 (i := i) e
    exact ⟨c, u + s', h3, sumO_cons' h1 h4, by omega⟩
theorem wsz_set {n : Nat} {bs ps : List PyData} {c a : Nat} {b k : Int} {o : PyData} (h : wsz (n + 1) (.tuple bs) = some c) (e : bs[b.toNat]? = some (.tuple ps)) (hk : 0 ≤ k ∧ k ≤ 2) (ho : placeN (wsz n) bs.length o = some a) (hb : c + a ≤ 1000) :
    ∃ c', wsz (n + 1) (setP b k o (.tuple bs)) = some c' ∧ c' ≤ c + a := by
  obtain ⟨m, bs', s, e1, e2, l1, l8, hs, rfl, _⟩ := wsz_some h
  cases e1
  cases e2
  rw [setP_eq e]
  obtain ⟨u, hu⟩ := sumO_mem hs (List.mem_of_getElem? e)
  obtain ⟨x, y, z, e3, hx⟩ := boxN_some hu
  cases e3
  have hkn : k.toNat < 3 := by omega
  obtain ⟨y', hy'⟩ : ∃ y', [x, y, z][k.toNat]? = some y' := ⟨_, List.getElem?_eq_getElem (by simpa using hkn)⟩
  obtain ⟨c1, s1, _, h4, h5⟩ := sumO_set ho hx hy'
  have hbx : boxN (placeN (wsz n) bs.length) (.tuple ([x, y, z].set k.toNat o)) = some s1 := by
    show (if ([x, y, z].set k.toNat o).length = 3 then _ else none) = some s1
    rw [if_pos (by rw [List.length_set]; rfl)]
    exact h4
  obtain ⟨c2, s2, h6, h7, h8⟩ := sumO_set hbx hs e
  have : c2 = u := Option.some.inj (h6.symm.trans hu)
  have ll : (bs.set b.toNat (.tuple ([x, y, z].set k.toNat o))).length = bs.length := List.length_set
  refine ⟨bs.length + s2, ?_, by omega⟩
  have q := wsz_mk (n := n) (bs := bs.set b.toNat (.tuple ([x, y, z].set k.toNat o))) (s := s2) (by rw [ll]; exact l1) (by rw [ll]; exact l8) (by rw [ll]; exact h7) (by rw [ll]; omega)
  rw [ll] at q
  exact q
theorem placeN_len {n m m' : Nat} {p : PyData} {a : Nat} (hm : m ≤ m') (h : placeN (gsz n) m p = some a) : placeN (gsz n) m' p = some a := by
  rcases placeN_val h with ⟨e, rfl⟩ | ⟨_, e⟩
  · cases placeN_some h with
    | num h1 h2 => exact placeN_num h1 h2
    | tie h1 h2 => exact placeN_tie h1 (by omega)
    | graph hg => rw [isG_graph] at e; cases e
  · exact placeN_graph e
theorem grown_good {bs : List PyData} {c : Nat} (h : gsz 4 (.tuple bs) = some c) (hc : c < 24) (hl : bs.length < 8) : gsz 4 (.tuple (bs ++ [.tuple [.int 0, .int 0, .int 0]])) = some (c + 1) := by
  obtain ⟨m, bs', s, e1, e2, l1, l8, hs, rfl, h24⟩ := gsz_some h
  cases e1
  cases e2
  have ll : (bs ++ [PyData.tuple [.int 0, .int 0, .int 0]]).length = bs.length + 1 := by rw [List.length_append]; rfl
  have hs2 : sumO (boxN (placeN (gsz 3) (bs.length + 1))) bs = some s := sumO_monoM (fun b _ a ha _ => by
    obtain ⟨x, y, z, rfl, e'⟩ := boxN_some ha
    show (if [x, y, z].length = 3 then sumO _ [x, y, z] else none) = some a
    rw [if_pos (show [x, y, z].length = 3 from rfl)]
    exact sumO_monoM (fun p _ u hu _ => placeN_len (by omega) hu) e') hs
  have z0 : ∀ m, placeN (gsz 3) m (.int 0) = some 0 := fun m => placeN_num (by decide) (by decide)
  have hb : boxN (placeN (gsz 3) (bs.length + 1)) (.tuple [.int 0, .int 0, .int 0]) = some 0 := by
    show (if 3 = 3 then sumO (placeN (gsz 3) (bs.length + 1)) [.int 0, .int 0, .int 0] else none) = some 0
    rw [if_pos rfl]
    exact sumO_cons' (z0 _) (sumO_cons' (z0 _) (sumO_cons' (z0 _) (show sumO (placeN (gsz 3) (bs.length + 1)) [] = some 0 from rfl)))
  have q := gsz_mk (n := 3) (bs := bs ++ [.tuple [.int 0, .int 0, .int 0]]) (s := s + 0) (by rw [ll]; omega) (by rw [ll]; omega) (by rw [ll]; exact sumO_snoc hs2 hb) (by rw [ll]; omega)
  rw [q, ll]
  congr 1
  omega
/-! what the deeds come to -/
def Good (d : PyData) : Prop := ∃ c, gsz 4 d = some c
theorem Good.tup {d : PyData} (h : Good d) : ∃ bs, d = .tuple bs ∧ 1 ≤ bs.length ∧ bs.length ≤ 8 := by
  obtain ⟨c, h⟩ := h
  obtain ⟨_, bs, _, _, rfl, l1, l8, _⟩ := gsz_some h
  exact ⟨bs, rfl, l1, l8⟩
theorem Good.shp {d : PyData} (h : Good d) : Shp 9 d := by
  obtain ⟨c, h⟩ := h
  exact good_shape _ _ _ h
theorem hasB_iff {b : Int} {bs : List PyData} : hasB b (.tuple bs) = true ↔ 0 ≤ b ∧ b < bs.length := by
  show decide (0 ≤ b ∧ b < bs.length) = true ↔ _
  exact decide_eq_true_iff
/-- a place put otherwise keeps a graph well formed -/
theorem wide_set {bs : List PyData} {b k : Int} {o : PyData} {a : Nat} (h : Good (.tuple bs)) (hb : 0 ≤ b ∧ b < bs.length) (hk : 0 ≤ k ∧ k ≤ 2) (ho : placeN (wsz 7) bs.length o = some a) (ha : a ≤ 24) : ∃ c c', gsz 4 (.tuple bs) = some c ∧ wsz 8 (setP b k o (.tuple bs)) = some c' ∧ c' ≤ c + a := by
  obtain ⟨c, h⟩ := h
  obtain ⟨ps, p, e1, e2, hp, epl⟩ := place_there (b := b) (k := k) h hb hk
  have hw := wsz_mono (gsz_wsz _ _ _ h) (show 4 ≤ 8 by decide)
  obtain ⟨_, _, _, _, _, _, _, _, _, h24⟩ := gsz_some h
  obtain ⟨c', h1, h2⟩ := wsz_set hw e1 hk ho (by omega)
  exact ⟨c, c', h, h1, h2⟩
theorem good_set {bs : List PyData} {b k : Int} {o : PyData} (h : Good (.tuple bs)) (hb : 0 ≤ b ∧ b < bs.length) (hk : 0 ≤ k ∧ k ≤ 2) (ho : placeN (wsz 3) bs.length o = some 0) : Good (setP b k o (.tuple bs)) := by
  obtain ⟨c, h⟩ := h
  obtain ⟨ps, p, e1, e2, hp, epl⟩ := place_there (b := b) (k := k) h hb hk
  obtain ⟨_, _, _, _, _, _, _, _, _, h24⟩ := gsz_some h
  obtain ⟨c', h1, h2⟩ := wsz_set (gsz_wsz _ _ _ h) e1 hk ho (by omega)
  exact ⟨c', wsz_gsz _ _ _ h1 (by omega)⟩
theorem good_grown {d : PyData} (h : Good d) : Good (grownD d) := by
  obtain ⟨bs, rfl, l1, l8⟩ := h.tup
  obtain ⟨c, h⟩ := h
  rw [grownD_eq h]
  by_cases z : c < 24 ∧ bs.length < 8
  · rw [if_pos z]
    exact ⟨_, grown_good h z.1 z.2⟩
  · rw [if_neg z]
    exact ⟨c, h⟩
theorem good_number {d : PyData} {b k n : Int} (h : Good d) (hk : 0 ≤ k ∧ k ≤ 2) : Good (numberD b k n d) := by
  obtain ⟨bs, rfl, l1, l8⟩ := h.tup
  unfold numberD
  by_cases z : hasB b (.tuple bs) = true
  · rw [if_pos z]
    exact good_set h (hasB_iff.mp z) hk (placeN_num (held_le n).1 (held_le n).2)
  · rw [if_neg z]
    exact h
theorem good_tied {d : PyData} {b k t : Int} (h : Good d) (hk : 0 ≤ k ∧ k ≤ 2) : Good (tiedD b k t d) := by
  obtain ⟨bs, rfl, l1, l8⟩ := h.tup
  unfold tiedD
  by_cases z : hasB b (.tuple bs) = true ∧ hasB t (.tuple bs) = true
  · rw [if_pos z]
    exact good_set h (hasB_iff.mp z.1) hk (placeN_tie (hasB_iff.mp z.2).1 (hasB_iff.mp z.2).2)
  · rw [if_neg z]
    exact h
theorem good_hung {d o : PyData} {b k : Int} (h : Good d) : Good (hungD b k o d) := by
  unfold hungD
  split
  · split
    · rename_i z
      exact Option.isSome_iff_exists.mp z
    · exact h
  · exact h
section
variable {P : Program} {w : World} {K : PySem.W.Frag} {mg : Str → Option Value} {base : Heap} {f : Addr} {fd : FuncData}
theorem noPart {σ : L2.St} {H : Hp} {Q : Option Int → Hp → Prop} (h : Q none H) : tNoPart σ H Q := h
theorem Good.sh {d : PyData} (h : Good d) : SeqAt.shaped d = true := shp_shaped h.shp (by decide)
theorem within_has {b : Int} {n : Nat} {bs : List PyData} (h : n = bs.length) : withinD 0 ((n : Int) - 1) (.int b) = hasB b (.tuple bs) := by
  subst h
  show (decide (0 ≤ b) && decide (b ≤ (bs.length : Int) - 1)) = decide (0 ≤ b ∧ b < bs.length)
  rw [← Bool.decide_and]
  congr 1
  apply propext
  omega
theorem good_dp {H : Hp} {x : V} {d : PyData} (h : Good d) (hd : Dp K H x d) : ∃ a xs bs, x = .ref a ∧ d = .tuple bs ∧ SqT K H a xs ∧ DpAll K H xs bs ∧ xs.length = bs.length := by
  obtain ⟨bs, rfl, _⟩ := h.tup
  cases hd with
  | @tup a xs _ h1 h2 => exact ⟨a, xs, bs, rfl, rfl, h1, h2, dpAll_len h2⟩
/-! boxes_in, held -/
def spHeld : Sp := fun vs H Q _ => ∃ (n : Int), vs = [.int n] ∧ Q (.int (heldI n)) H
theorem scHeld : FnScope ["number"] ["number"] (defScope sHeld) := ⟨rfl, rfl, rfl, by decide +kernel, rfl, by decide +kernel, by decide +kernel⟩
theorem ok_held {k : Nat} (F : Fun K "held" "held" sHeld f fd) (T : Free mg) (C : Cst mg) : FnOk P w K mg base CX0 (k + 1) f fd ["number"] spHeld := by
  refine F.ok scHeld (fun vs H Q E h => ?_) (fun cdv A outer s H vs Q E hr h => ?_)
  · obtain ⟨n, rfl, _⟩ := h
    rfl
  obtain ⟨n, rfl, q⟩ := h
  refine ⟨_, pss_one (ps_ret (pe_callB (call_max2 rfl) rfl T.max (by decide +kernel) (pa_cons (pe_un un_neg (pe_globI rfl C.greatest)) (pa_cons (pe_callB (call_min2 rfl) rfl T.min (by decide +kernel) (pa_cons (pe_globI rfl C.greatest) (pa_cons (pv 0) pa_nil))) pa_nil)))), ?_⟩
  exact ⟨_, rfl, _, rfl, _, _, rfl, _, _, rfl, q⟩
/-! replaced -/
def spReplaced (K : PySem.W.Frag) : Sp := fun vs H Q _ => ∃ (x : V) (d : PyData) (b k : Int) (pv : V) (o : PyData), vs = [x, .int b, .int k, pv] ∧ Dp K H x d ∧ Good d ∧ hasB b d = true ∧ 0 ≤ k ∧ k ≤ 2 ∧ Dp K H pv o ∧ tupOnly o = true ∧
  ∀ r H', Same H H' → Dp K H' r (setP b k o d) → Q r H'
theorem scReplaced : FnScope ["graph", "b", "k", "place", "box"] ["graph", "b", "k", "place"] (defScope sReplaced) := ⟨rfl, rfl, rfl, by decide +kernel, rfl, by decide +kernel, by decide +kernel⟩
/-- the pieces of a tuple with one item otherwise -/
theorem pieces {H0 H : Hp} {xs : List V} {b : Int} {v : V} (hb : 0 ≤ b ∧ b < xs.length) : cutV xs none (some b) ++ [v] ++ cutV xs (some (b + 1)) none = xs.set b.toNat v := by
  rw [cut_to hb.1 (by omega), cut_from (by omega) (by omega), show (b + 1).toNat = b.toNat + 1 by omega]
  exact set_split xs b.toNat v (by omega)
theorem cut_len (xs : List V) (lo hi : Option Int) (h : xs.length ≤ 8) : (cutV xs lo hi).length ≤ 8 := Nat.le_trans (cutV_length xs lo hi) h
theorem ok_replaced {n : Nat} (F : Fun K "replaced" "replaced" sReplaced f fd) : FnOk P w K mg base CX0 (n + 1) f fd ["graph", "b", "k", "place"] (spReplaced K) := by
  refine F.ok scReplaced (fun vs H Q E h => ?_) (fun cdv A outer s H vs Q E hr h => ?_)
  · obtain ⟨x, d, b, k, pv, o, rfl, _⟩ := h
    rfl
  obtain ⟨x, d, b, k, pl, o, rfl, hx, hG, hb, h0, h2, ho, hto, q⟩ := h
  refine ⟨_, pss_cons (ps_set (i := 4) scReplaced.nd rfl (.inl rfl) (pe_ix ix_tup (pv 0) (pv 1) (fun _ _ => rfl)))
    (pss_one (ps_ret (pe_op op_catA (pe_op op_catA (pe_slice sl_tupA (pv 0) po_none (po_some (pv 1)))
      (pe_tup (pa_cons (pe_op op_catA (pe_op op_catA (pe_slice sl_tupA (pv 4) po_none (po_some (pv 2))) (pe_tup (pa_cons (pv 3) pa_nil))) (pe_slice sl_tupA (pv 4) (po_some (pe_op op_add (pv 2) pe_int)) po_none)) pa_nil)))
      (pe_slice sl_tupA (pv 0) (po_some (pe_op op_add (pv 1) pe_int)) po_none)))), ?_⟩
  obtain ⟨a, xs, bs, rfl, rfl, ht, ha, lx⟩ := good_dp hG hx
  obtain ⟨_, _, l1, l8⟩ := hG.tup
  rename_i hbs
  cases hbs
  have hb' := hasB_iff.mp hb
  obtain ⟨c, hg⟩ := hG
  obtain ⟨ps, p, e1, e2, hp, epl⟩ := place_there (b := b) (k := k) hg hb' ⟨h0, h2⟩
  obtain ⟨p1, p2, p3, ebx, _⟩ := box_of hg e1
  cases ebx
  obtain ⟨xb, hxb, hdb⟩ := dpAll_get ha e1
  have hshp := Good.shp ⟨c, hg⟩
  have hta := tupOnly_tup hshp.1
  have htb := tupOnly_tup (tupOnly_mem hta (List.mem_of_getElem? e1))
  cases hdb with
  | @tup ab ys _ hty hay =>
    have ly : ys.length = 3 := dpAll_len hay
    refine ⟨_, rfl, _, rfl, a, xs, b, _, rfl, rfl, ht, atI_at hb'.1 hxb, ?_⟩
    refine ⟨_, rfl, _, rfl, _, rfl, slA_run ht fun r1 H1 s1 h1 => ?_⟩
    have hty1 := sqT_kt (KT.of_same s1) hty
    refine ⟨_, rfl, _, rfl, _, rfl, slA_run hty1 fun r2 H2 s2 h2' => ?_⟩
    refine ⟨_, rfl, small (by show 1 ≤ 1000; decide), fun p4 hp4 => ?_⟩
    have s3 := same_new hp4 (.tup [pl])
    refine catA_run (sqT_kt (KT.of_same s3) h2') (SqT.of upd_same) (by have := cut_len ys none (some k) (by omega); show _ + 1 ≤ 1000; omega) fun r5 H5 s5 h5 => ?_
    have hty5 := sqT_kt (KT.of_same (s2.trans (s3.trans s5))) hty1
    refine ⟨_, rfl, _, rfl, _, _, rfl, rfl, _, rfl, ?_⟩
    refine noPart (slA_run hty5 fun r6 H6 s6 h6 => ?_)
    refine catA_run (sqT_kt (KT.of_same s6) h5) h6 (by have := cut_len ys none (some k) (by omega); have := cut_len ys (some (k + 1)) none (by omega); rw [List.length_append]; show _ + 1 + _ ≤ 1000; omega) fun r7 H7 s7 h7 => ?_
    rw [pieces (H0 := H) (H := H) ⟨h0, by omega⟩] at h7
    refine ⟨small (by show 1 ≤ 1000; decide), fun p8 hp8 => ?_⟩
    have s8 := same_new hp8 (.tup [.ref r7])
    have t7 : Same H1 (upd H7 p8 (.tup [.ref r7])) := s2.trans (s3.trans (s5.trans (s6.trans (s7.trans s8))))
    refine catA_run (sqT_kt (KT.of_same t7) h1) (SqT.of upd_same) (by have := cut_len xs none (some b) (by omega); show _ + 1 ≤ 1000; omega) fun r9 H9 s9 h9 => ?_
    have ht9 := sqT_kt (KT.of_same (s1.trans (t7.trans s9))) ht
    refine ⟨_, rfl, _, rfl, _, _, rfl, rfl, _, rfl, ?_⟩
    refine noPart (slA_run ht9 fun r10 H10 s10 h10 => ?_)
    refine catA_run (sqT_kt (KT.of_same s10) h9) h10 (by have := cut_len xs none (some b) (by omega); have := cut_len xs (some (b + 1)) none (by omega); rw [List.length_append]; show _ + 1 + _ ≤ 1000; omega) fun r11 H11 s11 h11 => ?_
    rw [pieces (H0 := H) (H := H) ⟨hb'.1, by omega⟩] at h11
    have all : Same H H11 := s1.trans (t7.trans (s9.trans (s10.trans s11)))
    have late : Same H7 H11 := s8.trans (s9.trans (s10.trans s11))
    refine q _ H11 all ?_
    rw [setP_eq e1]
    refine .tup h11 (dpAll_set (.tup (sqT_kt (KT.of_same late) h7) (dpAll_set (dp_kt (KT.of_same all) _ _ hto ho) _ (dpAll_kt (KT.of_same all) _ _ htb hay))) _ (dpAll_kt (KT.of_same all) _ _ hta ha))
end
section
variable {P : Program} {w : World} {K : PySem.W.Frag} {mg : Str → Option Value} {base : Heap} {f : Addr} {fd : FuncData}
def spGrown (K : PySem.W.Frag) : Sp := fun vs H Q _ => ∃ (x : V) (d : PyData), vs = [x] ∧ Dp K H x d ∧ Good d ∧ ∀ r H', Same H H' → Dp K H' r (grownD d) → Q r H'
theorem scGrown : FnScope ["graph"] ["graph"] (defScope sGrown) := ⟨rfl, rfl, rfl, by decide +kernel, rfl, by decide +kernel, by decide +kernel⟩
theorem bare_parts {H : Hp} {ba : Addr} (h : Dp K H (.ref ba) bareD) : ∃ zs, SqT K H ba zs ∧ zs.length = 1 ∧ DpAll K H zs [.tuple [.int 0, .int 0, .int 0]] := by
  unfold bareD at h
  cases h with
  | @tup _ zs _ h1 h2 => exact ⟨zs, h1, dpAll_len h2, h2⟩
def spCanGrow (K : PySem.W.Frag) : Sp := fun vs H Q _ => ∃ (x : V) (bs : List PyData) (c : Nat), vs = [x] ∧ Dp K H x (.tuple bs) ∧ gsz 4 (.tuple bs) = some c ∧ Q (.bl (decide (bs.length < 8) && decide (c < 24))) H
theorem scCanGrow : FnScope ["graph"] ["graph"] (defScope sCanGrow) := ⟨rfl, rfl, rfl, by decide +kernel, rfl, by decide +kernel, by decide +kernel⟩
theorem ok_canGrow {k : Nat} (F : Fun K "can_grow" "can_grow" sCanGrow f fd) (T : Free mg) (C : Cst mg) (cS : Cal P w K mg base "graph_size" k ["thing", "deep"] (spGsz K 4)) : FnOk P w K mg base CX0 (k + 1) f fd ["graph"] (spCanGrow K) := by
  refine F.ok scCanGrow (fun vs H Q E h => ?_) (fun cdv A outer s H vs Q E hr h => ?_)
  · obtain ⟨x, d, c, rfl, _⟩ := h
    rfl
  obtain ⟨x, bs, c, rfl, hx, hg, q⟩ := h
  have hG : Good (.tuple bs) := ⟨c, hg⟩
  have hsh := hG.sh
  obtain ⟨a, xs, bs', rfl, e, ht, ha, lx⟩ := good_dp hG hx
  cases e
  refine ⟨_, pss_one (ps_ret (pe_and (pe_cmpR op_lt (pe_callB call_len_seq rfl T.len PySem.boot_len (pa_cons (pv 0) pa_nil)) (pe_globI rfl C.mostBoxes) (nomark _))
    (pe_one (pe_cmpR op_lt (pe_cal cS hr rfl (pa_cons (pv 0) (pa_cons (pe_globI rfl C.mostDeep) pa_nil))) (pe_globI rfl C.mostInAll) (nomark _))))), ?_⟩
  refine ⟨_, rfl, a, xs, rfl, .inr ht, _, _, rfl, rfl, _, rfl, ?_⟩
  by_cases z2 : bs.length < 8
  · rw [decide_eq_true z2, Bool.true_and] at q
    refine ifT (decide_eq_true (by rw [lx]; omega)) ⟨_, rfl, _, _, rfl, hx, hsh, ?_⟩
    rw [hg]
    refine ⟨_, _, rfl, rfl, ?_⟩
    show Q (.bl (decide ((c : Int) < 24))) H
    rw [show decide ((c : Int) < 24) = decide (c < 24) by congr 1; apply propext; omega]
    exact q
  · rw [decide_eq_false z2, Bool.false_and] at q
    exact ifF (decide_eq_false (by rw [lx]; omega)) q
theorem ok_grown {k : Nat} {ba : Addr} (F : Fun K "grown" "grown" sGrown f fd) (mB : mg "BARE" = some (.ref ba)) (dB : ∀ H, Dp K H (.ref ba) bareD) (cG : Cal P w K mg base "check_graph" k ["graph"] (spCheckG K)) (cC : Cal P w K mg base "can_grow" k ["graph"] (spCanGrow K)) : FnOk P w K mg base CX0 (k + 1) f fd ["graph"] (spGrown K) := by
  refine F.ok scGrown (fun vs H Q E h => ?_) (fun cdv A outer s H vs Q E hr h => ?_)
  · obtain ⟨x, d, rfl, _⟩ := h
    rfl
  obtain ⟨x, d, rfl, hx, hG, q⟩ := h
  refine ⟨_, pss_cons (ps_expr (pe_cal cG hr rfl (pa_cons (pv 0) pa_nil))) (pss_one (ps_ret (pe_ifExp (pt_val (pe_cal cC hr rfl (pa_cons (pv 0) pa_nil))) (pe_op op_catA (pv 0) (pe_glob (v := .ref ba) rfl mB rfl)) (pv 0)))), ?_⟩
  have hshp := hG.shp
  have hsh := hG.sh
  obtain ⟨a, xs, bs, rfl, rfl, ht, ha, lx⟩ := good_dp hG hx
  obtain ⟨c, hg⟩ := hG
  rw [grownD_eq hg] at q
  refine ⟨_, rfl, _, _, c, rfl, hx, hsh, hg, _, rfl, _, bs, c, rfl, hx, hg, _, rfl, ?_⟩
  by_cases z : c < 24 ∧ bs.length < 8
  · rw [if_pos z] at q
    refine ifT (by rw [decide_eq_true z.1, decide_eq_true z.2]; rfl) ⟨_, rfl, ?_⟩
    obtain ⟨zs, hz, lz, hdz⟩ := bare_parts (dB H)
    refine catA_run ht hz (by omega) fun r H' sm hr' => q _ H' sm (.tup hr' ?_)
    have kt := KT.of_same sm
    exact dpAll_append (dpAll_kt kt _ _ (by decide +kernel) hdz) (dpAll_kt kt _ _ (tupOnly_tup hshp.1) ha)
  · rw [if_neg z] at q
    refine ifF ?_ ⟨_, rfl, q _ _ (Same.refl _) hx⟩
    rw [← Bool.decide_and]
    exact decide_eq_false fun y => z ⟨y.2, y.1⟩
/-! with_number, with_tie, with_graph -/
def spWithN (K : PySem.W.Frag) : Sp := fun vs H Q _ => ∃ (x : V) (d : PyData) (b k n : Int), vs = [x, .int b, .int k, .int n] ∧ Dp K H x d ∧ Good d ∧ 0 ≤ k ∧ k ≤ 2 ∧ ∀ r H', Same H H' → Dp K H' r (numberD b k n d) → Q r H'
theorem scWithN : FnScope ["graph", "b", "k", "number"] ["graph", "b", "k", "number"] (defScope sWithNumber) := ⟨rfl, rfl, rfl, by decide +kernel, rfl, by decide +kernel, by decide +kernel⟩
theorem ok_withN {n : Nat} (F : Fun K "with_number" "with_number" sWithNumber f fd) (cG : Cal P w K mg base "check_graph" n ["graph"] (spCheckG K)) (cP : Cal P w K mg base "check_place" n ["k"] spCheckP) (cH : Cal P w K mg base "has_box" n ["graph", "b"] (spHasBox K))
    (cR : Cal P w K mg base "replaced" n ["graph", "b", "k", "place"] (spReplaced K)) (cE : Cal P w K mg base "held" n ["number"] spHeld) : FnOk P w K mg base CX0 (n + 1) f fd ["graph", "b", "k", "number"] (spWithN K) := by
  refine F.ok scWithN (fun vs H Q E h => ?_) (fun cdv A outer s H vs Q E hr h => ?_)
  · obtain ⟨x, d, b, k, n, rfl, _⟩ := h
    rfl
  obtain ⟨x, d, b, k, m, rfl, hx, hG, h0, h2, q⟩ := h
  refine ⟨_, pss_cons (ps_expr (pe_cal cG hr rfl (pa_cons (pv 0) pa_nil))) (pss_cons (ps_expr (pe_cal cP hr rfl (pa_cons (pv 2) pa_nil)))
    (pss_cons (ps_if (pt_not (pt_val (pe_cal cH hr rfl (pa_cons (pv 0) (pa_cons (pv 1) pa_nil))))) (pss_one (ps_ret (pv 0))) pss_nil)
    (pss_one (ps_ret (pe_cal cR hr rfl (pa_cons (pv 0) (pa_cons (pv 1) (pa_cons (pv 2) (pa_cons (pe_cal cE hr rfl (pa_cons (pv 3) pa_nil)) pa_nil))))))))), ?_⟩
  obtain ⟨c, hg⟩ := id hG
  refine ⟨_, rfl, x, d, c, rfl, hx, hG.sh, hg, _, rfl, k, rfl, h0, h2, ?_⟩
  obtain ⟨a, xs, bs, rfl, rfl, ht, ha, lx⟩ := good_dp hG hx
  refine ⟨_, rfl, _, rfl, a, xs, .int b, .int b, rfl, ht, .int b, _, rfl, ?_⟩
  rw [within_has lx]
  unfold numberD at q
  by_cases z : hasB b (.tuple bs) = true
  · rw [z]
    rw [if_pos z] at q
    refine ifF rfl ⟨_, rfl, _, rfl, _, rfl, _, rfl, m, rfl, _, _, b, k, _, _, rfl, hx, hG, z, h0, h2, .int _, rfl, q⟩
  · rw [Bool.eq_false_iff.mpr z]
    rw [if_neg z] at q
    exact ifT rfl ⟨_, rfl, q _ _ (Same.refl _) hx⟩
def spWithT (K : PySem.W.Frag) : Sp := fun vs H Q _ => ∃ (x : V) (d : PyData) (b k n : Int), vs = [x, .int b, .int k, .int n] ∧ Dp K H x d ∧ Good d ∧ 0 ≤ k ∧ k ≤ 2 ∧ ∀ r H', Same H H' → Dp K H' r (tiedD b k n d) → Q r H'
theorem scWithT : FnScope ["graph", "b", "k", "to"] ["graph", "b", "k", "to"] (defScope sWithTie) := ⟨rfl, rfl, rfl, by decide +kernel, rfl, by decide +kernel, by decide +kernel⟩
theorem ok_withT {n : Nat} (F : Fun K "with_tie" "with_tie" sWithTie f fd) (cG : Cal P w K mg base "check_graph" n ["graph"] (spCheckG K)) (cP : Cal P w K mg base "check_place" n ["k"] spCheckP) (cH : Cal P w K mg base "has_box" n ["graph", "b"] (spHasBox K))
    (cR : Cal P w K mg base "replaced" n ["graph", "b", "k", "place"] (spReplaced K)) : FnOk P w K mg base CX0 (n + 1) f fd ["graph", "b", "k", "to"] (spWithT K) := by
  refine F.ok scWithT (fun vs H Q E h => ?_) (fun cdv A outer s H vs Q E hr h => ?_)
  · obtain ⟨x, d, b, k, n, rfl, _⟩ := h
    rfl
  obtain ⟨x, d, b, k, m, rfl, hx, hG, h0, h2, q⟩ := h
  refine ⟨_, pss_cons (ps_expr (pe_cal cG hr rfl (pa_cons (pv 0) pa_nil))) (pss_cons (ps_expr (pe_cal cP hr rfl (pa_cons (pv 2) pa_nil)))
    (pss_cons (ps_if (PW.pt (pw_or (pt_not (pt_val (pe_cal cH hr rfl (pa_cons (pv 0) (pa_cons (pv 1) pa_nil))))) (pw_or1 (pt_not (pt_val (pe_cal cH hr rfl (pa_cons (pv 0) (pa_cons (pv 3) pa_nil)))))))) (pss_one (ps_ret (pv 0))) pss_nil)
    (pss_one (ps_ret (pe_cal cR hr rfl (pa_cons (pv 0) (pa_cons (pv 1) (pa_cons (pv 2) (pa_cons (pe_tup (pa_cons pe_str (pa_cons (pv 3) pa_nil))) pa_nil))))))))), ?_⟩
  obtain ⟨c, hg⟩ := id hG
  refine ⟨_, rfl, x, d, c, rfl, hx, hG.sh, hg, _, rfl, k, rfl, h0, h2, ?_⟩
  have hshp := hG.shp
  obtain ⟨a, xs, bs, rfl, rfl, ht, ha, lx⟩ := good_dp hG hx
  refine ⟨_, rfl, _, rfl, a, xs, .int b, .int b, rfl, ht, .int b, _, rfl, ?_⟩
  rw [within_has lx]
  unfold tiedD at q
  by_cases z : hasB b (.tuple bs) = true
  · rw [z]
    refine ifF rfl ⟨_, rfl, _, rfl, a, xs, .int m, .int m, rfl, ht, .int m, _, rfl, ?_⟩
    rw [within_has lx]
    by_cases z2 : hasB m (.tuple bs) = true
    · rw [z2]
      rw [if_pos ⟨z, z2⟩] at q
      refine ifF rfl ⟨_, rfl, _, rfl, _, rfl, _, rfl, small (by show 2 ≤ 1000; decide), fun tp htp => ?_⟩
      have s1 := same_new htp (.tup [.str "tie", .int m])
      exact ⟨_, _, b, k, _, _, rfl, dp_kt (KT.of_same s1) _ _ hshp.1 hx, hG, z, h0, h2, .tup (SqT.of upd_same) (.cons (.str _) (.cons (.int _) .nil)), rfl, fun r H' sm hd => q r H' (s1.trans sm) hd⟩
    · rw [Bool.eq_false_iff.mpr z2]
      rw [if_neg (fun y => z2 y.2)] at q
      exact ifT rfl ⟨_, rfl, q _ _ (Same.refl _) hx⟩
  · rw [Bool.eq_false_iff.mpr z]
    rw [if_neg (fun y => z y.1)] at q
    exact ifT rfl (ifT rfl ⟨_, rfl, q _ _ (Same.refl _) hx⟩)
def spWithG (K : PySem.W.Frag) : Sp := fun vs H Q _ => ∃ (x : V) (d : PyData) (b k : Int) (y : V) (o : PyData), vs = [x, .int b, .int k, y] ∧ Dp K H x d ∧ Good d ∧ 0 ≤ k ∧ k ≤ 2 ∧ Dp K H y o ∧ Good o ∧ ∀ r H', Same H H' → Dp K H' r (hungD b k o d) → Q r H'
theorem scWithG : FnScope ["graph", "b", "k", "other"] ["graph", "b", "k", "other"] (defScope sWithGraph) := ⟨rfl, rfl, rfl, by decide +kernel, rfl, by decide +kernel, by decide +kernel⟩
theorem hung_shape {bs : List PyData} {o : PyData} {b k : Int} (hG : Good (.tuple bs)) (hO : Good o) (hb : hasB b (.tuple bs) = true) (h0 : 0 ≤ k) (h2 : k ≤ 2) : ∃ c c' co, gsz 4 (.tuple bs) = some c ∧ gsz 4 o = some co ∧ wsz 8 (setP b k o (.tuple bs)) = some c' ∧ c' ≤ c + co := by
  obtain ⟨co, ho⟩ := hO
  obtain ⟨_, _, _, _, _, _, _, _, _, h24⟩ := gsz_some ho
  obtain ⟨c, c', h1, h3, h4⟩ := wide_set (b := b) (k := k) hG (hasB_iff.mp hb) ⟨h0, h2⟩ (placeN_monoM (fun z => wsz_mono (gsz_wsz _ _ _ z) (show 4 ≤ 7 by decide)) (placeN_graph ho)) h24
  exact ⟨c, c', co, h1, ho, h3, h4⟩
def spCanHang (K : PySem.W.Frag) : Sp := fun vs H Q _ => ∃ (x : V) (d : PyData) (b k : Int) (y : V) (o : PyData), vs = [x, .int b, .int k, y] ∧ Dp K H x d ∧ Good d ∧ 0 ≤ k ∧ k ≤ 2 ∧ Dp K H y o ∧ Good o ∧ ∀ H', Same H H' → Q (.bl (hasB b d && (gsz 4 (setP b k o d)).isSome)) H'
theorem scCanHang : FnScope ["graph", "b", "k", "other"] ["graph", "b", "k", "other"] (defScope sCanHang) := ⟨rfl, rfl, rfl, by decide +kernel, rfl, by decide +kernel, by decide +kernel⟩
theorem ok_canHang {n : Nat} (F : Fun K "can_hang" "can_hang" sCanHang f fd) (cH : Cal P w K mg base "has_box" n ["graph", "b"] (spHasBox K))
    (cR : Cal P w K mg base "replaced" n ["graph", "b", "k", "place"] (spReplaced K)) (cI : Cal P w K mg base "is_graph" n ["thing"] (spIsGraph K)) : FnOk P w K mg base CX0 (n + 1) f fd ["graph", "b", "k", "other"] (spCanHang K) := by
  refine F.ok scCanHang (fun vs H Q E h => ?_) (fun cdv A outer s H vs Q E hr h => ?_)
  · obtain ⟨x, d, b, k, y, o, rfl, _⟩ := h
    rfl
  obtain ⟨x, d, b, k, y, o, rfl, hx, hG, h0, h2, hy, hO, q⟩ := h
  refine ⟨_, pss_one (ps_ret (pe_and (pe_cal cH hr rfl (pa_cons (pv 0) (pa_cons (pv 1) pa_nil))) (pe_one (pe_cal cI hr rfl (pa_cons (pe_cal cR hr rfl (pa_cons (pv 0) (pa_cons (pv 1) (pa_cons (pv 2) (pa_cons (pv 3) pa_nil))))) pa_nil))))), ?_⟩
  obtain ⟨a, xs, bs, rfl, rfl, ht, ha, lx⟩ := good_dp hG hx
  refine ⟨_, rfl, _, rfl, a, xs, .int b, .int b, rfl, ht, .int b, _, rfl, ?_⟩
  rw [within_has lx]
  by_cases z : hasB b (.tuple bs) = true
  · rw [z] at q ⊢
    obtain ⟨_, c', _, _, _, hw, _⟩ := hung_shape (b := b) (k := k) hG hO z h0 h2
    have shw := good_shapeW _ _ _ hw
    refine ifT rfl ⟨_, rfl, _, rfl, _, rfl, _, rfl, _, _, b, k, y, o, rfl, hx, hG, z, h0, h2, hy, hO.shp.1, fun r H' sm hd => ?_⟩
    refine ⟨r, _, rfl, hd, shp_shaped shw (by decide), ?_⟩
    exact q H' sm
  · rw [Bool.eq_false_iff.mpr z] at q ⊢
    exact ifF rfl (q _ (Same.refl _))
theorem ok_withG {n : Nat} (F : Fun K "with_graph" "with_graph" sWithGraph f fd) (cG : Cal P w K mg base "check_graph" n ["graph"] (spCheckG K)) (cP : Cal P w K mg base "check_place" n ["k"] spCheckP)
    (cR : Cal P w K mg base "replaced" n ["graph", "b", "k", "place"] (spReplaced K)) (cC : Cal P w K mg base "can_hang" n ["graph", "b", "k", "other"] (spCanHang K)) : FnOk P w K mg base CX0 (n + 1) f fd ["graph", "b", "k", "other"] (spWithG K) := by
  refine F.ok scWithG (fun vs H Q E h => ?_) (fun cdv A outer s H vs Q E hr h => ?_)
  · obtain ⟨x, d, b, k, y, o, rfl, _⟩ := h
    rfl
  obtain ⟨x, d, b, k, y, o, rfl, hx, hG, h0, h2, hy, hO, q⟩ := h
  refine ⟨_, pss_cons (ps_expr (pe_cal cG hr rfl (pa_cons (pv 0) pa_nil))) (pss_cons (ps_expr (pe_cal cP hr rfl (pa_cons (pv 2) pa_nil))) (pss_cons (ps_expr (pe_cal cG hr rfl (pa_cons (pv 3) pa_nil)))
    (pss_one (ps_ret (pe_ifExp (pt_val (pe_cal cC hr rfl (pa_cons (pv 0) (pa_cons (pv 1) (pa_cons (pv 2) (pa_cons (pv 3) pa_nil)))))) (pe_cal cR hr rfl (pa_cons (pv 0) (pa_cons (pv 1) (pa_cons (pv 2) (pa_cons (pv 3) pa_nil))))) (pv 0)))))), ?_⟩
  obtain ⟨c, hg⟩ := id hG
  obtain ⟨co, ho⟩ := id hO
  refine ⟨_, rfl, x, d, c, rfl, hx, hG.sh, hg, _, rfl, k, rfl, h0, h2, _, rfl, y, o, co, rfl, hy, hO.sh, ho, _, rfl, _, rfl, _, rfl, _, rfl, x, d, b, k, y, o, rfl, hx, hG, h0, h2, hy, hO, fun H' sm => ⟨_, rfl, ?_⟩⟩
  have hshp := hG.shp
  have hshO := hO.shp
  have kt := KT.of_same sm
  have hx' := dp_kt kt _ _ hshp.1 hx
  unfold hungD at q
  by_cases z : hasB b d = true
  · rw [if_pos z] at q
    cases e : (gsz 4 (setP b k o d)).isSome with
    | true =>
      rw [if_pos e] at q
      exact ifT (by rw [z]; rfl) ⟨_, rfl, _, rfl, _, rfl, _, rfl, _, _, b, k, y, o, rfl, hx', hG, z, h0, h2, dp_kt kt _ _ hshO.1 hy, hshO.1, fun r H2 sm2 hd => q r H2 (sm.trans sm2) hd⟩
    | false =>
      rw [if_neg (by rw [e]; decide)] at q
      exact ifF (by rw [z]; rfl) ⟨_, rfl, q _ _ sm hx'⟩
  · rw [if_neg z] at q
    exact ifF (by rw [Bool.eq_false_iff.mpr z]; rfl) ⟨_, rfl, q _ _ sm hx'⟩
end
/-! calls with places and names -/
def CalG (P : Program) (w : World) (K : PySem.W.Frag) (mg : Str → Option Value) (base : Heap) (x : Str) (k : Nat) (ps : List Str) (n : Nat) (ks : List Str) (g : List Value → List Value → List Value) (gV : List V → List V → List V) (sp : Sp) : Prop :=
  ∃ (f : Addr) (fd : FuncData), FnOk P w K mg base CX0 k f fd ps sp ∧ mg x = some (.ref f) ∧ PySem.W.keepIn K (.ref f) = true ∧ KBn K fd ps n ks g gV
theorem pe_pk {X : Cx} {x : Str} {p pos : Pos} {k n : Nat} {ps ks : List Str} {g : List Value → List Value → List Value} {gV : List V → List V → List V} {sp : Sp} {e : Expr} {es : List Expr} {kws : List Keyword} {t tk : TA}
    (C : CalG X.prog X.w X.K X.mg X.base x k ps n ks g gV sp) (hr : Room k X.A) (hg : Gl X x) (ha : PA X (e :: es) t) (hkw : PK X kws tk)
    (h1 : (backToKw pos (keywordEach kws X.env)).all (·.1.isSome) = true := by rfl) (h2 : (backToKw pos (keywordEach kws X.env)).filterMap (·.1) = ks := by rfl) (h3 : (x == ("__debug__" : Str)) = false := by decide) (h4 : starEach (e :: es) X.env = (false, eval e X.env) :: starEach es X.env := by rfl)
    (h5 : ((backTo pos (starEach (e :: es) X.env)).any (·.1) || (backToKw pos (keywordEach kws X.env)).any (·.1.isNone)) = false := by rfl) : PE X (.Call (.Name x p) (e :: es) kws pos) (tCallN n ks.length sp gV E0 t tk) := by
  obtain ⟨f, fd, F, hm, hk, hb⟩ := C
  exact pe_callN F hr hg hm hk hb pass0 ha hkw h1 h2 h3 h4 h5
section
variable {P : Program} {w : World} {K : PySem.W.Frag} {mg : Str → Option Value} {base : Heap} {f : Addr} {fd : FuncData}
theorem kb_n3 (F : Fun K "with_number" "with_number" sWithNumber f fd) : KBn K fd ["graph", "b", "k", "number"] 3 ["number"] (fun us ws => us ++ ws) (fun vs zs => vs ++ zs) := by
  obtain ⟨oc, od, kV, doc, pm, an, cdv, ct, osl, rfl, lk, hcd⟩ := F.ex
  refine ⟨fun s us ws _ l1 l2 => ?_, fun r1 r2 => r1.append r2⟩
  match us, ws, l1, l2 with
  | [a, b, c], [d], _, _ => exact .of_eq rfl
theorem kb_t3 (F : Fun K "with_tie" "with_tie" sWithTie f fd) : KBn K fd ["graph", "b", "k", "to"] 3 ["to"] (fun us ws => us ++ ws) (fun vs zs => vs ++ zs) := by
  obtain ⟨oc, od, kV, doc, pm, an, cdv, ct, osl, rfl, lk, hcd⟩ := F.ex
  refine ⟨fun s us ws _ l1 l2 => ?_, fun r1 r2 => r1.append r2⟩
  match us, ws, l1, l2 with
  | [a, b, c], [d], _, _ => exact .of_eq rfl
theorem kb_g3 (F : Fun K "with_graph" "with_graph" sWithGraph f fd) : KBn K fd ["graph", "b", "k", "other"] 3 ["other"] (fun us ws => us ++ ws) (fun vs zs => vs ++ zs) := by
  obtain ⟨oc, od, kV, doc, pm, an, cdv, ct, osl, rfl, lk, hcd⟩ := F.ex
  refine ⟨fun s us ws _ l1 l2 => ?_, fun r1 r2 => r1.append r2⟩
  match us, ws, l1, l2 with
  | [a, b, c], [d], _, _ => exact .of_eq rfl
end
mutual
theorem dp_same {K : PySem.W.Frag} {H H' : Hp} (k : Same H H') : ∀ (d : PyData) (v : V), Dp K H v d → Dp K H' v d
  | .int i, v, h => by cases h; exact .int i
  | .str x, v, h => by cases h; exact .str x
  | .none, v, h => by cases h; exact .non
  | .bool b, v, h => by cases h; exact .bl b
  | .tuple ds, v, h => by
    cases h with
    | tup hs ha => exact .tup (sqT_kt (KT.of_same k) hs) (dpAll_same k ds _ ha)
  | .list ds, v, h => by
    cases h with
    | lst hs ha => exact .lst (k.seq hs) (dpAll_same k ds _ ha)
  | .dict _, v, h => by cases h
theorem dpAll_same {K : PySem.W.Frag} {H H' : Hp} (k : Same H H') : ∀ (ds : List PyData) (vs : List V), DpAll K H vs ds → DpAll K H' vs ds
  | [], vs, h => by cases h; exact .nil
  | d :: ds, vs, h => by
    cases h with
    | cons h1 h2 => exact .cons (dp_same k d _ h1) (dpAll_same k ds _ h2)
end
section
variable {P : Program} {w : World} {K : PySem.W.Frag} {mg : Str → Option Value} {base : Heap} {f : Addr} {fd : FuncData}
/-! depth_of -/
def spDepth (K : PySem.W.Frag) (n : Nat) : Sp := fun vs H Q _ => ∃ (x : V) (d : PyData) (c : Nat), vs = [x] ∧ n ≤ 4 ∧ Dp K H x d ∧ gsz n d = some c ∧ ∀ H', Same H H' → Q (.int (deepN n d)) H'
theorem scDepth : FnScope ["graph", "box", "place"] ["graph"] (defScope sDepthOf) := ⟨rfl, rfl, rfl, by decide +kernel, rfl, by decide +kernel, by decide +kernel⟩
theorem sort_isG {n m : Nat} {p : PyData} (h : PlaceOk n m p) : (isG p = true ∧ sortD p = 2) ∨ (isG p = false ∧ sortD p ≠ 2) := by
  cases h with
  | num _ _ => exact .inr ⟨rfl, by show (0 : Int) ≠ 2; decide⟩
  | @tie j _ _ =>
    refine .inr ⟨isG_tie j, ?_⟩
    rw [show sortD (.tuple [.str "tie", .int j]) = 1 by show (if PyData.eqv (.str "tie") (.str "tie") = true then (1 : Int) else 2) = 1; rw [if_pos (eqv_str_str _)]]
    decide
  | @graph ps r k h => exact .inl ⟨isG_graph ps r, by show (if PyData.eqv (.tuple ps) (.str "tie") = true then (1 : Int) else 2) = 2; rw [if_neg (by rw [eqv_tup_str]; decide)]⟩
theorem ok_depth {k n : Nat} (F : Fun K "depth_of" "depth_of" sDepthOf f fd) (T : Free mg) (C : Cst mg) (cG : Cal P w K mg base "check_graph" k ["graph"] (spCheckG K)) (cS : Cal P w K mg base "sort_of" k ["place"] (spSortOf K)) (cD : Cal P w K mg base "depth_of" k ["graph"] (spDepth K n)) :
    FnOk P w K mg base CX0 (k + 1) f fd ["graph"] (spDepth K (n + 1)) := by
  refine F.ok scDepth (fun vs H Q E h => ?_) (fun cdv A outer s H vs Q E hr h => ?_)
  · obtain ⟨x, d, c, rfl, _⟩ := h
    rfl
  obtain ⟨x, d, c, rfl, n4, hx, hg, q⟩ := h
  refine ⟨_, pss_cons (ps_expr (pe_cal cG hr rfl (pa_cons (pv 0) pa_nil))) (pss_one (ps_ret (pe_op op_add pe_int (pe_callBK (call_maxD rfl hr.units) rfl T.max (by decide +kernel) (pa_cons
    (pe_lc2 (own := [("box", 1), ("place", 2)]) (vs1 := [2]) (g := gName 1) (tt := tYes) (wi1 := iTup K (tVar 1)) (g1 := gName 2) (tt1 := tTest (tOp rEq (tCall (spSortOf K) [] E0 (tCons (tVar 2) tNil)) (tC (.int 2)))) (te := tCall (spDepth K n) [] E0 (tCons (tVar 2) tNil)) rfl scDepth.nd (pi_tup (pv 0))
      (blkOk_by (own := [("box", 1), ("place", 2)]) (N := ["graph", "box", "place"]) (sc := defScope sDepthOf) (by decide +kernel)) (by decide)
      (fun _ _ _ _ _ => pg_name (i := 1) scDepth.nd rfl (Or.inl rfl)) (fun _ _ _ _ _ => pts_nil) (fun _ _ _ _ _ => pi_tup (pv 1)) (fun _ _ _ _ _ => pg_name (i := 2) scDepth.nd rfl (Or.inl rfl))
      (fun _ _ _ _ _ => pts_one (pt_cmpR op_eq (pe_cal cS hr rfl (pa_cons (pv 2) pa_nil)) (pe_globI rfl C.graph) (nomark _))) (fun _ _ _ _ _ => pe_cal cD hr rfl (pa_cons (pv 2) pa_nil))) pa_nil) (pk_cons pe_int pk_nil))))), ?_⟩
  have hg4 := gsz_mono hg n4
  have hG : Good d := ⟨c, hg4⟩
  have hsh := hG.sh
  have hto := hG.shp.1
  refine ⟨_, rfl, x, d, c, rfl, hx, hsh, hg4, ?_⟩
  obtain ⟨m, bs, s', e, rfl, l1, l8, hs, rfl, h24⟩ := gsz_some hg
  cases e
  have hin := boxes_inner hs
  have hta := tupOnly_tup hto
  cases hx with
  | @tup a xs _ ht ha =>
    have lx := dpAll_len ha
    refine ⟨_, rfl, a, rfl, ⟨xs, ht⟩, fun D hD => ?_⟩
    -- between two boxes
    have Pv0 : Same H (upd H D (.lst [])) ∧ (upd H D (.lst [])) D = some (.lst (((((bs.take 0).flatMap boxInner)).map (fun z => ((deepN n z : Nat) : Int))).map V.int)) := ⟨same_new hD _, upd_same⟩
    refine ⟨fun i m H' => m = xs.length - i ∧ i ≤ xs.length ∧ Same H H' ∧ H' D = some (.lst (((((bs.take i).flatMap boxInner)).map (fun z => ((deepN n z : Nat) : Int))).map V.int)), ⟨xs.length, by simp, Nat.zero_le _, Pv0⟩, ?_⟩
    rintro i m H1 ⟨rfl, hi, sm, hk⟩
    have ht1 := sqT_kt (KT.of_same sm) ht
    by_cases hlt : i < xs.length
    · refine .inr ⟨⟨xs, xs[i], ht1, by simp [hlt]⟩, fun H' => Same H H' ∧ H' D = some (.lst (((((bs.take (i + 1)).flatMap boxInner)).map (fun z => ((deepN n z : Nat) : Int))).map V.int)), fun H' p' => ⟨xs.length - (i + 1), by omega, rfl, hlt, p'⟩, fun y H' hy => ?_⟩
      obtain ⟨e, hy⟩ := hy
      subst e
      have hyi := hy xs ht1
      obtain ⟨b, hb, hdb⟩ := dpAll_get' ha hyi
      have hbm : b ∈ bs := List.mem_of_getElem? hb
      obtain ⟨u, hu⟩ := sumO_mem hs hbm
      obtain ⟨p1, p2, p3, rfl, hps⟩ := boxN_some hu
      have htb := tupOnly_tup (tupOnly_mem hta hbm)
      have hshb := shaped_mem hsh hbm
      cases hdb with
      | @tup ab ys _ hty hay =>
        have ly : ys.length = 3 := dpAll_len hay
        refine ⟨rfl, yesT ?_⟩
        refine ⟨_, rfl, ab, rfl, ⟨ys, sqT_kt (KT.of_same sm) hty⟩, ?_⟩
        refine ⟨fun j m H' => m = ys.length - j ∧ j ≤ ys.length ∧ Same H H' ∧ H' D = some (.lst (((((bs.take i).flatMap boxInner) ++ ([p1, p2, p3].take j).filter isG).map (fun z => ((deepN n z : Nat) : Int))).map V.int)), ⟨ys.length, by simp, Nat.zero_le _, sm, by simpa using hk⟩, ?_⟩
        rintro j m H2 ⟨rfl, hj, sm2, hk2⟩
        have hty2 := sqT_kt (KT.of_same sm2) hty
        by_cases hjt : j < ys.length
        · refine .inr ⟨⟨ys, ys[j], hty2, by simp [hjt]⟩, fun H' => Same H H' ∧ H' D = some (.lst (((((bs.take i).flatMap boxInner) ++ ([p1, p2, p3].take (j + 1)).filter isG).map (fun z => ((deepN n z : Nat) : Int))).map V.int)), fun H' p' => ⟨ys.length - (j + 1), by omega, rfl, hjt, p'⟩, fun z H' hz => ?_⟩
          obtain ⟨e, hz⟩ := hz
          subst e
          have hzj := hz ys hty2
          obtain ⟨pd, hpd, hdz⟩ := dpAll_get' hay hzj
          have hpm : pd ∈ [p1, p2, p3] := List.mem_of_getElem? hpd
          have hdz2 := dp_kt (KT.of_same sm2) pd z (tupOnly_mem htb hpm) hdz
          obtain ⟨v, hv⟩ := sumO_mem hps hpm
          have pok := placeN_some hv
          have etk := take_more hpd
          refine ⟨rfl, _, rfl, z, pd, rfl, hdz2, shaped_mem hshb hpm, ?_, rfl, _, rfl, ?_⟩
          · cases pok <;> (intro y; cases y)
          · rcases sort_isG pok with ⟨e1, e2⟩ | ⟨e1, e2⟩
            · rw [e2]
              have hgp : gsz n pd = some v := by
                rcases placeN_val hv with ⟨z1, _⟩ | ⟨_, z2⟩
                · rw [e1] at z1; cases z1
                · exact z2
              refine ifT (decide_eq_true rfl) ⟨_, rfl, z, pd, v, rfl, by omega, hdz2, hgp, fun H3 s3 => ?_⟩
              refine ⟨_, s3 _ _ hk2, Nat.lt_of_lt_of_le (show _ < 1000 by
                have y1 := (boxes_inner hs)
                rw [List.length_map, List.length_map, List.length_append]
                have y2 : (([p1, p2, p3].take j).filter isG).length ≤ 3 := Nat.le_trans (List.length_filter_le _ _) (by rw [List.length_take]; simp; omega)
                have y3 : ∀ l : List PyData, (∀ b ∈ l, (boxInner b).length ≤ 3) → (l.flatMap boxInner).length ≤ 3 * l.length := fun l => by
                  induction l with
                  | nil => intro _; simp
                  | cons q r ih =>
                    intro hq
                    have i1 := hq q List.mem_cons_self
                    have i2 := ih fun b hb => hq b (List.mem_cons_of_mem _ hb)
                    simp only [List.flatMap_cons, List.length_append, List.length_cons]
                    omega
                have y4 := y3 (bs.take i) fun b hb => by
                  obtain ⟨u', hu'⟩ := sumO_mem hs (List.mem_of_mem_take hb)
                  obtain ⟨q1, q2, q3, rfl, _⟩ := boxN_some hu'
                  exact List.length_filter_le _ _
                rw [List.length_take] at y4
                omega) (small (Nat.le_refl _)), ?_, ?_⟩
              · exact fun bb o e => by rw [upd_ne (ne_of_none e hD)]; exact s3 bb o (sm2 bb o e)
              · rw [upd_same, etk]
                simp only [List.filter_append, List.filter_cons_of_pos e1, List.filter_nil, List.map_append, List.map_cons, List.map_nil, List.append_assoc]
            · refine ifF (decide_eq_false (fun y => e2 (by injection y))) ⟨sm2, ?_⟩
              rw [etk, List.filter_append, List.filter_cons_of_neg (by rw [e1]; decide), List.filter_nil, List.append_nil]
              exact hk2
        · have e : j = ys.length := by omega
          subst e
          refine .inl ⟨⟨ys, hty2, Nat.le_refl _⟩, sm2, ?_⟩
          rw [ly] at hk2
          rw [take_more hb, List.flatMap_append, List.flatMap_cons, List.flatMap_nil, List.append_nil]
          exact hk2
    · have e : i = xs.length := by omega
      subst e
      refine .inl ⟨⟨xs, ht1, Nat.le_refl _⟩, ?_⟩
      rw [lx, List.take_length] at hk
      refine ⟨D, _, 0, rfl, rfl, SqL.of hk, _, _, rfl, rfl, ?_⟩
      have r := q H1 sm
      have e1 : ((bs.flatMap boxInner).map (fun z => ((deepN n z : Nat) : Int))) = ((bs.flatMap boxInner).map (deepN n)).map (fun x : Nat => (x : Int)) := by rw [List.map_map]; rfl
      rw [e1, maxI_cast]
      have e2 : ((deepN (n + 1) (.tuple bs) : Nat) : Int) = 1 + ((maxL ((bs.flatMap boxInner).map (deepN n)) : Nat) : Int) := by
        show ((1 + maxL ((innerD (.tuple bs)).map (deepN n)) : Nat) : Int) = _
        rw [show innerD (.tuple bs) = bs.flatMap boxInner from rfl]
        omega
      rw [e2] at r
      exact r
theorem no_depth {k : Nat} : FnOk P w K mg base CX0 k f fd ["graph"] (spDepth K 0) := by
  have no : ∀ vs H Q E, ¬ spDepth K 0 vs H Q E := fun vs H Q E h => by
    obtain ⟨x, d, c, _, _, _, h, _⟩ := h
    cases h
  exact ⟨fun vs H Q E h => absurd h (no vs H Q E), fun A outer s H args us vs Q E _ _ _ _ h => absurd h (no vs H Q E)⟩
end
theorem at_good {d : PyData} {c : Nat} {b k : Int} (h : gsz 4 d = some c) (hk : 0 ≤ k ∧ k ≤ 2) : (sortAt b k d).natAbs < 10 ^ 12 ∧ (numberAt b k d).natAbs < 10 ^ 12 ∧ ∃ c', gsz 4 (graphAt b k d) = some c' := by
  obtain ⟨m, bs, s', e, rfl, l1, l8, _⟩ := gsz_some h
  cases e
  by_cases hb : 0 ≤ b ∧ b < bs.length
  · obtain ⟨ps, p, e1, e2, hp, epl⟩ := place_there (b := b) (k := k) h hb hk
    have es : sortAt b k (.tuple bs) = sortD p := by unfold sortAt; rw [epl]
    have en : numberAt b k (.tuple bs) = numIn p := by unfold numberAt; rw [epl]
    have eg : graphAt b k (.tuple bs) = if sortD p = 2 then p else bareD := by unfold graphAt; rw [epl]
    rw [es, en, eg]
    cases hp with
    | @num i h1 h2 =>
      refine ⟨by show (0 : Int).natAbs < 10 ^ 12; decide, by show i.natAbs < 10 ^ 12; omega, 1, ?_⟩
      rw [if_neg (by show ¬ (0 : Int) = 2; decide)]
      exact g_bare
    | @tie j h1 h2 =>
      have e : sortD (.tuple [.str "tie", .int j]) = 1 := by show (if PyData.eqv (.str "tie") (.str "tie") = true then (1 : Int) else 2) = 1; rw [if_pos (eqv_str_str _)]
      rw [e]
      refine ⟨by decide, by show j.natAbs < 10 ^ 12; omega, 1, ?_⟩
      rw [if_neg (by decide)]
      exact g_bare
    | @graph ps' r k' hg =>
      have e : sortD (.tuple (.tuple ps' :: r)) = 2 := by show (if PyData.eqv (.tuple ps') (.str "tie") = true then (1 : Int) else 2) = 2; rw [if_neg (by rw [eqv_tup_str]; decide)]
      rw [e]
      refine ⟨by decide, ?_, k', ?_⟩
      · show (numIn (.tuple (.tuple ps' :: r))).natAbs < 10 ^ 12
        have : numIn (.tuple (.tuple ps' :: r)) = 0 := by
          unfold numIn
          split
          · rename_i z; cases z
          · rename_i z; cases z
          · rfl
        rw [this]
        decide
      · rw [if_pos rfl]
        exact gsz_succ _ _ _ hg
  · have es : sortAt b k (.tuple bs) = 3 := by unfold sortAt; rw [place_none hb]
    have en : numberAt b k (.tuple bs) = 0 := by unfold numberAt; rw [place_none hb]
    have eg : graphAt b k (.tuple bs) = bareD := by unfold graphAt; rw [place_none hb]
    rw [es, en, eg]
    exact ⟨by decide, by decide, 1, g_bare⟩
/-! what is seen of a graph -/
def cellB (b k : Int) (d : PyData) : PyData := .list [.int (sortAt b k d), .int (numberAt b k d), graphAt b k d]
def cellD (i : Nat) (d : PyData) : PyData := cellB ((i / 3 : Nat) : Int) ((i % 3 : Nat) : Int) d
def cells (d : PyData) : List PyData := (List.range 24).map fun i => cellD i d
def CellAt (K : PySem.W.Frag) (H0 H : Hp) (q : Addr) (b k : Int) (d : PyData) : Prop := H0 q = none ∧ ∃ g, H q = some (.lst [.int (sortAt b k d), .int (numberAt b k d), g]) ∧ Dp K H g (graphAt b k d)
structure SeenAt (K : PySem.W.Frag) (H0 H : Hp) (p : Addr) (qs : List Addr) (d : PyData) : Prop where
  lst : H p = some (.lst (qs.map V.ref))
  fr : H0 p = none
  len : qs.length = 24
  each : ∀ i q, qs[i]? = some q → CellAt K H0 H q ((i / 3 : Nat) : Int) ((i % 3 : Nat) : Int) d
theorem at_good' {d : PyData} {b k : Int} (h : Good d) (hk : 0 ≤ k ∧ k ≤ 2) : (sortAt b k d).natAbs < 10 ^ 12 ∧ (numberAt b k d).natAbs < 10 ^ 12 ∧ Good (graphAt b k d) := by
  obtain ⟨c, h⟩ := h
  exact at_good h hk
theorem CellAt.dp {K : PySem.W.Frag} {H0 H : Hp} {q : Addr} {b k : Int} {d : PyData} (h : CellAt K H0 H q b k d) : Dp K H (.ref q) (cellB b k d) := by
  obtain ⟨_, g, h1, h2⟩ := h
  exact .lst (SqL.of h1) (.cons (.int _) (.cons (.int _) (.cons h2 .nil)))
theorem CellAt.go {K : PySem.W.Frag} {H0 H H' : Hp} {q : Addr} {b k : Int} {d : PyData} (hG : Good d) (hk : 0 ≤ k ∧ k ≤ 2) (h : CellAt K H0 H q b k d) (k1 : KT H H') (k2 : ∀ u, H q = some u → H' q = some u) : CellAt K H0 H' q b k d := by
  obtain ⟨h0, g, h1, h2⟩ := h
  exact ⟨h0, g, k2 _ h1, dp_kt k1 _ _ (at_good' hG hk).2.2.shp.1 h2⟩
theorem mod3 (i : Nat) : 0 ≤ ((i % 3 : Nat) : Int) ∧ ((i % 3 : Nat) : Int) ≤ 2 := by omega
theorem SeenAt.go {K : PySem.W.Frag} {H0 H H' : Hp} {p : Addr} {qs : List Addr} {d : PyData} (hG : Good d) (h : SeenAt K H0 H p qs d) (k1 : KT H H') (k2 : ∀ b u, H0 b = none → H b = some u → H' b = some u) : SeenAt K H0 H' p qs d :=
  ⟨k2 _ _ h.fr h.lst, h.fr, h.len, fun i q e => (h.each i q e).go hG (mod3 i) k1 fun u hu => k2 q u (h.each i q e).1 hu⟩
theorem dpAll_of {K : PySem.W.Frag} {H : Hp} : ∀ {xs : List V} {ds : List PyData}, xs.length = ds.length → (∀ (i : Nat) x d, xs[i]? = some x → ds[i]? = some d → Dp K H x d) → DpAll K H xs ds
  | [], [], _, _ => .nil
  | x :: xs, d :: ds, hl, h => .cons (h 0 x d rfl rfl) (dpAll_of (by simpa using hl) fun i y e h1 h2 => h (i + 1) y e h1 h2)
theorem SeenAt.dp {K : PySem.W.Frag} {H0 H : Hp} {p : Addr} {qs : List Addr} {d : PyData} (h : SeenAt K H0 H p qs d) : DpAll K H (qs.map V.ref) (cells d) := by
  refine dpAll_of (by rw [List.length_map, h.len]; unfold cells; rw [List.length_map, List.length_range]) fun i x e h1 h2 => ?_
  rw [List.getElem?_map] at h1
  cases hq : qs[i]? with
  | none => rw [hq] at h1; cases h1
  | some q =>
    rw [hq] at h1
    cases h1
    unfold cells at h2
    rw [List.getElem?_map] at h2
    have hi : i < 24 := by
      have := (List.getElem?_eq_some_iff.mp hq).1
      rw [h.len] at this
      exact this
    rw [List.getElem?_range hi] at h2
    cases h2
    exact (h.each i q hq).dp
theorem cell_shaped {d : PyData} {b k : Int} (hG : Good d) (hk : 0 ≤ k ∧ k ≤ 2) : SeqAt.shaped (cellB b k d) = true := by
  have g := (at_good' (b := b) hG hk).2.2.shp
  have hl : ∀ z ∈ [PyData.int (sortAt b k d), .int (numberAt b k d), graphAt b k d], Shp 9 z := by
    intro z hz
    rcases List.mem_cons.mp hz with rfl | hz
    · exact shp_int _ _
    rcases List.mem_cons.mp hz with rfl | hz
    · exact shp_int _ _
    rcases List.mem_cons.mp hz with rfl | hz
    · exact g
    cases hz
  have h1 : (cellB b k d).canLay0 = true := by
    unfold cellB
    simp only [PyData.canLay0]
    exact lay_all fun z hz => (hl z hz).2.1
  have h2 : (cellB b k d).depth ≤ 64 := by
    unfold cellB
    have := depth_all fun z hz => (hl z hz).2.2
    simp only [PyData.depth]
    omega
  show ((cellB b k d).canLay0 && decide ((cellB b k d).depth ≤ 64)) = true
  rw [h1, Bool.true_and]
  exact decide_eq_true h2
section
variable {P : Program} {w : World} {K : PySem.W.Frag} {mg : Str → Option Value} {base : Heap} {f : Addr} {fd : FuncData}
def spSeen (K : PySem.W.Frag) : Sp := fun vs H Q _ => ∃ (x : V) (d : PyData), vs = [x, .int 8] ∧ Dp K H x d ∧ Good d ∧ ∀ p qs H', Same H H' → SeenAt K H H' p qs d → Q (.ref p) H'
theorem scSeen : FnScope ["_law_graph_here", "_law_many", "_law_found", "_law_b", "_law_row", "_law_k"] ["_law_graph_here", "_law_many"] (defScope sSeen) := ⟨rfl, rfl, rfl, by decide +kernel, rfl, by decide +kernel, by decide +kernel⟩
abbrev teRow (K : PySem.W.Frag) : TE := tLst (tCons (tCall (spSortAt K) [] E0 (tCons (tVar 0) (tCons (tVar 3) (tCons (tVar 5) tNil)))) (tCons (tCall (spNumAt K) [] E0 (tCons (tVar 0) (tCons (tVar 3) (tCons (tVar 5) tNil)))) (tCons (tCall (spGraphAt K) [] E0 (tCons (tVar 0) (tCons (tVar 3) (tCons (tVar 5) tNil)))) tNil)))
theorem ok_seen {n : Nat} (F : Fun K "_law_seen" "_law_seen" sSeen f fd) (T : Free mg) (cSo : Cal P w K mg base "sort_at" n ["graph", "b", "k"] (spSortAt K)) (cNu : Cal P w K mg base "number_at" n ["graph", "b", "k"] (spNumAt K)) (cGr : Cal P w K mg base "graph_at" n ["graph", "b", "k"] (spGraphAt K)) :
    FnOk P w K mg base CX0 (n + 1) f fd ["_law_graph_here", "_law_many"] (spSeen K) := by
  refine F.ok scSeen (fun vs H Q E h => ?_) (fun cdv A outer s H vs Q E hr h => ?_)
  · obtain ⟨x, d, rfl, _⟩ := h
    rfl
  obtain ⟨x, d, rfl, hx, hG, q⟩ := h
  refine ⟨_, pss_cons (ps_set (i := 2) scSeen.nd rfl (.inl rfl) (pe_lst pa_nil))
    (pss_cons (ps_for PassesOwn.never rfl (pi_range1 rfl T.range (pa_cons (pv 1) pa_nil)) (pg_name (i := 3) scSeen.nd rfl (.inr rfl))
      (pss_cons (ps_setLc (i := 4) (own := [("_law_k", 5)]) (g := gName 5) (tt := tYes) (te := teRow K) rfl scSeen.nd rfl rfl (sw_true rfl rfl rfl (by decide +kernel)) (pi_range1 rfl T.range (pa_cons pe_int pa_nil))
          (blkOk_by (own := [("_law_k", 5)]) (N := ["_law_graph_here", "_law_many", "_law_found", "_law_b", "_law_row", "_law_k"]) (sc := defScope sSeen) (by decide +kernel))
          (fun _ _ _ _ _ => pg_name (i := 5) scSeen.nd rfl (Or.inl rfl)) (fun _ _ _ _ _ => pts_nil)
          (fun _ _ _ _ _ => pe_lst (pa_cons (pe_cal cSo hr rfl (pa_cons (pv 0) (pa_cons (pv 3) (pa_cons (pv 5) pa_nil)))) (pa_cons (pe_cal cNu hr rfl (pa_cons (pv 0) (pa_cons (pv 3) (pa_cons (pv 5) pa_nil)))) (pa_cons (pe_cal cGr hr rfl (pa_cons (pv 0) (pa_cons (pv 3) (pa_cons (pv 5) pa_nil)))) pa_nil)))))
      (pss_one (ps_set (i := 2) scSeen.nd rfl (.inl rfl) (pe_op op_cat (pv 2) (pv 4))))))
    (pss_one (ps_ret (pv 2)))), ?_⟩
  have hshp := hG.shp
  have hsh := hG.sh
  have good : ∀ {Hz : Hp}, Same H Hz → GoodG K Hz x d := fun sz => ⟨dp_kt (KT.of_same sz) _ _ hshp.1 hx, hsh, hG⟩
  refine ⟨small (by show 0 ≤ 1000; decide), fun fa hfa => ?_⟩
  refine ⟨_, rfl, 8, rfl, by decide, by decide, ?_⟩
  refine for_range (lo := 0) (n := 8) (fun i σ H' => ∃ (fa : Addr) (qs : List Addr) (o3 o4 o5 : Option V), σ = [some x, some (.int 8), some (.ref fa), o3, o4, o5] ∧ Same H H' ∧ H' fa = some (.lst (qs.map V.ref)) ∧ H fa = none ∧ qs.length = 3 * i ∧ ∀ j q, qs[j]? = some q → CellAt K H H' q ((j / 3 : Nat) : Int) ((j % 3 : Nat) : Int) d)
    ⟨fa, [], _, _, _, rfl, same_new hfa _, upd_same, hfa, rfl, fun j q e => by simp at e⟩ (fun i σ H' hi h => ?_) (fun σ H' h => ?_)
  · obtain ⟨fa, qs, o3, o4, o5, rfl, sm, hf, hfr, hl, he⟩ := h
    refine ⟨3, rfl, by decide, by decide, fun D hD => ?_⟩
    refine lc_range (lo := 0) (n := 3) (fun k H2 => Same H' H2 ∧ ∃ rs : List Addr, H2 D = some (.lst (rs.map V.ref)) ∧ rs.length = k ∧ ∀ (j : Nat) q, rs[j]? = some q → CellAt K H H2 q (i : Int) (j : Int) d) ⟨same_new hD _, [], upd_same, rfl, fun j q e => by simp at e⟩ (fun k H2 hk h => ?_) (fun H2 h => ?_)
    · obtain ⟨s2, rs, hr2, hrl, hre⟩ := h
      refine ⟨rfl, yesT ?_⟩
      have e0 : (0 + (i : Int)) = (i : Int) := by omega
      have e1 : (0 + (k : Int)) = (k : Int) := by omega
      have g2 := good (sm.trans s2)
      refine ⟨_, rfl, _, rfl, _, rfl, x, d, _, _, rfl, g2, by omega, by omega, _, rfl, _, rfl, _, rfl, x, d, _, _, rfl, g2, by omega, by omega, _, rfl, _, rfl, _, rfl, x, d, _, _, rfl, g2, by omega, by omega, fun gv hgv => ⟨small (by show 3 ≤ 1000; decide), fun c hc => ?_⟩⟩
      rw [e0, e1] at hgv ⊢
      have s3 := same_new hc (.lst [.int (sortAt (i : Int) (k : Int) d), .int (numberAt (i : Int) (k : Int) d), gv])
      have hD3 := s3 _ _ hr2
      have nDc : c ≠ D := (ne_of_none hr2 hc).symm
      refine ⟨rs.map V.ref, hD3, Nat.lt_of_lt_of_le (show (rs.map V.ref).length < 1000 by rw [List.length_map]; omega) (small (Nat.le_refl _)), ?_, rs ++ [c], ?_, by rw [List.length_append, hrl]; rfl, fun j q e => ?_⟩
      · exact fun b u e => by rw [upd_ne (ne_of_none e hD)]; exact s3 _ _ (s2 _ _ e)
      · rw [List.map_append]
        exact upd_same
      · have kt := KT.upd (l' := rs.map V.ref ++ [.ref c]) hD3
        by_cases hj : j < rs.length
        · rw [List.getElem?_append_left hj] at e
          refine (hre j q e).go hG ⟨by omega, by omega⟩ ((KT.of_same s3).trans kt) fun u hu => ?_
          have nq : q ≠ D := fun z => by
            have := (hre j q e).1
            obtain ⟨_, _, h1, _⟩ := hre j q e
            rw [z] at h1 hu
            rw [hr2] at h1
            cases rs with
            | nil => simp at hj
            | cons r0 rr => injection h1 with h1; injection h1 with h1; cases h1
          rw [upd_ne nq]
          exact s3 _ _ hu
        · have hj' : j = rs.length := by
            have := (List.getElem?_eq_some_iff.mp e).1
            rw [List.length_append, List.length_singleton] at this
            omega
          subst hj'
          rw [List.getElem?_append_right (Nat.le_refl _)] at e
          simp at e
          subst e
          rw [hrl]
          refine ⟨(sm.trans s2).free hc, gv, ?_, dp_kt ((KT.of_same s3).trans kt) _ _ (at_good' hG ⟨by omega, by omega⟩).2.2.shp.1 hgv⟩
          rw [upd_ne nDc]
          exact upd_same
    · obtain ⟨s2, rs, hr2, hrl, hre⟩ := h
      refine ⟨_, rfl, _, rfl, fa, D, qs.map V.ref, rs.map V.ref, rfl, rfl, s2 _ _ hf, hr2, small (by rw [List.length_map, List.length_map]; omega), fun p hp => ?_⟩
      have s3 := same_new hp (.lst (qs.map V.ref ++ rs.map V.ref))
      refine ⟨p, qs ++ rs, _, _, _, rfl, sm.trans (s2.trans s3), by rw [List.map_append]; exact upd_same, (sm.trans s2).free hp, by rw [List.length_append]; omega, fun j q e => ?_⟩
      by_cases hj : j < qs.length
      · rw [List.getElem?_append_left hj] at e
        exact (he j q e).go hG (mod3 j) (KT.of_same (s2.trans s3)) fun u hu => (s2.trans s3) _ _ hu
      · rw [List.getElem?_append_right (by omega)] at e
        have hj3 : j - qs.length < 3 := by
          have := (List.getElem?_eq_some_iff.mp e).1
          omega
        have c := (hre _ q e).go hG ⟨by omega, by omega⟩ (KT.of_same s3) fun u hu => s3 _ _ hu
        have d1 : j / 3 = i := by omega
        have d2 : j % 3 = j - qs.length := by omega
        rw [d1, d2]
        exact c
  · obtain ⟨fa, qs, o3, o4, o5, rfl, sm, hf, hfr, hl, he⟩ := h
    exact ⟨_, rfl, q fa qs H' sm ⟨hf, hfr, hl, he⟩⟩
/-! _law_turned -/
def turnedL (d d' : PyData) : List Nat := (List.range 24).filter fun i => !PyData.eqv (cellD i d) (cellD i d')
def spTurned (K : PySem.W.Frag) : Sp := fun vs H Q _ => ∃ (p p' : Addr) (xs ys : List V) (d d' : PyData), vs = [.ref p, .ref p'] ∧ SqL K H p xs ∧ SqL K H p' ys ∧ DpAll K H xs (cells d) ∧ DpAll K H ys (cells d') ∧ Good d ∧ Good d' ∧
  ∀ r H', Same H H' → H r = none → H' r = some (.lst ((turnedL d d').map fun i : Nat => V.int (i : Int))) → Q (.ref r) H'
theorem scTurned : FnScope ["_law_one", "_law_other_own", "_law_at"] ["_law_one", "_law_other_own"] (defScope sTurned) := ⟨rfl, rfl, rfl, by decide +kernel, rfl, by decide +kernel, by decide +kernel⟩
theorem cells_len (d : PyData) : (cells d).length = 24 := by unfold cells; rw [List.length_map, List.length_range]
theorem cells_get {d : PyData} {i : Nat} (h : i < 24) : (cells d)[i]? = some (cellD i d) := by unfold cells; rw [List.getElem?_map, List.getElem?_range h]; rfl
theorem filter_more (p : Nat → Bool) (j : Nat) : (List.range (j + 1)).filter p = (List.range j).filter p ++ (if p j = true then [j] else []) := by
  rw [List.range_succ, List.filter_append]
  congr 1
  by_cases h : p j = true
  · rw [if_pos h, List.filter_cons_of_pos h, List.filter_nil]
  · rw [if_neg h, List.filter_cons_of_neg h, List.filter_nil]
theorem ok_turned {n : Nat} (F : Fun K "_law_turned" "_law_turned" sTurned f fd) (T : Free mg) : FnOk P w K mg base CX0 (n + 1) f fd ["_law_one", "_law_other_own"] (spTurned K) := by
  refine F.ok scTurned (fun vs H Q E h => ?_) (fun cdv A outer s H vs Q E hr h => ?_)
  · obtain ⟨p, p', xs, ys, d, d', rfl, _⟩ := h
    rfl
  obtain ⟨p, p', xs, ys, d, d', rfl, hp, hp', hx, hy, hG, hG', q⟩ := h
  refine ⟨_, pss_one (ps_ret (pe_lc (own := [("_law_at", 2)]) (g := gName 2) (tt := tTest (tOp (rNeD K) (tOp (rIxL K) (tVar 0) (tVar 2)) (tOp (rIxL K) (tVar 1) (tVar 2)))) (te := tVar 2) rfl scTurned.nd (pi_range1 rfl T.range (pa_cons (pe_callB call_len_seq rfl T.len PySem.boot_len (pa_cons (pv 0) pa_nil)) pa_nil))
      (blkOk_by (own := [("_law_at", 2)]) (N := ["_law_one", "_law_other_own", "_law_at"]) (sc := defScope sTurned) (by decide +kernel))
      (fun _ _ _ _ _ => pg_name (i := 2) scTurned.nd rfl (Or.inl rfl)) (fun _ _ _ _ _ => pts_one (pt_cmpR (op_neD hr.units) (pe_ix ix_list (pv 0) (pv 2) (fun _ _ => rfl)) (pe_ix ix_list (pv 1) (pv 2) (fun _ _ => rfl)) (nomark _))) (fun _ _ _ _ _ => pv 2))), ?_⟩
  have lx : xs.length = 24 := by rw [dpAll_len hx, cells_len]
  refine ⟨_, rfl, p, xs, rfl, .inl hp, _, rfl, by omega, by omega, fun D hD => ?_⟩
  rw [lx]
  refine lc_range (lo := 0) (n := 24) (fun j H2 => Same H H2 ∧ H2 D = some (.lst (((List.range j).filter fun i => !PyData.eqv (cellD i d) (cellD i d')).map fun i : Nat => V.int (i : Int)))) ⟨same_new hD _, upd_same⟩ (fun j H2 hj h => ?_) (fun H2 h => ?_)
  · obtain ⟨s2, h2⟩ := h
    obtain ⟨x, hx1, hx2⟩ := dpAll_get hx (cells_get hj)
    obtain ⟨y, hy1, hy2⟩ := dpAll_get hy (cells_get hj)
    have e0 : (0 + (j : Int)) = (j : Int) := by omega
    refine ⟨rfl, _, rfl, _, rfl, p, xs, _, x, rfl, rfl, s2.seq hp, by rw [e0]; exact atI_nat hx1, _, rfl, _, rfl, p', ys, _, y, rfl, rfl, s2.seq hp', by rw [e0]; exact atI_nat hy1, _, _, dp_same s2 _ _ hx2, dp_same s2 _ _ hy2, cell_shaped hG (mod3 j), cell_shaped hG' (mod3 j), _, rfl, ?_⟩
    rw [filter_more]
    cases e : (!PyData.eqv (cellD j d) (cellD j d')) with
    | true =>
      refine ifT rfl ⟨_, rfl, _, h2, Nat.lt_of_lt_of_le (show _ < 1000 by rw [List.length_map]; exact Nat.lt_of_le_of_lt (List.length_filter_le _ _) (by rw [List.length_range]; omega)) (small (Nat.le_refl _)), ?_, ?_⟩
      · exact fun b u z => by rw [upd_ne (ne_of_none z hD)]; exact s2 _ _ z
      · rw [upd_same, if_pos rfl, List.map_append, e0]
        rfl
    | false =>
      refine ifF rfl ⟨s2, ?_⟩
      rw [if_neg (by decide), List.append_nil]
      exact h2
  · obtain ⟨s2, h2⟩ := h
    exact q D H2 s2 hD h2
end
/-! what a deed turns -/
theorem cell_of {b k : Int} {d d' : PyData} (h : placeAt b k d = placeAt b k d') : cellB b k d = cellB b k d' := by
  unfold cellB sortAt numberAt graphAt
  rw [h]
theorem cell_eqv {b k : Int} {d : PyData} (hG : Good d) (hk : 0 ≤ k ∧ k ≤ 2) : PyData.eqv (cellB b k d) (cellB b k d) = true := by
  have g := (at_good' (b := b) hG hk).2.2.shp.1
  have e := eqv_refl _ g
  unfold cellB
  simp only [PyData.eqv, PyData.eqvAll, e, Bool.and_true, Bool.and_self, decide_true, beq_self_eq_true]
theorem cell_ne {b k : Int} {d d' : PyData} (h : sortAt b k d ≠ sortAt b k d') : PyData.eqv (cellB b k d) (cellB b k d') = false := by
  unfold cellB
  simp [PyData.eqv, PyData.eqvAll, h]
theorem place_set {b k b' k' : Int} {o d : PyData} (h0 : 0 ≤ b ∧ 0 ≤ k) (h1 : 0 ≤ b' ∧ 0 ≤ k') (ne : ¬ (b' = b ∧ k' = k)) : placeAt b' k' (setP b k o d) = placeAt b' k' d := by
  cases d with
  | tuple bs =>
    cases e : bs[b.toNat]? with
    | none => simp only [setP, e]
    | some x =>
      cases x with
      | tuple ps =>
        rw [setP_eq e]
        show (if 0 ≤ b' ∧ b' < ((bs.set b.toNat (.tuple (ps.set k.toNat o))).length : Int) then (match (bs.set b.toNat (.tuple (ps.set k.toNat o)))[b'.toNat]? with
          | some (.tuple ps) => ps[k'.toNat]?
          | _ => none) else none) = (if 0 ≤ b' ∧ b' < (bs.length : Int) then (match bs[b'.toNat]? with
          | some (.tuple ps) => ps[k'.toNat]?
          | _ => none) else none)
        rw [List.length_set]
        by_cases c : b' = b
        · subst c
          have nk : k.toNat ≠ k'.toNat := fun z => ne ⟨rfl, by omega⟩
          have lt := (List.getElem?_eq_some_iff.mp e).1
          rw [List.getElem?_set_self lt, e]
          show (if _ then (ps.set k.toNat o)[k'.toNat]? else none) = (if _ then ps[k'.toNat]? else none)
          rw [List.getElem?_set_ne nk]
        · rw [List.getElem?_set_ne (show b.toNat ≠ b'.toNat by omega)]
      | _ => simp only [setP, e]
  | _ => rfl
theorem turned_at {d d' : PyData} {b k : Int} (hG : Good d) (h0 : 0 ≤ b ∧ 0 ≤ k ∧ k ≤ 2) (h : ∀ b' k' : Int, 0 ≤ b' ∧ 0 ≤ k' → ¬ (b' = b ∧ k' = k) → placeAt b' k' d' = placeAt b' k' d) : ∀ i ∈ turnedL d d', (i : Int) = 3 * b + k := fun i hi => by
  unfold turnedL at hi
  have hi := (List.mem_filter.mp hi).2
  by_cases c : ((i / 3 : Nat) : Int) = b ∧ ((i % 3 : Nat) : Int) = k
  · omega
  · have e := cell_of (h _ _ ⟨Int.natCast_nonneg (i / 3), Int.natCast_nonneg (i % 3)⟩ c)
    unfold cellD at hi
    rw [e, cell_eqv hG (mod3 i)] at hi
    cases hi
theorem place_grown {bs : List PyData} {b k : Int} (hk : 0 ≤ k ∧ k ≤ 2) : placeAt b k (.tuple (bs ++ [.tuple [.int 0, .int 0, .int 0]])) = if b = bs.length then some (.int 0) else placeAt b k (.tuple bs) := by
  show (if 0 ≤ b ∧ b < ((bs ++ [PyData.tuple [.int 0, .int 0, .int 0]]).length : Int) then (match (bs ++ [PyData.tuple [.int 0, .int 0, .int 0]])[b.toNat]? with
    | some (.tuple ps) => ps[k.toNat]?
    | _ => none) else none) = _
  rw [List.length_append]
  by_cases c : b = bs.length
  · subst c
    rw [if_pos rfl, if_pos ⟨by omega, by show _ < ((bs.length + 1 : Nat) : Int); omega⟩, show ((bs.length : Int)).toNat = bs.length by omega, List.getElem?_append_right (Nat.le_refl _), Nat.sub_self]
    show ([PyData.int 0, .int 0, .int 0])[k.toNat]? = _
    have : k = 0 ∨ k = 1 ∨ k = 2 := by omega
    rcases this with rfl | rfl | rfl <;> rfl
  · rw [if_neg c]
    by_cases r : 0 ≤ b ∧ b < bs.length
    · rw [if_pos ⟨r.1, by show b < ((bs.length + 1 : Nat) : Int); omega⟩, List.getElem?_append_left (show b.toNat < bs.length by omega)]
      show _ = (if 0 ≤ b ∧ b < (bs.length : Int) then _ else none)
      rw [if_pos r] <;> rfl
    · rw [if_neg (fun z => r ⟨z.1, by have := z.2; have : b < ((bs.length + 1 : Nat) : Int) := this; omega⟩), place_none r]
theorem sort_there {bs : List PyData} {c : Nat} {b k : Int} (h : gsz 4 (.tuple bs) = some c) (hk : 0 ≤ k ∧ k ≤ 2) : (sortAt b k (.tuple bs) = 3) = ¬ (0 ≤ b ∧ b < bs.length) := by
  by_cases hb : 0 ≤ b ∧ b < bs.length
  · obtain ⟨ps, p, e1, e2, hp, epl⟩ := place_there (b := b) (k := k) h hb hk
    have es : sortAt b k (.tuple bs) = sortD p := by unfold sortAt; rw [epl]
    rw [es]
    have ne : sortD p ≠ 3 := by
      rcases sort_kinds hp with ⟨_, _, e⟩ | ⟨_, _, e⟩ | ⟨_, _, _, _, _, e⟩ <;> rw [e] <;> decide
    exact propext ⟨fun z => absurd z ne, fun z => absurd hb z⟩
  · have es : sortAt b k (.tuple bs) = 3 := by unfold sortAt; rw [place_none hb]
    exact propext ⟨fun _ => hb, fun _ => es⟩
theorem three_at : ∀ n, n < 8 → (List.range 24).filter (fun i => decide (i / 3 = n)) = [3 * n, 3 * n + 1, 3 * n + 2] := by decide
theorem turn_grown {bs : List PyData} {c : Nat} (h : gsz 4 (.tuple bs) = some c) : turnedL (.tuple bs) (grownD (.tuple bs)) = if c < 24 ∧ bs.length < 8 then [3 * bs.length, 3 * bs.length + 1, 3 * bs.length + 2] else [] := by
  have hG : Good (.tuple bs) := ⟨c, h⟩
  rw [grownD_eq h]
  by_cases g : c < 24 ∧ bs.length < 8
  · rw [if_pos g, if_pos g, ← three_at _ g.2]
    unfold turnedL
    refine List.filter_congr fun i _ => ?_
    have hk := mod3 i
    unfold cellD
    by_cases e : i / 3 = bs.length
    · rw [decide_eq_true e]
      have s1 : sortAt ((i / 3 : Nat) : Int) ((i % 3 : Nat) : Int) (.tuple bs) = 3 := by rw [sort_there h hk]; omega
      have s2 : sortAt ((i / 3 : Nat) : Int) ((i % 3 : Nat) : Int) (.tuple (bs ++ [.tuple [.int 0, .int 0, .int 0]])) = 0 := by
        unfold sortAt
        rw [place_grown hk, if_pos (by omega)]
        rfl
      rw [cell_ne (by rw [s1, s2]; decide)]
      rfl
    · rw [decide_eq_false e]
      have p : placeAt ((i / 3 : Nat) : Int) ((i % 3 : Nat) : Int) (.tuple (bs ++ [.tuple [.int 0, .int 0, .int 0]])) = placeAt ((i / 3 : Nat) : Int) ((i % 3 : Nat) : Int) (.tuple bs) := by
        rw [place_grown hk, if_neg (by omega)]
      rw [cell_of p, cell_eqv hG hk]
      rfl
  · rw [if_neg g, if_neg g]
    unfold turnedL
    refine List.filter_eq_nil_iff.mpr fun i _ => ?_
    unfold cellD
    rw [cell_eqv hG (mod3 i)]
    decide
theorem own_at : ∀ n, n ≤ 8 → ((List.range 8).filter (fun i => decide (i < n))).length = n := by decide
/-- how many boxes, by their sorts -/
theorem own_len {bs : List PyData} {c : Nat} (h : gsz 4 (.tuple bs) = some c) : ((List.range 8).filter fun i => !decide (sortAt ((i : Nat) : Int) 0 (.tuple bs) = 3)).length = bs.length := by
  obtain ⟨m, bs', s, _, e, l1, l8, _⟩ := gsz_some h
  cases e
  have e : (List.range 8).filter (fun i => !decide (sortAt ((i : Nat) : Int) 0 (.tuple bs) = 3)) = (List.range 8).filter (fun i => decide (i < bs.length)) := by
    refine List.filter_congr fun i _ => ?_
    have := sort_there (b := (i : Int)) h (k := 0) (by decide)
    by_cases c : i < bs.length
    · rw [decide_eq_true c, decide_eq_false (by rw [this]; omega)]
      rfl
    · rw [decide_eq_false c, decide_eq_true (by rw [this]; omega)]
      rfl
  rw [e]
  exact own_at _ l8
/-! what hangs, told by sizes -/
theorem sumO_no {f : PyData → Option Nat} {x : PyData} (hx : f x = none) : ∀ {l : List PyData} {i : Nat}, i < l.length → sumO f (l.set i x) = none
  | z :: r, 0, _ => by
    cases e : sumO f ((z :: r).set 0 x) with
    | none => rfl
    | some s =>
      obtain ⟨u, v, h1, _⟩ := sumO_cons (show sumO f (x :: r) = some s from e)
      rw [hx] at h1
      cases h1
  | z :: r, i + 1, h => by
    have ih := sumO_no (f := f) hx (l := r) (i := i) (by simpa using h)
    cases e : sumO f ((z :: r).set (i + 1) x) with
    | none => rfl
    | some s =>
      obtain ⟨u, v, _, h2, _⟩ := sumO_cons (show sumO f (z :: r.set i x) = some s from e)
      rw [ih] at h2
      cases h2
theorem tieB_graph (m : Nat) (qs r : List PyData) : tieB m (.tuple (.tuple qs :: r)) = false := by
  cases r with
  | nil => rfl
  | cons a r =>
    cases r with
    | nil =>
      show (PyData.eqv (.tuple qs) (.str "tie") && withinD 0 ((m : Int) - 1) a) = false
      rw [eqv_tup_str]
      rfl
    | cons => rfl
/-- a graph of size co in a place of one of size c: it fits when it is not four deep and not too big -/
theorem gsz_set {bs : List PyData} {c co : Nat} {b k : Int} {o : PyData} (h : gsz 4 (.tuple bs) = some c) (ho : gsz 4 o = some co) (hb : 0 ≤ b ∧ b < bs.length) (hk : 0 ≤ k ∧ k ≤ 2) :
    ∃ was, (sortAt b k (.tuple bs) = 2 → gsz 4 (graphAt b k (.tuple bs)) = some was) ∧ (sortAt b k (.tuple bs) ≠ 2 → was = 0) ∧ was ≤ c ∧
      gsz 4 (setP b k o (.tuple bs)) = if deepN 4 o = 4 ∨ 24 < c - was + co then none else some (c - was + co) := by
  obtain ⟨m, bs', s, e0, e1, l1, l8, hs, rfl, h24⟩ := gsz_some h
  cases e0
  cases e1
  obtain ⟨ps, p, e1, e2, hp, epl⟩ := place_there (b := b) (k := k) h hb hk
  obtain ⟨u, hu⟩ := sumO_mem hs (List.mem_of_getElem? e1)
  obtain ⟨x, y, z, e3, hx⟩ := boxN_some hu
  cases e3
  have es : sortAt b k (.tuple bs) = sortD p := by unfold sortAt; rw [epl]
  have eg : graphAt b k (.tuple bs) = if sortD p = 2 then p else bareD := by unfold graphAt; rw [epl]
  obtain ⟨was, hw⟩ := sumO_mem hx (List.mem_of_getElem? e2)
  have kw : (sortD p = 2 → gsz 4 p = some was) ∧ (sortD p ≠ 2 → was = 0) := by
    rcases sort_kinds hp with ⟨i, rfl, e⟩ | ⟨j, rfl, e⟩ | ⟨qs, r, kk, rfl, hg, e⟩
    · refine ⟨fun z => (by rw [e] at z; cases z), fun _ => ?_⟩
      cases hp with
      | num a1 a2 =>
        have n1 : numD (.int i) = true := by show (decide (-9999 ≤ i) && decide (i ≤ 9999)) = true; rw [decide_eq_true a1, decide_eq_true a2]; rfl
        unfold placeN at hw
        rw [if_pos n1] at hw
        exact (Option.some.inj hw).symm
    · refine ⟨fun z => (by rw [e] at z; cases z), fun _ => ?_⟩
      cases q1 : numD (PyData.tuple [.str "tie", .int j]) with
      | true => cases q1
      | false =>
        unfold placeN at hw
        rw [if_neg (by rw [q1]; decide)] at hw
        cases q2 : tieB bs.length (PyData.tuple [.str "tie", .int j]) with
        | true =>
          rw [if_pos q2] at hw
          exact (Option.some.inj hw).symm
        | false =>
          rw [if_neg (by rw [q2]; decide)] at hw
          obtain ⟨_, _, _, _, e9, _, _, h9, _⟩ := gsz_some hw
          cases e9
          obtain ⟨_, h9⟩ := sumO_mem h9 (x := .str "tie") (by simp)
          obtain ⟨_, _, _, z, _⟩ := boxN_some h9
          cases z
    · refine ⟨fun _ => ?_, fun z => absurd e z⟩
      have q1 : numD (PyData.tuple (.tuple qs :: r)) = false := rfl
      have q2 := tieB_graph bs.length qs r
      unfold placeN at hw
      rw [if_neg (by rw [q1]; decide), if_neg (by rw [q2]; decide)] at hw
      exact gsz_succ _ _ _ hw
  obtain ⟨_, obs, _, _, eo, _, _, ho9, _, co24⟩ := gsz_some ho
  subst eo
  have place_o : placeN (gsz 3) bs.length (.tuple obs) = gsz 3 (.tuple obs) := by
    obtain ⟨q, r, e⟩ : ∃ q r, obs = q :: r := by
      cases obs with
      | nil => obtain ⟨_, _, _, _, e, l, _⟩ := gsz_some ho; cases e; simp at l
      | cons q r => exact ⟨q, r, rfl⟩
    subst e
    obtain ⟨_, hq⟩ := sumO_mem ho9 (x := q) List.mem_cons_self
    obtain ⟨_, _, _, rfl, _⟩ := boxN_some hq
    unfold placeN
    rw [if_neg (show ¬ numD (PyData.tuple _) = true from fun z => by cases z), if_neg (by rw [tieB_graph]; decide)]
  have hwo := gsz_wsz _ _ _ ho
  have hd := deep_le 4 4 _ _ hwo
  have deep : deepN 4 (.tuple obs) = 4 ↔ gsz 3 (.tuple obs) = none := by
    constructor
    · intro d4
      cases e : gsz 3 (.tuple obs) with
      | none => rfl
      | some v =>
        have := deep_le 4 3 _ _ (gsz_wsz _ _ _ e)
        omega
    · intro n
      by_cases d3 : deepN 4 (.tuple obs) ≤ 3
      · have := wsz_gsz _ _ _ (deep_ok 4 _ _ hwo 3 d3) co24
        rw [n] at this
        cases this
      · omega
  have hws : was ≤ s := by
    obtain ⟨c1, s1, f1, f2, f3⟩ := sumO_set (f := placeN (gsz 3) bs.length) (x := .int 0) (a := 0) rfl hx e2
    have : c1 = was := Option.some.inj (f1.symm.trans hw)
    have q1 : boxN (placeN (gsz 3) bs.length) (.tuple ([x, y, z].set k.toNat (.int 0))) = some s1 := by
      show (if ([x, y, z].set k.toNat (PyData.int 0)).length = 3 then _ else none) = some s1
      rw [if_pos (by rw [List.length_set]; rfl)]
      exact f2
    obtain ⟨c2, s2, g1, g2, g3⟩ := sumO_set q1 hs e1
    have : c2 = u := Option.some.inj (g1.symm.trans hu)
    omega
  refine ⟨was, fun z => ?_, fun z => kw.2 (by rw [← es]; exact z), ?_, ?_⟩
  · rw [es] at z
    rw [eg, if_pos z]
    exact kw.1 z
  · omega
  · rw [setP_eq e1]
    have ll : (bs.set b.toNat (.tuple ([x, y, z].set k.toNat (.tuple obs)))).length = bs.length := List.length_set
    have lt : b.toNat < bs.length := by omega
    have fit : gsz 4 (.tuple (bs.set b.toNat (.tuple ([x, y, z].set k.toNat (.tuple obs))))) = fitN bs.length (sumO (boxN (placeN (gsz 3) bs.length)) (bs.set b.toNat (.tuple ([x, y, z].set k.toNat (.tuple obs))))) := by
      show gszT (gsz 3) _ = _
      unfold gszT
      rw [ll, if_pos ⟨l1, l8⟩]
    rw [fit]
    cases e9 : gsz 3 (.tuple obs) with
    | none =>
      rw [if_pos (.inl (deep.mpr e9))]
      have n1 : boxN (placeN (gsz 3) bs.length) (.tuple ([x, y, z].set k.toNat (.tuple obs))) = none := by
        show (if ([x, y, z].set k.toNat (PyData.tuple obs)).length = 3 then sumO (placeN (gsz 3) bs.length) ([x, y, z].set k.toNat (PyData.tuple obs)) else none) = none
        rw [sumO_no (by rw [place_o]; exact e9) (by show k.toNat < 3; omega)]
        split <;> rfl
      rw [sumO_no n1 lt]
      rfl
    | some v =>
      have ev : v = co := Option.some.inj ((gsz_succ _ _ _ e9).symm.trans ho)
      subst ev
      obtain ⟨c1, s1, f1, f2, f3⟩ := sumO_set (f := placeN (gsz 3) bs.length) (by rw [place_o]; exact e9) hx e2
      have : c1 = was := Option.some.inj (f1.symm.trans hw)
      have q1 : boxN (placeN (gsz 3) bs.length) (.tuple ([x, y, z].set k.toNat (.tuple obs))) = some s1 := by
        show (if ([x, y, z].set k.toNat (PyData.tuple obs)).length = 3 then _ else none) = some s1
        rw [if_pos (by rw [List.length_set]; rfl)]
        exact f2
      obtain ⟨c2, s2, g1, g2, g3⟩ := sumO_set q1 hs e1
      have : c2 = u := Option.some.inj (g1.symm.trans hu)
      rw [g2]
      have nd : deepN 4 (.tuple obs) ≠ 4 := fun z => by rw [deep.mp z] at e9; cases e9
      show (if bs.length + s2 ≤ 24 then some (bs.length + s2) else none) = _
      have es2 : bs.length + s - was + v = bs.length + s2 := by omega
      rw [es2]
      by_cases le : bs.length + s2 ≤ 24
      · rw [if_pos le, if_neg (show ¬ (deepN 4 (.tuple obs) = 4 ∨ 24 < bs.length + s2) from fun z => z.elim nd fun q => by omega)]
      · rw [if_neg le, if_pos (show deepN 4 (.tuple obs) = 4 ∨ 24 < bs.length + s2 from .inr (by omega))]
theorem place_self {bs ps : List PyData} {p o : PyData} {b k : Int} (hb : 0 ≤ b ∧ b < bs.length) (e1 : bs[b.toNat]? = some (.tuple ps)) (e2 : ps[k.toNat]? = some p) : placeAt b k (setP b k o (.tuple bs)) = some o := by
  rw [setP_eq e1]
  have l1 := (List.getElem?_eq_some_iff.mp e1).1
  have l2 := (List.getElem?_eq_some_iff.mp e2).1
  show (if 0 ≤ b ∧ b < ((bs.set b.toNat (.tuple (ps.set k.toNat o))).length : Int) then (match (bs.set b.toNat (.tuple (ps.set k.toNat o)))[b.toNat]? with
          | some (.tuple ps) => ps[k.toNat]?
          | _ => none) else none) = _
  rw [List.length_set, if_pos hb, List.getElem?_set_self l1]
  show (ps.set k.toNat o)[k.toNat]? = _
  rw [List.getElem?_set_self l2]
theorem sort_graph {o : PyData} {n c : Nat} (h : gsz n o = some c) : sortD o = 2 := by
  cases n with
  | zero => cases h
  | succ n =>
    obtain ⟨_, bs, _, _, rfl, l1, _, hs, _⟩ := gsz_some h
    cases bs with
    | nil => simp at l1
    | cons q r =>
      obtain ⟨_, hq⟩ := sumO_mem hs (x := q) List.mem_cons_self
      obtain ⟨p1, p2, p3, rfl, _⟩ := boxN_some hq
      show (if PyData.eqv (.tuple [p1, p2, p3]) (.str "tie") = true then (1 : Int) else 2) = 2
      rw [eqv_tup_str, if_neg (by decide)]
/-- what hangs, or doesn't -/
theorem hung_case {bs : List PyData} {c co : Nat} {b k : Int} {o : PyData} (h : gsz 4 (.tuple bs) = some c) (ho : gsz 4 o = some co) (hb : 0 ≤ b ∧ b < bs.length) (hk : 0 ≤ k ∧ k ≤ 2) :
    ∃ was, (sortAt b k (.tuple bs) = 2 → gsz 4 (graphAt b k (.tuple bs)) = some was) ∧ (sortAt b k (.tuple bs) ≠ 2 → was = 0) ∧ was ≤ c ∧
      ((deepN 4 o = 4 ∨ 24 < c - was + co) → hungD b k o (.tuple bs) = .tuple bs) ∧
      (¬ (deepN 4 o = 4 ∨ 24 < c - was + co) → gsz 4 (hungD b k o (.tuple bs)) = some (c - was + co) ∧ sortAt b k (hungD b k o (.tuple bs)) = 2 ∧ graphAt b k (hungD b k o (.tuple bs)) = o) := by
  obtain ⟨was, w1, w2, w3, w4⟩ := gsz_set h ho hb hk
  obtain ⟨ps, p, e1, e2, _⟩ := place_there (b := b) (k := k) h hb hk
  have hB : hasB b (.tuple bs) = true := hasB_iff.mpr hb
  refine ⟨was, w1, w2, w3, fun z => ?_, fun z => ?_⟩
  · rw [if_pos z] at w4
    unfold hungD
    rw [if_pos hB, w4]
    rfl
  · rw [if_neg z] at w4
    have e : hungD b k o (.tuple bs) = setP b k o (.tuple bs) := by
      unfold hungD
      rw [if_pos hB, if_pos (by rw [w4]; rfl)]
    have pl := place_self (o := o) hb e1 e2
    have so := sort_graph ho
    rw [e]
    refine ⟨w4, ?_, ?_⟩
    · unfold sortAt
      rw [pl]
      exact so
    · unfold graphAt
      rw [pl]
      show (if sortD o = 2 then o else bareD) = o
      rw [if_pos so]
section
open PyProof.Rows
theorem ps_par2c {X : Cx} {i j : Nat} {x y : Str} {a b : Expr} {ta : TA} {px py pt pos : Pos} {kt k2 pt2} (hc : X.calm = true) (hN : X.N.Nodup) (hi : X.N[i]? = some x) (hj : X.N[j]? = some y)
    (hx : Loc X.env.scope x) (hy : Loc X.env.scope y) (fx : X.fn x = true ∨ X.env.scope.names.lookup x = some .local) (fy : X.fn y = true ∨ X.env.scope.names.lookup y = some .local) (ha : PA X [a, b] ta)
    (hw : swappedStores [.Tuple [.Name x px, .Name y py] kt pt] (.Tuple [a, b] k2 pt2) X.env = pure none)
    (hs : swapsWithSole [.Tuple [.Name x px, .Name y py] kt pt] (.Tuple [a, b] k2 pt2) pos.line X.env = pure false := by rfl) :
    PS X (.Assign [.Tuple [.Name x px, .Name y py] kt pt] (.Tuple [a, b] k2 pt2) pos) (tPar i j ta) := by
  refine ⟨fun pins s σ H D I h => ?_⟩
  refine Assign_Tuple (Tuple_ (thn (ha.run _ pins s σ H _ I h) fun us s1 ⟨vs, H1, I1, r1, q1⟩ => ?_)) hs hw
  obtain ⟨v1, v2, e1, q1⟩ := q1
  subst e1
  obtain ⟨u1, u2, rfl, r1', r2'⟩ : ∃ u1 u2, us = [u1, u2] ∧ RelV v1 u1 ∧ RelV v2 u2 := by
    cases r1 with
    | cons p q =>
      cases q with
      | cons p' q' =>
        cases q'
        exact ⟨_, _, rfl, p, p'⟩
  refine wpAny_newObj_type ?_ (by show 2 ≤ sizeLine; decide)
  have I2 : Inv X pins σ H1 { s1 with heap := s1.heap.push { cls := .type "tuple", data := .seq [u1, u2].toArray } } := I1.kept (t' := s1.toks) fun b o e => Heap.get?_push_of_some _ e
  refine assign_Tuple_tuple (items := #[u1, u2]) (I.ok.hd hc) (IsTup.new s1.heap _) rfl rfl fun h' hx' => ?_
  have I3 := I2.kept (h' := h') (t' := s1.toks) fun b o e => hx' b o (Nat.ne_of_lt (Heap.lt_size e)) e
  show wpAny _ _ (assignInOrder [assign (.Name x px) X.env, assign (.Name y py) X.env] [u1, u2]) _ _ _
  refine assignInOrder_cons (assign_Name (store_ok I3 hN hi hx r1' (fun s2 I4 => ?_) fx))
  refine assignInOrder_cons (assign_Name (store_ok I4 hN hj hy r2' (fun s3 I5 => assignInOrder_nil ?_) fy))
  exact ⟨_, H1, I5, q1⟩
end
section
open PySem.Spec PyProof.Rows
variable {X : Cx}
def rNeLE (K : PySem.W.Frag) : R2 := fun x y H Q => ∃ a b xs, x = .ref a ∧ y = .ref b ∧ SqL K H a xs ∧ SqL K H b [] ∧ Q (.bl (!xs.isEmpty)) H
theorem op_neLE (hu : X.A.units + 64 < cLine) : OpR X (compareOp .NotEq) (rNeLE X.K) := by
  intro pins s σ H x y v u Q I rx ry h
  obtain ⟨a, b, xs, rfl, rfl, ha, hb, q⟩ := h
  cases rx
  cases ry
  obtain ⟨its, r1, ⟨o1, n1, g1, c1, _, d1⟩, _⟩ := I.list ha
  obtain ⟨its2, r2, ⟨o2, n2, g2, c2, _, d2⟩, _⟩ := I.list hb
  cases r2
  cases xs with
  | nil =>
    cases r1
    exact SeqAt.RcNeAt.lists (e := fun _ => true) ⟨o1, g1, c1, n1, d1⟩ ⟨o2, g2, c2, n2, d2⟩ rfl (by omega) (fun j _ h2 => absurd h2 (by simp)) X.prog X.w _ _ ⟨.bl false, H, I, rfl, q⟩
  | cons z zs =>
    cases r1 with
    | cons _ _ => exact SeqAt.RcNeAt.lists_lengths ⟨o1, g1, c1, n1, d1⟩ ⟨o2, g2, c2, n2, d2⟩ (by simp) (by omega) X.prog X.w _ _ ⟨.bl true, H, I, rfl, q⟩
end
theorem pe_imp {X : Cx} {e : Expr} {t t' : TE} (h : PE X e t) (w : ∀ σ H Q, t' σ H Q → t σ H Q) : PE X e t' := ⟨fun pins s σ H Q I q => h.run pins s σ H Q I (w _ _ _ q)⟩
theorem pss_imp {X : Cx} {sts : List Stmt} {t t' : TS} (h : PSs X sts t) (w : ∀ D σ H, t' D σ H → t D σ H) : PSs X sts t' := ⟨fun pins s σ H D I q => h.run pins s σ H D I (w _ _ _ q)⟩
section
variable {P : Program} {w : World} {K : PySem.W.Frag} {mg : Str → Option Value} {base : Heap} {f : Addr} {fd : FuncData}
def spBoxesIn (K : PySem.W.Frag) : Sp := fun vs H Q _ => ∃ (x : V) (d : PyData) (c : Nat), vs = [x] ∧ Dp K H x d ∧ gsz 4 d = some c ∧ Q (.int c) H
theorem scBoxesIn : FnScope ["graph"] ["graph"] (defScope sBoxesIn) := ⟨rfl, rfl, rfl, by decide +kernel, rfl, by decide +kernel, by decide +kernel⟩
theorem ok_boxesIn {k : Nat} (F : Fun K "boxes_in" "boxes_in" sBoxesIn f fd) (C : Cst mg) (cG : Cal P w K mg base "check_graph" k ["graph"] (spCheckG K)) (cS : Cal P w K mg base "graph_size" k ["thing", "deep"] (spGsz K 4)) : FnOk P w K mg base CX0 (k + 1) f fd ["graph"] (spBoxesIn K) := by
  refine F.ok scBoxesIn (fun vs H Q E h => ?_) (fun cdv A outer s H vs Q E hr h => ?_)
  · obtain ⟨x, d, c, rfl, _⟩ := h
    rfl
  obtain ⟨x, d, c, rfl, hx, hg, q⟩ := h
  have hsh := Good.sh ⟨c, hg⟩
  refine ⟨_, pss_cons (ps_expr (pe_cal cG hr rfl (pa_cons (pv 0) pa_nil))) (pss_one (ps_ret (pe_cal cS hr rfl (pa_cons (pv 0) (pa_cons (pe_globI rfl C.mostDeep) pa_nil))))), ?_⟩
  refine ⟨_, rfl, x, d, c, rfl, hx, hsh, hg, _, rfl, x, d, rfl, hx, hsh, ?_⟩
  rw [hg]
  exact q
end
section
variable {P : Program} {w : World} {K : PySem.W.Frag} {mg : Str → Option Value} {base : Heap} {f : Addr} {fd : FuncData}
/-- all stays but the state's list and the told ones -/
def K2 (st L : Addr) (H H' : Hp) : Prop := ∀ b u, b ≠ st → b ≠ L → H b = some u → H' b = some u
theorem K2.trans {st L : Addr} {H H1 H2 : Hp} (a : K2 st L H H1) (b : K2 st L H1 H2) : K2 st L H H2 := fun c u n m h => b c u n m (a c u n m h)
theorem K2.of_same {st L : Addr} {H H' : Hp} (a : Same H H') : K2 st L H H' := fun c u _ _ h => a c u h
theorem K2.of_kp {st L : Addr} {H H' : Hp} (a : Kp st H H') : K2 st L H H' := fun c u n _ h => a c u n h
theorem K2.upd {st L : Addr} {H : Hp} {o : HO} : K2 st L H (upd H L o) := fun c u _ m h => by rw [upd_ne m]; exact h
theorem K2.kt {st L : Addr} {H H' : Hp} (k : K2 st L H H') (sa : StAt H st) {l : List V} (hL : H L = some (.lst l)) : KT H H' := fun b u h n => k b u (fun e => by
  obtain ⟨l, hl⟩ := sa.some
  rw [e, hl] at h
  exact n l (Option.some.inj h).symm) (fun e => by
  rw [e, hL] at h
  exact n l (Option.some.inj h).symm) h
/-- what stands while a deed is done -/
structure B24 (K : PySem.W.Frag) (st L : Addr) (x y : V) (d o : PyData) (H H3 : Hp) (ap : Addr) (qs : List Addr) (ls : List V) (G : Hp) : Prop where
  k2 : K2 st L H G
  sa : StAt G st
  hL : G L = some (.lst ls)
  x : Dp K G x d
  y : Dp K G y o
  seen : SeenAt K H3 G ap qs d
theorem B24.same {st L : Addr} {x y : V} {d o : PyData} {H H3 G G' : Hp} {ap : Addr} {qs : List Addr} {ls : List V} (B : B24 K st L x y d o H H3 ap qs ls G) (hG : Good d) (hO : Good o) (s : Same G G') : B24 K st L x y d o H H3 ap qs ls G' :=
  ⟨B.k2.trans (.of_same s), B.sa.same s, s _ _ B.hL, dp_kt (KT.of_same s) _ _ hG.shp.1 B.x, dp_kt (KT.of_same s) _ _ hO.shp.1 B.y, B.seen.go hG (KT.of_same s) fun _ _ _ h => s _ _ h⟩
theorem B24.mv {st L : Addr} {x y : V} {d o : PyData} {H H3 G G' : Hp} {ap : Addr} {qs : List Addr} {ls : List V} (B : B24 K st L x y d o H H3 ap qs ls G) (hG : Good d) (hO : Good o) (nL : L ≠ st) (h3 : H3 st ≠ none) (m : Mv st G G') : B24 K st L x y d o H H3 ap qs ls G' :=
  have kt := m.kp.kt B.sa
  ⟨B.k2.trans (.of_kp m.kp), m.sa, m.kp _ _ nL B.hL, dp_kt kt _ _ hG.shp.1 B.x, dp_kt kt _ _ hO.shp.1 B.y, B.seen.go hG kt fun b _ n h => m.kp b _ (fun z => h3 (by rw [← z]; exact n)) h⟩
theorem B24.app {st L : Addr} {x y v : V} {d o : PyData} {H H3 G : Hp} {ap : Addr} {qs : List Addr} {ls : List V} (B : B24 K st L x y d o H H3 ap qs ls G) (hG : Good d) (hO : Good o) (nL : L ≠ st) (h3 : H3 L ≠ none) : B24 K st L x y d o H H3 ap qs (ls ++ [v]) (upd G L (.lst (ls ++ [v]))) :=
  have kt := KT.upd (l' := ls ++ [v]) B.hL
  ⟨B.k2.trans .upd, B.sa.upd nL, upd_same, dp_kt kt _ _ hG.shp.1 B.x, dp_kt kt _ _ hO.shp.1 B.y, B.seen.go hG kt fun b _ n h => by rw [upd_ne (fun z => h3 (by rw [← z]; exact n))]; exact h⟩
theorem at_end {ls : List V} {v : V} : atI (ls ++ [v]) (-1) = some v := L2.atI_last ls v
theorem dp_intl {H : Hp} {a : Addr} : ∀ {ns : List Int}, SqL K H a (ns.map V.int) → Dp K H (.ref a) (.list (ns.map .int)) := fun {ns} h => by
  refine .lst h ?_
  clear h
  induction ns with
  | nil => exact .nil
  | cons n r ih => exact .cons (.int _) ih
theorem intl_ok (ns : List Int) : SeqAt.shaped (.list (ns.map .int)) = true ∧ PyData.eqv (.list (ns.map .int)) (.list (ns.map .int)) = true := by
  have hl : ∀ z ∈ ns.map PyData.int, Shp 9 z := fun z hz => by
    obtain ⟨n, _, rfl⟩ := List.mem_map.mp hz
    exact shp_int _ _
  constructor
  · have h1 : (PyData.list (ns.map .int)).canLay0 = true := by
      simp only [PyData.canLay0]
      exact lay_all fun z hz => (hl z hz).2.1
    have h2 : (PyData.list (ns.map .int)).depth ≤ 64 := by
      have := depth_all fun z hz => (hl z hz).2.2
      simp only [PyData.depth]
      omega
    show ((PyData.list (ns.map .int)).canLay0 && decide ((PyData.list (ns.map .int)).depth ≤ 64)) = true
    rw [h1, Bool.true_and]
    exact decide_eq_true h2
  · have t : tupOnlyAll (ns.map PyData.int) = true := by
      induction ns with
      | nil => rfl
      | cons n r ih =>
        show (true && tupOnlyAll (r.map PyData.int)) = true
        rw [ih fun z hz => hl z (List.mem_cons_of_mem _ hz)]
        rfl
    have e := eqvAll_refl _ t
    simp only [PyData.eqv]
    exact e
theorem eqvAll_len : ∀ {xs ys : List PyData}, PyData.eqvAll xs ys = true → xs.length = ys.length
  | [], [], _ => rfl
  | [], _ :: _, h => by simp [PyData.eqvAll] at h
  | _ :: _, [], h => by simp [PyData.eqvAll] at h
  | x :: xs, y :: ys, h => by
    simp only [PyData.eqvAll, Bool.and_eq_true] at h
    rw [List.length_cons, List.length_cons, eqvAll_len h.2]
theorem grown_eqv {bs : List PyData} {c : Nat} (h : gsz 4 (.tuple bs) = some c) : PyData.eqv (grownD (.tuple bs)) (.tuple bs) = !decide (c < 24 ∧ bs.length < 8) := by
  rw [grownD_eq h]
  by_cases g : c < 24 ∧ bs.length < 8
  · rw [if_pos g, decide_eq_true g]
    cases e : PyData.eqv (.tuple (bs ++ [.tuple [.int 0, .int 0, .int 0]])) (.tuple bs) with
    | false => rfl
    | true =>
      have e : PyData.eqvAll (bs ++ [.tuple [.int 0, .int 0, .int 0]]) bs = true := by simpa only [PyData.eqv] using e
      have := eqvAll_len e
      rw [List.length_append] at this
      exact absurd this (by show bs.length + 1 ≠ bs.length; omega)
  · rw [if_neg g, decide_eq_false g]
    exact eqv_refl _ (Good.shp ⟨c, h⟩).1
theorem grown_size {bs : List PyData} {c : Nat} (h : gsz 4 (.tuple bs) = some c) : gsz 4 (grownD (.tuple bs)) = some (c + if c < 24 ∧ bs.length < 8 then 1 else 0) := by
  rw [grownD_eq h]
  by_cases g : c < 24 ∧ bs.length < 8
  · rw [if_pos g, if_pos g]
    exact grown_good h g.1 g.2
  · rw [if_neg g, if_neg g]
    exact h
/-- one more box, or none -/
def tMore (K : PySem.W.Frag) : TE := fun σ H Q => ∃ (n c : Nat) (x : V) (d : PyData), σ[8]? = some (some (.int n)) ∧ σ[1]? = some (some x) ∧ Dp K H x d ∧ gsz 4 d = some c ∧ Q (.int (if c < 24 ∧ n < 8 then 1 else 0)) H
theorem more_to {σ : L2.St} {H : Hp} {Q : VK} (h : tMore K σ H Q) : (tCB (fun xs H Q => (∃ i, xs = [V.int i] ∧ Q (.int i) H) ∨ ∃ k, xs = [V.bl k] ∧ Q (.int (if k then 1 else 0)) H) (tCons (tAndV (tOp (rI0 fun i j => .bl (decide (i < j))) (tVar 8) (tC (.int 8))) (tOp (rI0 fun i j => .bl (decide (i < j))) (tCall (spBoxesIn K) [] E0 (tCons (tVar 1) tNil)) (tC (.int 24)))) tNil)) σ H Q := by
  obtain ⟨n, c, x, d, h8, h1, hd, hg, q⟩ := h
  refine ⟨_, h8, _, _, rfl, rfl, _, rfl, ?_⟩
  by_cases g8 : n < 8
  · rw [if_pos (decide_eq_true (show (n : Int) < 8 by omega))]
    refine ⟨_, h1, x, d, c, rfl, hd, hg, _, _, rfl, rfl, .inr ⟨_, rfl, ?_⟩⟩
    by_cases g24 : c < 24
    · rw [if_pos ⟨g24, g8⟩] at q
      rw [if_pos (decide_eq_true (show (c : Int) < 24 by omega))]
      exact q
    · rw [if_neg (fun z => g24 z.1)] at q
      rw [if_neg (by rw [decide_eq_false (show ¬ (c : Int) < 24 by omega)]; decide)]
      exact q
  · rw [if_neg (fun z => g8 z.2)] at q
    rw [if_neg (by rw [decide_eq_false (show ¬ (n : Int) < 8 by omega)]; decide)]
    exact .inr ⟨false, rfl, q⟩
/-- how many boxes hang there already -/
theorem seqAsg {te : TE} {g : TG} {t : L2.TS} {D : Ends} {σ : L2.St} {H : Hp} (h : te σ H fun x H1 => g x σ H1 fun σ' H' => t D σ' H') : tSeq (tAsg te g) t D σ H := h
theorem was_to {σ : L2.St} {G : Hp} {Q : VK} {x : V} {d : PyData} {b kk : Int} {was : Nat} (h1 : σ[1]? = some (some x)) (h4 : σ[4]? = some (some (.int b))) (h5 : σ[5]? = some (some (.int kk))) (gg : GoodG K G x d) (hk : 0 ≤ kk ∧ kk ≤ 2)
    (w1 : sortAt b kk d = 2 → gsz 4 (graphAt b kk d) = some was) (w2 : sortAt b kk d ≠ 2 → was = 0) (q : Q (.int was) G) :
    tIf (tTest (tOp rEq (tCall (spSortAt K) [] E0 (tCons (tVar 1) (tCons (tVar 4) (tCons (tVar 5) tNil)))) (tC (.int 2)))) (tCall (spBoxesIn K) [] E0 (tCons (tCall (spGraphAt K) [] E0 (tCons (tVar 1) (tCons (tVar 4) (tCons (tVar 5) tNil)))) tNil)) (tC (.int 0)) σ G Q := by
  refine ⟨_, h1, _, h4, _, h5, x, d, b, kk, rfl, gg, hk.1, hk.2, rfl, _, rfl, ?_⟩
  by_cases c : sortAt b kk d = 2
  · refine ifT (decide_eq_true (congrArg V.int c)) ⟨_, h1, _, h4, _, h5, x, d, b, kk, rfl, gg, hk.1, hk.2, fun v hv => ⟨v, _, was, rfl, hv, w1 c, q⟩⟩
  · refine ifF (decide_eq_false fun z => c (V.int.inj z)) ?_
    rw [w2 c] at q
    exact q
abbrev ND : List Str := ["_law_state_here", "_law_graph_here", "_law_other_own", "_law_later", "_law_b", "_law_k", "_law_way", "_law_ahead", "_law_own", "_law_spot", "_law_more", "_law_new", "_law_at", "_law_was"]
theorem scDeed : FnScope ND ["_law_state_here", "_law_graph_here", "_law_other_own", "_law_later"] (defScope sDeed) := ⟨rfl, rfl, rfl, by decide +kernel, rfl, by decide +kernel, by decide +kernel⟩
def spDeedR (K : PySem.W.Frag) : Sp := fun vs H Q _ => ∃ (st L : Addr) (x y : V) (d o : PyData) (ls : List V), vs = [.ref st, x, y, .ref L] ∧ StAt H st ∧ L ≠ st ∧ H L = some (.lst ls) ∧ ls.length ≤ 30 ∧ Dp K H x d ∧ Good d ∧ Dp K H y o ∧ Good o ∧
  ∀ v e H', K2 st L H H' → StAt H' st → H' L = some (.lst (ls ++ [v])) → Dp K H' v e → Good e → Q (.bl true) H'
structure Deed24 (P : Program) (w : World) (K : PySem.W.Frag) (mg : Str → Option Value) (base : Heap) (k : Nat) : Prop where
  cC : Cal P w K mg base "_law_choice" k ["_law_state_here", "_law_many"] spChoice
  cSe : Cal P w K mg base "_law_seen" k ["_law_graph_here", "_law_many"] (spSeen K)
  cTu : Cal P w K mg base "_law_turned" k ["_law_one", "_law_other_own"] (spTurned K)
  gr : Cal P w K mg base "grown" k ["graph"] (spGrown K)
  n3 : CalG P w K mg base "with_number" k ["graph", "b", "k", "number"] 3 ["number"] (fun us ws => us ++ ws) (fun vs zs => vs ++ zs) (spWithN K)
  t3 : CalG P w K mg base "with_tie" k ["graph", "b", "k", "to"] 3 ["to"] (fun us ws => us ++ ws) (fun vs zs => vs ++ zs) (spWithT K)
  g3 : CalG P w K mg base "with_graph" k ["graph", "b", "k", "other"] 3 ["other"] (fun us ws => us ++ ws) (fun vs zs => vs ++ zs) (spWithG K)
  cB : Cal P w K mg base "boxes_in" k ["graph"] (spBoxesIn K)
  cSo : Cal P w K mg base "sort_at" k ["graph", "b", "k"] (spSortAt K)
  cGr : Cal P w K mg base "graph_at" k ["graph", "b", "k"] (spGraphAt K)
  cD : Cal P w K mg base "depth_of" k ["graph"] (spDepth K 4)
/-- behind the deed of another way -/
def tD24 (K : PySem.W.Frag) : TS := fun D σ G => ∃ (st L ap : Addr) (x y r : V) (d o e : PyData) (b k wy : Int) (H H3 : Hp) (qs : List Addr) (ls : List V) (o8 o9 o10 o11 o12 o13 : Option V), σ = [some (.ref st), some x, some y, some (.ref L), some (.int b), some (.int k), some (.int wy), some (.ref ap), o8, o9, o10, o11, o12, o13] ∧
  B24 K st L x y d o H H3 ap qs (ls ++ [r]) G ∧ Good d ∧ Good o ∧ Good e ∧ Dp K G r e ∧ (0 ≤ b ∧ b < 8) ∧ (0 ≤ k ∧ k ≤ 2) ∧ (∀ b' k' : Int, 0 ≤ b' ∧ 0 ≤ k' → ¬ (b' = b ∧ k' = k) → placeAt b' k' e = placeAt b' k' d) ∧ (wy < 3 ∨ (wy = 3 ∧ e = hungD b k o d)) ∧
  ∀ G', B24 K st L x y d o H H3 ap qs (ls ++ [r]) G' → Dp K G' r e → D.rt (.bl true) G'
theorem ok_deed {k : Nat} (F : Fun K "_law_deed_right" "_law_deed_right" sDeed f fd) (T : Free mg) (L : Deed24 P w K mg base k) : FnOk P w K mg base CX0 (k + 1) f fd ["_law_state_here", "_law_graph_here", "_law_other_own", "_law_later"] (spDeedR K) := by
  refine F.ok scDeed (fun vs H Q E h => ?_) (fun cdv A outer s H vs Q E hr h => ?_)
  · obtain ⟨st, L, x, y, d, o, ls, rfl, _⟩ := h
    rfl
  refine ⟨_, pss_cons (ps_par2c (i := 4) (j := 5) rfl scDeed.nd rfl rfl (.inr rfl) (.inr rfl) (.inl rfl) (.inl rfl) (pa_cons (pe_cal L.cC hr rfl (pa_cons (pv 0) (pa_cons pe_int pa_nil))) (pa_cons (pe_cal L.cC hr rfl (pa_cons (pv 0) (pa_cons pe_int pa_nil))) pa_nil)) (by kernel_rfl))
    (pss_cons (ps_par2c (i := 6) (j := 7) rfl scDeed.nd rfl rfl (.inl rfl) (.inr rfl) (.inr rfl) (.inl rfl) (pa_cons (pe_cal L.cC hr rfl (pa_cons (pv 0) (pa_cons pe_int pa_nil))) (pa_cons (pe_cal L.cSe hr rfl (pa_cons (pv 1) (pa_cons pe_int pa_nil))) pa_nil)) (by kernel_rfl))
    (pss_cons (ps_if (pt_cmpR op_eq (pv 6) pe_int (nomark _))
      (pss_cons (ps_expr (pe_bm PySem.F.plainAttrs_list PySem.F.slot_list_append PySem.F.type_list_append mt_append (pv 3) (pa_cons (pe_cal L.gr hr rfl (pa_cons (pv 1) pa_nil)) pa_nil)))
      (pss_cons (ps_set (i := 8) scDeed.nd rfl (.inl rfl) (pe_callB call_len_seq rfl T.len PySem.boot_len (pa_cons (pe_lc (own := [("_law_spot", 9)]) (g := gName 9) (tt := tTest (tOp rNe (tOp (rIxL K) (tOp (rIxL K) (tVar 7) (tOp (rI CMul fun i j => .int (i * j)) (tC (.int 3)) (tVar 9))) (tC (.int 0))) (tC (.int 3)))) (te := tVar 9) rfl scDeed.nd (pi_range1 rfl T.range (pa_cons pe_int pa_nil))
          (blkOk_by (own := [("_law_spot", 9)]) (N := ND) (sc := defScope sDeed) (by decide +kernel)) (fun _ _ _ _ _ => pg_name (i := 9) scDeed.nd rfl (Or.inl rfl)) (fun _ _ _ _ _ => pts_one (pt_cmpR op_ne (pe_ix ix_list (pe_ix ix_list (pv 7) (pe_op op_mul pe_int (pv 9)) (fun _ _ => rfl)) pe_int (fun _ _ => rfl)) pe_int (nomark _))) (fun _ _ _ _ _ => pv 9)) pa_nil)))
      (pss_cons (ps_set (i := 10) scDeed.nd rfl (.inl rfl) (pe_imp (t' := tMore K) (pe_callTy call_int1 rfl T.int (by decide +kernel) (pa_cons (pe_and (pe_cmpR op_lt (pv 8) pe_int (nomark _)) (pe_one (pe_cmpR op_lt (pe_cal L.cB hr rfl (pa_cons (pv 1) pa_nil)) pe_int (nomark _)))) pa_nil)) fun _ _ _ h => more_to h))
      (pss_cons (ps_set (i := 11) scDeed.nd rfl (.inl rfl) (pe_slice sl_list (pe_lst (pa_cons (pe_op op_mul pe_int (pv 8)) (pa_cons (pe_op op_add (pe_op op_mul pe_int (pv 8)) pe_int) (pa_cons (pe_op op_add (pe_op op_mul pe_int (pv 8)) pe_int) pa_nil)))) po_none (po_some (pe_op op_mul pe_int (pv 10)))))
      (pss_cons (ps_if (PW.pt (pw_or (pt_cmpR op_ne (pe_cal L.cB hr rfl (pa_cons (pe_ix ix_list (pv 3) (pe_un un_neg pe_int) (fun _ _ => rfl)) pa_nil)) (pe_op op_add (pe_cal L.cB hr rfl (pa_cons (pv 1) pa_nil)) (pv 10)) (nomark _)) (pw_or1 (pt_cmpR op_ne (pe_cmpR (op_eqD hr.units) (pe_ix ix_list (pv 3) (pe_un un_neg pe_int) (fun _ _ => rfl)) (pv 1) (nomark _)) (pe_cmpR op_eq (pv 10) pe_int (nomark _)) (nomark _))))) (pss_one (ps_ret pe_bl)) pss_nil)
      (pss_one (ps_ret (pe_cmpR (op_eqD hr.units) (pe_cal L.cTu hr rfl (pa_cons (pv 7) (pa_cons (pe_cal L.cSe hr rfl (pa_cons (pe_ix ix_list (pv 3) (pe_un un_neg pe_int) (fun _ _ => rfl)) (pa_cons pe_int pa_nil))) pa_nil))) (pv 11) (nomark _))))))))) pss_nil)
    (pss_cons (ps_if (pt_cmpR op_eq (pv 6) pe_int (nomark _))
      (pss_one (ps_expr (pe_bm PySem.F.plainAttrs_list PySem.F.slot_list_append PySem.F.type_list_append mt_append (pv 3) (pa_cons (pe_pk L.n3 hr rfl (pa_cons (pv 1) (pa_cons (pv 4) (pa_cons (pv 5) pa_nil))) (pk_cons (pe_op op_sub (pe_cal L.cC hr rfl (pa_cons (pv 0) (pa_cons pe_int pa_nil))) pe_int) pk_nil)) pa_nil))))
      (pss_one (ps_if (pt_cmpR op_eq (pv 6) pe_int (nomark _))
        (pss_one (ps_expr (pe_bm PySem.F.plainAttrs_list PySem.F.slot_list_append PySem.F.type_list_append mt_append (pv 3) (pa_cons (pe_pk L.t3 hr rfl (pa_cons (pv 1) (pa_cons (pv 4) (pa_cons (pv 5) pa_nil))) (pk_cons (pe_cal L.cC hr rfl (pa_cons (pv 0) (pa_cons pe_int pa_nil))) pk_nil)) pa_nil))))
        (pss_one (ps_expr (pe_bm PySem.F.plainAttrs_list PySem.F.slot_list_append PySem.F.type_list_append mt_append (pv 3) (pa_cons (pe_pk L.g3 hr rfl (pa_cons (pv 1) (pa_cons (pv 4) (pa_cons (pv 5) pa_nil))) (pk_cons (pv 2) pk_nil)) pa_nil)))))))
    (pss_imp (t' := tD24 K) (pss_cons (ps_if (pt_cmpR (op_neLE hr.units) (pe_lc (own := [("_law_at", 12)]) (g := gName 12) (tt := tTest (tOp rNe (tVar 12) (tOp (rI0 fun i j => .int (i + j)) (tOp (rI CMul fun i j => .int (i * j)) (tC (.int 3)) (tVar 4)) (tVar 5)))) (te := tVar 12) rfl scDeed.nd (pi_list (pe_cal L.cTu hr rfl (pa_cons (pv 7) (pa_cons (pe_cal L.cSe hr rfl (pa_cons (pe_ix ix_list (pv 3) (pe_un un_neg pe_int) (fun _ _ => rfl)) (pa_cons pe_int pa_nil))) pa_nil))))
          (blkOk_by (own := [("_law_at", 12)]) (N := ND) (sc := defScope sDeed) (by decide +kernel)) (fun _ _ _ _ _ => pg_name (i := 12) scDeed.nd rfl (Or.inl rfl)) (fun _ _ _ _ _ => pts_one (pt_cmpR op_ne (pv 12) (pe_op op_add (pe_op op_mul pe_int (pv 4)) (pv 5)) (nomark _))) (fun _ _ _ _ _ => pv 12)) (pe_lst pa_nil) (nomark _)) (pss_one (ps_ret pe_bl)) pss_nil)
    (pss_cons (ps_if (PW.pt (pw_or (pt_cmpR op_lt (pv 6) pe_int (nomark _)) (pw_or1 (pt_cmpR op_eq (pe_cal L.cSo hr rfl (pa_cons (pv 1) (pa_cons (pv 4) (pa_cons (pv 5) pa_nil)))) pe_int (nomark _)))))
      (pss_one (ps_ret (pe_or (pe_cmpR op_lt (pv 6) pe_int (nomark _)) (pe_one (pe_cmpR (op_eqD hr.units) (pe_ix ix_list (pv 3) (pe_un un_neg pe_int) (fun _ _ => rfl)) (pv 1) (nomark _)))))) pss_nil)
    (pss_cons (ps_set (i := 13) scDeed.nd rfl (.inl rfl) (pe_ifExp (pt_cmpR op_eq (pe_cal L.cSo hr rfl (pa_cons (pv 1) (pa_cons (pv 4) (pa_cons (pv 5) pa_nil)))) pe_int (nomark _)) (pe_cal L.cB hr rfl (pa_cons (pe_cal L.cGr hr rfl (pa_cons (pv 1) (pa_cons (pv 4) (pa_cons (pv 5) pa_nil)))) pa_nil)) pe_int))
    (pss_cons (ps_if (PW.pt (pw_or (pt_cmpR op_gt (pe_op op_add (pe_op op_sub (pe_cal L.cB hr rfl (pa_cons (pv 1) pa_nil)) (pv 13)) (pe_cal L.cB hr rfl (pa_cons (pv 2) pa_nil))) pe_int (nomark _)) (pw_or1 (pt_cmpR op_eq (pe_cal L.cD hr rfl (pa_cons (pv 2) pa_nil)) pe_int (nomark _)))))
      (pss_one (ps_ret (pe_cmpR (op_eqD hr.units) (pe_ix ix_list (pv 3) (pe_un un_neg pe_int) (fun _ _ => rfl)) (pv 1) (nomark _)))) pss_nil)
    (pss_cons (ps_if (PW.pt (pw_or (pt_cmpR (op_neD hr.units) (pe_cal L.cGr hr rfl (pa_cons (pe_ix ix_list (pv 3) (pe_un un_neg pe_int) (fun _ _ => rfl)) (pa_cons (pv 4) (pa_cons (pv 5) pa_nil)))) (pv 2) (nomark _)) (pw_or1 (pt_cmpR op_ne (pe_cal L.cSo hr rfl (pa_cons (pe_ix ix_list (pv 3) (pe_un un_neg pe_int) (fun _ _ => rfl)) (pa_cons (pv 4) (pa_cons (pv 5) pa_nil)))) pe_int (nomark _))))) (pss_one (ps_ret pe_bl)) pss_nil)
    (pss_one (ps_ret (pe_cmpR op_eq (pe_cal L.cB hr rfl (pa_cons (pe_ix ix_list (pv 3) (pe_un un_neg pe_int) (fun _ _ => rfl)) pa_nil)) (pe_op op_add (pe_op op_sub (pe_cal L.cB hr rfl (pa_cons (pv 1) pa_nil)) (pv 13)) (pe_cal L.cB hr rfl (pa_cons (pv 2) pa_nil))) (nomark _))))))))) (fun D σ G h => ?tail))))), ?main⟩
  case main =>
    obtain ⟨st, L, x, y, d, o, ls, rfl, sa, nL, hL, l30, hx, hG, hy, hO, q⟩ := h
    have hshp := hG.shp
    have oshp := hO.shp
    refine ⟨_, rfl, st, 8, rfl, sa, by decide, by decide, fun b H1 b0 b8 mv1 => ?_⟩
    refine ⟨_, rfl, st, 3, rfl, mv1.sa, by decide, by decide, fun kk H2 k0 k3 mv2 => ⟨_, _, rfl, ?_⟩⟩
    refine ⟨_, rfl, st, 4, rfl, mv2.sa, by decide, by decide, fun wy H3 w0 w4 mv3 => ?_⟩
    have kp3 := mv1.kp.trans (mv2.kp.trans mv3.kp)
    have kt3 := kp3.kt sa
    refine ⟨_, rfl, x, d, rfl, dp_kt kt3 _ _ hshp.1 hx, hG, fun ap qs H4 s4 seen => ⟨_, _, rfl, ?_⟩⟩
    have h3s : H3 st ≠ none := fun z => by obtain ⟨l, hl⟩ := mv3.sa.some; rw [hl] at z; cases z
    have h3L : H3 L ≠ none := fun z => by rw [kp3 _ _ nL hL] at z; cases z
    have B4 : B24 K st L x y d o H H3 ap qs ls H4 := ⟨(K2.of_kp kp3).trans (.of_same s4), mv3.sa.same s4, s4 _ _ (kp3 _ _ nL hL), dp_kt (kt3.trans (KT.of_same s4)) _ _ hshp.1 hx, dp_kt (kt3.trans (KT.of_same s4)) _ _ oshp.1 hy, seen⟩
    clear seen s4 kt3
    refine ⟨_, rfl, rfl, _, rfl, ?_⟩
    refine ite2 (fun c => ?_) (fun c => ?_)
    · refine ⟨_, rfl, .inl ⟨rfl, _, SqL.of B4.hL⟩, _, rfl, x, d, rfl, B4.x, hG, fun r H5 s5 hr5 => ⟨L, _, _, rfl, rfl, s5 _ _ B4.hL, Nat.lt_of_lt_of_le (show ls.length < 1000 by omega) (small (Nat.le_refl _)), ?_⟩⟩
      have hr6 := dp_kt (KT.upd (l' := ls ++ [r]) (s5 _ _ B4.hL)) _ _ (good_grown hG).shp.1 hr5
      have B6 := (B4.same hG hO s5).app (v := r) hG hO nL h3L
      generalize upd H5 L (.lst (ls ++ [r])) = H6 at hr6 B6 ⊢
      clear B4 s5 hr5
      obtain ⟨c0, hg⟩ := id hG
      obtain ⟨m, bs, s', _, rfl, l1, l8, _, _, c24⟩ := gsz_some hg
      refine ⟨8, rfl, by decide, by decide, fun D hD => ?_⟩
      refine lc_range (lo := 0) (n := 8) (fun j G => Same H6 G ∧ G D = some (.lst (((List.range j).filter fun i : Nat => !decide (sortAt (i : Int) 0 (.tuple bs) = 3)).map fun i : Nat => V.int (i : Int)))) ⟨same_new hD _, upd_same⟩ (fun j G hj h => ?_) (fun G h => ?_)
      · obtain ⟨s2, h2⟩ := h
        have BG := B6.same hG hO s2
        obtain ⟨qa, hqa⟩ : ∃ qa, qs[3 * j]? = some qa := ⟨_, List.getElem?_eq_getElem (by rw [BG.seen.len]; omega)⟩
        have cell := BG.seen.each (3 * j) qa hqa
        rw [show 3 * j / 3 = j by omega, show 3 * j % 3 = 0 by omega] at cell
        obtain ⟨_, gv, hq1, hq2⟩ := cell
        refine ⟨rfl, _, rfl, _, rfl, 3, _, rfl, rfl, .inl (by decide), ap, qs.map V.ref, _, .ref qa, rfl, rfl, SqL.of BG.seen.lst, ?_, qa, _, 0, _, rfl, rfl, SqL.of hq1, atI_nat (j := 0) rfl, rfl, _, rfl, ?_⟩
        · rw [show (3 * (0 + (j : Int)) : Int) = ((3 * j : Nat) : Int) by omega]
          exact atI_nat (by rw [List.getElem?_map, hqa]; rfl)
        · rw [filter_more]
          have de : (!decide (V.int (sortAt (j : Int) ((0 : Nat) : Int) (.tuple bs)) = V.int 3)) = (!decide (sortAt (j : Int) 0 (.tuple bs) = 3)) := by
            congr 1
            exact decide_eq_decide.mpr ⟨fun z => V.int.inj z, fun z => congrArg V.int z⟩
          have e0 : (0 + (j : Int)) = (j : Int) := by omega
          rw [de]
          cases e : (!decide (sortAt (j : Int) 0 (.tuple bs) = 3)) with
          | true =>
            refine ifT rfl ⟨_, rfl, _, h2, Nat.lt_of_lt_of_le (show _ < 1000 by rw [List.length_map]; exact Nat.lt_of_le_of_lt (List.length_filter_le _ _) (by rw [List.length_range]; omega)) (small (Nat.le_refl _)), ?_, ?_⟩
            · exact fun b u z => by rw [upd_ne (ne_of_none z hD)]; exact s2 _ _ z
            · rw [upd_same, if_pos rfl, List.map_append, e0]
              rfl
          | false =>
            refine ifF rfl ⟨s2, ?_⟩
            rw [if_neg (by decide), List.append_nil]
            exact h2
      · obtain ⟨s2, h2⟩ := h
        have BG := B6.same hG hO s2
        have hrG := dp_kt (KT.of_same s2) _ _ (good_grown hG).shp.1 hr6
        have el : (((List.range 8).filter fun i : Nat => !decide (sortAt (i : Int) 0 (.tuple bs) = 3)).map fun i : Nat => V.int (i : Int)).length = bs.length := by rw [List.length_map]; exact own_len hg
        refine ⟨D, _, rfl, .inl (SqL.of h2), ?_⟩
        rw [el]
        refine ⟨bs.length, c0, x, _, rfl, rfl, BG.x, hg, ?_⟩
        obtain ⟨mo, emo⟩ : ∃ mo : Int, mo = if c0 < 24 ∧ bs.length < 8 then 1 else 0 := ⟨_, rfl⟩
        rw [← emo]
        refine ⟨_, rfl, 3, _, rfl, rfl, .inl (by decide), _, rfl, 3, _, rfl, rfl, .inl (by decide), _, _, rfl, rfl, _, rfl, 3, _, rfl, rfl, .inl (by decide), _, _, rfl, rfl, small (by show 3 ≤ 1000; decide), fun p hp => ⟨_, rfl, 3, _, rfl, rfl, .inl (by decide), _, rfl, p, _, rfl, SqL.of upd_same, fun p2 hp2 => ?_⟩⟩
        have s3 := (same_new hp (.lst [V.int (3 * (bs.length : Int)), .int (3 * (bs.length : Int) + 1), .int (3 * (bs.length : Int) + 2)])).trans (same_new hp2 (.lst (cutV [V.int (3 * (bs.length : Int)), .int (3 * (bs.length : Int) + 1), .int (3 * (bs.length : Int) + 2)] none (some (3 * mo)))))
        have h3 := upd_same (H := upd G p (.lst [V.int (3 * (bs.length : Int)), .int (3 * (bs.length : Int) + 1), .int (3 * (bs.length : Int) + 2)])) (a := p2) (o := .lst (cutV [V.int (3 * (bs.length : Int)), .int (3 * (bs.length : Int) + 1), .int (3 * (bs.length : Int) + 2)] none (some (3 * mo))))
        generalize upd (upd G p (.lst [V.int (3 * (bs.length : Int)), .int (3 * (bs.length : Int) + 1), .int (3 * (bs.length : Int) + 2)])) p2 (.lst (cutV [V.int (3 * (bs.length : Int)), .int (3 * (bs.length : Int) + 1), .int (3 * (bs.length : Int) + 2)] none (some (3 * mo)))) = G2 at s3 h3 ⊢
        have BN := BG.same hG hO s3
        have gg := good_grown hG
        have hrN := dp_kt (KT.of_same s3) _ _ gg.shp.1 hrG
        have hc1 := grown_size hg
        have hev := grown_eqv hg
        have htl := turn_grown hg
        clear BG hrG s2 h2 el s3
        refine ⟨_, rfl, _, rfl, L, ls ++ [r], -1, r, rfl, rfl, SqL.of BN.hL, at_end, r, _, _, rfl, hrN, hc1, _, rfl, x, _, c0, rfl, BN.x, hg, _, rfl, _, _, rfl, rfl, rfl, _, rfl, ifF ?ne ?_⟩
        case ne =>
          rw [emo]
          by_cases g : c0 < 24 ∧ bs.length < 8
          · rw [if_pos g, if_pos g, decide_eq_true (by congr 1)]
            rfl
          · rw [if_neg g, if_neg g, decide_eq_true (by congr 1)]
            rfl
        refine ⟨_, rfl, _, rfl, L, ls ++ [r], -1, r, rfl, rfl, SqL.of BN.hL, at_end, _, rfl, _, _, hrN, BN.x, gg.sh, hG.sh, _, rfl, rfl, rfl, _, rfl, ?_⟩
        refine ifF ?_ ?_
        · rw [hev, emo]
          by_cases g : c0 < 24 ∧ bs.length < 8
          · rw [if_pos g, decide_eq_true g]
            rfl
          · rw [if_neg g, decide_eq_false g]
            rfl
        refine ⟨_, rfl, _, rfl, _, rfl, L, ls ++ [r], -1, r, rfl, rfl, SqL.of BN.hL, at_end, r, _, rfl, hrN, gg, fun ap2 qs2 G3 s4 seen2 => ⟨ap, ap2, qs.map V.ref, qs2.map V.ref, _, _, rfl, SqL.of (s4 _ _ BN.seen.lst), SqL.of seen2.lst, (BN.same hG hO s4).seen.dp, seen2.dp, hG, gg, fun r2 G4 s5 hn hr2 => ?_⟩⟩
        have BE := BN.same hG hO (s4.trans s5)
        have h4 := (s4.trans s5) _ _ h3
        have fin := q r _ G4 BE.k2 BE.sa BE.hL (dp_kt (KT.of_same (s4.trans s5)) _ _ gg.shp.1 hrN) gg
        rw [htl] at hr2
        rw [emo] at h4
        by_cases g : c0 < 24 ∧ bs.length < 8
        · rw [if_pos g] at hr2 h4
          have e3 : (([3 * bs.length, 3 * bs.length + 1, 3 * bs.length + 2] : List Nat).map fun i : Nat => V.int (i : Int)) = ([3 * (bs.length : Int), 3 * (bs.length : Int) + 1, 3 * (bs.length : Int) + 2] : List Int).map V.int := by
            simp only [List.map_cons, List.map_nil]
            rw [show ((3 * bs.length : Nat) : Int) = 3 * (bs.length : Int) by omega, show ((3 * bs.length + 1 : Nat) : Int) = 3 * (bs.length : Int) + 1 by omega, show ((3 * bs.length + 2 : Nat) : Int) = 3 * (bs.length : Int) + 2 by omega]
          rw [e3] at hr2
          have z := intl_ok [3 * (bs.length : Int), 3 * (bs.length : Int) + 1, 3 * (bs.length : Int) + 2]
          refine ⟨_, rfl, _, _, dp_intl (SqL.of hr2), dp_intl (ns := [3 * (bs.length : Int), 3 * (bs.length : Int) + 1, 3 * (bs.length : Int) + 2]) (SqL.of h4), z.1, z.1, ?_⟩
          rw [z.2]
          exact fin
        · rw [if_neg g] at hr2 h4
          have z := intl_ok []
          refine ⟨_, rfl, _, _, dp_intl (ns := []) (SqL.of hr2), dp_intl (ns := []) (SqL.of h4), z.1, z.1, ?_⟩
          rw [z.2]
          exact fin
    · have ny : wy ≠ 0 := fun z => c (by rw [z]; exact decide_eq_true rfl)
      have done : ∀ (r : V) (e : PyData) (G : Hp), B24 K st L x y d o H H3 ap qs (ls ++ [r]) G → Good e → Dp K G r e → (∀ b' k' : Int, 0 ≤ b' ∧ 0 ≤ k' → ¬ (b' = b ∧ k' = kk) → placeAt b' k' e = placeAt b' k' d) → (wy < 3 ∨ (wy = 3 ∧ e = hungD b kk o d)) →
          tD24 K { nx := fun x H' => Q .non H', rt := Q } [some (.ref st), some x, some y, some (.ref L), some (.int b), some (.int kk), some (.int wy), some (.ref ap), none, none, none, none, none, none] G := fun r e G B ge he pl w =>
        ⟨st, L, ap, x, y, r, d, o, e, b, kk, wy, H, H3, qs, ls, _, _, _, _, _, _, rfl, B, hG, hO, ge, he, ⟨b0, b8⟩, ⟨k0, by omega⟩, pl, w, fun G' B' he' => q r e G' B'.k2 B'.sa B'.hL he' ge⟩
      have app : ∀ {r : V} {e : PyData} {G : Hp}, B24 K st L x y d o H H3 ap qs ls G → Good e → Dp K G r e → B24 K st L x y d o H H3 ap qs (ls ++ [r]) (upd G L (.lst (ls ++ [r]))) ∧ Dp K (upd G L (.lst (ls ++ [r]))) r e := fun B ge he => ⟨B.app hG hO nL h3L, dp_kt (KT.upd B.hL) _ _ ge.shp.1 he⟩
      have lt : ls.length < sizeLine := Nat.lt_of_lt_of_le (show ls.length < 1000 by omega) (small (Nat.le_refl _))
      have kk2 : 0 ≤ kk ∧ kk ≤ 2 := ⟨k0, by omega⟩
      refine ⟨_, rfl, rfl, _, rfl, ?_⟩
      refine ite2 (fun c1 => ?_) (fun c1 => ?_)
      · refine ⟨_, rfl, .inl ⟨rfl, _, SqL.of B4.hL⟩, _, rfl, _, rfl, _, rfl, _, rfl, st, 25000, rfl, B4.sa, by decide, by decide, fun n H5 n0 n1 mv5 => ⟨_, _, rfl, rfl, rfl, rfl, x, d, b, kk, _, rfl, (B4.mv hG hO nL h3s mv5).x, hG, k0, by omega, fun r H6 s6 hr6 => ⟨L, _, _, rfl, rfl, ((B4.mv hG hO nL h3s mv5).same hG hO s6).hL, lt, ?_⟩⟩⟩
        have ge := good_number (n := n - 12500) hG (b := b) kk2
        obtain ⟨B7, h7⟩ := app ((B4.mv hG hO nL h3s mv5).same hG hO s6) ge hr6
        exact done _ _ _ B7 ge h7 (fun b' k' h1 h2 => by
          unfold numberD
          split
          · exact place_set ⟨b0, k0⟩ h1 h2
          · rfl) (.inl (by
            have : wy = 1 := V.int.inj (of_decide_eq_true c1)
            omega))
      · have n1 : wy ≠ 1 := fun z => c1 (by rw [z]; exact decide_eq_true rfl)
        refine ⟨_, rfl, rfl, _, rfl, ?_⟩
        refine ite2 (fun c2 => ?_) (fun c2 => ?_)
        · refine ⟨_, rfl, .inl ⟨rfl, _, SqL.of B4.hL⟩, _, rfl, _, rfl, _, rfl, _, rfl, st, 8, rfl, B4.sa, by decide, by decide, fun n H5 n0 n1 mv5 => ⟨rfl, rfl, x, d, b, kk, _, rfl, (B4.mv hG hO nL h3s mv5).x, hG, k0, by omega, fun r H6 s6 hr6 => ⟨L, _, _, rfl, rfl, ((B4.mv hG hO nL h3s mv5).same hG hO s6).hL, lt, ?_⟩⟩⟩
          have ge := good_tied (t := n) hG (b := b) kk2
          obtain ⟨B7, h7⟩ := app ((B4.mv hG hO nL h3s mv5).same hG hO s6) ge hr6
          exact done _ _ _ B7 ge h7 (fun b' k' h1 h2 => by
            unfold tiedD
            split
            · exact place_set ⟨b0, k0⟩ h1 h2
            · rfl) (.inl (by
              have : wy = 2 := V.int.inj (of_decide_eq_true c2)
              omega))
        · have n2 : wy ≠ 2 := fun z => c2 (by rw [z]; exact decide_eq_true rfl)
          refine ⟨_, rfl, .inl ⟨rfl, _, SqL.of B4.hL⟩, _, rfl, _, rfl, _, rfl, _, rfl, rfl, rfl, x, d, b, kk, y, o, rfl, B4.x, hG, k0, by omega, B4.y, hO, fun r H6 s6 hr6 => ⟨L, _, _, rfl, rfl, (B4.same hG hO s6).hL, lt, ?_⟩⟩
          have ge := good_hung (o := o) (b := b) (k := kk) hG
          obtain ⟨B7, h7⟩ := app (B4.same hG hO s6) ge hr6
          exact done _ _ _ B7 ge h7 (fun b' k' h1 h2 => by
            unfold hungD
            split
            · split
              · exact place_set ⟨b0, k0⟩ h1 h2
              · rfl
            · rfl) (.inr ⟨by omega, rfl⟩)
  case tail =>
    obtain ⟨st, L, ap, x, y, r, d, o, e, b, kk, wy, H, H3, qs, ls, o8, o9, o10, o11, o12, o13, rfl, B, hG, hO, ge, he, hb, hk, pl, wz, q⟩ := h
    have tl := turned_at hG ⟨hb.1, hk.1, hk.2⟩ pl
    refine ⟨_, rfl, _, rfl, _, rfl, L, ls ++ [r], -1, r, rfl, rfl, SqL.of B.hL, at_end, r, _, rfl, he, ge, fun ap2 qs2 G3 s4 seen2 => ⟨ap, ap2, qs.map V.ref, qs2.map V.ref, _, _, rfl, SqL.of (s4 _ _ B.seen.lst), SqL.of seen2.lst, (B.same hG hO s4).seen.dp, seen2.dp, hG, ge, fun r2 G4 s5 hn hr2 => ?_⟩⟩
    have B4 := B.same hG hO (s4.trans s5)
    have he4 := dp_kt (KT.of_same (s4.trans s5)) _ _ ge.shp.1 he
    clear B he s4 s5 seen2
    refine ⟨r2, rfl, ⟨_, SqL.of hr2⟩, fun D' hD => ?_⟩
    refine lc_list (xs := (turnedL d e).map fun i : Nat => V.int (i : Int)) (fun i G => Same G4 G ∧ G D' = some (.lst [])) ⟨same_new hD _, upd_same⟩ (fun i G _ h => SqL.of (h.1 _ _ hr2)) (fun i v G hv h => ?_) (fun G h => ?_)
    · obtain ⟨s6, h6⟩ := h
      rw [List.getElem?_map] at hv
      obtain ⟨n, hn', rfl⟩ := Option.map_eq_some_iff.mp hv
      have en := tl n (List.mem_of_getElem? hn')
      refine ⟨rfl, _, rfl, _, rfl, 3, _, rfl, rfl, .inl (by decide), _, rfl, _, _, rfl, rfl, rfl, _, rfl, ?_⟩
      exact ifF (by rw [decide_eq_true (congrArg V.int en)]; rfl) ⟨s6, h6⟩
    · obtain ⟨s6, h6⟩ := h
      refine ⟨small (Nat.zero_le _), fun p6 hp6 => ?_⟩
      have s7 := same_new hp6 (.lst [])
      refine ⟨D', p6, [], rfl, rfl, SqL.of (s7 _ _ h6), SqL.of upd_same, _, rfl, ifF rfl ?_⟩
      have B7 := B4.same hG hO (s6.trans s7)
      have he7 := dp_kt (KT.of_same (s6.trans s7)) _ _ ge.shp.1 he4
      generalize upd G p6 (.lst []) = G7 at B7 he7 ⊢
      clear B4 he4 s6 s7 h6 hp6 hr2 hn
      refine ⟨_, rfl, _, _, rfl, rfl, _, rfl, ?_⟩
      refine ite2 (fun c => ?_) (fun c => ?_)
      · have c : wy < 3 := of_decide_eq_true c
        exact ifT rfl ⟨_, rfl, _, _, rfl, rfl, true, congrArg V.bl (decide_eq_true c), ifT rfl (q G7 B7 he7)⟩
      · have c : ¬ wy < 3 := of_decide_eq_false (by simpa using c)
        have ew := (wz.resolve_left c).2
        have gg7 : GoodG K G7 x d := ⟨B7.x, hG.sh, hG⟩
        refine ⟨_, rfl, _, rfl, _, rfl, x, d, b, kk, rfl, gg7, hk.1, hk.2, rfl, _, rfl, ?_⟩
        obtain ⟨c0, hg⟩ := id hG
        obtain ⟨co, ho⟩ := id hO
        obtain ⟨m, bs, s', _, rfl, l1, l8, _, _, c24⟩ := gsz_some hg
        have st3 := sort_there (b := b) hg hk
        by_cases hs : sortAt b kk (.tuple bs) = 3
        · have nb : ¬ (0 ≤ b ∧ b < bs.length) := by rw [← st3]; exact hs
          have ee : e = .tuple bs := by
            rw [ew]
            unfold hungD
            rw [if_neg (fun z => nb (hasB_iff.mp z))]
          subst ee
          refine ifT (by rw [hs]; exact decide_eq_true rfl) ⟨_, rfl, _, _, rfl, rfl, false, congrArg V.bl (decide_eq_false c), ifF (by decide) ?_⟩
          refine ⟨_, rfl, _, rfl, L, ls ++ [r], -1, r, rfl, rfl, SqL.of B7.hL, at_end, _, rfl, _, _, he7, B7.x, ge.sh, hG.sh, ?_⟩
          rw [eqv_refl _ hG.shp.1]
          exact q G7 B7 he7
        · have hb' : 0 ≤ b ∧ b < bs.length := Classical.byContradiction fun z => hs (by rw [st3]; exact z)
          obtain ⟨was, w1, w2, w3, w4, w5⟩ := hung_case hg ho hb' hk
          rw [← ew] at w4 w5
          refine ifF (decide_eq_false fun z => hs (V.int.inj z)) ?_
          refine seqAsg (was_to rfl rfl rfl gg7 hk w1 w2 ?_)
          refine ⟨_, rfl, x, _, c0, rfl, B7.x, hg, _, rfl, _, _, rfl, rfl, _, rfl, y, o, co, rfl, B7.y, ho, _, _, rfl, rfl, _, _, rfl, rfl, _, rfl, ?_⟩
          by_cases big : 24 < c0 - was + co
          · have ee := w4 (.inr big)
            subst ee
            refine ifT (decide_eq_true (show (24 : Int) < (c0 : Int) - was + co by omega)) ?_
            refine ⟨_, rfl, _, rfl, L, ls ++ [r], -1, r, rfl, rfl, SqL.of B7.hL, at_end, _, rfl, _, _, he7, B7.x, ge.sh, hG.sh, ?_⟩
            rw [eqv_refl _ hG.shp.1]
            exact q G7 B7 he7
          · refine ifF (decide_eq_false (show ¬ (24 : Int) < (c0 : Int) - was + co by omega)) ?_
            refine ⟨_, rfl, y, o, co, rfl, Nat.le_refl 4, B7.y, ho, fun G8 s8 => ?_⟩
            have B8 := B7.same hG hO s8
            have he8 := dp_kt (KT.of_same s8) _ _ ge.shp.1 he7
            refine ⟨rfl, _, rfl, ?_⟩
            by_cases dp : deepN 4 o = 4
            · have ee := w4 (.inl dp)
              subst ee
              refine ifT (decide_eq_true (by rw [dp]; rfl)) ?_
              refine ⟨_, rfl, _, rfl, L, ls ++ [r], -1, r, rfl, rfl, SqL.of B8.hL, at_end, _, rfl, _, _, he8, B8.x, ge.sh, hG.sh, ?_⟩
              rw [eqv_refl _ hG.shp.1]
              exact q G8 B8 he8
            · refine ifF (decide_eq_false (fun z => dp (by have := V.int.inj z; omega))) ?_
              obtain ⟨v1, v2, v3⟩ := w5 (fun z => z.elim dp big)
              have gge : GoodG K G8 r e := ⟨he8, ge.sh, ge⟩
              refine ⟨_, rfl, _, rfl, L, ls ++ [r], -1, r, rfl, rfl, SqL.of B8.hL, at_end, _, rfl, _, rfl, r, e, b, kk, rfl, gge, hk.1, hk.2, fun v hv => ?_⟩
              rw [v3] at hv
              refine ⟨_, rfl, _, _, hv, B8.y, hO.sh, hO.sh, _, rfl, ?_⟩
              rw [eqv_refl _ hO.shp.1]
              refine ifF rfl ?_
              refine ⟨_, rfl, _, rfl, L, ls ++ [r], -1, r, rfl, rfl, SqL.of B8.hL, at_end, _, rfl, _, rfl, r, e, b, kk, rfl, gge, hk.1, hk.2, rfl, _, rfl, ?_⟩
              rw [v2]
              refine ifF rfl ?_
              refine ⟨_, rfl, _, rfl, L, ls ++ [r], -1, r, rfl, rfl, SqL.of B8.hL, at_end, r, e, _, rfl, he8, v1, _, rfl, x, _, c0, rfl, B8.x, hg, _, rfl, _, _, rfl, rfl, _, rfl, y, o, co, rfl, B8.y, ho, _, _, rfl, rfl, rfl, ?_⟩
              rw [decide_eq_true (by congr 1; omega)]
              exact q G8 B8 he8
end
section
open PySem.Spec PyProof.Rows
/-- the law's own call, at the place from which it is called (nothing is being shown there) -/
theorem run_law {P : Program} {w : World} {K : PySem.W.Frag} {mg : Str → Option Value} {base : Heap} {fa a : Addr} {fd : FuncData} {st : Stmt} {N : List Str} {k : Nat} {s : Shared} {H : Hp} {nm par : Str}
    (F : Fun K nm nm st fa fd) (S : FnScope N [par] (defScope st)) (room : Room (k + 1) callerA) (at0 : Env0 P w K mg base callerA [] s H) (bd : BindsTo s fd ⟨[.ref a], []⟩ [(par, .ref a)])
    (body : ∀ cdv, Room k (callerA.deeper (envOfC nm (defScope st) s.heap.objs.size fa cdv)) →
      ∃ t, PSs (cxOf CX0 P w K mg base N nm (defScope st) fa cdv callerA [] s H E0).nox (defBody st) t ∧ t { nx := fun _ _ => False, rt := fun v _ => v = .bl true } (L2.start N [.ref a]) H) :
    codeAny (model P w) callerA (.call (.ref fa) ⟨[.ref a], []⟩) (CR CX0 [] P w H s (fun v _ => v = .bl true) E0) s := by
  obtain ⟨oc, od, kV, doc, pm, an, cdv, ct, osl, rfl, found, code⟩ := F.ex
  have kin : K.In s.heap := at0.mod.kin.keeps fun b o e => (at0.bs b o e).1
  have unl : s.heap.NoLimit := at0.mod.nolimit.keeps fun b o e => (at0.bs b o e).1
  have kinds : ∀ y ∈ [(par, Value.ref a)], (defScope st).names.lookup y.1 = some .local ∨ ((defScope st).names.lookup y.1 = some .cell ∧ ((cellsFrom (s.heap.objs.size + 1) (defScope st).names []).lookup y.1).isSome = true) := by
    intro y hy
    rcases List.mem_cons.mp hy with rfl | hy
    · rcases S.par par List.mem_cons_self with q | q
      · exact .inl q
      · exact .inr ⟨q, PySem.W.cellsFrom_some _ _ _ (.inl q)⟩
    · cases hy
  refine codeAny_call_function room.depth (kin _ _ found) rfl S.co S.gen rfl (PySem.W.codeRec_of kin code) (bd _ _ _ _ ?_)
  refine wpAny_newFunctionEnv_cells S.kind kinds fun env he s1 ic => ?_
  subst he
  refine ⟨unl.keeps ic.toInCall.keep, codeAny_func ?_⟩
  obtain ⟨t, ht, hq⟩ := body cdv (room.deeper _)
  have start_ok := inv_start (CX := CX0) (E := E0) (us := [.ref a]) (vs := [.ref a]) S room.hd at0 rfl (.cons rfl .nil) ic
  refine wpAny_mono (ht.nox.run [] s1 _ H _ start_ok hq) (fun fl s' out => ?_) fun e s' out => out
  cases fl with
  | ret u =>
    obtain ⟨v, σ', H', J, rv, q⟩ := out
    exact ⟨v, H', J.os, J.bare, J.base, J.hok, rv, q⟩
  | next =>
    obtain ⟨_, _, _, q⟩ := out
    exact q.elim
  | brk =>
    obtain ⟨_, _, _, q⟩ := out
    exact q.elim
  | cont =>
    obtain ⟨_, _, _, q⟩ := out
    exact q.elim
/-- the script alone is tracked, locked -/
def Scr (a : Addr) (o : Obj) (ns : List Int) : Hp := fun b => if b = a then some (.frz o (.lst (ns.map V.int))) else none
theorem law_end {P : Program} {w : World} {K : PySem.W.Frag} {mg mb : Str → Option Value} {fa a : Addr} {fd : FuncData} {st : Stmt} {N : List Str} {k : Nat} {s : Shared} {nm par : Str} {vs : List Value} {ns : List Int}
    (kin : K.In s.heap) (gl : s.heap.Ns mainGlobals mg) (bl : s.heap.Ns builtinsNs mb) (blb : ∀ x : Str, x ≠ "__name__" → mb x = bootBuiltins x) (unl : s.heap.NoLimit) (gens : s.gens = #[])
    (ha : s.heap.get? a = some { cls := .type "list", data := .seq vs.toArray }) (hi : IntsAre vs ns) (hl : ns.length ≤ sizeLine) (room : Room (k + 1) callerA)
    (F : Fun K nm nm st fa fd) (S : FnScope N [par] (defScope st)) (bd : ∀ (s : Shared) (u : Value), BindsTo s fd ⟨[u], []⟩ [(par, u)])
    (body : ∀ (base : Heap), K.In base → base.Ns mainGlobals mg → ∀ (H : Hp) cdv, Only H → SqL K H a (ns.map V.int) → Room k (callerA.deeper (envOfC nm (defScope st) s.heap.objs.size fa cdv)) →
      ∃ t, PSs (cxOf CX0 P w K mg base N nm (defScope st) fa cdv callerA [] s H E0).nox (defBody st) t ∧ t { nx := fun _ _ => False, rt := fun v _ => v = .bl true } (L2.start N [.ref a]) H) :
    codeAny (model P w) callerA (.call (.ref fa) ⟨[.ref a], []⟩) (fun r s' => r = .ok (.ret (.bool true)) ∧ OldK s.heap s'.heap ∧ s'.os = s.os ∧ AllBare s'.gens) s := by
  have vals := vals_ints hi
  have len := hi.length
  -- whatever of the two is tracked
  have main : ∀ H : Hp, Only H → SqL K H a (ns.map V.int) → HOk P w H s.heap → (∀ b u, H b = some u → b = a ∧ K.lookup a = none) →
      codeAny (model P w) callerA (.call (.ref fa) ⟨[.ref a], []⟩) (fun r s' => r = .ok (.ret (.bool true)) ∧ OldK s.heap s'.heap ∧ s'.os = s.os ∧ AllBare s'.gens) s := by
    intro H only hS hok alone
    have spaces : ∀ {b : Addr} {m : Str → Option Value}, s.heap.Ns b m → (hidT s.heap H).Ns b m := by
      intro b m ⟨o, es, ep, e, d, r⟩
      refine ⟨o, es, ep, hidT_get e ?_, d, r⟩
      cases q : H b with
      | none => rfl
      | some u =>
        obtain ⟨rfl, _⟩ := alone b u q
        rw [ha] at e
        cases e
        cases d
    have kinB : K.In (hidT s.heap H) := by
      intro b o e
      refine hidT_get (kin b o e) ?_
      cases q : H b with
      | none => rfl
      | some u =>
        obtain ⟨rfl, z⟩ := alone b u q
        rw [z] at e
        cases e
    obtain ⟨mc, un1, un2⟩ := unl
    have md : Mod K mg (hidT s.heap H) := ⟨kinB, spaces gl, ⟨mb, spaces bl, blb⟩, ⟨mc, spaces un1, un2⟩⟩
    have at0 : Env0 P w K mg (hidT s.heap H) callerA [] s H := by
      refine ⟨rfl, md, fun b o e => of_hidT e, Nat.le_of_eq (hidT_size _ _), trivial, fun b hb => ?_, hok, .of_eq gens⟩
      cases (show b ∈ ([] : List Addr) from hb)
    refine codeAny_mono (run_law F S room at0 (bd s (.ref a)) fun cdv hr => body _ kinB (spaces gl) H cdv only hS hr) fun r s' out => ?_
    match r, out with
    | .error e, out => exact (show False from out).elim
    | .ok .next, out => exact (show False from out).elim
    | .ok .brk, out => exact (show False from out).elim
    | .ok .cont, out => exact (show False from out).elim
    | .ok (.ret u), out =>
      obtain ⟨v, H', os, bare, un, hok', rv, q⟩ := out
      obtain rfl : v = .bl true := q
      obtain rfl : u = Value.bool true := rv
      refine ⟨rfl, OldK.of_keep fun b o e => ?_, os, bare⟩
      cases q : H b with
      | none =>
        refine un.keep b o e q (fun z => ?_) (by simp)
        cases (show b ∈ ([] : List Addr) from z)
      | some u =>
        rcases only b with z | ⟨ob, xs, z⟩
        · rw [q] at z
          cases z
        · obtain ⟨e1, _⟩ := hok b _ z
          obtain ⟨e2, _⟩ := hok' b _ (un.frzs b ob _ z)
          rw [e] at e1
          cases e1
          exact e2
  cases hk : K.lookup a with
  | some o =>
    have e := kin a o hk
    rw [ha] at e
    cases e
    have small : vs.toArray.size ≤ sizeLine := by
      rw [List.size_toArray, len]
      exact hl
    exact main (fun _ => none) (fun _ => .inl rfl) (.inr ⟨_, vs.toArray, _, hk, rfl, rfl, rfl, small, by simpa using vals⟩) (fun b u z => by cases z) (fun b u z => by cases z)
  | none =>
    have at_a : Scr a { cls := .type "list", data := .seq vs.toArray } ns a = some (.frz { cls := .type "list", data := .seq vs.toArray } (.lst (ns.map V.int))) := by
      unfold Scr
      rw [if_pos rfl]
    have off : ∀ b, b ≠ a → Scr a { cls := .type "list", data := .seq vs.toArray } ns b = none := by
      intro b hb
      unfold Scr
      rw [if_neg hb]
    refine main (Scr a { cls := .type "list", data := .seq vs.toArray } ns) (fun b => ?_) (.inl (.inr ⟨_, at_a⟩)) (fun b u z => ?_) (fun b u z => ?_)
    · by_cases e : b = a
      · subst e
        exact .inr ⟨_, _, at_a⟩
      · exact .inl (off b e)
    · by_cases e : b = a
      · subst e
        rw [at_a] at z
        cases z
        exact ⟨ha, by rw [List.length_map]; exact hl, vs, _, vals, ha⟩
      · rw [off b e] at z
        cases z
    · by_cases e : b = a
      · exact ⟨e, hk⟩
      · rw [off b e] at z
        cases z
end
/-- the script, which nobody writes -/
def ScrOk (K : PySem.W.Frag) (H : Hp) (a : Addr) (xs : List V) : Prop := (∃ o, H a = some (.frz o (.lst xs))) ∨
  ∃ (o : Obj) (its : Array Value) (n : Nat), K.lookup a = some o ∧ o.cls = .type "list" ∧ o.dict = none ∧ o.data = .seq its n ∧ its.size ≤ sizeLine ∧ Vals xs its.toList
theorem ScrOk.kt {K : PySem.W.Frag} {H H' : Hp} {a : Addr} {xs : List V} (h : ScrOk K H a xs) (k : KT H H') : ScrOk K H' a xs := by
  rcases h with ⟨o, z⟩ | z
  · exact .inl ⟨o, k _ _ z (fun l q => by cases q)⟩
  · exact .inr z
theorem ScrOk.sq {K : PySem.W.Frag} {H : Hp} {a : Addr} {xs : List V} (h : ScrOk K H a xs) : SqL K H a xs := by
  rcases h with h | h
  · exact .inl (.inr h)
  · exact .inr h
theorem Good.show {d : PyData} (h : Good d) : Sh 960 9 d := by
  obtain ⟨c, hg⟩ := h
  obtain ⟨_, _, _, _, _, _, _, _, _, h24⟩ := gsz_some hg
  exact (shq_graph _ _ _ hg).mono (by omega) (by decide)
theorem dpAll_split {K : PySem.W.Frag} {H : Hp} : ∀ {es : List PyData} {e : PyData} {vs : List V}, DpAll K H vs (es ++ [e]) → ∃ us u, vs = us ++ [u] ∧ DpAll K H us es ∧ Dp K H u e
  | [], e, _, .cons h1 h2 => by
    cases h2
    exact ⟨[], _, rfl, .nil, h1⟩
  | d :: es, e, _, .cons h1 h2 => by
    obtain ⟨us, u, rfl, a, b⟩ := dpAll_split h2
    exact ⟨_ :: us, u, rfl, .cons h1 a, b⟩
theorem cut_last (us : List V) (u : V) : cutV (us ++ [u]) none (some (-1)) = us := by
  unfold cutV HT.sIx
  simp only [List.length_append, List.length_singleton]
  have e : ((-1 : Int) + ((us.length + 1 : Nat) : Int)).toNat = us.length := by omega
  simp [show (-1 + ((us.length : Int) + 1)).toNat = us.length by omega]
theorem at_last (us : List V) (u : V) : atI (us ++ [u]) (-1) = some u := by
  have e : ixN (us ++ [u]).length (-1) = some us.length := by
    unfold ixN
    rw [if_neg (by decide), if_pos (by rw [List.length_append, List.length_singleton]; omega)]
    congr 1
    rw [List.length_append, List.length_singleton]
    omega
  unfold atI
  rw [e]
  simp
/-! the law -/
theorem one_of3 {v1 v2 v3 : V} {j : Int} (h0 : 0 ≤ j) (h3 : j < 3) : ∃ v, atI [v1, v2, v3] j = some v ∧ (v = v1 ∨ v = v2 ∨ v = v3) := by
  have : j = 0 ∨ j = 1 ∨ j = 2 := by omega
  rcases this with rfl | rfl | rfl
  · exact ⟨v1, atI_nat (j := 0) rfl, .inl rfl⟩
  · exact ⟨v2, atI_nat (j := 1) rfl, .inr (.inl rfl)⟩
  · exact ⟨v3, atI_nat (j := 2) rfl, .inr (.inr rfl)⟩
theorem one_of2 {v1 v2 : V} {j : Int} (h0 : 0 ≤ j) (h3 : j < 2) : ∃ v, atI [v1, v2] j = some v ∧ (v = v1 ∨ v = v2) := by
  have : j = 0 ∨ j = 1 := by omega
  rcases this with rfl | rfl
  · exact ⟨v1, atI_nat (j := 0) rfl, .inl rfl⟩
  · exact ⟨v2, atI_nat (j := 1) rfl, .inr rfl⟩
structure T24 (K : PySem.W.Frag) (st L M : Addr) (ls ms : List V) (ds es : List PyData) (G : Hp) : Prop where
  hL : G L = some (.lst ls)
  hM : G M = some (.lst ms)
  dL : DpAll K G ls ds
  dM : DpAll K G ms es
  gL : ∀ d ∈ ds, Good d
  gM : ∀ d ∈ es, Good d
  ne : L ≠ M
  nL : L ≠ st
  nM : M ≠ st
  pL : ∃ ds' d, ds = ds' ++ [d]
  pM : ∃ ds' d, es = ds' ++ [d]
theorem goods_tup {ds : List PyData} (h : ∀ d ∈ ds, Good d) : tupOnlyAll ds = true := tupOnly_all fun z hz => (h z hz).shp.1
theorem T24.go {K : PySem.W.Frag} {st L M : Addr} {ls ms : List V} {ds es : List PyData} {G G' : Hp} (t : T24 K st L M ls ms ds es G) (kt : KT G G') (k : ∀ b u, b ≠ st → G b = some u → G' b = some u) : T24 K st L M ls ms ds es G' :=
  ⟨k _ _ t.nL t.hL, k _ _ t.nM t.hM, dpAll_kt kt _ _ (goods_tup t.gL) t.dL, dpAll_kt kt _ _ (goods_tup t.gM) t.dM, t.gL, t.gM, t.ne, t.nL, t.nM, t.pL, t.pM⟩
theorem T24.same {K : PySem.W.Frag} {st L M : Addr} {ls ms : List V} {ds es : List PyData} {G G' : Hp} (t : T24 K st L M ls ms ds es G) (s : Same G G') : T24 K st L M ls ms ds es G' := t.go (KT.of_same s) fun b u _ h => s b u h
theorem T24.mv {K : PySem.W.Frag} {st L M : Addr} {ls ms : List V} {ds es : List PyData} {G G' : Hp} (t : T24 K st L M ls ms ds es G) (sa : StAt G st) (m : Mv st G G') : T24 K st L M ls ms ds es G' := t.go (m.kp.kt sa) fun b u n h => m.kp b u n h
theorem T24.swap {K : PySem.W.Frag} {st L M : Addr} {ls ms : List V} {ds es : List PyData} {G : Hp} (t : T24 K st L M ls ms ds es G) : T24 K st M L ms ls es ds G := ⟨t.hM, t.hL, t.dM, t.dL, t.gM, t.gL, fun e => t.ne e.symm, t.nM, t.nL, t.pM, t.pL⟩
theorem two_show {ds es : List PyData} (h : ∀ d ∈ ds, Good d) (h' : ∀ d ∈ es, Good d) (l : ds.length ≤ 30) (l' : es.length ≤ 30) : Sh (((960 + 1) * 30 + 1) * 2) 11 (.list [.list ds, .list es]) := by
  refine sh_lst (b := (960 + 1) * 30) (p := 10) (l := [.list ds, .list es]) fun z hz => ?_
  have one : ∀ cs : List PyData, (∀ d ∈ cs, Good d) → cs.length ≤ 30 → Sh ((960 + 1) * 30) 10 (.list cs) := fun cs hc lc => (sh_lst (b := 960) (p := 9) fun d hd => (hc d hd).show).mono (Nat.mul_le_mul_left _ lc) (Nat.le_refl _)
  rcases List.mem_cons.mp hz with rfl | hz
  · exact one _ h l
  rcases List.mem_cons.mp hz with rfl | hz
  · exact one _ h' l'
  cases hz
section
variable {P : Program} {w : World} {K : PySem.W.Frag} {mg : Str → Option Value} {base : Heap} {f : Addr} {fd : FuncData}
abbrev NLaw : List Str := ["_law_script", "_law_nth", "_law_state_here", "_law_told", "_law_others", "_law_turn", "_law_stood", "_law_mine", "_law_its"]
theorem scLaw : FnScope NLaw ["_law_script"] (defScope sLaw) := ⟨rfl, rfl, rfl, by decide +kernel, rfl, by decide +kernel, by decide +kernel⟩
structure Law24 (P : Program) (w : World) (K : PySem.W.Frag) (mg : Str → Option Value) (base : Heap) (k : Nat) : Prop where
  cSt : Cal P w K mg base "_law_state" k ["_law_script", "_law_k"] (spState K)
  cSm : Cal P w K mg base "_law_some_graph" k ["_law_state_here"] (spSome K)
  cC : Cal P w K mg base "_law_choice" k ["_law_state_here", "_law_many"] spChoice
  cD : Cal P w K mg base "_law_deed_right" k ["_law_state_here", "_law_graph_here", "_law_other_own", "_law_later"] (spDeedR K)
  cI : Cal P w K mg base "is_graph" k ["thing"] (spIsGraph K)
set_option maxHeartbeats 0 in
theorem law_body {k : Nat} {cdv : Value} {s : Shared} {H : Hp} {a : Addr} {ns : List Int} (T : Free mg) (only : Only H) (hS : SqL K H a (ns.map V.int)) (h63 : ns.length ≤ 63)
    (hr : Room k (callerA.deeper (PyProof.Rows.envOfC "law" (defScope sLaw) s.heap.objs.size f cdv))) (L : Law24 P w K mg base k) :
    ∃ t, PSs (cxOf CX0 P w K mg base NLaw "law" (defScope sLaw) f cdv callerA [] s H E0).nox (defBody sLaw) t ∧ t { nx := fun _ _ => False, rt := fun v _ => v = .bl true } (L2.start NLaw [.ref a]) H := by
  have hu : (callerA.deeper (PyProof.Rows.envOfC "law" (defScope sLaw) s.heap.objs.size f cdv)).units + 80 < cLine := by
    have := hr.un
    omega
  refine ⟨_, pss_cons (ps_for PassesOwn.never rfl (pi_range1 rfl T.range (pa_cons (pe_callB (call_max2 rfl) rfl T.max (by decide +kernel) (pa_cons pe_int (pa_cons (pe_callB (call_min2 rfl) rfl T.min (by decide +kernel)
        (pa_cons (pe_callB call_len_seq rfl T.len PySem.boot_len (pa_cons (pv 0) pa_nil)) (pa_cons pe_int pa_nil))) pa_nil))) pa_nil)) (pg_name (i := 1) scLaw.nd rfl (.inl rfl))
    (pss_cons (ps_set (i := 2) scLaw.nd rfl (.inl rfl) (pe_cal L.cSt hr rfl (pa_cons (pv 0) (pa_cons (pv 1) pa_nil))))
    (pss_cons (ps_par (i := 3) (j := 4) rfl scLaw.nd rfl rfl (by decide) rfl rfl (pa_cons (pe_lst (pa_cons (pe_cal L.cSm hr rfl (pa_cons (pv 2) pa_nil)) pa_nil)) (pa_cons (pe_lst (pa_cons (pe_cal L.cSm hr rfl (pa_cons (pv 2) pa_nil)) pa_nil)) pa_nil)) rfl)
    (pss_one (ps_for PassesOwn.never rfl (pi_range1 rfl T.range (pa_cons (pe_cal L.cC hr rfl (pa_cons (pv 2) (pa_cons pe_int pa_nil))) pa_nil)) (pg_name (i := 5) scLaw.nd rfl (.inl rfl))
      (pss_cons (ps_set (i := 6) scLaw.nd rfl (.inl rfl) (pe_callB (call_reprD rfl hu) rfl T.repr (by decide +kernel) (pa_cons (pe_lst (pa_cons (pv 3) (pa_cons (pv 4) pa_nil))) pa_nil)))
      (pss_cons (ps_par (i := 7) (j := 8) rfl scLaw.nd rfl rfl (by decide) rfl rfl (pa_cons (pe_ix ix_list (pv 3) (pe_un un_neg pe_int) (fun _ _ => rfl)) (pa_cons (pe_ix ix_list (pe_lst (pa_cons (pe_ix ix_list (pv 4) (pe_un un_neg pe_int) (fun _ _ => rfl)) (pa_cons (pe_ix ix_list (pv 3) (pe_un un_neg pe_int) (fun _ _ => rfl)) (pa_cons (pe_ix ix_list (pv 3) pe_int (fun _ _ => rfl)) pa_nil)))) (pe_cal L.cC hr rfl (pa_cons (pv 2) (pa_cons pe_int pa_nil))) (fun _ _ => rfl)) pa_nil)) rfl)
      (pss_cons (ps_if (PW.pt (pw_or (pt_not (pt_val (pe_cal L.cD hr rfl (pa_cons (pv 2) (pa_cons (pv 7) (pa_cons (pv 8) (pa_cons (pv 3) pa_nil))))))) (pw_or1 (pt_cmpR op_isnot_bl (pe_cal L.cI hr rfl (pa_cons (pe_ix ix_list (pv 3) (pe_un un_neg pe_int) (fun _ _ => rfl)) pa_nil)) pe_bl (nomark _))))) (pss_one (ps_ret pe_bl)) pss_nil)
      (pss_cons (ps_if (pt_cmpR op_ne (pe_callB (call_reprD rfl hu) rfl T.repr (by decide +kernel) (pa_cons (pe_lst (pa_cons (pe_slice sl_list (pv 3) po_none (po_some (pe_un un_neg pe_int))) (pa_cons (pv 4) pa_nil))) pa_nil)) (pv 6) (nomark _)) (pss_one (ps_ret pe_bl)) pss_nil)
      (pss_one (ps_asg (pe_ix ix_list (pe_lst (pa_cons (pe_lst (pa_cons (pv 3) (pa_cons (pv 4) pa_nil))) (pa_cons (pe_lst (pa_cons (pv 4) (pa_cons (pv 3) pa_nil))) pa_nil))) (pe_cal L.cC hr rfl (pa_cons (pv 2) (pa_cons pe_int pa_nil))) (fun _ _ => rfl)) (pg_unl rfl (pgs_cons (pg_name (i := 3) scLaw.nd rfl (.inl rfl)) (pgs_cons (pg_name (i := 4) scLaw.nd rfl (.inl rfl)) pgs_nil))))))))))))))
    (pss_one (ps_ret pe_bl)), ?_⟩
  have scr : ScrOk K H a (ns.map V.int) := by
    rcases hS with (z | z) | z
    · rcases only a with q | ⟨o, xs, q⟩ <;> (rw [q] at z; cases z)
    · exact .inl z
    · exact .inr z
  have no : ∀ {x : Str}, (!decide (V.str x = V.str x)) = false := fun {x} => by rw [decide_eq_true rfl]; rfl
  have hm : 0 ≤ (if (if (2 : Int) < ((ns.map V.int).length : Int) then 2 else ((ns.map V.int).length : Int)) > 1 then (if (2 : Int) < ((ns.map V.int).length : Int) then 2 else ((ns.map V.int).length : Int)) else 1) ∧
      (if (if (2 : Int) < ((ns.map V.int).length : Int) then 2 else ((ns.map V.int).length : Int)) > 1 then (if (2 : Int) < ((ns.map V.int).length : Int) then 2 else ((ns.map V.int).length : Int)) else 1) ≤ 2 := by
    split <;> split <;> omega
  refine ⟨_, rfl, a, _, rfl, .inl hS, _, _, rfl, _, _, rfl, _, rfl, by omega, by omega, ?_⟩
  refine for_range (lo := 0) (fun i σ H' => ∃ o1 o2 o3 o4 o5 o6 o7 o8, σ = [some (.ref a), o1, o2, o3, o4, o5, o6, o7, o8] ∧ ScrOk K H' a (ns.map V.int)) ⟨_, _, _, _, _, _, _, _, rfl, scr⟩ (fun i σ H1 hi h => ?_) (fun σ H' h => rfl)
  obtain ⟨o1, o2, o3, o4, o5, o6, o7, o8, rfl, sc1⟩ := h
  refine ⟨_, rfl, _, rfl, a, ns, 0 + (i : Int), rfl, sc1.sq, by omega, fun st x y z hst ok => ?_⟩
  have s2 := same_new hst (.lst [.int x, .int y, .int z])
  have sa2 : StAt (upd H1 st (.lst [.int x, .int y, .int z])) st := ⟨x, y, z, upd_same, ok⟩
  have sc2 := sc1.kt (KT.of_same s2)
  generalize upd H1 st (.lst [.int x, .int y, .int z]) = H2 at sa2 sc2 ⊢
  refine ⟨_, rfl, st, rfl, sa2, fun v1 d1 c1 H3 m3 hd1 g1 => ⟨small (by show 1 ≤ 1000; decide), fun p1 hp1 => ?_⟩⟩
  have G1 : Good d1 := ⟨c1, g1⟩
  have s3 := same_new hp1 (.lst [v1])
  have sa3 := m3.sa.same s3
  refine ⟨_, rfl, st, rfl, sa3, fun v2 d2 c2 H4 m4 hd2 g2 => ⟨small (by show 1 ≤ 1000; decide), fun p2 hp2 => ⟨_, _, rfl, ?_⟩⟩⟩
  have G2 : Good d2 := ⟨c2, g2⟩
  have s4 := same_new hp2 (.lst [v2])
  have sa4 := m4.sa.same s4
  have n1 : p1 ≠ st := fun z => by
    obtain ⟨l, hl⟩ := m3.sa.some
    rw [← z, hp1] at hl
    cases hl
  have n2 : p2 ≠ st := fun z => by
    obtain ⟨l, hl⟩ := m4.sa.some
    rw [← z, hp2] at hl
    cases hl
  have h41 : H4 p1 = some (.lst [v1]) := m4.kp _ _ n1 upd_same
  have kt4 : KT H3 (upd H4 p2 (.lst [v2])) := (KT.of_same s3).trans ((m4.kp.kt sa3).trans (KT.of_same s4))
  have tt : T24 K st p1 p2 [v1] [v2] [d1] [d2] (upd H4 p2 (.lst [v2])) :=
    ⟨s4 _ _ h41, upd_same, .cons (dp_kt kt4 _ _ G1.shp.1 hd1) .nil, .cons (dp_kt (KT.of_same s4) _ _ G2.shp.1 hd2) .nil, fun d hd => by rw [List.mem_singleton.mp hd]; exact G1, fun d hd => by rw [List.mem_singleton.mp hd]; exact G2, (fun z => by rw [z, hp2] at h41; cases h41), n1, n2, ⟨[], d1, rfl⟩, ⟨[], d2, rfl⟩⟩
  have sc4 := sc2.kt ((m3.kp.kt sa2).trans kt4)
  generalize upd H4 p2 (.lst [v2]) = H5 at sa4 tt sc4 ⊢
  clear hd1 hd2 kt4 h41 s3 s4 sa3 sa2 sc2 hp1 hp2 m3 m4
  refine ⟨_, rfl, st, 21, rfl, sa4, by decide, by decide, fun n H6 n0 n21 m6 => ⟨_, rfl, by omega, by omega, ?_⟩⟩
  have tt := tt.mv sa4 m6
  have sc6 := sc4.kt (m6.kp.kt sa4)
  refine for_range (lo := 0) (fun t σ G => ∃ L1 L2 ls ms ds es o5 o6 o7 o8, σ = [some (.ref a), some (.int (0 + (i : Int))), some (.ref st), some (.ref L1), some (.ref L2), o5, o6, o7, o8] ∧ ScrOk K G a (ns.map V.int) ∧ StAt G st ∧ T24 K st L1 L2 ls ms ds es G ∧ ds.length + es.length ≤ 2 + t)
    ⟨_, _, _, _, _, _, _, _, _, _, rfl, sc6, m6.sa, tt, Nat.le_refl _⟩ (fun t σ G ht h => ?_) (fun σ G h => ?_)
  · obtain ⟨L1, L2, ls, ms, ds, es, o5, o6, o7, o8, rfl, scG, saG, tG, lG⟩ := h
    have lt : t < 20 := by omega
    have sh := two_show tG.gL tG.gM (by omega) (by omega)
    refine ⟨_, rfl, _, rfl, small (by show 2 ≤ 1000; decide), fun q1 hq1 => ?_⟩
    have s1 := same_new hq1 (.lst [V.ref L1, .ref L2])
    have t1 := tG.same s1
    have sa1 := saG.same s1
    refine ⟨q1, .list [.list ds, .list es], rfl, .lst (SqL.of upd_same) (.cons (.lst (SqL.of t1.hL) t1.dL) (.cons (.lst (SqL.of t1.hM) t1.dM) .nil)), sh.shw, sh.nod, Nat.le_trans sh.dep (by decide), sh.fits (by decide), ?_⟩
    have sc1 := scG.kt (KT.of_same s1)
    generalize upd G q1 (.lst [V.ref L1, .ref L2]) = G1 at t1 sa1 sc1 ⊢
    clear s1 tG saG scG hq1
    obtain ⟨ds', d, rfl⟩ := t1.pL
    obtain ⟨es', e, rfl⟩ := t1.pM
    obtain ⟨us, u, rfl, hus, hu'⟩ := dpAll_split t1.dL
    obtain ⟨ws, wv, rfl, hws, hw'⟩ := dpAll_split t1.dM
    have gd : Good d := t1.gL d (by simp)
    have ge : Good e := t1.gM e (by simp)
    obtain ⟨f0, hf0, z0, gf0, hz0⟩ : ∃ f0, atI (us ++ [u]) 0 = some f0 ∧ ∃ z0, Good z0 ∧ Dp K G1 f0 z0 := by
      have l := dpAll_len t1.dL
      obtain ⟨f0, hf⟩ : ∃ f0, (us ++ [u])[0]? = some f0 := ⟨_, List.getElem?_eq_getElem (by rw [List.length_append]; show 0 < _ + 1; omega)⟩
      obtain ⟨z0, hz, dz⟩ := dpAll_get' t1.dL hf
      exact ⟨f0, atI_nat hf, z0, t1.gL _ (List.mem_of_getElem? hz), dz⟩
    refine ⟨_, rfl, _, rfl, L1, us ++ [u], -1, u, rfl, rfl, SqL.of t1.hL, at_last us u, ?_⟩
    refine ⟨_, rfl, _, rfl, L2, ws ++ [wv], -1, wv, rfl, rfl, SqL.of t1.hM, at_last ws wv, ?_⟩
    refine ⟨_, rfl, _, rfl, L1, us ++ [u], -1, u, rfl, rfl, SqL.of t1.hL, at_last us u, ?_⟩
    refine ⟨_, rfl, L1, us ++ [u], 0, f0, rfl, rfl, SqL.of t1.hL, hf0, small (by show 3 ≤ 1000; decide), fun q2 hq2 => ?_⟩
    have s2 := same_new hq2 (.lst [wv, u, f0])
    refine ⟨_, rfl, st, 3, rfl, sa1.same s2, by decide, by decide, fun j G2 j0 j3 m2 => ?_⟩
    obtain ⟨y, hy, eqy⟩ := one_of3 (v1 := wv) (v2 := u) (v3 := f0) j0 j3
    have nq : q2 ≠ st := fun z => by
      obtain ⟨l, hl⟩ := sa1.some
      rw [← z, hq2] at hl
      cases hl
    refine ⟨q2, [wv, u, f0], j, y, rfl, rfl, SqL.of (m2.kp _ _ nq upd_same), hy, _, _, rfl, ?_⟩
    have k2 : KT G1 G2 := (KT.of_same s2).trans (m2.kp.kt (sa1.same s2))
    have t2 := (t1.same s2).mv (sa1.same s2) m2
    have sa2 := m2.sa
    have sc2 := sc1.kt k2
    obtain ⟨o, go, hyo⟩ : ∃ o, Good o ∧ Dp K G2 y o := by
      rcases eqy with rfl | rfl | rfl
      · exact ⟨e, ge, dp_kt k2 _ _ ge.shp.1 hw'⟩
      · exact ⟨d, gd, dp_kt k2 _ _ gd.shp.1 hu'⟩
      · exact ⟨z0, gf0, dp_kt k2 _ _ gf0.shp.1 hz0⟩
    have hu2 := dp_kt k2 _ _ gd.shp.1 hu'
    clear t1 sa1 sc1 s2 m2 k2 hz0 hu' hw' hws hus hq2
    have ll : (us ++ [u]).length ≤ 30 := by
      have := dpAll_len t2.dL
      omega
    refine ⟨_, rfl, _, rfl, _, rfl, _, rfl, st, L1, u, y, d, o, us ++ [u], rfl, sa2, t2.nL, t2.hL, ll, hu2, gd, hyo, go, fun v ev G3 k3 sa3 h3 hv gv => ?_⟩
    refine ⟨true, rfl, ifF rfl ?_⟩
    have kt3 := k3.kt sa2 t2.hL
    have sc3 := sc2.kt kt3
    have h3M := k3 _ _ t2.nM (fun z => t2.ne z.symm) t2.hM
    have dL3 := dpAll_kt kt3 _ _ (goods_tup t2.gL) t2.dL
    have dM3 := dpAll_kt kt3 _ _ (goods_tup t2.gM) t2.dM
    refine ⟨_, rfl, _, rfl, L1, us ++ [u] ++ [v], -1, v, rfl, rfl, SqL.of h3, at_last _ v, v, ev, rfl, hv, gv.sh, ?_⟩
    obtain ⟨cv, hcv⟩ := id gv
    rw [hcv]
    refine ⟨true, true, rfl, rfl, _, rfl, ifF rfl ?_⟩
    -- all of before stands
    refine ⟨_, rfl, 1, rfl, -1, rfl, L1, us ++ [u] ++ [v], rfl, SqL.of h3, fun q4 hq4 => ?_⟩
    rw [cut_last (us ++ [u]) v]
    have s4 := same_new hq4 (.lst (us ++ [u]))
    refine ⟨_, rfl, small (by show 2 ≤ 1000; decide), fun q5 hq5 => ?_⟩
    have s5 := same_new hq5 (.lst [V.ref q4, .ref L2])
    have s45 := s4.trans s5
    refine ⟨q5, .list [.list (ds' ++ [d]), .list (es' ++ [e])], rfl, .lst (SqL.of upd_same) (.cons (.lst (SqL.of (s5 _ _ upd_same)) (dpAll_kt (KT.of_same s45) _ _ (goods_tup t2.gL) dL3)) (.cons (.lst (SqL.of (s45 _ _ h3M)) (dpAll_kt (KT.of_same s45) _ _ (goods_tup t2.gM) dM3)) .nil)), sh.shw, sh.nod, Nat.le_trans sh.dep (by decide), sh.fits (by decide), ?_⟩
    refine ⟨_, rfl, rfl, _, rfl, ifF no ?_⟩
    have t5 : T24 K st L1 L2 (us ++ [u] ++ [v]) (ws ++ [wv]) (ds' ++ [d] ++ [ev]) (es' ++ [e]) (upd (upd G3 q4 (.lst (us ++ [u]))) q5 (.lst [V.ref q4, .ref L2])) :=
      ⟨s45 _ _ h3, s45 _ _ h3M, dpAll_snoc (dp_kt (KT.of_same s45) _ _ gv.shp.1 hv) (dpAll_kt (KT.of_same s45) _ _ (goods_tup t2.gL) dL3), dpAll_kt (KT.of_same s45) _ _ (goods_tup t2.gM) dM3, fun z hz => (List.mem_append.mp hz).elim (t2.gL z) (fun q => by rw [List.mem_singleton.mp q]; exact gv), t2.gM, t2.ne, t2.nL, t2.nM, ⟨_, _, rfl⟩, t2.pM⟩
    have sa5 := sa3.same s45
    have sc5 := sc3.kt (KT.of_same s45)
    generalize upd (upd G3 q4 (.lst (us ++ [u]))) q5 (.lst [V.ref q4, .ref L2]) = G5 at t5 sa5 sc5 ⊢
    clear t2 dL3 dM3 h3M s45 s5 s4 h3 hv sc3 sa3 kt3 k3 hu2 hyo sa2 sc2
    -- the two of the next turn
    refine ⟨_, rfl, _, rfl, small (by show 2 ≤ 1000; decide), fun q6 hq6 => ?_⟩
    have s6 := same_new hq6 (.lst [V.ref L1, .ref L2])
    refine ⟨_, rfl, _, rfl, small (by show 2 ≤ 1000; decide), fun q7 hq7 => ?_⟩
    have s7 := same_new hq7 (.lst [V.ref L2, .ref L1])
    refine ⟨small (by show 2 ≤ 1000; decide), fun q8 hq8 => ?_⟩
    have s8 := same_new hq8 (.lst [V.ref q6, .ref q7])
    have sa8 := sa5.same (s6.trans (s7.trans s8))
    refine ⟨_, rfl, st, 2, rfl, sa8, by decide, by decide, fun j' G9 j0' j2' m9 => ?_⟩
    have nst : ∀ {q : Addr} {l : List V} , (upd (upd (upd G5 q6 (.lst [V.ref L1, .ref L2])) q7 (.lst [V.ref L2, .ref L1])) q8 (.lst [V.ref q6, .ref q7])) q = some (.lst l) → (∀ x y z, l ≠ [V.int x, .int y, .int z]) → q ≠ st := fun h n z => by
      obtain ⟨x, y, z', hl, _⟩ := sa8
      rw [z, hl] at h
      cases h
      exact n _ _ _ rfl
    have h8 : G9 q8 = some (.lst [V.ref q6, .ref q7]) := m9.kp _ _ (nst upd_same fun x y z h => by cases h) upd_same
    have z7 : (upd (upd (upd G5 q6 (.lst [V.ref L1, .ref L2])) q7 (.lst [V.ref L2, .ref L1])) q8 (.lst [V.ref q6, .ref q7])) q7 = some (.lst [V.ref L2, .ref L1]) := s8 _ _ upd_same
    have z6 : (upd (upd (upd G5 q6 (.lst [V.ref L1, .ref L2])) q7 (.lst [V.ref L2, .ref L1])) q8 (.lst [V.ref q6, .ref q7])) q6 = some (.lst [V.ref L1, .ref L2]) := s8 _ _ (s7 _ _ upd_same)
    have h7 := m9.kp _ _ (nst z7 fun x y z h => by cases h) z7
    have h6 := m9.kp _ _ (nst z6 fun x y z h => by cases h) z6
    have t9 := (t5.same (s6.trans (s7.trans s8))).mv sa8 m9
    have sc9 := sc5.kt ((KT.of_same (s6.trans (s7.trans s8))).trans (m9.kp.kt sa8))
    obtain ⟨y', hy', ey'⟩ := one_of2 (v1 := V.ref q6) (v2 := V.ref q7) j0' j2'
    refine ⟨q8, _, j', y', rfl, rfl, SqL.of h8, hy', ?_⟩
    have lG' : (ds' ++ [d] ++ [ev]).length + (es' ++ [e]).length ≤ 2 + (t + 1) := by
      rw [List.length_append (as := ds' ++ [d])]
      show _ + 1 + _ ≤ _
      omega
    rcases ey' with rfl | rfl
    · exact ⟨q6, _, rfl, SqL.of h6, rfl, _, _, rfl, _, _, rfl, rfl, _, _, _, _, _, _, _, _, _, _, rfl, sc9, m9.sa, t9, lG'⟩
    · exact ⟨q7, _, rfl, SqL.of h7, rfl, _, _, rfl, _, _, rfl, rfl, _, _, _, _, _, _, _, _, _, _, rfl, sc9, m9.sa, t9.swap, by omega⟩
  · obtain ⟨L1, L2, ls, ms, ds, es, o5, o6, o7, o8, rfl, scG, saG, tG, lG⟩ := h
    exact ⟨_, _, _, _, _, _, _, _, rfl, scG⟩
end
/-- a def of the text that stands under its name -/
structure Std0 (K : PySem.W.Frag) (mg : Str → Option Value) (x : Str) (st : Stmt) (f : Addr) (fd : FuncData) : Prop where
  fn : Fun K x x st f fd
  nm : mg x = some (.ref f)
structure Std (K : PySem.W.Frag) (mg : Str → Option Value) (x : Str) (st : Stmt) (ps : List Str) (f : Addr) (fd : FuncData) : Prop where
  fn : Fun K x x st f fd
  nm : mg x = some (.ref f)
  bi : Binds K fd ps []
theorem Std.cal {P : Program} {w : World} {K : PySem.W.Frag} {mg : Str → Option Value} {base : Heap} {x : Str} {st : Stmt} {ps : List Str} {f : Addr} {fd : FuncData} {k j : Nat} {sp : Sp} (D : Std K mg x st ps f fd) (F : FnOk P w K mg base CX0 k f fd ps sp) (h : k ≤ j := by omega) : Cal P w K mg base x j ps sp :=
  ⟨f, fd, F.mono h, D.nm, D.fn.kp, D.bi⟩
theorem all_cals {P : Program} {w : World} {K : PySem.W.Frag} {mg : Str → Option Value} {base : Heap} {ba : Addr} (T : Free mg) (C : Cst mg) (mB : mg "BARE" = some (.ref ba)) (dB : ∀ H, Dp K H (.ref ba) bareD) {f0 : Addr} {d0 : FuncData} (D0 : Std K mg "is_whole" sWhole ["thing"] f0 d0) {f1 : Addr} {d1 : FuncData} (D1 : Std K mg "is_within" sWithin ["thing", "least", "most"] f1 d1) {f2 : Addr} {d2 : FuncData} (D2 : Std K mg "is_tuple" sTuple ["thing", "least", "most"] f2 d2) {f3 : Addr} {d3 : FuncData} (D3 : Std K mg "is_number" sNumber ["thing"] f3 d3) {f4 : Addr} {d4 : FuncData} (D4 : Std K mg "is_place" sPlace ["thing"] f4 d4) {f5 : Addr} {d5 : FuncData} (D5 : Std K mg "has_box" sHasBox ["graph", "b"] f5 d5) {f6 : Addr} {d6 : FuncData} (D6 : Std K mg "is_tie" sTie ["thing", "graph"] f6 d6) {f7 : Addr} {d7 : FuncData} (D7 : Std K mg "place_size" sPsz ["thing", "graph", "deep"] f7 d7) {f8 : Addr} {d8 : FuncData} (D8 : Std K mg "graph_size" sGsz ["thing", "deep"] f8 d8) {f9 : Addr} {d9 : FuncData} (D9 : Std K mg "is_graph" sIsGraph ["thing"] f9 d9) {f10 : Addr} {d10 : FuncData} (D10 : Std K mg "check_graph" sCheckG ["graph"] f10 d10) {f11 : Addr} {d11 : FuncData} (D11 : Std K mg "check_place" sCheckP ["k"] f11 d11) {f12 : Addr} {d12 : FuncData} (D12 : Std K mg "boxes_in" sBoxesIn ["graph"] f12 d12) {f13 : Addr} {d13 : FuncData} (D13 : Std K mg "sort_of" sSortOf ["place"] f13 d13) {f14 : Addr} {d14 : FuncData} (D14 : Std K mg "depth_of" sDepthOf ["graph"] f14 d14) {f15 : Addr} {d15 : FuncData} (D15 : Std K mg "held" sHeld ["number"] f15 d15) {f16 : Addr} {d16 : FuncData} (D16 : Std K mg "replaced" sReplaced ["graph", "b", "k", "place"] f16 d16) {f17 : Addr} {d17 : FuncData} (D17 : Std K mg "can_grow" sCanGrow ["graph"] f17 d17) {f18 : Addr} {d18 : FuncData} (D18 : Std K mg "grown" sGrown ["graph"] f18 d18) {f19 : Addr} {d19 : FuncData} (D19 : Std0 K mg "with_number" sWithNumber f19 d19) {f20 : Addr} {d20 : FuncData} (D20 : Std0 K mg "with_tie" sWithTie f20 d20) {f21 : Addr} {d21 : FuncData} (D21 : Std K mg "can_hang" sCanHang ["graph", "b", "k", "other"] f21 d21) {f22 : Addr} {d22 : FuncData} (D22 : Std0 K mg "with_graph" sWithGraph f22 d22) {f23 : Addr} {d23 : FuncData} (D23 : Std K mg "sort_at" sSortAt ["graph", "b", "k"] f23 d23) {f24 : Addr} {d24 : FuncData} (D24 : Std K mg "number_at" sNumAt ["graph", "b", "k"] f24 d24) {f25 : Addr} {d25 : FuncData} (D25 : Std K mg "graph_at" sGraphAt ["graph", "b", "k"] f25 d25) {f26 : Addr} {d26 : FuncData} (D26 : Std K mg "_law_size" sSize ["_law_graph_here"] f26 d26) {f27 : Addr} {d27 : FuncData} (D27 : Std K mg "_law_graph" sGraph ["_law_state_here", "_law_deep", "_law_room"] f27 d27) {f28 : Addr} {d28 : FuncData} (D28 : Std K mg "_law_some_graph" sSome ["_law_state_here"] f28 d28) {f29 : Addr} {d29 : FuncData} (D29 : Std K mg "_law_cell_at" sCell ["_law_script", "_law_k"] f29 d29) {f30 : Addr} {d30 : FuncData} (D30 : Std K mg "_law_state" sState ["_law_script", "_law_k"] f30 d30) {f31 : Addr} {d31 : FuncData} (D31 : Std K mg "_law_choice" sChoice ["_law_state_here", "_law_many"] f31 d31) {f32 : Addr} {d32 : FuncData} (D32 : Std K mg "_law_inner" sInner ["_law_graph_here"] f32 d32) {f33 : Addr} {d33 : FuncData} (D33 : Std K mg "_law_seen" sSeen ["_law_graph_here", "_law_many"] f33 d33) {f34 : Addr} {d34 : FuncData} (D34 : Std K mg "_law_turned" sTurned ["_law_one", "_law_other_own"] f34 d34) {f35 : Addr} {d35 : FuncData} (D35 : Std K mg "_law_deed_right" sDeed ["_law_state_here", "_law_graph_here", "_law_other_own", "_law_later"] f35 d35) : Law24 P w K mg base 22 := by
  have cW := D0.cal (j := 1) (ok_whole (P := P) (w := w) (base := base) (k := 0) D0.fn T)
  have cWi := D1.cal (j := 2) (ok_within D1.fn cW)
  have cTu := D2.cal (j := 2) (ok_tuple (P := P) (w := w) (base := base) (k := 0) D2.fn T)
  have cNm := D3.cal (j := 3) (ok_number D3.fn C cWi)
  have cPl := D4.cal (j := 3) (ok_place D4.fn C cWi)
  have cHb := D5.cal (j := 3) (ok_hasBox D5.fn T cWi)
  have cTi := D6.cal (j := 4) (ok_tie D6.fn (cTu.mono (by omega)) cHb)
  have sizes : ∀ n : Nat, Cal P w K mg base "graph_size" (5 + 2 * n) ["thing", "deep"] (spGsz K n) := by
    intro n
    induction n with
    | zero => exact D8.cal (ok_gsz (k := 4) (n := 0) D8.fn T C (cTu.mono (by omega)) (fun z => absurd rfl z))
    | succ n ih =>
      have cP : Cal P w K mg base "place_size" (6 + 2 * n) ["thing", "graph", "deep"] (spPsz K n) := D7.cal (ok_psz (k := 5 + 2 * n) D7.fn (cNm.mono (by omega)) (cTi.mono (by omega)) ih)
      exact D8.cal (ok_gsz (k := 6 + 2 * n) (n := n + 1) D8.fn T C (cTu.mono (by omega)) (fun _ => cP))
  have cIs := D9.cal (j := 14) (ok_isGraph D9.fn C (sizes 4))
  have cCg := D10.cal (j := 15) (ok_checkG (k := 14) D10.fn cIs)
  have cCp := D11.cal (j := 15) (ok_checkP D11.fn cPl)
  have cHe := D15.cal (j := 15) (ok_held (P := P) (w := w) (base := base) (k := 0) D15.fn T C)
  have cRe := D16.cal (j := 16) (ok_replaced (P := P) (w := w) (base := base) (mg := mg) (n := 0) D16.fn)
  have cGw := D17.cal (j := 17) (ok_canGrow (k := 16) D17.fn T C ((sizes 4).mono (by omega)))
  have cHg := D21.cal (j := 17) (ok_canHang (n := 16) D21.fn (cHb.mono (by omega)) cRe (cIs.mono (by omega)))
  have oGr := ok_grown (k := 17) D18.fn mB dB (cCg.mono (by omega)) cGw
  have oN := ok_withN (n := 16) D19.fn (cCg.mono (by omega)) (cCp.mono (by omega)) (cHb.mono (by omega)) cRe (cHe.mono (by omega))
  have oT := ok_withT (n := 16) D20.fn (cCg.mono (by omega)) (cCp.mono (by omega)) (cHb.mono (by omega)) cRe
  have oG := ok_withG (n := 17) D22.fn (cCg.mono (by omega)) (cCp.mono (by omega)) (cRe.mono (by omega)) cHg
  have cBx := D12.cal (j := 16) (ok_boxesIn (k := 15) D12.fn C cCg ((sizes 4).mono (by omega)))
  have cSo := D13.cal (j := 1) (ok_sortOf (P := P) (w := w) (base := base) (k := 0) D13.fn T C)
  have ldp : ∀ n : Nat, Cal P w K mg base "depth_of" (15 + n) ["graph"] (spDepth K n) := by
    intro n
    induction n with
    | zero => exact D14.cal (no_depth (k := 15))
    | succ n ih => exact D14.cal (ok_depth (k := 15 + n) D14.fn T C (cCg.mono (by omega)) (cSo.mono (by omega)) ih)
  have cSa := D23.cal (j := 16) (ok_sortAt (n := 15) D23.fn C cCg cCp (cSo.mono (by omega)) (cHb.mono (by omega)))
  have cNa := D24.cal (j := 17) (ok_numAt (n := 16) D24.fn C cSa)
  have cGa := D25.cal (j := 17) (ok_graphAt (n := 16) D25.fn C mB dB cSa)
  have cCh := D31.cal (j := 1) (ok_choice (P := P) (w := w) (base := base) (mg := mg) (k := 0) D31.fn)
  have cCe := D29.cal (j := 1) (ok_cell (P := P) (w := w) (base := base) (k := 0) D29.fn T)
  have cIn := D32.cal (j := 1) (ok_inner (P := P) (w := w) (base := base) (k := 0) D32.fn T)
  have lsz : ∀ n : Nat, Cal P w K mg base "_law_size" (2 + n) ["_law_graph_here"] (spSize K n) := by
    intro n
    induction n with
    | zero => exact D26.cal (no_size (k := 2) D26.fn)
    | succ n ih => exact D26.cal (ok_size (k := 2 + n) D26.fn T (cIn.mono (by omega)) ih)
  have lgr : ∀ n : Nat, FnOk P w K mg base CX0 (6 + n) f27 d27 ["_law_state_here", "_law_deep", "_law_room"] (spGraph K n) := by
    intro n
    induction n with
    | zero => exact no_graph
    | succ n ih => exact ok_graph (k := 6 + n) D27.fn T (cCh.mono (by omega)) ((lsz n).mono (by omega)) (D27.cal ih)
  have cAny := D27.cal (j := 10) (FnOk.anyG fun n hn => (lgr n).mono (k := 10) (by omega))
  have cSm := D28.cal (j := 11) (ok_some D28.fn T (cCh.mono (by omega)) cAny)
  have cSe := D33.cal (j := 18) (ok_seen (n := 17) D33.fn T (cSa.mono (by omega)) cNa cGa)
  have cTn := D34.cal (j := 1) (ok_turned (P := P) (w := w) (base := base) (mg := mg) (n := 0) D34.fn T)
  have dd : Deed24 P w K mg base 20 := {
    cC := cCh.mono (by omega)
    cSe := cSe.mono (by omega)
    cTu := cTn.mono (by omega)
    gr := D18.cal oGr
    n3 := ⟨_, _, oN.mono (by omega), D19.nm, D19.fn.kp, kb_n3 D19.fn⟩
    t3 := ⟨_, _, oT.mono (by omega), D20.nm, D20.fn.kp, kb_t3 D20.fn⟩
    g3 := ⟨_, _, oG.mono (by omega), D22.nm, D22.fn.kp, kb_g3 D22.fn⟩
    cB := cBx.mono (by omega)
    cSo := cSa.mono (by omega)
    cGr := cGa.mono (by omega)
    cD := (ldp 4).mono (by omega) }
  exact {
    cSt := D30.cal (ok_state D30.fn T cCe)
    cSm := cSm.mono (by omega)
    cC := cCh.mono (by omega)
    cD := D35.cal (ok_deed (k := 20) D35.fn T dd)
    cI := cIs.mono (by omega) }
set_option maxHeartbeats 8000000 in
theorem all_mk {K : PySem.W.Frag} {h : Heap} {mg : Str → Option Value} {fa : Addr} (X : K.In h) (G : h.Ns mainGlobals mg) (hfa : mg "law" = some (.ref fa))
    {f0 : Addr} {od0 an0 : Option Addr} {sl0 : Array (Option Value)} {oc0 kV0 dc0 pm0 ct0 : Value} {cd0 : Value}
    (a0 : PySem.W.nsIn K mainGlobals "is_whole" = some (some (.ref f0))) (l0 : K.lookup f0 = some ⟨oc0, od0, .func (PySem.W.fnOf "is_whole" "is_whole" (defArgs sWhole) (defBody sWhole) (defScope sWhole) .none kV0 dc0 pm0 an0 cd0 ct0), sl0⟩) (c0 : PySem.W.codeIn K cd0 "is_whole" = true) (k0 : PySem.W.keepIn K (.ref f0) = true)
    {f1 : Addr} {od1 an1 : Option Addr} {sl1 : Array (Option Value)} {oc1 kV1 dc1 pm1 ct1 : Value} {cd1 : Value}
    (a1 : PySem.W.nsIn K mainGlobals "is_within" = some (some (.ref f1))) (l1 : K.lookup f1 = some ⟨oc1, od1, .func (PySem.W.fnOf "is_within" "is_within" (defArgs sWithin) (defBody sWithin) (defScope sWithin) .none kV1 dc1 pm1 an1 cd1 ct1), sl1⟩) (c1 : PySem.W.codeIn K cd1 "is_within" = true) (k1 : PySem.W.keepIn K (.ref f1) = true)
    {f2 : Addr} {od2 an2 : Option Addr} {sl2 : Array (Option Value)} {oc2 kV2 dc2 pm2 ct2 : Value} {cd2 : Value}
    (a2 : PySem.W.nsIn K mainGlobals "is_tuple" = some (some (.ref f2))) (l2 : K.lookup f2 = some ⟨oc2, od2, .func (PySem.W.fnOf "is_tuple" "is_tuple" (defArgs sTuple) (defBody sTuple) (defScope sTuple) .none kV2 dc2 pm2 an2 cd2 ct2), sl2⟩) (c2 : PySem.W.codeIn K cd2 "is_tuple" = true) (k2 : PySem.W.keepIn K (.ref f2) = true)
    {f3 : Addr} {od3 an3 : Option Addr} {sl3 : Array (Option Value)} {oc3 kV3 dc3 pm3 ct3 : Value} {cd3 : Value}
    (a3 : PySem.W.nsIn K mainGlobals "is_number" = some (some (.ref f3))) (l3 : K.lookup f3 = some ⟨oc3, od3, .func (PySem.W.fnOf "is_number" "is_number" (defArgs sNumber) (defBody sNumber) (defScope sNumber) .none kV3 dc3 pm3 an3 cd3 ct3), sl3⟩) (c3 : PySem.W.codeIn K cd3 "is_number" = true) (k3 : PySem.W.keepIn K (.ref f3) = true)
    {f4 : Addr} {od4 an4 : Option Addr} {sl4 : Array (Option Value)} {oc4 kV4 dc4 pm4 ct4 : Value} {cd4 : Value}
    (a4 : PySem.W.nsIn K mainGlobals "is_place" = some (some (.ref f4))) (l4 : K.lookup f4 = some ⟨oc4, od4, .func (PySem.W.fnOf "is_place" "is_place" (defArgs sPlace) (defBody sPlace) (defScope sPlace) .none kV4 dc4 pm4 an4 cd4 ct4), sl4⟩) (c4 : PySem.W.codeIn K cd4 "is_place" = true) (k4 : PySem.W.keepIn K (.ref f4) = true)
    {f5 : Addr} {od5 an5 : Option Addr} {sl5 : Array (Option Value)} {oc5 kV5 dc5 pm5 ct5 : Value} {cd5 : Value}
    (a5 : PySem.W.nsIn K mainGlobals "has_box" = some (some (.ref f5))) (l5 : K.lookup f5 = some ⟨oc5, od5, .func (PySem.W.fnOf "has_box" "has_box" (defArgs sHasBox) (defBody sHasBox) (defScope sHasBox) .none kV5 dc5 pm5 an5 cd5 ct5), sl5⟩) (c5 : PySem.W.codeIn K cd5 "has_box" = true) (k5 : PySem.W.keepIn K (.ref f5) = true)
    {f6 : Addr} {od6 an6 : Option Addr} {sl6 : Array (Option Value)} {oc6 kV6 dc6 pm6 ct6 : Value} {cd6 : Value}
    (a6 : PySem.W.nsIn K mainGlobals "is_tie" = some (some (.ref f6))) (l6 : K.lookup f6 = some ⟨oc6, od6, .func (PySem.W.fnOf "is_tie" "is_tie" (defArgs sTie) (defBody sTie) (defScope sTie) .none kV6 dc6 pm6 an6 cd6 ct6), sl6⟩) (c6 : PySem.W.codeIn K cd6 "is_tie" = true) (k6 : PySem.W.keepIn K (.ref f6) = true)
    {f7 : Addr} {od7 an7 : Option Addr} {sl7 : Array (Option Value)} {oc7 kV7 dc7 pm7 ct7 : Value} {cd7 : Value}
    (a7 : PySem.W.nsIn K mainGlobals "place_size" = some (some (.ref f7))) (l7 : K.lookup f7 = some ⟨oc7, od7, .func (PySem.W.fnOf "place_size" "place_size" (defArgs sPsz) (defBody sPsz) (defScope sPsz) .none kV7 dc7 pm7 an7 cd7 ct7), sl7⟩) (c7 : PySem.W.codeIn K cd7 "place_size" = true) (k7 : PySem.W.keepIn K (.ref f7) = true)
    {f8 : Addr} {od8 an8 : Option Addr} {sl8 : Array (Option Value)} {oc8 kV8 dc8 pm8 ct8 : Value} {cd8 : Value}
    (a8 : PySem.W.nsIn K mainGlobals "graph_size" = some (some (.ref f8))) (l8 : K.lookup f8 = some ⟨oc8, od8, .func (PySem.W.fnOf "graph_size" "graph_size" (defArgs sGsz) (defBody sGsz) (defScope sGsz) .none kV8 dc8 pm8 an8 cd8 ct8), sl8⟩) (c8 : PySem.W.codeIn K cd8 "graph_size" = true) (k8 : PySem.W.keepIn K (.ref f8) = true)
    {f9 : Addr} {od9 an9 : Option Addr} {sl9 : Array (Option Value)} {oc9 kV9 dc9 pm9 ct9 : Value} {cd9 : Value}
    (a9 : PySem.W.nsIn K mainGlobals "is_graph" = some (some (.ref f9))) (l9 : K.lookup f9 = some ⟨oc9, od9, .func (PySem.W.fnOf "is_graph" "is_graph" (defArgs sIsGraph) (defBody sIsGraph) (defScope sIsGraph) .none kV9 dc9 pm9 an9 cd9 ct9), sl9⟩) (c9 : PySem.W.codeIn K cd9 "is_graph" = true) (k9 : PySem.W.keepIn K (.ref f9) = true)
    {f10 : Addr} {od10 an10 : Option Addr} {sl10 : Array (Option Value)} {oc10 kV10 dc10 pm10 ct10 : Value} {cd10 : Value}
    (a10 : PySem.W.nsIn K mainGlobals "check_graph" = some (some (.ref f10))) (l10 : K.lookup f10 = some ⟨oc10, od10, .func (PySem.W.fnOf "check_graph" "check_graph" (defArgs sCheckG) (defBody sCheckG) (defScope sCheckG) .none kV10 dc10 pm10 an10 cd10 ct10), sl10⟩) (c10 : PySem.W.codeIn K cd10 "check_graph" = true) (k10 : PySem.W.keepIn K (.ref f10) = true)
    {f11 : Addr} {od11 an11 : Option Addr} {sl11 : Array (Option Value)} {oc11 kV11 dc11 pm11 ct11 : Value} {cd11 : Value}
    (a11 : PySem.W.nsIn K mainGlobals "check_place" = some (some (.ref f11))) (l11 : K.lookup f11 = some ⟨oc11, od11, .func (PySem.W.fnOf "check_place" "check_place" (defArgs sCheckP) (defBody sCheckP) (defScope sCheckP) .none kV11 dc11 pm11 an11 cd11 ct11), sl11⟩) (c11 : PySem.W.codeIn K cd11 "check_place" = true) (k11 : PySem.W.keepIn K (.ref f11) = true)
    {f12 : Addr} {od12 an12 : Option Addr} {sl12 : Array (Option Value)} {oc12 kV12 dc12 pm12 ct12 : Value} {cd12 : Value}
    (a12 : PySem.W.nsIn K mainGlobals "boxes_in" = some (some (.ref f12))) (l12 : K.lookup f12 = some ⟨oc12, od12, .func (PySem.W.fnOf "boxes_in" "boxes_in" (defArgs sBoxesIn) (defBody sBoxesIn) (defScope sBoxesIn) .none kV12 dc12 pm12 an12 cd12 ct12), sl12⟩) (c12 : PySem.W.codeIn K cd12 "boxes_in" = true) (k12 : PySem.W.keepIn K (.ref f12) = true)
    {f13 : Addr} {od13 an13 : Option Addr} {sl13 : Array (Option Value)} {oc13 kV13 dc13 pm13 ct13 : Value} {cd13 : Value}
    (a13 : PySem.W.nsIn K mainGlobals "sort_of" = some (some (.ref f13))) (l13 : K.lookup f13 = some ⟨oc13, od13, .func (PySem.W.fnOf "sort_of" "sort_of" (defArgs sSortOf) (defBody sSortOf) (defScope sSortOf) .none kV13 dc13 pm13 an13 cd13 ct13), sl13⟩) (c13 : PySem.W.codeIn K cd13 "sort_of" = true) (k13 : PySem.W.keepIn K (.ref f13) = true)
    {f14 : Addr} {od14 an14 : Option Addr} {sl14 : Array (Option Value)} {oc14 kV14 dc14 pm14 ct14 : Value} {cd14 : Value}
    (a14 : PySem.W.nsIn K mainGlobals "depth_of" = some (some (.ref f14))) (l14 : K.lookup f14 = some ⟨oc14, od14, .func (PySem.W.fnOf "depth_of" "depth_of" (defArgs sDepthOf) (defBody sDepthOf) (defScope sDepthOf) .none kV14 dc14 pm14 an14 cd14 ct14), sl14⟩) (c14 : PySem.W.codeIn K cd14 "depth_of" = true) (k14 : PySem.W.keepIn K (.ref f14) = true)
    {f15 : Addr} {od15 an15 : Option Addr} {sl15 : Array (Option Value)} {oc15 kV15 dc15 pm15 ct15 : Value} {cd15 : Value}
    (a15 : PySem.W.nsIn K mainGlobals "held" = some (some (.ref f15))) (l15 : K.lookup f15 = some ⟨oc15, od15, .func (PySem.W.fnOf "held" "held" (defArgs sHeld) (defBody sHeld) (defScope sHeld) .none kV15 dc15 pm15 an15 cd15 ct15), sl15⟩) (c15 : PySem.W.codeIn K cd15 "held" = true) (k15 : PySem.W.keepIn K (.ref f15) = true)
    {f16 : Addr} {od16 an16 : Option Addr} {sl16 : Array (Option Value)} {oc16 kV16 dc16 pm16 ct16 : Value} {cd16 : Value}
    (a16 : PySem.W.nsIn K mainGlobals "replaced" = some (some (.ref f16))) (l16 : K.lookup f16 = some ⟨oc16, od16, .func (PySem.W.fnOf "replaced" "replaced" (defArgs sReplaced) (defBody sReplaced) (defScope sReplaced) .none kV16 dc16 pm16 an16 cd16 ct16), sl16⟩) (c16 : PySem.W.codeIn K cd16 "replaced" = true) (k16 : PySem.W.keepIn K (.ref f16) = true)
    {f17 : Addr} {od17 an17 : Option Addr} {sl17 : Array (Option Value)} {oc17 kV17 dc17 pm17 ct17 : Value} {cd17 : Value}
    (a17 : PySem.W.nsIn K mainGlobals "can_grow" = some (some (.ref f17))) (l17 : K.lookup f17 = some ⟨oc17, od17, .func (PySem.W.fnOf "can_grow" "can_grow" (defArgs sCanGrow) (defBody sCanGrow) (defScope sCanGrow) .none kV17 dc17 pm17 an17 cd17 ct17), sl17⟩) (c17 : PySem.W.codeIn K cd17 "can_grow" = true) (k17 : PySem.W.keepIn K (.ref f17) = true)
    {f18 : Addr} {od18 an18 : Option Addr} {sl18 : Array (Option Value)} {oc18 kV18 dc18 pm18 ct18 : Value} {cd18 : Value}
    (a18 : PySem.W.nsIn K mainGlobals "grown" = some (some (.ref f18))) (l18 : K.lookup f18 = some ⟨oc18, od18, .func (PySem.W.fnOf "grown" "grown" (defArgs sGrown) (defBody sGrown) (defScope sGrown) .none kV18 dc18 pm18 an18 cd18 ct18), sl18⟩) (c18 : PySem.W.codeIn K cd18 "grown" = true) (k18 : PySem.W.keepIn K (.ref f18) = true)
    {f19 : Addr} {od19 an19 : Option Addr} {sl19 : Array (Option Value)} {oc19 kV19 dc19 pm19 ct19 : Value} {cd19 : Value}
    (a19 : PySem.W.nsIn K mainGlobals "with_number" = some (some (.ref f19))) (l19 : K.lookup f19 = some ⟨oc19, od19, .func (PySem.W.fnOf "with_number" "with_number" (defArgs sWithNumber) (defBody sWithNumber) (defScope sWithNumber) .none kV19 dc19 pm19 an19 cd19 ct19), sl19⟩) (c19 : PySem.W.codeIn K cd19 "with_number" = true) (k19 : PySem.W.keepIn K (.ref f19) = true)
    {f20 : Addr} {od20 an20 : Option Addr} {sl20 : Array (Option Value)} {oc20 kV20 dc20 pm20 ct20 : Value} {cd20 : Value}
    (a20 : PySem.W.nsIn K mainGlobals "with_tie" = some (some (.ref f20))) (l20 : K.lookup f20 = some ⟨oc20, od20, .func (PySem.W.fnOf "with_tie" "with_tie" (defArgs sWithTie) (defBody sWithTie) (defScope sWithTie) .none kV20 dc20 pm20 an20 cd20 ct20), sl20⟩) (c20 : PySem.W.codeIn K cd20 "with_tie" = true) (k20 : PySem.W.keepIn K (.ref f20) = true)
    {f21 : Addr} {od21 an21 : Option Addr} {sl21 : Array (Option Value)} {oc21 kV21 dc21 pm21 ct21 : Value} {cd21 : Value}
    (a21 : PySem.W.nsIn K mainGlobals "can_hang" = some (some (.ref f21))) (l21 : K.lookup f21 = some ⟨oc21, od21, .func (PySem.W.fnOf "can_hang" "can_hang" (defArgs sCanHang) (defBody sCanHang) (defScope sCanHang) .none kV21 dc21 pm21 an21 cd21 ct21), sl21⟩) (c21 : PySem.W.codeIn K cd21 "can_hang" = true) (k21 : PySem.W.keepIn K (.ref f21) = true)
    {f22 : Addr} {od22 an22 : Option Addr} {sl22 : Array (Option Value)} {oc22 kV22 dc22 pm22 ct22 : Value} {cd22 : Value}
    (a22 : PySem.W.nsIn K mainGlobals "with_graph" = some (some (.ref f22))) (l22 : K.lookup f22 = some ⟨oc22, od22, .func (PySem.W.fnOf "with_graph" "with_graph" (defArgs sWithGraph) (defBody sWithGraph) (defScope sWithGraph) .none kV22 dc22 pm22 an22 cd22 ct22), sl22⟩) (c22 : PySem.W.codeIn K cd22 "with_graph" = true) (k22 : PySem.W.keepIn K (.ref f22) = true)
    {f23 : Addr} {od23 an23 : Option Addr} {sl23 : Array (Option Value)} {oc23 kV23 dc23 pm23 ct23 : Value} {cd23 : Value}
    (a23 : PySem.W.nsIn K mainGlobals "sort_at" = some (some (.ref f23))) (l23 : K.lookup f23 = some ⟨oc23, od23, .func (PySem.W.fnOf "sort_at" "sort_at" (defArgs sSortAt) (defBody sSortAt) (defScope sSortAt) .none kV23 dc23 pm23 an23 cd23 ct23), sl23⟩) (c23 : PySem.W.codeIn K cd23 "sort_at" = true) (k23 : PySem.W.keepIn K (.ref f23) = true)
    {f24 : Addr} {od24 an24 : Option Addr} {sl24 : Array (Option Value)} {oc24 kV24 dc24 pm24 ct24 : Value} {cd24 : Value}
    (a24 : PySem.W.nsIn K mainGlobals "number_at" = some (some (.ref f24))) (l24 : K.lookup f24 = some ⟨oc24, od24, .func (PySem.W.fnOf "number_at" "number_at" (defArgs sNumAt) (defBody sNumAt) (defScope sNumAt) .none kV24 dc24 pm24 an24 cd24 ct24), sl24⟩) (c24 : PySem.W.codeIn K cd24 "number_at" = true) (k24 : PySem.W.keepIn K (.ref f24) = true)
    {f25 : Addr} {od25 an25 : Option Addr} {sl25 : Array (Option Value)} {oc25 kV25 dc25 pm25 ct25 : Value} {cd25 : Value}
    (a25 : PySem.W.nsIn K mainGlobals "graph_at" = some (some (.ref f25))) (l25 : K.lookup f25 = some ⟨oc25, od25, .func (PySem.W.fnOf "graph_at" "graph_at" (defArgs sGraphAt) (defBody sGraphAt) (defScope sGraphAt) .none kV25 dc25 pm25 an25 cd25 ct25), sl25⟩) (c25 : PySem.W.codeIn K cd25 "graph_at" = true) (k25 : PySem.W.keepIn K (.ref f25) = true)
    {f26 : Addr} {od26 an26 : Option Addr} {sl26 : Array (Option Value)} {oc26 kV26 dc26 pm26 ct26 : Value} {cd26 : Value}
    (a26 : PySem.W.nsIn K mainGlobals "_law_size" = some (some (.ref f26))) (l26 : K.lookup f26 = some ⟨oc26, od26, .func (PySem.W.fnOf "_law_size" "_law_size" (defArgs sSize) (defBody sSize) (defScope sSize) .none kV26 dc26 pm26 an26 cd26 ct26), sl26⟩) (c26 : PySem.W.codeIn K cd26 "_law_size" = true) (k26 : PySem.W.keepIn K (.ref f26) = true)
    {f27 : Addr} {od27 an27 : Option Addr} {sl27 : Array (Option Value)} {oc27 kV27 dc27 pm27 ct27 : Value} {cd27 : Value}
    (a27 : PySem.W.nsIn K mainGlobals "_law_graph" = some (some (.ref f27))) (l27 : K.lookup f27 = some ⟨oc27, od27, .func (PySem.W.fnOf "_law_graph" "_law_graph" (defArgs sGraph) (defBody sGraph) (defScope sGraph) .none kV27 dc27 pm27 an27 cd27 ct27), sl27⟩) (c27 : PySem.W.codeIn K cd27 "_law_graph" = true) (k27 : PySem.W.keepIn K (.ref f27) = true)
    {f28 : Addr} {od28 an28 : Option Addr} {sl28 : Array (Option Value)} {oc28 kV28 dc28 pm28 ct28 : Value} {cd28 : Value}
    (a28 : PySem.W.nsIn K mainGlobals "_law_some_graph" = some (some (.ref f28))) (l28 : K.lookup f28 = some ⟨oc28, od28, .func (PySem.W.fnOf "_law_some_graph" "_law_some_graph" (defArgs sSome) (defBody sSome) (defScope sSome) .none kV28 dc28 pm28 an28 cd28 ct28), sl28⟩) (c28 : PySem.W.codeIn K cd28 "_law_some_graph" = true) (k28 : PySem.W.keepIn K (.ref f28) = true)
    {f29 : Addr} {od29 an29 : Option Addr} {sl29 : Array (Option Value)} {oc29 kV29 dc29 pm29 ct29 : Value} {cd29 : Value}
    (a29 : PySem.W.nsIn K mainGlobals "_law_cell_at" = some (some (.ref f29))) (l29 : K.lookup f29 = some ⟨oc29, od29, .func (PySem.W.fnOf "_law_cell_at" "_law_cell_at" (defArgs sCell) (defBody sCell) (defScope sCell) .none kV29 dc29 pm29 an29 cd29 ct29), sl29⟩) (c29 : PySem.W.codeIn K cd29 "_law_cell_at" = true) (k29 : PySem.W.keepIn K (.ref f29) = true)
    {f30 : Addr} {od30 an30 : Option Addr} {sl30 : Array (Option Value)} {oc30 kV30 dc30 pm30 ct30 : Value} {cd30 : Value}
    (a30 : PySem.W.nsIn K mainGlobals "_law_state" = some (some (.ref f30))) (l30 : K.lookup f30 = some ⟨oc30, od30, .func (PySem.W.fnOf "_law_state" "_law_state" (defArgs sState) (defBody sState) (defScope sState) .none kV30 dc30 pm30 an30 cd30 ct30), sl30⟩) (c30 : PySem.W.codeIn K cd30 "_law_state" = true) (k30 : PySem.W.keepIn K (.ref f30) = true)
    {f31 : Addr} {od31 an31 : Option Addr} {sl31 : Array (Option Value)} {oc31 kV31 dc31 pm31 ct31 : Value} {cd31 : Value}
    (a31 : PySem.W.nsIn K mainGlobals "_law_choice" = some (some (.ref f31))) (l31 : K.lookup f31 = some ⟨oc31, od31, .func (PySem.W.fnOf "_law_choice" "_law_choice" (defArgs sChoice) (defBody sChoice) (defScope sChoice) .none kV31 dc31 pm31 an31 cd31 ct31), sl31⟩) (c31 : PySem.W.codeIn K cd31 "_law_choice" = true) (k31 : PySem.W.keepIn K (.ref f31) = true)
    {f32 : Addr} {od32 an32 : Option Addr} {sl32 : Array (Option Value)} {oc32 kV32 dc32 pm32 ct32 : Value} {cd32 : Value}
    (a32 : PySem.W.nsIn K mainGlobals "_law_inner" = some (some (.ref f32))) (l32 : K.lookup f32 = some ⟨oc32, od32, .func (PySem.W.fnOf "_law_inner" "_law_inner" (defArgs sInner) (defBody sInner) (defScope sInner) .none kV32 dc32 pm32 an32 cd32 ct32), sl32⟩) (c32 : PySem.W.codeIn K cd32 "_law_inner" = true) (k32 : PySem.W.keepIn K (.ref f32) = true)
    {f33 : Addr} {od33 an33 : Option Addr} {sl33 : Array (Option Value)} {oc33 kV33 dc33 pm33 ct33 : Value} {cd33 : Value}
    (a33 : PySem.W.nsIn K mainGlobals "_law_seen" = some (some (.ref f33))) (l33 : K.lookup f33 = some ⟨oc33, od33, .func (PySem.W.fnOf "_law_seen" "_law_seen" (defArgs sSeen) (defBody sSeen) (defScope sSeen) .none kV33 dc33 pm33 an33 cd33 ct33), sl33⟩) (c33 : PySem.W.codeIn K cd33 "_law_seen" = true) (k33 : PySem.W.keepIn K (.ref f33) = true)
    {f34 : Addr} {od34 an34 : Option Addr} {sl34 : Array (Option Value)} {oc34 kV34 dc34 pm34 ct34 : Value} {cd34 : Value}
    (a34 : PySem.W.nsIn K mainGlobals "_law_turned" = some (some (.ref f34))) (l34 : K.lookup f34 = some ⟨oc34, od34, .func (PySem.W.fnOf "_law_turned" "_law_turned" (defArgs sTurned) (defBody sTurned) (defScope sTurned) .none kV34 dc34 pm34 an34 cd34 ct34), sl34⟩) (c34 : PySem.W.codeIn K cd34 "_law_turned" = true) (k34 : PySem.W.keepIn K (.ref f34) = true)
    {f35 : Addr} {od35 an35 : Option Addr} {sl35 : Array (Option Value)} {oc35 kV35 dc35 pm35 ct35 : Value} {cd35 : Value}
    (a35 : PySem.W.nsIn K mainGlobals "_law_deed_right" = some (some (.ref f35))) (l35 : K.lookup f35 = some ⟨oc35, od35, .func (PySem.W.fnOf "_law_deed_right" "_law_deed_right" (defArgs sDeed) (defBody sDeed) (defScope sDeed) .none kV35 dc35 pm35 an35 cd35 ct35), sl35⟩) (c35 : PySem.W.codeIn K cd35 "_law_deed_right" = true) (k35 : PySem.W.keepIn K (.ref f35) = true)
    {f36 : Addr} {od36 an36 : Option Addr} {sl36 : Array (Option Value)} {oc36 kV36 dc36 pm36 ct36 : Value} {cd36 : Value}
    (a36 : PySem.W.nsIn K mainGlobals "law" = some (some (.ref f36))) (l36 : K.lookup f36 = some ⟨oc36, od36, .func (PySem.W.fnOf "law" "law" (defArgs sLaw) (defBody sLaw) (defScope sLaw) .none kV36 dc36 pm36 an36 cd36 ct36), sl36⟩) (c36 : PySem.W.codeIn K cd36 "law" = true) (k36 : PySem.W.keepIn K (.ref f36) = true)
    {t0 : Tok} (n0 : PySem.W.nsIn K mainGlobals "MOST_BOXES" = some (some (.int (8) t0)))
    {t1 : Tok} (n1 : PySem.W.nsIn K mainGlobals "MOST_IN_ALL" = some (some (.int (24) t1)))
    {t2 : Tok} (n2 : PySem.W.nsIn K mainGlobals "MOST_DEEP" = some (some (.int (4) t2)))
    {t3 : Tok} (n3 : PySem.W.nsIn K mainGlobals "PLACES" = some (some (.int (3) t3)))
    {t4 : Tok} (n4 : PySem.W.nsIn K mainGlobals "GREATEST" = some (some (.int (9999) t4)))
    {t5 : Tok} (n5 : PySem.W.nsIn K mainGlobals "NUMBER" = some (some (.int (0) t5)))
    {t6 : Tok} (n6 : PySem.W.nsIn K mainGlobals "TIE" = some (some (.int (1) t6)))
    {t7 : Tok} (n7 : PySem.W.nsIn K mainGlobals "GRAPH" = some (some (.int (2) t7)))
    {t8 : Tok} (n8 : PySem.W.nsIn K mainGlobals "NOTHING" = some (some (.int (3) t8)))
    (z0 : PySem.W.nsIn K mainGlobals "isinstance" = some none)
    (z1 : PySem.W.nsIn K mainGlobals "int" = some none)
    (z2 : PySem.W.nsIn K mainGlobals "bool" = some none)
    (z3 : PySem.W.nsIn K mainGlobals "tuple" = some none)
    (z4 : PySem.W.nsIn K mainGlobals "len" = some none)
    (z5 : PySem.W.nsIn K mainGlobals "range" = some none)
    (z6 : PySem.W.nsIn K mainGlobals "min" = some none)
    (z7 : PySem.W.nsIn K mainGlobals "max" = some none)
    (z8 : PySem.W.nsIn K mainGlobals "sum" = some none)
    (z9 : PySem.W.nsIn K mainGlobals "list" = some none)
    (z10 : PySem.W.nsIn K mainGlobals "repr" = some none)
    {ba bb : Addr} {dB db : Option Addr} {nB nb : Nat} {sB sb : Array (Option Value)} {u1 u2 u3 : Tok} (b0 : PySem.W.nsIn K mainGlobals "BARE" = some (some (.ref ba))) (b1 : K.lookup ba = some ⟨.type "tuple", dB, .seq #[.ref bb] nB, sB⟩) (b2 : K.lookup bb = some ⟨.type "tuple", db, .seq #[.int 0 u1, .int 0 u2, .int 0 u3] nb, sb⟩) :
    ∃ fd : FuncData, Fun K "law" "law" sLaw fa fd ∧ (∀ (s : Shared) (v : Value), BindsTo s fd ⟨[v], []⟩ [("_law_script", v)]) ∧ Free mg ∧ ∀ (P : Program) (w : World) (base : Heap), Law24 P w K mg base 22 := by
  have e := hfa.symm.trans (PySem.W.mg_of X G a36)
  cases e
  have T : Free mg := ⟨PySem.W.mg_none_of X G z0, PySem.W.mg_none_of X G z1, PySem.W.mg_none_of X G z2, PySem.W.mg_none_of X G z3, PySem.W.mg_none_of X G z4, PySem.W.mg_none_of X G z5, PySem.W.mg_none_of X G z6, PySem.W.mg_none_of X G z7, PySem.W.mg_none_of X G z8, PySem.W.mg_none_of X G z9, PySem.W.mg_none_of X G z10⟩
  have C : Cst mg := ⟨⟨_, PySem.W.mg_of X G n0⟩, ⟨_, PySem.W.mg_of X G n1⟩, ⟨_, PySem.W.mg_of X G n2⟩, ⟨_, PySem.W.mg_of X G n3⟩, ⟨_, PySem.W.mg_of X G n4⟩, ⟨_, PySem.W.mg_of X G n5⟩, ⟨_, PySem.W.mg_of X G n6⟩, ⟨_, PySem.W.mg_of X G n7⟩, ⟨_, PySem.W.mg_of X G n8⟩⟩
  have dB' : ∀ H, Dp K H (.ref ba) bareD := fun H => .tup (xs := [.ref bb]) (.inr ⟨_, _, _, b1, rfl, rfl, small (by show 1 ≤ 1000; decide), .cons rfl .nil⟩)
    (.cons (.tup (xs := [.int 0, .int 0, .int 0]) (.inr ⟨_, _, _, b2, rfl, rfl, small (by show 3 ≤ 1000; decide), .cons ⟨_, rfl⟩ (.cons ⟨_, rfl⟩ (.cons ⟨_, rfl⟩ .nil))⟩) (.cons (.int 0) (.cons (.int 0) (.cons (.int 0) .nil)))) .nil)
  have F0 := fun_mk (st := sWhole) l0 c0 k0
  have S0 : Std K mg "is_whole" sWhole ["thing"] f0 _ := ⟨F0, PySem.W.mg_of X G a0, F0.binds (ps := ["thing"]) fun _ _ _ _ _ _ us hl => match us, hl with | [_], _ => rfl⟩
  have F1 := fun_mk (st := sWithin) l1 c1 k1
  have S1 : Std K mg "is_within" sWithin ["thing", "least", "most"] f1 _ := ⟨F1, PySem.W.mg_of X G a1, F1.binds (ps := ["thing", "least", "most"]) fun _ _ _ _ _ _ us hl => match us, hl with | [_, _, _], _ => rfl⟩
  have F2 := fun_mk (st := sTuple) l2 c2 k2
  have S2 : Std K mg "is_tuple" sTuple ["thing", "least", "most"] f2 _ := ⟨F2, PySem.W.mg_of X G a2, F2.binds (ps := ["thing", "least", "most"]) fun _ _ _ _ _ _ us hl => match us, hl with | [_, _, _], _ => rfl⟩
  have F3 := fun_mk (st := sNumber) l3 c3 k3
  have S3 : Std K mg "is_number" sNumber ["thing"] f3 _ := ⟨F3, PySem.W.mg_of X G a3, F3.binds (ps := ["thing"]) fun _ _ _ _ _ _ us hl => match us, hl with | [_], _ => rfl⟩
  have F4 := fun_mk (st := sPlace) l4 c4 k4
  have S4 : Std K mg "is_place" sPlace ["thing"] f4 _ := ⟨F4, PySem.W.mg_of X G a4, F4.binds (ps := ["thing"]) fun _ _ _ _ _ _ us hl => match us, hl with | [_], _ => rfl⟩
  have F5 := fun_mk (st := sHasBox) l5 c5 k5
  have S5 : Std K mg "has_box" sHasBox ["graph", "b"] f5 _ := ⟨F5, PySem.W.mg_of X G a5, F5.binds (ps := ["graph", "b"]) fun _ _ _ _ _ _ us hl => match us, hl with | [_, _], _ => rfl⟩
  have F6 := fun_mk (st := sTie) l6 c6 k6
  have S6 : Std K mg "is_tie" sTie ["thing", "graph"] f6 _ := ⟨F6, PySem.W.mg_of X G a6, F6.binds (ps := ["thing", "graph"]) fun _ _ _ _ _ _ us hl => match us, hl with | [_, _], _ => rfl⟩
  have F7 := fun_mk (st := sPsz) l7 c7 k7
  have S7 : Std K mg "place_size" sPsz ["thing", "graph", "deep"] f7 _ := ⟨F7, PySem.W.mg_of X G a7, F7.binds (ps := ["thing", "graph", "deep"]) fun _ _ _ _ _ _ us hl => match us, hl with | [_, _, _], _ => rfl⟩
  have F8 := fun_mk (st := sGsz) l8 c8 k8
  have S8 : Std K mg "graph_size" sGsz ["thing", "deep"] f8 _ := ⟨F8, PySem.W.mg_of X G a8, F8.binds (ps := ["thing", "deep"]) fun _ _ _ _ _ _ us hl => match us, hl with | [_, _], _ => rfl⟩
  have F9 := fun_mk (st := sIsGraph) l9 c9 k9
  have S9 : Std K mg "is_graph" sIsGraph ["thing"] f9 _ := ⟨F9, PySem.W.mg_of X G a9, F9.binds (ps := ["thing"]) fun _ _ _ _ _ _ us hl => match us, hl with | [_], _ => rfl⟩
  have F10 := fun_mk (st := sCheckG) l10 c10 k10
  have S10 : Std K mg "check_graph" sCheckG ["graph"] f10 _ := ⟨F10, PySem.W.mg_of X G a10, F10.binds (ps := ["graph"]) fun _ _ _ _ _ _ us hl => match us, hl with | [_], _ => rfl⟩
  have F11 := fun_mk (st := sCheckP) l11 c11 k11
  have S11 : Std K mg "check_place" sCheckP ["k"] f11 _ := ⟨F11, PySem.W.mg_of X G a11, F11.binds (ps := ["k"]) fun _ _ _ _ _ _ us hl => match us, hl with | [_], _ => rfl⟩
  have F12 := fun_mk (st := sBoxesIn) l12 c12 k12
  have S12 : Std K mg "boxes_in" sBoxesIn ["graph"] f12 _ := ⟨F12, PySem.W.mg_of X G a12, F12.binds (ps := ["graph"]) fun _ _ _ _ _ _ us hl => match us, hl with | [_], _ => rfl⟩
  have F13 := fun_mk (st := sSortOf) l13 c13 k13
  have S13 : Std K mg "sort_of" sSortOf ["place"] f13 _ := ⟨F13, PySem.W.mg_of X G a13, F13.binds (ps := ["place"]) fun _ _ _ _ _ _ us hl => match us, hl with | [_], _ => rfl⟩
  have F14 := fun_mk (st := sDepthOf) l14 c14 k14
  have S14 : Std K mg "depth_of" sDepthOf ["graph"] f14 _ := ⟨F14, PySem.W.mg_of X G a14, F14.binds (ps := ["graph"]) fun _ _ _ _ _ _ us hl => match us, hl with | [_], _ => rfl⟩
  have F15 := fun_mk (st := sHeld) l15 c15 k15
  have S15 : Std K mg "held" sHeld ["number"] f15 _ := ⟨F15, PySem.W.mg_of X G a15, F15.binds (ps := ["number"]) fun _ _ _ _ _ _ us hl => match us, hl with | [_], _ => rfl⟩
  have F16 := fun_mk (st := sReplaced) l16 c16 k16
  have S16 : Std K mg "replaced" sReplaced ["graph", "b", "k", "place"] f16 _ := ⟨F16, PySem.W.mg_of X G a16, F16.binds (ps := ["graph", "b", "k", "place"]) fun _ _ _ _ _ _ us hl => match us, hl with | [_, _, _, _], _ => rfl⟩
  have F17 := fun_mk (st := sCanGrow) l17 c17 k17
  have S17 : Std K mg "can_grow" sCanGrow ["graph"] f17 _ := ⟨F17, PySem.W.mg_of X G a17, F17.binds (ps := ["graph"]) fun _ _ _ _ _ _ us hl => match us, hl with | [_], _ => rfl⟩
  have F18 := fun_mk (st := sGrown) l18 c18 k18
  have S18 : Std K mg "grown" sGrown ["graph"] f18 _ := ⟨F18, PySem.W.mg_of X G a18, F18.binds (ps := ["graph"]) fun _ _ _ _ _ _ us hl => match us, hl with | [_], _ => rfl⟩
  have F19 := fun_mk (st := sWithNumber) l19 c19 k19
  have S19 : Std0 K mg "with_number" sWithNumber f19 _ := ⟨F19, PySem.W.mg_of X G a19⟩
  have F20 := fun_mk (st := sWithTie) l20 c20 k20
  have S20 : Std0 K mg "with_tie" sWithTie f20 _ := ⟨F20, PySem.W.mg_of X G a20⟩
  have F21 := fun_mk (st := sCanHang) l21 c21 k21
  have S21 : Std K mg "can_hang" sCanHang ["graph", "b", "k", "other"] f21 _ := ⟨F21, PySem.W.mg_of X G a21, F21.binds (ps := ["graph", "b", "k", "other"]) fun _ _ _ _ _ _ us hl => match us, hl with | [_, _, _, _], _ => rfl⟩
  have F22 := fun_mk (st := sWithGraph) l22 c22 k22
  have S22 : Std0 K mg "with_graph" sWithGraph f22 _ := ⟨F22, PySem.W.mg_of X G a22⟩
  have F23 := fun_mk (st := sSortAt) l23 c23 k23
  have S23 : Std K mg "sort_at" sSortAt ["graph", "b", "k"] f23 _ := ⟨F23, PySem.W.mg_of X G a23, F23.binds (ps := ["graph", "b", "k"]) fun _ _ _ _ _ _ us hl => match us, hl with | [_, _, _], _ => rfl⟩
  have F24 := fun_mk (st := sNumAt) l24 c24 k24
  have S24 : Std K mg "number_at" sNumAt ["graph", "b", "k"] f24 _ := ⟨F24, PySem.W.mg_of X G a24, F24.binds (ps := ["graph", "b", "k"]) fun _ _ _ _ _ _ us hl => match us, hl with | [_, _, _], _ => rfl⟩
  have F25 := fun_mk (st := sGraphAt) l25 c25 k25
  have S25 : Std K mg "graph_at" sGraphAt ["graph", "b", "k"] f25 _ := ⟨F25, PySem.W.mg_of X G a25, F25.binds (ps := ["graph", "b", "k"]) fun _ _ _ _ _ _ us hl => match us, hl with | [_, _, _], _ => rfl⟩
  have F26 := fun_mk (st := sSize) l26 c26 k26
  have S26 : Std K mg "_law_size" sSize ["_law_graph_here"] f26 _ := ⟨F26, PySem.W.mg_of X G a26, F26.binds (ps := ["_law_graph_here"]) fun _ _ _ _ _ _ us hl => match us, hl with | [_], _ => rfl⟩
  have F27 := fun_mk (st := sGraph) l27 c27 k27
  have S27 : Std K mg "_law_graph" sGraph ["_law_state_here", "_law_deep", "_law_room"] f27 _ := ⟨F27, PySem.W.mg_of X G a27, F27.binds (ps := ["_law_state_here", "_law_deep", "_law_room"]) fun _ _ _ _ _ _ us hl => match us, hl with | [_, _, _], _ => rfl⟩
  have F28 := fun_mk (st := sSome) l28 c28 k28
  have S28 : Std K mg "_law_some_graph" sSome ["_law_state_here"] f28 _ := ⟨F28, PySem.W.mg_of X G a28, F28.binds (ps := ["_law_state_here"]) fun _ _ _ _ _ _ us hl => match us, hl with | [_], _ => rfl⟩
  have F29 := fun_mk (st := sCell) l29 c29 k29
  have S29 : Std K mg "_law_cell_at" sCell ["_law_script", "_law_k"] f29 _ := ⟨F29, PySem.W.mg_of X G a29, F29.binds (ps := ["_law_script", "_law_k"]) fun _ _ _ _ _ _ us hl => match us, hl with | [_, _], _ => rfl⟩
  have F30 := fun_mk (st := sState) l30 c30 k30
  have S30 : Std K mg "_law_state" sState ["_law_script", "_law_k"] f30 _ := ⟨F30, PySem.W.mg_of X G a30, F30.binds (ps := ["_law_script", "_law_k"]) fun _ _ _ _ _ _ us hl => match us, hl with | [_, _], _ => rfl⟩
  have F31 := fun_mk (st := sChoice) l31 c31 k31
  have S31 : Std K mg "_law_choice" sChoice ["_law_state_here", "_law_many"] f31 _ := ⟨F31, PySem.W.mg_of X G a31, F31.binds (ps := ["_law_state_here", "_law_many"]) fun _ _ _ _ _ _ us hl => match us, hl with | [_, _], _ => rfl⟩
  have F32 := fun_mk (st := sInner) l32 c32 k32
  have S32 : Std K mg "_law_inner" sInner ["_law_graph_here"] f32 _ := ⟨F32, PySem.W.mg_of X G a32, F32.binds (ps := ["_law_graph_here"]) fun _ _ _ _ _ _ us hl => match us, hl with | [_], _ => rfl⟩
  have F33 := fun_mk (st := sSeen) l33 c33 k33
  have S33 : Std K mg "_law_seen" sSeen ["_law_graph_here", "_law_many"] f33 _ := ⟨F33, PySem.W.mg_of X G a33, F33.binds (ps := ["_law_graph_here", "_law_many"]) fun _ _ _ _ _ _ us hl => match us, hl with | [_, _], _ => rfl⟩
  have F34 := fun_mk (st := sTurned) l34 c34 k34
  have S34 : Std K mg "_law_turned" sTurned ["_law_one", "_law_other_own"] f34 _ := ⟨F34, PySem.W.mg_of X G a34, F34.binds (ps := ["_law_one", "_law_other_own"]) fun _ _ _ _ _ _ us hl => match us, hl with | [_, _], _ => rfl⟩
  have F35 := fun_mk (st := sDeed) l35 c35 k35
  have S35 : Std K mg "_law_deed_right" sDeed ["_law_state_here", "_law_graph_here", "_law_other_own", "_law_later"] f35 _ := ⟨F35, PySem.W.mg_of X G a35, F35.binds (ps := ["_law_state_here", "_law_graph_here", "_law_other_own", "_law_later"]) fun _ _ _ _ _ _ us hl => match us, hl with | [_, _, _, _], _ => rfl⟩
  have F36 := fun_mk (st := sLaw) l36 c36 k36
  exact ⟨_, F36, fun s v => .of_eq rfl, T, fun P w base => all_cals T C (PySem.W.mg_of X G b0) dB' S0 S1 S2 S3 S4 S5 S6 S7 S8 S9 S10 S11 S12 S13 S14 S15 S16 S17 S18 S19 S20 S21 S22 S23 S24 S25 S26 S27 S28 S29 S30 S31 S32 S33 S34 S35⟩
theorem walk {l : PySem.W.OpenLaw} {q : Program} {loose : List Str} {XP : (Str → Option Value) → Heap → Prop} {YP : World → Heap → Prop} {d : DefRec} {K : Params → PySem.W.Frag} (hn : l.most = some 63) (hdf : d.params.defaults = []) (hnm : d.name = "law")
    (hY : ∀ (w : World) (h : Heap), YP w h → (K w.params).In h)
    (F : ∀ (w : World) (mg : Str → Option Value) (fa : Addr) (h : Heap), (K w.params).In h → h.Ns mainGlobals mg → mg d.name = some (.ref fa) →
      ∃ fd : FuncData, Fun (K w.params) "law" "law" sLaw fa fd ∧ (∀ (s : Shared) (v : Value), BindsTo s fd ⟨[v], []⟩ [("_law_script", v)]) ∧ Free mg ∧ ∀ (P : Program) (w' : World) (base : Heap), Law24 P w' (K w.params) mg base 22) :
    PySem.W.WalkO q loose XP YP l.row.toRowW d [] (fun f vs => PySem.call f vs) := by
  refine Att.attach_call hn hdf fun w s0 s1 mg mb fa o pm cd doc a vs ns G Y ho hd hcd hmg hobj hints hlen hg => ?_
  have KX := hY w _ Y
  obtain ⟨fd, FL, bd, T, cals⟩ := F w mg fa _ KX G.T.g hmg
  exact law_end (k := 22) KX G.T.g G.T.b G.T.builtins G.T.nolimit hg hobj hints (small (by omega)) ⟨rfl, by decide, by decide⟩ FL scLaw bd fun base _ _ H cdv only hS hr => by
    exact law_body T only hS hlen hr (cals l.prog w base)
end Gw
open PySem PySem.W PyProof.Rows
set_option maxRecDepth 100000 in
set_option maxHeartbeats 0 in
theorem PySem.Challenge.cw_giveway_k24_whole_rows_of_deeds_on_graph_holds : PySem.Challenge.rw_giveway_k24_whole_rows_of_deeds_on_graph.Holds := by
  w_on; o_law; k_head; (case hw => w_witness2)
  k_fill
  refine Gw.walk (l := PySem.Challenge.rw_giveway_k24_whole_rows_of_deeds_on_graph) rfl rfl rfl (fun w h Y => PySem.W.kIn_of Y) ?F
  case F =>
    intro w mg fa h KX G hmg
    refine' Gw.all_mk KX G hmg ?a0 ?l0 ?c0 ?k0 ?a1 ?l1 ?c1 ?k1 ?a2 ?l2 ?c2 ?k2 ?a3 ?l3 ?c3 ?k3 ?a4 ?l4 ?c4 ?k4 ?a5 ?l5 ?c5 ?k5 ?a6 ?l6 ?c6 ?k6 ?a7 ?l7 ?c7 ?k7 ?a8 ?l8 ?c8 ?k8 ?a9 ?l9 ?c9 ?k9 ?a10 ?l10 ?c10 ?k10 ?a11 ?l11 ?c11 ?k11 ?a12 ?l12 ?c12 ?k12 ?a13 ?l13 ?c13 ?k13 ?a14 ?l14 ?c14 ?k14 ?a15 ?l15 ?c15 ?k15 ?a16 ?l16 ?c16 ?k16 ?a17 ?l17 ?c17 ?k17 ?a18 ?l18 ?c18 ?k18 ?a19 ?l19 ?c19 ?k19 ?a20 ?l20 ?c20 ?k20 ?a21 ?l21 ?c21 ?k21 ?a22 ?l22 ?c22 ?k22 ?a23 ?l23 ?c23 ?k23 ?a24 ?l24 ?c24 ?k24 ?a25 ?l25 ?c25 ?k25 ?a26 ?l26 ?c26 ?k26 ?a27 ?l27 ?c27 ?k27 ?a28 ?l28 ?c28 ?k28 ?a29 ?l29 ?c29 ?k29 ?a30 ?l30 ?c30 ?k30 ?a31 ?l31 ?c31 ?k31 ?a32 ?l32 ?c32 ?k32 ?a33 ?l33 ?c33 ?k33 ?a34 ?l34 ?c34 ?k34 ?a35 ?l35 ?c35 ?k35 ?a36 ?l36 ?c36 ?k36 ?n0 ?n1 ?n2 ?n3 ?n4 ?n5 ?n6 ?n7 ?n8 ?z0 ?z1 ?z2 ?z3 ?z4 ?z5 ?z6 ?z7 ?z8 ?z9 ?z10 ?b0 ?b1 ?b2
    (case a0 => k_is)
    (case l0 => k_is)
    (case c0 => k_is)
    (case k0 => k_is)
    (case a1 => k_is)
    (case l1 => k_is)
    (case c1 => k_is)
    (case k1 => k_is)
    (case a2 => k_is)
    (case l2 => k_is)
    (case c2 => k_is)
    (case k2 => k_is)
    (case a3 => k_is)
    (case l3 => k_is)
    (case c3 => k_is)
    (case k3 => k_is)
    (case a4 => k_is)
    (case l4 => k_is)
    (case c4 => k_is)
    (case k4 => k_is)
    (case a5 => k_is)
    (case l5 => k_is)
    (case c5 => k_is)
    (case k5 => k_is)
    (case a6 => k_is)
    (case l6 => k_is)
    (case c6 => k_is)
    (case k6 => k_is)
    (case a7 => k_is)
    (case l7 => k_is)
    (case c7 => k_is)
    (case k7 => k_is)
    (case a8 => k_is)
    (case l8 => k_is)
    (case c8 => k_is)
    (case k8 => k_is)
    (case a9 => k_is)
    (case l9 => k_is)
    (case c9 => k_is)
    (case k9 => k_is)
    (case a10 => k_is)
    (case l10 => k_is)
    (case c10 => k_is)
    (case k10 => k_is)
    (case a11 => k_is)
    (case l11 => k_is)
    (case c11 => k_is)
    (case k11 => k_is)
    (case a12 => k_is)
    (case l12 => k_is)
    (case c12 => k_is)
    (case k12 => k_is)
    (case a13 => k_is)
    (case l13 => k_is)
    (case c13 => k_is)
    (case k13 => k_is)
    (case a14 => k_is)
    (case l14 => k_is)
    (case c14 => k_is)
    (case k14 => k_is)
    (case a15 => k_is)
    (case l15 => k_is)
    (case c15 => k_is)
    (case k15 => k_is)
    (case a16 => k_is)
    (case l16 => k_is)
    (case c16 => k_is)
    (case k16 => k_is)
    (case a17 => k_is)
    (case l17 => k_is)
    (case c17 => k_is)
    (case k17 => k_is)
    (case a18 => k_is)
    (case l18 => k_is)
    (case c18 => k_is)
    (case k18 => k_is)
    (case a19 => k_is)
    (case l19 => k_is)
    (case c19 => k_is)
    (case k19 => k_is)
    (case a20 => k_is)
    (case l20 => k_is)
    (case c20 => k_is)
    (case k20 => k_is)
    (case a21 => k_is)
    (case l21 => k_is)
    (case c21 => k_is)
    (case k21 => k_is)
    (case a22 => k_is)
    (case l22 => k_is)
    (case c22 => k_is)
    (case k22 => k_is)
    (case a23 => k_is)
    (case l23 => k_is)
    (case c23 => k_is)
    (case k23 => k_is)
    (case a24 => k_is)
    (case l24 => k_is)
    (case c24 => k_is)
    (case k24 => k_is)
    (case a25 => k_is)
    (case l25 => k_is)
    (case c25 => k_is)
    (case k25 => k_is)
    (case a26 => k_is)
    (case l26 => k_is)
    (case c26 => k_is)
    (case k26 => k_is)
    (case a27 => k_is)
    (case l27 => k_is)
    (case c27 => k_is)
    (case k27 => k_is)
    (case a28 => k_is)
    (case l28 => k_is)
    (case c28 => k_is)
    (case k28 => k_is)
    (case a29 => k_is)
    (case l29 => k_is)
    (case c29 => k_is)
    (case k29 => k_is)
    (case a30 => k_is)
    (case l30 => k_is)
    (case c30 => k_is)
    (case k30 => k_is)
    (case a31 => k_is)
    (case l31 => k_is)
    (case c31 => k_is)
    (case k31 => k_is)
    (case a32 => k_is)
    (case l32 => k_is)
    (case c32 => k_is)
    (case k32 => k_is)
    (case a33 => k_is)
    (case l33 => k_is)
    (case c33 => k_is)
    (case k33 => k_is)
    (case a34 => k_is)
    (case l34 => k_is)
    (case c34 => k_is)
    (case k34 => k_is)
    (case a35 => k_is)
    (case l35 => k_is)
    (case c35 => k_is)
    (case k35 => k_is)
    (case a36 => k_is)
    (case l36 => k_is)
    (case c36 => k_is)
    (case k36 => k_is)
    (case n0 => k_is)
    (case n1 => k_is)
    (case n2 => k_is)
    (case n3 => k_is)
    (case n4 => k_is)
    (case n5 => k_is)
    (case n6 => k_is)
    (case n7 => k_is)
    (case n8 => k_is)
    (case z0 => k_is)
    (case z1 => k_is)
    (case z2 => k_is)
    (case z3 => k_is)
    (case z4 => k_is)
    (case z5 => k_is)
    (case z6 => k_is)
    (case z7 => k_is)
    (case z8 => k_is)
    (case z9 => k_is)
    (case z10 => k_is)
    (case b0 => k_is)
    (case b1 => k_is)
    (case b2 => k_is)
