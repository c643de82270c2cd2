import PyProof.Rows.All
import Wide.All
import OpenK.AllK
import Wide.FinOn
import PySem.Challenge.RW_roofsights_k01_heights_and_their_sights
import HandS.ForMost
import HandS.IsInst
import HandS.SetFor
import HandS.ForExc
import HandS.HotCalls
import KE.GoesMore
import KE.GoesZip
import HandS.Style
import HandS.TupAny
import HandS.Codes
import KE.GoesComp
import KE.GoesEnum
import HandS.Hot
import HandS.ExcIs
import HandS.Lambda
import HandS.EndTab
import HandS.Conv
import PyProof.P3Eq
import HandS.EndOwn
set_option Elab.async false
set_option linter.all false
set_option maxRecDepth 100000
set_option maxHeartbeats 2000000
/-! Roofsights, heights and their sights: the text by places; data; the small defs. -/
namespace RS
open PySem PySem.Spec PyProof.Rows L2
/-! ### the text -/
def topS (i : Nat) : Stmt := PySem.Challenge.pw_roofsights_k01_heights_and_their_sights.main.body.getD i (.Pass ⟨0, 0, 0, 0⟩)
abbrev sWhole : Stmt := topS 15
abbrev sWithin : Stmt := topS 16
abbrev sHeight : Stmt := topS 17
abbrev sAre : Stmt := topS 19
abbrev sSights : Stmt := topS 20
abbrev sInRow : Stmt := topS 21
abbrev sPairsP : Stmt := topS 22
abbrev sSee : Stmt := topS 23
abbrev sDeck : Stmt := topS 25
abbrev sPick : Stmt := topS 26
abbrev sLWhole : Stmt := topS 27
abbrev sOne : Stmt := topS 28
abbrev sKin : Stmt := topS 29
abbrev sTry : Stmt := topS 30
abbrev sSort : Stmt := topS 31
abbrev sSame : Stmt := topS 32
abbrev sOdd : Stmt := topS 33
abbrev sSpoilt : Stmt := topS 34
abbrev sHts : Stmt := topS 35
abbrev sSeen : Stmt := topS 36
abbrev sRanks : Stmt := topS 37
abbrev sLAre : Stmt := topS 38
abbrev sLaw : Stmt := topS 39
/-! ### data and their types -/
def tyN : PyData → String
  | .none => "NoneType"
  | .bool _ => "bool"
  | .int _ => "int"
  | .str _ => "str"
  | .list _ => "list"
  | .tuple _ => "tuple"
  | .dict _ => "dict"
theorem tyX_of {K : PySem.W.Frag} {H : Hp} {v : V} {d : PyData} (h : Dp K H v d) : TyX K H v (.type (tyN d)) := by
  cases h with
  | non => exact .base .non
  | bl b => exact .base (.bl b)
  | int i => exact .base (.int i)
  | str x => exact .base (.str x)
  | lst hs _ =>
    rcases hs with (h | ⟨o, h⟩) | ⟨o, its, n, hk, hc, _⟩
    · exact .base (.lst h)
    · exact .base (.frz h)
    · exact .kList hk hc
  | tup hs _ =>
    rcases hs with (h | ⟨o, h⟩) | ⟨o, its, n, hk, hc, _⟩
    · exact .base (.tup h)
    · exact .fTuple h
    · exact .kTuple hk hc
/-- what isinstance(x, T) tells of data, T one of five -/
def isT (T : String) (d : PyData) : Bool := match T, d with
  | "int", .int _ => true
  | "int", .bool _ => true
  | "bool", .bool _ => true
  | "str", .str _ => true
  | "list", .list _ => true
  | "tuple", .tuple _ => true
  | _, _ => false
def five : List String := ["int", "bool", "str", "list", "tuple"]
theorem kit_of_data {K : PySem.W.Frag} {T : String} (hT : T ∈ five) {H : Hp} {v : V} {d : PyData} (h : Dp K H v d) : PySem.W.kitOne K (.type (tyN d)) (.type T) = some (isT T d) := by
  have q : ∀ T ∈ five, kitB "NoneType" T = some false ∧ kitB "bool" T = some (T == "bool" || T == "int") ∧ kitB "int" T = some (T == "int") ∧ kitB "str" T = some (T == "str") ∧ kitB "list" T = some (T == "list") ∧ kitB "tuple" T = some (T == "tuple") := by decide +kernel
  have q2 : ∀ T ∈ five, T = "int" ∨ T = "bool" ∨ T = "str" ∨ T = "list" ∨ T = "tuple" := by decide +kernel
  obtain ⟨a0, a1, a2, a3, a4, a5⟩ := q T hT
  cases h <;> (refine kit_ty ?_; first | (rw [show tyN _ = _ from rfl]) | skip) <;> rcases q2 T hT with rfl | rfl | rfl | rfl | rfl <;> first | exact a0 | exact a1 | exact a2 | exact a3 | exact a4 | exact a5
/-! ### heaps -/
theorem same_upd {H : Hp} {p : Addr} {o : HO} (h : H p = none) : Same H (upd H p o) := fun b x e => by
  rw [upd_ne (ne_of_none e h)]
  exact e
theorem _root_.L2.Same.seqT {K : PySem.W.Frag} {H H' : Hp} {a : Addr} {xs : List V} (e : Same H H') (h : SqT K H a xs) : SqT K H' a xs := by
  rcases h with (h | ⟨o, h⟩) | h
  · exact .inl (.inl (e _ _ h))
  · exact .inl (.inr ⟨o, e _ _ h⟩)
  · exact .inr h
mutual
theorem dp_mono {K : PySem.W.Frag} {H H' : Hp} (e : Same H H') : ∀ {v : V} {d : PyData}, Dp K H v d → Dp K H' v d
  | _, _, .non => .non
  | _, _, .bl b => .bl b
  | _, _, .int i => .int i
  | _, _, .str x => .str x
  | _, _, .lst hs ha => .lst (e.seq hs) (dpAll_mono e ha)
  | _, _, .tup hs ha => .tup (e.seqT hs) (dpAll_mono e ha)
theorem dpAll_mono {K : PySem.W.Frag} {H H' : Hp} (e : Same H H') : ∀ {vs : List V} {ds : List PyData}, DpAll K H vs ds → DpAll K H' vs ds
  | _, _, .nil => .nil
  | _, _, .cons h t => .cons (dp_mono e h) (dpAll_mono e t)
end
theorem dpAll_len {K : PySem.W.Frag} {H : Hp} : ∀ {vs : List V} {ds : List PyData}, DpAll K H vs ds → vs.length = ds.length
  | _, _, .nil => rfl
  | _, _, .cons _ t => congrArg (· + 1) (dpAll_len t)
theorem dpAll_get {K : PySem.W.Frag} {H : Hp} : ∀ {vs : List V} {ds : List PyData} {i : Nat} {v : V}, DpAll K H vs ds → vs[i]? = some v → ∃ d, ds[i]? = some d ∧ Dp K H v d
  | _, _, _, _, .nil, h => by simp at h
  | _, _, 0, _, .cons h _, e => ⟨_, rfl, by cases Option.some.inj e; exact h⟩
  | _, _, i + 1, _, .cons _ t, e => dpAll_get (i := i) t e
/-! ### the names that are still the built-in ones; constants -/
structure Bn (mg : Str → Option Value) : Prop where
  isi : mg "isinstance" = none
  int : mg "int" = none
  bool : mg "bool" = none
  str : mg "str" = none
  list : mg "list" = none
  tuple : mg "tuple" = none
  len : mg "len" = none
  set : mg "set" = none
  all : mg "all" = none
  min : mg "min" = none
  range : mg "range" = none
  enum : mg "enumerate" = none
  zip : mg "zip" = none
  sorted : mg "sorted" = none
  m12 : ∃ t, mg "MOST_HOUSES" = some (.int 12 t)
  mHt : ∃ t, mg "MOST_HEIGHT" = some (.int 1000000000 t)
section
variable {P : Program} {w : World} {K : PySem.W.Frag} {mg : Str → Option Value} {base : Heap}
/-! ### is_whole, _law_whole -/
def isInt : PyData → Bool
  | .int _ => true
  | _ => false
theorem isInt_eq (d : PyData) : (isT "int" d && !isT "bool" d) = isInt d := by cases d <;> rfl
def spWhole (K : PySem.W.Frag) : Sp := fun vs H Q _ => ∃ v d, vs = [v] ∧ Dp K H v d ∧ Q (.bl (isInt d)) H
theorem scWhole : FnScope ["thing"] ["thing"] (defScope sWhole) := ⟨rfl, rfl, rfl, by decide +kernel, rfl, by decide +kernel, by decide +kernel⟩
theorem scLWhole : FnScope ["thing"] ["thing"] (defScope sLWhole) := ⟨rfl, rfl, rfl, by decide +kernel, rfl, by decide +kernel, by decide +kernel⟩
theorem ok_whole {f : Addr} {fd : FuncData} {k : Nat} (F : Fun K "is_whole" "is_whole" sWhole f fd) (B : Bn mg) : FnOk P w K mg base CX0 (k + 1) f fd ["thing"] (spWhole K) := by
  refine F.ok scWhole (fun vs H Q E h => ?_) (fun cdv A outer s H vs Q E hr h => ?_)
  · obtain ⟨v, d, rfl, _⟩ := h
    rfl
  · obtain ⟨v, d, rfl, hd, q⟩ := h
    refine ⟨_, pss_one (ps_ret (pe_and (pe_callB call_isi (by rfl) B.isi boot_isinstance (pa_cons (pv 0) (pa_cons (pe_bltn (v := .ty "int") (by rfl) B.int boot_int rfl) pa_nil)))
      (pe_one (pe_not (pe_callB call_isi (by rfl) B.isi boot_isinstance (pa_cons (pv 0) (pa_cons (pe_bltn (v := .ty "bool") (by rfl) B.bool boot_bool rfl) pa_nil))))))), ?_⟩
    refine ⟨v, rfl, v, _, _, _, _, rfl, .ty _, tyX_of hd, kit_of_data (by decide) hd, _, rfl, ?_⟩
    rw [← isInt_eq] at q
    cases e : isT "int" d with
    | false =>
      rw [e] at q
      exact iteF q
    | true =>
      rw [e] at q
      exact iteT ⟨v, rfl, v, _, _, _, _, rfl, .ty _, tyX_of hd, kit_of_data (by decide) hd, _, rfl, q⟩
theorem ok_lwhole {f : Addr} {fd : FuncData} {k : Nat} (F : Fun K "_law_whole" "_law_whole" sLWhole f fd) (B : Bn mg) : FnOk P w K mg base CX0 (k + 1) f fd ["thing"] (spWhole K) := by
  refine F.ok scLWhole (fun vs H Q E h => ?_) (fun cdv A outer s H vs Q E hr h => ?_)
  · obtain ⟨v, d, rfl, _⟩ := h
    rfl
  · obtain ⟨v, d, rfl, hd, q⟩ := h
    refine ⟨_, pss_one (ps_ret (pe_and (pe_callB call_isi (by rfl) B.isi boot_isinstance (pa_cons (pv 0) (pa_cons (pe_bltn (v := .ty "int") (by rfl) B.int boot_int rfl) pa_nil)))
      (pe_one (pe_not (pe_callB call_isi (by rfl) B.isi boot_isinstance (pa_cons (pv 0) (pa_cons (pe_bltn (v := .ty "bool") (by rfl) B.bool boot_bool rfl) pa_nil))))))), ?_⟩
    refine ⟨v, rfl, v, _, _, _, _, rfl, .ty _, tyX_of hd, kit_of_data (by decide) hd, _, rfl, ?_⟩
    rw [← isInt_eq] at q
    cases e : isT "int" d with
    | false =>
      rw [e] at q
      exact iteF q
    | true =>
      rw [e] at q
      exact iteT ⟨v, rfl, v, _, _, _, _, rfl, .ty _, tyX_of hd, kit_of_data (by decide) hd, _, rfl, q⟩
/-! ### is_whole_within -/
def within (lo hi : Int) : PyData → Bool
  | .int i => decide (lo ≤ i) && decide (i ≤ hi)
  | _ => false
def spWithin (K : PySem.W.Frag) : Sp := fun vs H Q _ => ∃ v d lo hi, vs = [v, .int lo, .int hi] ∧ Dp K H v d ∧ Q (.bl (within lo hi d)) H
theorem scWithin : FnScope ["thing", "least", "most"] ["thing", "least", "most"] (defScope sWithin) := ⟨rfl, rfl, rfl, by decide +kernel, rfl, by decide +kernel, by decide +kernel⟩
theorem ok_within {f fW : Addr} {fd fdW : FuncData} {k : Nat} (F : Fun K "is_whole_within" "is_whole_within" sWithin f fd) (FW : Fun K "is_whole" "is_whole" sWhole fW fdW) (bW : Binds K fdW ["thing"] []) (gW : mg "is_whole" = some (.ref fW)) (B : Bn mg) :
    FnOk P w K mg base CX0 (k + 2) f fd ["thing", "least", "most"] (spWithin K) := by
  have GW : FnOk P w K mg base CX0 (k + 1) fW fdW ["thing"] (spWhole K) := ok_whole FW B
  refine F.ok scWithin (fun vs H Q E h => ?_) (fun cdv A outer s H vs Q E hr h => ?_)
  · obtain ⟨v, d, lo, hi, rfl, _⟩ := h
    rfl
  · obtain ⟨v, d, lo, hi, rfl, hd, q⟩ := h
    refine ⟨_, pss_one (ps_ret (pe_and (pe_call GW hr (by rfl) gW FW.kp bW .nil pass0 (pa_cons (pv 0) pa_nil)) (pe_one (pe_chain op_le op_le (pv 1) (pv 0) (pv 2))))), ?_⟩
    refine ⟨v, rfl, v, d, rfl, hd, _, rfl, ?_⟩
    cases hd with
    | int i =>
      refine iteT ⟨_, rfl, _, rfl, _, _, rfl, rfl, _, rfl, ?_⟩
      cases e : decide (lo ≤ i) with
      | true =>
        refine iteT ⟨_, rfl, _, _, rfl, rfl, ?_⟩
        rw [show within lo hi (.int i) = (decide (lo ≤ i) && decide (i ≤ hi)) from rfl, e] at q
        exact q
      | false =>
        refine iteF ?_
        rw [show within lo hi (.int i) = (decide (lo ≤ i) && decide (i ≤ hi)) from rfl, e] at q
        exact q
    | non => exact iteF q
    | bl b => exact iteF q
    | str x => exact iteF q
    | lst a b => exact iteF q
    | tup a b => exact iteF q
/-! ### is_height -/
def spHeight (K : PySem.W.Frag) : Sp := fun vs H Q _ => ∃ v d, vs = [v] ∧ Dp K H v d ∧ Q (.bl (within 0 1000000000 d)) H
theorem scHeight : FnScope ["thing"] ["thing"] (defScope sHeight) := ⟨rfl, rfl, rfl, by decide +kernel, rfl, by decide +kernel, by decide +kernel⟩
theorem ok_height {f fI : Addr} {fd fdI : FuncData} {k : Nat} (F : Fun K "is_height" "is_height" sHeight f fd) (FI : Fun K "is_whole_within" "is_whole_within" sWithin fI fdI) (bI : Binds K fdI ["thing", "least", "most"] []) (gI : mg "is_whole_within" = some (.ref fI))
    (GI : FnOk P w K mg base CX0 (k + 2) fI fdI ["thing", "least", "most"] (spWithin K)) (B : Bn mg) : FnOk P w K mg base CX0 (k + 3) f fd ["thing"] (spHeight K) := by
  obtain ⟨tH, mH⟩ := B.mHt
  refine F.ok scHeight (fun vs H Q E h => ?_) (fun cdv A outer s H vs Q E hr h => ?_)
  · obtain ⟨v, d, rfl, _⟩ := h
    rfl
  · obtain ⟨v, d, rfl, hd, q⟩ := h
    refine ⟨_, pss_one (ps_ret (pe_call GI hr (by rfl) gI FI.kp bI .nil pass0 (pa_cons (pv 0) (pa_cons pe_int (pa_cons (pe_glob (v := .int 1000000000) (by rfl) mH ⟨_, rfl⟩) pa_nil))))), ?_⟩
    exact ⟨v, rfl, v, d, 0, 1000000000, rfl, hd, q⟩
end
end RS

set_option Elab.async false
set_option linter.all false
set_option maxRecDepth 100000
set_option maxHeartbeats 2000000
namespace RS
open PySem PySem.Spec PyProof.Rows L2
/-! ### as many unlike ones as there are -/
theorem len_le_sub : ∀ {l m : List Int}, l.Nodup → (∀ x ∈ l, x ∈ m) → l.length ≤ m.length
  | [], _, _, _ => Nat.zero_le _
  | a :: r, m, h, s => by
    have hm : a ∈ m := s a List.mem_cons_self
    obtain ⟨h1, h2⟩ := List.nodup_cons.mp h
    have := len_le_sub (l := r) (m := m.erase a) h2 fun x hx => (List.mem_erase_of_ne (fun (e : x = a) => h1 (by rw [← e]; exact hx))).mpr (s x (List.mem_cons_of_mem _ hx))
    rw [List.length_erase_of_mem hm] at this
    have pos : 0 < m.length := List.length_pos_of_mem hm
    show r.length + 1 ≤ m.length
    omega
theorem dup_shorter : ∀ {m : List Int}, ¬ m.Nodup → ∃ m' : List Int, m'.length < m.length ∧ ∀ x ∈ m, x ∈ m'
  | [], h => absurd List.nodup_nil h
  | a :: r, h => by
    by_cases ha : a ∈ r
    · exact ⟨r, Nat.lt_succ_self _, fun x hx => by
        rcases List.mem_cons.mp hx with e | e
        · rw [e]; exact ha
        · exact e⟩
    · have hr : ¬ r.Nodup := fun z => h (List.nodup_cons.mpr ⟨ha, z⟩)
      obtain ⟨m', h1, h2⟩ := dup_shorter hr
      exact ⟨a :: m', Nat.succ_lt_succ h1, fun x hx => by
        rcases List.mem_cons.mp hx with e | e
        · rw [e]; exact List.mem_cons_self
        · exact List.mem_cons_of_mem _ (h2 x e)⟩
theorem unlike_len {l m : List Int} (hl : l.Nodup) (hm : ∀ x, x ∈ l ↔ x ∈ m) : l.length = m.length ↔ m.Nodup := by
  refine ⟨fun e => ?_, fun h => Nat.le_antisymm (len_le_sub hl fun x hx => (hm x).mp hx) (len_le_sub h fun x hx => (hm x).mpr hx)⟩
  by_cases c : m.Nodup
  · exact c
  · obtain ⟨m', h1, h2⟩ := dup_shorter c
    have := len_le_sub hl fun x hx => h2 x ((hm x).mp hx)
    omega
/-! ### len(set(t)), t a tuple of whole numbers -/
def tLenSetT (K : PySem.W.Frag) (ta : TE) : TE := fun σ H Q => ta σ H fun x H1 => ∃ (l : Addr) (ns : List Int), x = .ref l ∧ SqT K H1 l (ns.map V.int) ∧ ns.length ≤ 1000 ∧ ∀ n : Nat, (n = ns.length ↔ ns.Nodup) → Q (.int n) H1
theorem ints_of_vals : ∀ {ns : List Int} {us : List Value}, Vals (ns.map V.int) us → PyProof.Rows.IntsAre us ns
  | [], _, .nil => .nil
  | n :: ns, _, .cons r t => by
    obtain ⟨k, rfl⟩ := r
    exact .cons n k (ints_of_vals t)
theorem pe_lenSetT {X : Cx} {a : Expr} {ta : TE} {p p2 q pos : Pos} (hg : Gl X "len") (hm : X.mg "len" = none) (hg2 : Gl X "set") (hm2 : X.mg "set" = none) (ha : PE X a ta) (hc : X.calm = true := by rfl)
    (na : starEach [a] X.env = (false, eval a X.env) :: starEach [] X.env := by rfl) : PE X (.Call (.Name "len" p) [.Call (.Name "set" p2) [a] [] q] [] pos) (tLenSetT X.K ta) := by
  refine ⟨fun pins s σ H Q I h => ?_⟩
  refine Call_ (ld_blt I hg hm boot_len ?_)
  refine PyProof.Rows.callWith_builtin1 (PyProof.Rows.args_cons ?_ rfl) rfl rfl
  refine Call_ (ld_blt I hg2 hm2 boot_set ?_)
  refine PyProof.Rows.callWith_type1 (PyProof.Rows.args_cons (thn (ha.run pins s σ H _ I h) fun v s1 ⟨x, H1, I1, r1, q1⟩ => PyProof.Rows.args_nil ?_) na) na rfl
  obtain ⟨l, ns, rfl, hq, hl, q1⟩ := q1
  cases r1
  obtain ⟨its, r, pt, hz⟩ := I1.tuple hq
  refine call_set_tupI ns (I1.ok.hd hc) (show s1.heap.IsTuple l its.toArray from pt) (by simpa using ints_of_vals r) (by unfold scanBound; omega) fun h' tk c R1 hcn k => ?_
  refine PyProof.Rows.args_nil ?_
  obtain ⟨o, es, ep, t, ho, hex, hd, hgood, hnd, hS, hsz, hf, hn, _⟩ := R1
  have I2 : Inv X pins σ H1 { s1 with heap := h', toks := tk } := I1.kept fun b o e => k b o e
  have hu : c = ns.length ↔ ns.Nodup := by
    rw [← hn]
    have := unlike_len (l := es.toList.map keyOf) (m := ns) hnd fun x => by
      rw [← hS x]
      exact decide_eq_true_iff
    rw [List.length_map, Array.length_toList] at this
    exact this
  exact call_len_set ho hex hd hf (by rw [hn] <;> omega) ⟨.int c, H1, I2.tok _, ⟨_, by rw [hn]⟩, q1 c hu⟩
/-! ### which data are heights -/
def intsOf : List PyData → Option (List Int)
  | [] => some []
  | .int i :: r => (intsOf r).map (i :: ·)
  | _ :: _ => none
def hOk (ns : List Int) : Bool := decide (1 ≤ ns.length ∧ ns.length ≤ 12) && ns.all (fun i => decide (0 ≤ i) && decide (i ≤ 1000000000)) && decide ns.Nodup
def isH : PyData → Bool
  | .tuple ds => (match intsOf ds with | some ns => hOk ns | none => false)
  | _ => false
theorem intsOf_map (ns : List Int) : intsOf (ns.map PyData.int) = some ns := by
  induction ns with
  | nil => rfl
  | cons a r ih =>
    show (intsOf (r.map PyData.int)).map (a :: ·) = _
    rw [ih]
    rfl
theorem intsOf_some : ∀ {ds : List PyData} {ns : List Int}, intsOf ds = some ns → ds = ns.map PyData.int
  | [], ns, h => by
    cases Option.some.inj h
    rfl
  | .int i :: r, ns, h => by
    have h : (intsOf r).map (i :: ·) = some ns := h
    cases e : intsOf r with
    | none => rw [e] at h; cases h
    | some m =>
      rw [e] at h
      cases Option.some.inj h
      rw [intsOf_some e]
      rfl
  | .none :: _, _, h => by cases h
  | .bool _ :: _, _, h => by cases h
  | .str _ :: _, _, h => by cases h
  | .list _ :: _, _, h => by cases h
  | .tuple _ :: _, _, h => by cases h
  | .dict _ :: _, _, h => by cases h
theorem all_within : ∀ {ds : List PyData}, ds.all (within 0 1000000000) = true → ∃ ns : List Int, ds = ns.map PyData.int ∧ ns.all (fun i => decide (0 ≤ i) && decide (i ≤ 1000000000)) = true
  | [], _ => ⟨[], rfl, rfl⟩
  | d :: r, h => by
    rw [List.all_cons, Bool.and_eq_true] at h
    obtain ⟨ns, e, h2⟩ := all_within h.2
    cases d with
    | int i => exact ⟨i :: ns, by rw [e]; rfl, by rw [List.all_cons, Bool.and_eq_true]; exact ⟨h.1, h2⟩⟩
    | none => exact absurd h.1 Bool.false_ne_true
    | bool _ => exact absurd h.1 Bool.false_ne_true
    | str _ => exact absurd h.1 Bool.false_ne_true
    | list _ => exact absurd h.1 Bool.false_ne_true
    | tuple _ => exact absurd h.1 Bool.false_ne_true
    | dict _ => exact absurd h.1 Bool.false_ne_true
theorem within_ints (ns : List Int) : (ns.map PyData.int).all (within 0 1000000000) = ns.all (fun i => decide (0 ≤ i) && decide (i ≤ 1000000000)) := by
  rw [List.all_map]
  rfl
theorem isH_short {ds : List PyData} (h : ¬ (1 ≤ ds.length ∧ ds.length ≤ 12)) : isH (.tuple ds) = false := by
  show (match intsOf ds with | some ns => hOk ns | none => false) = false
  cases e : intsOf ds with
  | none => rfl
  | some ns =>
    have e2 := congrArg List.length (intsOf_some e)
    rw [List.length_map] at e2
    rw [e2] at h
    show hOk ns = false
    unfold hOk
    rw [decide_eq_false h]
    rfl
theorem isH_out {ds : List PyData} (h : ds.all (within 0 1000000000) = false) : isH (.tuple ds) = false := by
  show (match intsOf ds with | some ns => hOk ns | none => false) = false
  cases e : intsOf ds with
  | none => rfl
  | some ns =>
    rw [intsOf_some e, within_ints] at h
    show hOk ns = false
    unfold hOk
    rw [h, Bool.and_false]
    rfl
theorem isH_ints {ns : List Int} (h1 : 1 ≤ ns.length ∧ ns.length ≤ 12) (h2 : ns.all (fun i => decide (0 ≤ i) && decide (i ≤ 1000000000)) = true) : isH (.tuple (ns.map PyData.int)) = decide ns.Nodup := by
  show (match intsOf (ns.map PyData.int) with | some ns => hOk ns | none => false) = _
  rw [intsOf_map]
  show hOk ns = _
  unfold hOk
  rw [h2, decide_eq_true h1]
  rfl
theorem dpAll_ints {K : PySem.W.Frag} {H : Hp} : ∀ {vs : List V} {ns : List Int}, DpAll K H vs (ns.map PyData.int) → vs = ns.map V.int
  | _, [], .nil => rfl
  | _, n :: ns, .cons h t => by
    cases h
    rw [dpAll_ints t]
    rfl
theorem tYes_ok {σ : L2.St} {H : Hp} {Q : Bool → Hp → Prop} (h : Q true H) : tYes σ H Q := h
/-! ### are_heights -/
section
variable {P : Program} {w : World} {K : PySem.W.Frag} {mg : Str → Option Value} {base : Heap}
def spAre (K : PySem.W.Frag) : Sp := fun vs H Q _ => ∃ v d, vs = [v] ∧ Dp K H v d ∧ ∀ H', Same H H' → Q (.bl (isH d)) H'
theorem scAre : FnScope ["thing", "part"] ["thing"] (defScope sAre) := ⟨rfl, rfl, rfl, by decide +kernel, rfl, by decide +kernel, by decide +kernel⟩
theorem ok_are {f fW fI : Addr} {fd fdW fdI : FuncData} {k : Nat} (F : Fun K "are_heights" "are_heights" sAre f fd) (FI : Fun K "is_height" "is_height" sHeight fI fdI) (bI : Binds K fdI ["thing"] []) (gI : mg "is_height" = some (.ref fI))
    (GI : FnOk P w K mg base CX0 (k + 3) fI fdI ["thing"] (spHeight K)) (B : Bn mg) :
    FnOk P w K mg base CX0 (k + 4) f fd ["thing"] (spAre K) := by
  obtain ⟨t12, m12⟩ := B.m12
  refine F.ok scAre (fun vs H Q E h => ?_) (fun cdv A outer s H vs Q E hr h => ?_)
  · obtain ⟨v, d, rfl, _⟩ := h
    rfl
  · obtain ⟨v, d, rfl, hd, q⟩ := h
    refine ⟨_, pss_cons (ps_if (PW.pt (pw_or (pt_not (pt_val (pe_callB call_isi (by rfl) B.isi boot_isinstance (pa_cons (pv 0) (pa_cons (pe_bltn (v := .ty "tuple") (by rfl) B.tuple boot_tuple rfl) pa_nil)))))
        (pw_or1 (pt_not (pt_chain op_le op_le pe_int (pe_callB call_len_seq (by rfl) B.len PySem.boot_len (pa_cons (pv 0) pa_nil)) (pe_glob (v := .int 12) (by rfl) m12 ⟨_, rfl⟩))))))
        (pss_one (ps_ret pe_bl)) pss_nil)
      (pss_cons (ps_if (pt_not (pt_val (pe_callB (cr_all rfl) (by rfl) B.all boot_all (pa_cons (pe_lc (own := [("part", 1)]) (g := gName 1) (tt := tYes) rfl scAre.nd (pi_tup (pv 0))
          (blkOk_by (N := ["thing", "part"]) (sc := defScope sAre) (by decide +kernel)) (fun _ _ _ _ _ => pg_name (i := 1) scAre.nd rfl (Or.inl rfl)) (fun _ _ _ _ _ => pts_nil)
          (fun _ _ _ _ _ => pe_call GI hr (by rfl) gI FI.kp bI .nil pass0 (pa_cons (pv 1) pa_nil))) pa_nil))))
        (pss_one (ps_ret pe_bl)) pss_nil)
      (pss_one (ps_ret (pe_cmpR op_eq (pe_lenSetT (by rfl) B.len (by rfl) B.set (pv 0)) (pe_callB call_len_seq (by rfl) B.len PySem.boot_len (pa_cons (pv 0) pa_nil)) (nomark _))))), ?_⟩
    refine ⟨v, rfl, v, _, _, _, _, rfl, .ty _, tyX_of hd, kit_of_data (by decide) hd, _, rfl, ?_⟩
    cases hd with
    | non => exact iteT (iteT (q H (Same.refl H)))
    | bl b => exact iteT (iteT (q H (Same.refl H)))
    | int i => exact iteT (iteT (q H (Same.refl H)))
    | str x => exact iteT (iteT (q H (Same.refl H)))
    | lst hs ha => exact iteT (iteT (q H (Same.refl H)))
    | @tup a xs ds hs ha =>
      have hlen : xs.length = ds.length := dpAll_len ha
      refine iteF ⟨.ref a, rfl, a, xs, rfl, .inr hs, _, _, rfl, rfl, _, rfl, ?_⟩
      cases e1 : decide ((1 : Int) ≤ ((xs.length : Nat) : Int)) with
      | false =>
        have e1' := of_decide_eq_false e1
        rw [isH_short (by omega)] at q
        exact iteF ⟨_, rfl, iteT (q H (Same.refl H))⟩
      | true =>
        have e1' := of_decide_eq_true e1
        refine iteT ⟨_, _, rfl, rfl, _, rfl, ?_⟩
        cases e2 : decide (((xs.length : Nat) : Int) ≤ 12) with
        | false =>
          have e2' := of_decide_eq_false e2
          rw [isH_short (by omega)] at q
          exact iteT (q H (Same.refl H))
        | true =>
          have e2' := of_decide_eq_true e2
          refine iteF ⟨.ref a, rfl, a, rfl, ⟨_, hs⟩, fun D hD => lc_tup (K := K) (a := a) (xs := xs) (fun i H' => Same H H' ∧ H' D = some (.lst (((ds.take i).map (within 0 1000000000)).map V.bl)))
            ⟨same_upd hD, upd_same⟩ (fun i H' _ p => p.1.seqT hs) (fun i x H' hx p => ?_) (fun H' p => ?_)⟩
          · obtain ⟨sm, eD⟩ := p
            obtain ⟨d, hd1, hd2⟩ := dpAll_get ha hx
            refine ⟨rfl, tYes_ok ?_⟩
            refine iteT ⟨x, rfl, x, d, rfl, dp_mono sm hd2, _, eD, ?_, ?_, ?_⟩
            · rw [List.length_map, List.length_map, List.length_take]
              exact small1000 (by omega)
            · exact fun b o e => by
                rw [upd_ne (ne_of_none e hD)]
                exact sm b o e
            · rw [upd_same, List.take_add_one, hd1, List.map_append, List.map_append]
              rfl
          · obtain ⟨sm, eD⟩ := p
            rw [hlen, List.take_length] at eD
            refine ⟨D, _, rfl, SqL.of eD, _, rfl, ?_⟩
            rw [List.all_map]
            show if (!(ds.all (within 0 1000000000))) = true then _ else _
            cases e3 : ds.all (within 0 1000000000) with
            | false =>
              rw [isH_out e3] at q
              exact iteT (q H' sm)
            | true =>
              obtain ⟨ns, rfl, hin⟩ := all_within e3
              have exs := dpAll_ints ha
              subst exs
              rw [List.length_map] at e1' e2'
              refine iteF ⟨.ref a, rfl, a, ns, rfl, sm.seqT hs, by omega, fun n hn => ⟨.ref a, rfl, a, _, rfl, .inr (sm.seqT hs), rfl, ?_⟩⟩
              rw [isH_ints (by omega) hin] at q
              have e4 : decide (V.int (n : Int) = V.int ((ns.map V.int).length : Nat)) = decide ns.Nodup := by
                rw [List.length_map]
                refine decide_eq_decide.mpr ⟨fun z => hn.mp (by have := V.int.inj z; omega), fun z => by rw [hn.mpr z]⟩
              rw [e4]
              exact q H' sm
end
end RS

set_option Elab.async false
set_option linter.all false
set_option maxRecDepth 100000
set_option maxHeartbeats 2000000
namespace RS
open PySem PySem.Spec PyProof.Rows L2
/-! ### data that == may read -/
theorem canAll {ds : List PyData} : PyData.canLayAll0 ds = ds.all PyData.canLay0 := by
  induction ds with
  | nil => simp [PyData.canLayAll0]
  | cons a r ih => simp [PyData.canLayAll0, ih]
theorem depthAll_le {n : Nat} {ds : List PyData} : PyData.depthAll ds ≤ n ↔ ∀ d ∈ ds, d.depth ≤ n := by
  induction ds with
  | nil => simp [PyData.depthAll]
  | cons a r ih => simp [PyData.depthAll, ih, Nat.max_le]
/-- data of at most n within one another, its texts good -/
def Shp (n : Nat) (d : PyData) : Prop := d.canLay0 = true ∧ d.depth ≤ n
theorem Shp.mono {n m : Nat} {d : PyData} (h : Shp n d) (e : n ≤ m) : Shp m d := ⟨h.1, Nat.le_trans h.2 e⟩
theorem Shp.ok {n : Nat} {d : PyData} (h : Shp n d) (e : n ≤ 64) : SeqAt.shaped d = true := by
  unfold SeqAt.shaped
  rw [h.1, decide_eq_true (Nat.le_trans h.2 e)]
  rfl
theorem shp_list {n : Nat} {ds : List PyData} : Shp (n + 1) (.list ds) ↔ ∀ d ∈ ds, Shp n d := by
  unfold Shp
  simp only [PyData.canLay0, PyData.depth, canAll, List.all_eq_true, Nat.add_le_add_iff_right, depthAll_le]
  exact ⟨fun h d m => ⟨h.1 d m, h.2 d m⟩, fun h => ⟨fun d m => (h d m).1, fun d m => (h d m).2⟩⟩
theorem shp_tup {n : Nat} {ds : List PyData} : Shp (n + 1) (.tuple ds) ↔ ∀ d ∈ ds, Shp n d := by
  unfold Shp
  simp only [PyData.canLay0, PyData.depth, canAll, List.all_eq_true, Nat.add_le_add_iff_right, depthAll_le]
  exact ⟨fun h d m => ⟨h.1 d m, h.2 d m⟩, fun h => ⟨fun d m => (h d m).1, fun d m => (h d m).2⟩⟩
theorem shp_int {n : Nat} {i : Int} : Shp n (.int i) := ⟨by simp [PyData.canLay0], by simp [PyData.depth]⟩
theorem shp_bool {n : Nat} {i : Bool} : Shp n (.bool i) := ⟨by simp [PyData.canLay0], by simp [PyData.depth]⟩
theorem shp_none {n : Nat} : Shp n .none := ⟨by simp [PyData.canLay0], by simp [PyData.depth]⟩
theorem shp_str {n : Nat} {x : Str} (h : (PyData.str x).canLay0 = true) : Shp n (.str x) := ⟨h, by simp [PyData.depth]⟩
theorem shp_empty {n : Nat} : Shp (n + 1) (.list []) := shp_list.mpr fun d m => absurd m (by simp)
theorem dpAll_snoc {K : PySem.W.Frag} {H : Hp} : ∀ {vs : List V} {ds : List PyData} {v : V} {d : PyData}, DpAll K H vs ds → Dp K H v d → DpAll K H (vs ++ [v]) (ds ++ [d])
  | _, _, _, _, .nil, h => .cons h .nil
  | _, _, _, _, .cons a t, h => .cons a (dpAll_snoc t h)
theorem eqv_nil (ds : List PyData) : PyData.eqv (.list ds) (.list []) = ds.isEmpty := by
  cases ds <;> simp [PyData.eqv, PyData.eqvAll]
theorem filter_nil_all (ds : List PyData) (p : PyData → Bool) : (ds.filter (fun d => !p d)).isEmpty = ds.all p := by
  induction ds with
  | nil => rfl
  | cons a r ih =>
    rw [List.filter_cons, List.all_cons]
    cases e : p a with
    | true => simpa using ih
    | false => simp
/-! ### _law_are_heights -/
section
variable {P : Program} {w : World} {K : PySem.W.Frag} {mg : Str → Option Value} {base : Heap}
def spLAre (K : PySem.W.Frag) : Sp := fun vs H Q _ => ∃ v d, vs = [v] ∧ Dp K H v d ∧ Shp 60 d ∧ ∀ H', Same H H' → Q (.bl (isH d)) H'
theorem scLAre : FnScope ["thing", "height"] ["thing"] (defScope sLAre) := ⟨rfl, rfl, rfl, by decide +kernel, rfl, by decide +kernel, by decide +kernel⟩
theorem ok_lare {f fW : Addr} {fd fdW : FuncData} {k : Nat} (F : Fun K "_law_are_heights" "_law_are_heights" sLAre f fd) (FW : Fun K "_law_whole" "_law_whole" sLWhole fW fdW) (bW : Binds K fdW ["thing"] []) (gW : mg "_law_whole" = some (.ref fW)) (B : Bn mg) :
    FnOk P w K mg base CX0 (k + 2) f fd ["thing"] (spLAre K) := by
  have GW : FnOk P w K mg base CX0 (k + 1) fW fdW ["thing"] (spWhole K) := ok_lwhole FW B
  refine F.ok scLAre (fun vs H Q E h => ?_) (fun cdv A outer s H vs Q E hr h => ?_)
  · obtain ⟨v, d, rfl, _⟩ := h
    rfl
  · obtain ⟨v, d, rfl, hd, hshp, q⟩ := h
    refine ⟨_, pss_cons (ps_if (PW.pt (pw_or (pt_not (pt_val (pe_callB call_isi (by rfl) B.isi boot_isinstance (pa_cons (pv 0) (pa_cons (pe_bltn (v := .ty "tuple") (by rfl) B.tuple boot_tuple rfl) pa_nil)))))
        (pw_or1 (pt_not (pt_chain op_le op_le pe_int (pe_callB call_len_seq (by rfl) B.len PySem.boot_len (pa_cons (pv 0) pa_nil)) pe_int)))))
        (pss_one (ps_ret pe_bl)) pss_nil)
      (pss_cons (ps_if (pt_cmpR (op_neD hr.units) (pe_lc (own := [("height", 1)]) (g := gName 1) rfl scLAre.nd (pi_tup (pv 0))
          (blkOk_by (N := ["thing", "height"]) (sc := defScope sLAre) (by decide +kernel)) (fun _ _ _ _ _ => pg_name (i := 1) scLAre.nd rfl (Or.inl rfl))
          (fun _ _ _ _ _ => pts_one (PW.pt (pw_or (pt_not (pt_val (pe_call GW hr (by rfl) gW FW.kp bW .nil pass0 (pa_cons (pv 1) pa_nil)))) (pw_or1 (pt_not (pt_chain op_le op_le pe_int (pv 1) (pe_op op_pow pe_int pe_int)))))))
          (fun _ _ _ _ _ => pv 1)) (pe_lst pa_nil) (nomark _))
        (pss_one (ps_ret pe_bl)) pss_nil)
      (pss_one (ps_ret (pe_cmpR op_eq (pe_lenSetT (by rfl) B.len (by rfl) B.set (pv 0)) (pe_callB call_len_seq (by rfl) B.len PySem.boot_len (pa_cons (pv 0) pa_nil)) (nomark _))))), ?_⟩
    refine ⟨v, rfl, v, _, _, _, _, rfl, .ty _, tyX_of hd, kit_of_data (by decide) hd, _, rfl, ?_⟩
    cases hd with
    | non => exact iteT (iteT (q H (Same.refl H)))
    | bl b => exact iteT (iteT (q H (Same.refl H)))
    | int i => exact iteT (iteT (q H (Same.refl H)))
    | str x => exact iteT (iteT (q H (Same.refl H)))
    | lst hs ha => exact iteT (iteT (q H (Same.refl H)))
    | @tup a xs ds hs ha =>
      have hlen : xs.length = ds.length := dpAll_len ha
      refine iteF ⟨.ref a, rfl, a, xs, rfl, .inr hs, _, _, rfl, rfl, _, rfl, ?_⟩
      cases e1 : decide ((1 : Int) ≤ ((xs.length : Nat) : Int)) with
      | false =>
        have e1' := of_decide_eq_false e1
        rw [isH_short (by omega)] at q
        exact iteF ⟨_, rfl, iteT (q H (Same.refl H))⟩
      | true =>
        have e1' := of_decide_eq_true e1
        refine iteT ⟨_, _, rfl, rfl, _, rfl, ?_⟩
        cases e2 : decide (((xs.length : Nat) : Int) ≤ 12) with
        | false =>
          have e2' := of_decide_eq_false e2
          rw [isH_short (by omega)] at q
          exact iteT (q H (Same.refl H))
        | true =>
          have e2' := of_decide_eq_true e2
          refine iteF ⟨.ref a, rfl, a, rfl, ⟨_, hs⟩, fun D hD => lc_tup (K := K) (a := a) (xs := xs) (fun i H' => Same H H' ∧ ∃ ys, H' D = some (.lst ys) ∧ ys.length ≤ i ∧ DpAll K H ys ((ds.take i).filter fun d => !within 0 1000000000 d))
            ⟨same_upd hD, [], upd_same, Nat.le_refl _, .nil⟩ (fun i H' _ p => p.1.seqT hs) (fun i x H' hx p => ?_) (fun H' p => ?_)⟩
          · obtain ⟨sm, ys, eD, hys, hda⟩ := p
            obtain ⟨d, hd1, hd2⟩ := dpAll_get ha hx
            have hi : i < xs.length := (List.getElem?_eq_some_iff.mp hx).1
            have tk : ds.take (i + 1) = ds.take i ++ [d] := by rw [List.take_add_one, hd1]; rfl
            have yes : within 0 1000000000 d = false → (Same H (upd H' D (.lst (ys ++ [x]))) ∧ ∃ zs, upd H' D (.lst (ys ++ [x])) D = some (.lst zs) ∧ zs.length ≤ i + 1 ∧ DpAll K H zs ((ds.take (i + 1)).filter fun d => !within 0 1000000000 d)) := fun e => by
              refine ⟨fun b o e => by rw [upd_ne (ne_of_none e hD)]; exact sm b o e, ys ++ [x], upd_same, by simp; omega, ?_⟩
              rw [tk, List.filter_append, List.filter_cons, e]
              exact dpAll_snoc hda hd2
            have no : within 0 1000000000 d = true → (Same H H' ∧ ∃ zs, H' D = some (.lst zs) ∧ zs.length ≤ i + 1 ∧ DpAll K H zs ((ds.take (i + 1)).filter fun d => !within 0 1000000000 d)) := fun e => by
              refine ⟨sm, ys, eD, by omega, ?_⟩
              rw [tk, List.filter_append, List.filter_cons, e]
              simpa using hda
            have hsz : ys.length < sizeLine := small1000 (by omega)
            refine ⟨rfl, ⟨x, rfl, x, d, rfl, dp_mono sm hd2, _, rfl, ?_⟩⟩
            cases hd2 with
            | int n =>
              refine iteF ⟨_, rfl, _, _, rfl, rfl, _, rfl, ?_⟩
              cases e3 : decide ((0 : Int) ≤ n) with
              | false =>
                refine iteF ⟨_, rfl, iteT ⟨_, rfl, ys, eD, hsz, yes ?_⟩⟩
                show (decide ((0 : Int) ≤ n) && _) = false
                rw [e3]
                rfl
              | true =>
                refine iteT ⟨_, _, rfl, rfl, ⟨by decide, by decide, by decide⟩, _, _, rfl, rfl, _, rfl, ?_⟩
                show if (!decide (n ≤ (1000000000 : Int))) = true then _ else _
                cases e4 : decide (n ≤ (1000000000 : Int)) with
                | false =>
                  refine iteT ⟨_, rfl, ys, eD, hsz, yes ?_⟩
                  show (decide ((0 : Int) ≤ n) && decide (n ≤ (1000000000 : Int))) = false
                  rw [e3, e4]
                  rfl
                | true =>
                  refine iteF (no ?_)
                  show (decide ((0 : Int) ≤ n) && decide (n ≤ (1000000000 : Int))) = true
                  rw [e3, e4]
                  rfl
            | non => exact iteT (iteT ⟨_, rfl, ys, eD, hsz, yes rfl⟩)
            | bl b => exact iteT (iteT ⟨_, rfl, ys, eD, hsz, yes rfl⟩)
            | str z => exact iteT (iteT ⟨_, rfl, ys, eD, hsz, yes rfl⟩)
            | lst _ _ => exact iteT (iteT ⟨_, rfl, ys, eD, hsz, yes rfl⟩)
            | tup _ _ => exact iteT (iteT ⟨_, rfl, ys, eD, hsz, yes rfl⟩)
          · obtain ⟨sm, ys, eD, hys, hda⟩ := p
            rw [hlen, List.take_length] at hda
            refine ⟨Nat.zero_le _, fun Z hZ => ?_⟩
            have s2 : Same H' (upd H' Z (.lst [])) := same_upd hZ
            have sm2 := sm.trans s2
            refine ⟨_, _, .lst (SqL.of (s2 _ _ eD)) (dpAll_mono sm2 hda), .lst (SqL.of upd_same) .nil, ?_, ?_, _, rfl, ?_⟩
            · exact Shp.ok (n := 60) (shp_list.mpr fun d m => shp_tup.mp hshp d (List.mem_filter.mp m).1) (by decide)
            · exact Shp.ok (n := 1) shp_empty (by decide)
            · rw [eqv_nil, filter_nil_all]
              cases e3 : ds.all (within 0 1000000000) with
              | false =>
                rw [isH_out e3] at q
                exact iteT (q _ sm2)
              | true =>
                obtain ⟨ns, rfl, hin⟩ := all_within e3
                have exs := dpAll_ints ha
                subst exs
                rw [List.length_map] at e1' e2'
                refine iteF ⟨.ref a, rfl, a, ns, rfl, sm2.seqT hs, by omega, fun n hn => ⟨.ref a, rfl, a, _, rfl, .inr (sm2.seqT hs), rfl, ?_⟩⟩
                rw [isH_ints (by omega) hin] at q
                have e4 : decide (V.int (n : Int) = V.int ((ns.map V.int).length : Nat)) = decide ns.Nodup := by
                  rw [List.length_map]
                  refine decide_eq_decide.mpr ⟨fun z => hn.mp (by have := V.int.inj z; omega), fun z => by rw [hn.mpr z]⟩
                rw [e4]
                exact q _ sm2
end
end RS

set_option Elab.async false
set_option linter.all false
set_option maxRecDepth 100000
set_option maxHeartbeats 2000000
namespace RS
open PySem PySem.Spec PyProof.Rows L2
/-! ### heaps without one address -/
def hide (p : Addr) (H : Hp) : Hp := fun b => if b = p then none else H b
theorem hide_at {p : Addr} {H : Hp} : hide p H p = none := if_pos rfl
theorem hide_ne {p b : Addr} {H : Hp} (h : b ≠ p) : hide p H b = H b := if_neg h
theorem hide_same {p : Addr} {H : Hp} : Same (hide p H) H := fun b o e => by
  by_cases c : b = p
  · rw [c, hide_at] at e
    cases e
  · rw [hide_ne c] at e
    exact e
theorem hide_upd {p : Addr} {H : Hp} {o : HO} : hide p (upd H p o) = hide p H := by
  funext b
  by_cases c : b = p
  · rw [c, hide_at, hide_at]
  · rw [hide_ne c, hide_ne c, upd_ne c]
theorem hide_mono {p : Addr} {H H' : Hp} (s : Same H H') : Same (hide p H) (hide p H') := fun b o e => by
  by_cases c : b = p
  · rw [c, hide_at] at e
    cases e
  · rw [hide_ne c] at e ⊢
    exact s b o e
/-- what was tracked in H, where p was free, is tracked without p -/
theorem same_hide {p : Addr} {H H' : Hp} (s : Same H H') (n : H p = none) : Same H (hide p H') := fun b o e => by
  rw [hide_ne (ne_of_none e n)]
  exact s b o e
theorem same_put {H H' : Hp} {D : Addr} {o : HO} (s : Same H H') (n : H D = none) : Same H (upd H' D o) := fun b x e => by
  rw [upd_ne (ne_of_none e n)]
  exact s b x e
/-! ### a walk over a range within a comprehension -/
theorem rng_walk {lo : Int} {n : Nat} {H0 : Hp} {Qd : Hp → Prop} {B : V → Hp → (Hp → Prop) → Prop} (Pv : Nat → Hp → Prop) (h0 : Pv 0 H0) (hs : ∀ i H (z : Int), i < n → z = lo + i → Pv i H → B (.int z) H (Pv (i + 1))) (hd : ∀ H, Pv n H → Qd H) :
    ∃ W : Nat → Nat → Hp → Prop, (∃ m, W 0 m H0) ∧ ∀ i m H, W i m H → ((Itr lo n).stop i H ∧ Qd H) ∨ ((Itr lo n).go i H ∧ ∃ Nx : Hp → Prop, (∀ H', Nx H' → ∃ m', m' < m ∧ W (i + 1) m' H') ∧ ∀ x H', (Itr lo n).yld i H x H' → B x H' Nx) := by
  refine ⟨fun i m H => m = n - i ∧ i ≤ n ∧ Pv i H, ⟨n, by simp, Nat.zero_le _, h0⟩, ?_⟩
  rintro i m H ⟨rfl, hi, p⟩
  by_cases hlt : i < n
  · refine .inr ⟨hlt, Pv (i + 1), fun H' p' => ⟨n - (i + 1), by omega, rfl, hlt, p'⟩, fun x H' y => ?_⟩
    obtain ⟨e, y⟩ := y
    subst e y
    exact hs i _ _ hlt rfl p
  · have e : i = n := by omega
    subst e
    exact .inl ⟨Nat.le_refl _, hd H p⟩
/-! ### the mathematics of sights -/
def mid (ns : List Int) (i j : Nat) : List Int := (ns.drop (i + 1)).take (j - (i + 1))
def at0 (ns : List Int) (i : Nat) : Int := ns.getD i 0
def lower (ns : List Int) (i j : Nat) : Int := if at0 ns j < at0 ns i then at0 ns j else at0 ns i
def sees (ns : List Int) (i j : Nat) : Bool := (mid ns i j).all fun h => decide (h < lower ns i j)
def rowTo (ns : List Int) (i m : Nat) : List (Nat × Nat) := ((List.range m).filter fun k => sees ns i (i + 1 + k)).map fun k => (i, i + 1 + k)
def seenTo (ns : List Int) (i : Nat) : List (Nat × Nat) := (List.range i).flatMap fun i => rowTo ns i (ns.length - (i + 1))
def seen (ns : List Int) : List (Nat × Nat) := seenTo ns ns.length
def pairD (p : Nat × Nat) : PyData := .tuple [.int p.1, .int p.2]
def lotD (ps : List (Nat × Nat)) : PyData := .tuple (ps.map pairD)
theorem rowTo_succ (ns : List Int) (i m : Nat) : rowTo ns i (m + 1) = if sees ns i (i + 1 + m) = true then rowTo ns i m ++ [(i, i + 1 + m)] else rowTo ns i m := by
  unfold rowTo
  rw [List.range_succ, List.filter_append, List.map_append, List.filter_cons]
  split <;> simp
theorem seenTo_succ (ns : List Int) (i : Nat) : seenTo ns (i + 1) = seenTo ns i ++ rowTo ns i (ns.length - (i + 1)) := by
  unfold seenTo
  rw [List.range_succ, List.flatMap_append]
  simp
theorem rowTo_len (ns : List Int) (i m : Nat) : (rowTo ns i m).length ≤ m := by
  unfold rowTo
  rw [List.length_map]
  exact Nat.le_trans (List.length_filter_le _ _) (by rw [List.length_range]; exact Nat.le_refl _)
theorem seenTo_len (ns : List Int) (h : ns.length ≤ 12) : ∀ i, (seenTo ns i).length ≤ i * 12
  | 0 => Nat.le_refl _
  | i + 1 => by
    rw [seenTo_succ, List.length_append]
    have a := seenTo_len ns h i
    have b := rowTo_len ns i (ns.length - (i + 1))
    omega
theorem at0_get {ns : List Int} {i : Nat} (h : i < ns.length) : (ns.map V.int)[i]? = some (.int (at0 ns i)) := by
  rw [List.getElem?_map, List.getElem?_eq_getElem h]
  unfold at0
  rw [List.getD_eq_getElem?_getD, List.getElem?_eq_getElem h]
  rfl
theorem cut_mid {ns : List Int} {i j : Nat} (h1 : i < j) (h2 : j < ns.length) : cutV (ns.map V.int) (some ((i : Int) + 1)) (some (j : Int)) = (mid ns i j).map V.int := by
  unfold cutV mid
  rw [show (i : Int) + 1 = ((i + 1 : Nat) : Int) by omega, HT.sIx_nat, HT.sIx_nat, List.length_map, List.map_take, List.map_drop, show min (i + 1) ns.length = i + 1 by omega, show min j ns.length = j by omega]
/-! ### see_one_another -/
section
variable {P : Program} {w : World} {K : PySem.W.Frag} {mg : Str → Option Value} {base : Heap}
def spSee (K : PySem.W.Frag) : Sp := fun vs H Q _ => ∃ (a : Addr) (ns : List Int) (i j : Nat), vs = [.ref a, .int i, .int j] ∧ SqT K H a (ns.map V.int) ∧ i < j ∧ j < ns.length ∧ ns.length ≤ 1000 ∧ ∀ H', Same H H' → Q (.bl (sees ns i j)) H'
theorem scSee : FnScope ["heights", "one", "other", "limit", "height"] ["heights", "one", "other"] (defScope sSee) := ⟨rfl, rfl, rfl, by decide +kernel, rfl, by decide +kernel, by decide +kernel⟩
theorem ok_see {f : Addr} {fd : FuncData} {k : Nat} (F : Fun K "see_one_another" "see_one_another" sSee f fd) (B : Bn mg) : FnOk P w K mg base CX0 (k + 1) f fd ["heights", "one", "other"] (spSee K) := by
  refine F.ok scSee (fun vs H Q E h => ?_) (fun cdv A outer s H vs Q E hr h => ?_)
  · obtain ⟨a, ns, i, j, rfl, _⟩ := h
    rfl
  · obtain ⟨a, ns, i, j, rfl, hs, h1, h2, h3, q⟩ := h
    refine ⟨_, pss_cons (ps_set (i := 3) scSee.nd rfl (Or.inr rfl) (pe_callB (call_min2 rfl) (by rfl) B.min boot_min (pa_cons (pe_ix ix_tup (pv 0) (pv 1) (fun _ _ => rfl)) (pa_cons (pe_ix ix_tup (pv 0) (pv 2) (fun _ _ => rfl)) pa_nil))))
      (pss_one (ps_ret (pe_callB (cr_all rfl) (by rfl) B.all boot_all (pa_cons (pe_lc (own := [("height", 4)]) (g := gName 4) (tt := tYes) rfl scSee.nd (pi_tup (pe_slice sl_tup (pv 0) (po_some (pe_op op_add (pv 1) pe_int)) (po_some (pv 2))))
          (blkOk_by (N := ["heights", "one", "other", "limit", "height"]) (sc := defScope sSee) (by decide +kernel)) (fun _ _ _ _ _ => pg_name (i := 4) scSee.nd rfl (Or.inl rfl)) (fun _ _ _ _ _ => pts_nil)
          (fun _ _ _ _ _ => pe_cmpR op_lt (pv 4) (pv 3) (nomark _))) pa_nil)))), ?_⟩
    refine ⟨_, rfl, _, rfl, a, _, _, _, rfl, rfl, hs, atI_nat (at0_get (by omega)), _, rfl, _, rfl, a, _, _, _, rfl, rfl, hs, atI_nat (at0_get h2), _, _, rfl, ?_⟩
    refine ⟨.ref a, rfl, _, rfl, _, _, rfl, rfl, _, rfl, _, rfl, _, rfl, a, _, rfl, hs, ?_, fun p hp => ?_⟩
    · rintro ⟨z, _⟩
      rw [show (i : Int) + 1 = ((i + 1 : Nat) : Int) by omega, HT.sIx_nat, List.length_map] at z
      omega
    · rw [cut_mid h1 h2]
      have s1 : Same H (upd H p (.tup ((mid ns i j).map V.int))) := same_upd hp
      refine ⟨p, rfl, ⟨_, SqT.of upd_same⟩, fun D hD => lc_tup (K := K) (a := p) (xs := (mid ns i j).map V.int) (fun m H' => Same (upd H p (.tup ((mid ns i j).map V.int))) H' ∧ H' D = some (.lst ((((mid ns i j).take m).map fun h => decide (h < lower ns i j)).map V.bl)))
          ⟨same_upd hD, upd_same⟩ (fun m H' _ pv => pv.1.seqT (SqT.of upd_same)) (fun m x H' hx pv => ?_) (fun H' pv => ?_)⟩
      · obtain ⟨sm, eD⟩ := pv
        rw [List.getElem?_map] at hx
        cases e : (mid ns i j)[m]? with
        | none => rw [e] at hx; cases hx
        | some y =>
          rw [e] at hx
          cases Option.some.inj hx
          have hm : m < (mid ns i j).length := (List.getElem?_eq_some_iff.mp e).1
          have hml : (mid ns i j).length ≤ 1000 := by
            unfold mid
            rw [List.length_take, List.length_drop]
            omega
          refine ⟨rfl, tYes_ok (iteT ⟨_, rfl, _, rfl, _, _, rfl, rfl, _, eD, ?_, same_put sm hD, ?_⟩)⟩
          · rw [List.length_map, List.length_map, List.length_take]
            exact small1000 (by omega)
          · rw [upd_same, List.take_add_one, e, List.map_append, List.map_append]
            rfl
      · obtain ⟨sm, eD⟩ := pv
        rw [List.length_map, List.take_length] at eD
        refine ⟨D, _, rfl, SqL.of eD, ?_⟩
        rw [List.all_map]
        exact q H' (s1.trans sm)
/-! ### all_pairs -/
def pairsRow (n i m : Nat) : List (Nat × Nat) := (List.range m).map fun k => (i, i + 1 + k)
def pairsTo (n i : Nat) : List (Nat × Nat) := (List.range i).flatMap fun i => pairsRow n i (n - (i + 1))
theorem pairsRow_succ (n i m : Nat) : pairsRow n i (m + 1) = pairsRow n i m ++ [(i, i + 1 + m)] := by
  unfold pairsRow
  rw [List.range_succ, List.map_append]
  rfl
theorem pairsTo_succ (n i : Nat) : pairsTo n (i + 1) = pairsTo n i ++ pairsRow n i (n - (i + 1)) := by
  unfold pairsTo
  rw [List.range_succ, List.flatMap_append]
  simp
theorem pairsRow_len (n i m : Nat) : (pairsRow n i m).length = m := by
  unfold pairsRow
  rw [List.length_map, List.length_range]
theorem pairsTo_len (n : Nat) (h : n ≤ 12) : ∀ i, (pairsTo n i).length ≤ i * 12
  | 0 => Nat.le_refl _
  | i + 1 => by
    rw [pairsTo_succ, List.length_append, pairsRow_len]
    have a := pairsTo_len n h i
    omega
theorem pairsTo_mem {n i : Nat} {p : Nat × Nat} (h : p ∈ pairsTo n i) (hi : i ≤ n) : p.1 < p.2 ∧ p.2 < n := by
  unfold pairsTo pairsRow at h
  obtain ⟨a, h1, h2⟩ := List.mem_flatMap.mp h
  obtain ⟨b, h3, rfl⟩ := List.mem_map.mp h2
  have h1 := List.mem_range.mp h1
  have h3 := List.mem_range.mp h3
  exact ⟨by show a < a + 1 + b; omega, by show a + 1 + b < n; omega⟩
theorem pairs_seen (ns : List Int) : ∀ i, (pairsTo ns.length i).filter (fun p => sees ns p.1 p.2) = seenTo ns i
  | 0 => rfl
  | i + 1 => by
    rw [pairsTo_succ, seenTo_succ, List.filter_append, pairs_seen ns i]
    unfold pairsRow rowTo
    rw [List.filter_map]
    rfl
def spPairsP (K : PySem.W.Frag) : Sp := fun vs H Q _ => ∃ n : Nat, vs = [.int n] ∧ n ≤ 12 ∧ ∀ p H', Same H H' → H p = none → (∃ xs, H' p = some (.lst xs) ∧ DpAll K (hide p H') xs ((pairsTo n n).map pairD)) → Q (.ref p) H'
theorem scPairsP : FnScope ["many", "one", "other"] ["many"] (defScope sPairsP) := ⟨rfl, rfl, rfl, by decide +kernel, rfl, by decide +kernel, by decide +kernel⟩
theorem ok_pairsP {f : Addr} {fd : FuncData} {k : Nat} (F : Fun K "all_pairs" "all_pairs" sPairsP f fd) (B : Bn mg) : FnOk P w K mg base CX0 (k + 1) f fd ["many"] (spPairsP K) := by
  refine F.ok scPairsP (fun vs H Q E h => ?_) (fun cdv A outer s H vs Q E hr h => ?_)
  · obtain ⟨n, rfl, _⟩ := h
    rfl
  · obtain ⟨n, rfl, h12, q⟩ := h
    refine ⟨_, pss_one (ps_ret (pe_lc2 (own := [("one", 1), ("other", 2)]) (vs1 := [2]) (g := gName 1) (g1 := gName 2) (tt := tYes) (tt1 := tYes) rfl scPairsP.nd (pi_range1 (by rfl) B.range (pa_cons (pv 0) pa_nil))
          (blkOk_by (N := ["many", "one", "other"]) (sc := defScope sPairsP) (by decide +kernel)) (by decide)
          (fun _ _ _ _ _ => pg_name (i := 1) scPairsP.nd rfl (Or.inl rfl)) (fun _ _ _ _ _ => pts_nil)
          (fun _ _ _ _ _ => pi_range2 (by rfl) B.range (pa_cons (pe_op op_add (pv 1) pe_int) (pa_cons (pv 0) pa_nil)))
          (fun _ _ _ _ _ => pg_name (i := 2) scPairsP.nd rfl (Or.inl rfl))
          (fun _ _ _ _ _ => pts_nil)
          (fun _ _ _ _ _ => pe_tup (pa_cons (pv 1) (pa_cons (pv 2) pa_nil))))), ?_⟩
    refine ⟨_, rfl, _, rfl, by omega, by omega, fun D hD => ?_⟩
    rw [show ((n : Nat) : Int).toNat = n by omega]
    refine rng_walk (fun i H' => Same H H' ∧ ∃ ys, H' D = some (.lst ys) ∧ DpAll K (hide D H') ys ((pairsTo n i).map pairD)) ⟨same_upd hD, [], upd_same, .nil⟩ (fun i H2 z hi hz p2 => ?_) (fun H2 p2 => ?_)
    · obtain ⟨s2, ys, eD, hys⟩ := p2
      obtain rfl : z = (i : Int) := by omega
      refine ⟨rfl, tYes_ok (iteT ⟨_, rfl, _, _, rfl, rfl, _, rfl, _, _, rfl, ⟨by omega, by omega, by omega, by omega⟩, ?_⟩)⟩
      rw [show ((n : Int) - ((i : Int) + 1)).toNat = n - (i + 1) by omega]
      refine rng_walk (fun j H' => Same H H' ∧ ∃ ys, H' D = some (.lst ys) ∧ DpAll K (hide D H') ys ((pairsTo n i ++ pairsRow n i j).map pairD)) ⟨s2, ys, eD, by rw [show pairsRow n i 0 = [] from rfl, List.append_nil]; exact hys⟩ (fun j H3 z hj hz p3 => ?_) (fun H3 p3 => ?_)
      · obtain ⟨s3, zs, eZ, hzs⟩ := p3
        obtain rfl : z = ((i + 1 + j : Nat) : Int) := by omega
        refine ⟨rfl, tYes_ok (iteT ⟨_, rfl, _, rfl, (by show 2 ≤ sizeLine; decide), fun p hp => ?_⟩)⟩
        have s5 : Same H3 (upd H3 p (.tup [.int (i : Int), .int ((i + 1 + j : Nat) : Int)])) := same_upd hp
        have nD : p ≠ D := fun z => by rw [z, eZ] at hp; cases hp
        refine ⟨zs, s5 _ _ eZ, ?_, same_put (s3.trans s5) hD, _, upd_same, ?_⟩
        · rw [dpAll_len hzs, List.length_map, List.length_append, pairsRow_len]
          have a1 := pairsTo_len n h12 i
          exact small1000 (by omega)
        · rw [hide_upd, pairsRow_succ, ← List.append_assoc, List.map_append]
          refine dpAll_snoc (dpAll_mono (hide_mono s5) hzs) (.tup (SqT.of ?_) (.cons (.int _) (.cons (.int _) .nil)))
          rw [hide_ne nD, upd_same]
      · obtain ⟨s3, zs, eZ, hzs⟩ := p3
        refine ⟨s3, zs, eZ, ?_⟩
        rw [pairsTo_succ]
        exact hzs
    · obtain ⟨s2, ys, eD, hys⟩ := p2
      exact q D H2 s2 hD ⟨ys, eD, hys⟩
end
end RS

set_option Elab.async false
set_option linter.all false
set_option maxRecDepth 100000
set_option maxHeartbeats 2000000
namespace RS
open PySem PySem.Spec PyProof.Rows L2
section
variable {P : Program} {w : World} {K : PySem.W.Frag} {mg : Str → Option Value} {base : Heap}
/-- a def that may raise, what is raised bearing no context -/
theorem okN {x qual : Str} {st : Stmt} {f : Addr} {fd : FuncData} {N ps : List Str} {k : Nat} {sp : Sp} (F : Fun K x qual st f fd) (S : FnScope N ps (defScope st)) (len : ∀ vs H Q E, sp vs H Q E → vs.length = ps.length)
    (hbody : ∀ (cdv : Value) (A : Around) (outer : List Env) (s : Shared) (H : Hp) (vs : List V) (Q : VK) (E : XK), Room k (A.deeper (envOfC qual (defScope st) s.heap.objs.size f cdv)) → sp vs H Q E →
      ∃ t, PSs (cxOf (L2N.CX P w) P w K mg base N qual (defScope st) f cdv A outer s H E) (defBody st) t ∧ t { nx := fun _ H' => Q .non H', rt := Q } (L2.start N vs) H) :
    FnOk P w K mg base (L2N.CX P w) (k + 1) f fd ps sp := by
  obtain ⟨oc, od, kV, doc, pm, an, cdv, ct, osl, e, lk, hcd⟩ := F.ex
  subst e
  exact fn_of lk hcd S len (hbody cdv)
/-- what the written part says of an own error class at C -/
structure ExT (K : PySem.W.Frag) (mg : Str → Option Value) (x : Str) (C : Addr) : Prop where
  g : mg x = some (.ref C)
  x : PySem.W.excIn K C [.type "ValueError", .type "Exception", .type "BaseException", .type "object"] "ValueError.__new__" = true
  k : PySem.W.keepIn K (.ref C) = true
  b : PySem.W.subIn K (.ref C) (.type "BaseException") = some true
  t : PySem.W.typeIn K (.ref C) = some (.type "type")
/-! ### sights -/
def spSights (K : PySem.W.Frag) (C : Addr) : Sp := fun vs H Q E => ∃ v d, vs = [v] ∧ Dp K H v d ∧
  (∀ ns : List Int, d = .tuple (ns.map PyData.int) → isH d = true → ∀ H' u, Same H H' → Dp K H' u (lotD (seen ns)) → Q u H') ∧ (isH d = false → ∀ H', Same H H' → E (.ref C) none H')
theorem scSights : FnScope ["heights"] ["heights"] (defScope sSights) := ⟨rfl, rfl, rfl, by decide +kernel, rfl, by decide +kernel, by decide +kernel⟩
theorem isH_some {d : PyData} (h : isH d = true) : ∃ ns : List Int, d = .tuple (ns.map PyData.int) ∧ 1 ≤ ns.length ∧ ns.length ≤ 12 ∧ ns.Nodup ∧ ∀ n ∈ ns, 0 ≤ n ∧ n ≤ 1000000000 := by
  cases d with
  | tuple ds =>
    have h : (match intsOf ds with | some ns => hOk ns | none => false) = true := h
    cases e : intsOf ds with
    | none => rw [e] at h; cases h
    | some ns =>
      rw [e] at h
      have h : hOk ns = true := h
      unfold hOk at h
      simp only [Bool.and_eq_true, decide_eq_true_eq, List.all_eq_true] at h
      exact ⟨ns, by rw [intsOf_some e], h.1.1.1, h.1.1.2, h.2, h.1.2⟩
  | none => cases h
  | bool _ => cases h
  | int _ => cases h
  | str _ => cases h
  | list _ => cases h
  | dict _ => cases h
theorem pair_get {H : Hp} {v : V} {p : Nat × Nat} (h : Dp K H v (pairD p)) : ∃ c, v = .ref c ∧ SqT K H c [.int p.1, .int p.2] := by
  cases h with
  | tup hs ha =>
    have e := dpAll_ints (ns := [(p.1 : Int), (p.2 : Int)]) ha
    rw [e] at hs
    exact ⟨_, rfl, hs⟩
theorem filter_take {α : Type} {f : α → Bool} {ps : List α} {i : Nat} {p : α} (h : ps[i]? = some p) : (ps.take (i + 1)).filter f = if f p = true then (ps.take i).filter f ++ [p] else (ps.take i).filter f := by
  rw [List.take_add_one, h, List.filter_append]
  show _ ++ (List.filter f [p]) = _
  rw [List.filter_cons]
  split
  · rfl
  · rw [List.filter_nil, List.append_nil]
/-! ### sights_in_row -/
def spInRow (K : PySem.W.Frag) : Sp := fun vs H Q _ => ∃ (a : Addr) (ns : List Int), vs = [.ref a] ∧ SqT K H a (ns.map V.int) ∧ ns.length ≤ 12 ∧ ∀ H' u, Same H H' → Dp K H' u (lotD (seen ns)) → Q u H'
theorem scInRow : FnScope ["row", "one", "other"] ["row"] (defScope sInRow) := ⟨rfl, rfl, rfl, by decide +kernel, rfl, by decide +kernel, by decide +kernel⟩
theorem ok_inrow {f fP fS : Addr} {fd fdP fdS : FuncData} {k : Nat} (F : Fun K "sights_in_row" "sights_in_row" sInRow f fd) (FP : Fun K "all_pairs" "all_pairs" sPairsP fP fdP) (bP : Binds K fdP ["many"] []) (gP : mg "all_pairs" = some (.ref fP))
    (FS : Fun K "see_one_another" "see_one_another" sSee fS fdS) (bS : Binds K fdS ["heights", "one", "other"] []) (gS : mg "see_one_another" = some (.ref fS)) (B : Bn mg) :
    FnOk P w K mg base CX0 (k + 2) f fd ["row"] (spInRow K) := by
  have GS : FnOk P w K mg base CX0 (k + 1) fS fdS ["heights", "one", "other"] (spSee K) := ok_see FS B
  have GP : FnOk P w K mg base CX0 (k + 1) fP fdP ["many"] (spPairsP K) := ok_pairsP FP B
  refine F.ok scInRow (fun vs H Q E h => ?_) (fun cdv A outer s H vs Q E hr h => ?_)
  · obtain ⟨a, ns, rfl, _⟩ := h
    rfl
  · obtain ⟨a, ns, rfl, hs, h12, q⟩ := h
    apply Exists.intro
    apply And.intro
    · apply pss_one
      apply ps_ret
      apply pe_callTy call_tuple_of (by rfl) B.tuple boot_tuple
      apply pa_cons (hr := pa_nil)
      exact pe_lc (tt := tB (tCall (spSee K) [] E0 (tCons (tVar 0) (tCons (tVar 1) (tCons (tVar 2) tNil))))) (own := [("one", 1), ("other", 2)]) (g := gTup K 2 (gCons (gName 1) (gCons (gName 2) gNil))) rfl scInRow.nd
          (pi_list (pe_call GP hr (by rfl) gP FP.kp bP .nil pass0 (pa_cons (pe_callB call_len_seq (by rfl) B.len PySem.boot_len (pa_cons (pv 0) pa_nil)) pa_nil)))
          (blkOk_by (N := ["row", "one", "other"]) (sc := defScope sInRow) (by decide +kernel)) (fun _ _ _ _ _ => pg_tup rfl (pgs_cons (pg_name (i := 1) scInRow.nd rfl (Or.inl rfl)) (pgs_cons (pg_name (i := 2) scInRow.nd rfl (Or.inl rfl)) pgs_nil)))
          (fun _ _ _ _ _ => pts_one (pt_val (pe_call GS hr (by rfl) gS FS.kp bS .nil pass0 (pa_cons (pv 0) (pa_cons (pv 1) (pa_cons (pv 2) pa_nil))))))
          (fun _ _ _ _ _ => pe_tup (pa_cons (pv 1) (pa_cons (pv 2) pa_nil)))
    · have hlen : (ns.map V.int).length = ns.length := List.length_map ..
      refine ⟨.ref a, rfl, a, _, rfl, .inr hs, ns.length, by rw [hlen]; rfl, h12, fun L H1 s1 nL ⟨xs, eL, ha⟩ => ?_⟩
      have hl2 := dpAll_len ha
      rw [List.length_map] at hl2
      have hp12 := pairsTo_len ns.length h12 ns.length
      refine ⟨L, rfl, ⟨_, SqL.of eL⟩, fun D hD => lc_list (K := K) (a := L) (xs := xs) (fun i H' => Same H1 H' ∧ ∃ ys, H' D = some (.lst ys) ∧ DpAll K (hide D H') ys ((((pairsTo ns.length ns.length).take i).filter fun p => sees ns p.1 p.2).map pairD)) ⟨same_upd hD, [], upd_same, .nil⟩ (fun i H' _ p => p.1.seq (SqL.of eL)) (fun i x H2 hx p2 => ?_) (fun H2 p2 => ?_)⟩
      · obtain ⟨s2, ys, eD, hys⟩ := p2
        obtain ⟨d, e1, e2⟩ := dpAll_get ha hx
        rw [List.getElem?_map] at e1
        obtain ⟨⟨u1, u2⟩, e3, rfl⟩ := Option.map_eq_some_iff.mp e1
        have hm := pairsTo_mem (List.mem_of_getElem? e3) (Nat.le_refl _)
        obtain ⟨c, rfl, hc⟩ := pair_get (dp_mono (hide_same.trans s2) e2)
        refine ⟨c, _, rfl, hc, rfl, _, _, rfl, _, _, rfl, rfl, rfl, _, rfl, _, rfl, _, rfl, a, ns, u1, u2, rfl, (s1.trans s2).seqT hs, hm.1, hm.2, by omega, fun H3 s3 => ⟨_, rfl, ?_⟩⟩
        have hy3 := dpAll_mono (hide_mono (p := D) s3) hys
        cases e5 : sees ns u1 u2 with
        | false =>
          refine iteF ⟨s2.trans s3, ys, s3 _ _ eD, ?_⟩
          rw [filter_take e3]
          dsimp only
          rw [e5]
          exact hy3
        | true =>
          refine iteT ⟨_, rfl, _, rfl, (by show 2 ≤ sizeLine; decide), fun p hp => ?_⟩
          have s5 := same_upd (o := .tup [.int (u1 : Int), .int (u2 : Int)]) hp
          have nD : p ≠ D := fun z => by rw [z, s3 _ _ eD] at hp; cases hp
          refine ⟨ys, s5 _ _ (s3 _ _ eD), ?_, same_put ((s2.trans s3).trans s5) hD, _, upd_same, ?_⟩
          · rw [dpAll_len hys, List.length_map]
            have a1 := List.length_filter_le (fun p => sees ns p.1 p.2) ((pairsTo ns.length ns.length).take i)
            rw [List.length_take] at a1
            exact small1000 (by omega)
          · rw [hide_upd, filter_take e3]
            dsimp only
            rw [e5, if_pos rfl, List.map_append]
            refine dpAll_snoc (dpAll_mono (hide_mono s5) hy3) (.tup (SqT.of ?_) (.cons (.int _) (.cons (.int _) .nil)))
            rw [hide_ne nD, upd_same]
      · obtain ⟨s2, ys, eD, hys⟩ := p2
        rw [hl2, List.take_length, pairs_seen] at hys
        refine ⟨D, ys, rfl, .inl ⟨SqL.of eD, fun l hl => ?_⟩⟩
        have s3 : Same H2 (upd H2 l (.tup ys)) := same_upd hl
        exact q _ _ ((s1.trans s2).trans s3) (.tup (SqT.of upd_same) (dpAll_mono (hide_same.trans s3) hys))
/-! ### sights -/
theorem ok_sights {f fA fR C : Addr} {fd fdA fdR : FuncData} {k : Nat} (F : Fun K "sights" "sights" sSights f fd) (FA : Fun K "are_heights" "are_heights" sAre fA fdA) (bA : Binds K fdA ["thing"] []) (gA : mg "are_heights" = some (.ref fA)) (GA : FnOk P w K mg base CX0 (k + 4) fA fdA ["thing"] (spAre K))
    (FR : Fun K "sights_in_row" "sights_in_row" sInRow fR fdR) (bR : Binds K fdR ["row"] []) (gR : mg "sights_in_row" = some (.ref fR)) (GR : FnOk P w K mg base CX0 2 fR fdR ["row"] (spInRow K)) (B : Bn mg) (T : ExT K mg "NoHeights" C) :
    FnOk P w K mg base (L2N.CX P w) (k + 5) f fd ["heights"] (spSights K C) := by
  refine okN F scSights (fun vs H Q E h => ?_) (fun cdv A outer s H vs Q E hr h => ?_)
  · obtain ⟨v, d, rfl, _⟩ := h
    rfl
  · obtain ⟨v, d, rfl, hd, q1, q2⟩ := h
    have hr1 : Room 2 _ := hr.mono (by omega)
    refine ⟨_, pss_cons (ps_if (pt_not (pt_val (pe_call GA hr (by rfl) gA FA.kp bA .nil pass0 (pa_cons (pv 0) pa_nil))))
        (pss_one (L2N.ps_raise rfl (L2N.takes_of rfl rfl rfl rfl) (L2N.pmk_own PySem.F.excBase_ValueError T.x T.g T.k (raises_own T.b T.t) rfl))) pss_nil)
      (pss_one (ps_ret (pe_call GR hr1 (by rfl) gR FR.kp bR .nil pass0 (pa_cons (pv 0) pa_nil)))), ?_⟩
    refine ⟨v, rfl, v, d, rfl, hd, fun H1 s1 => ⟨_, rfl, ?_⟩⟩
    cases e : isH d with
    | false => exact iteT (q2 e H1 s1)
    | true =>
      obtain ⟨ns, rfl, h1, h12, hnd, hin⟩ := isH_some e
      cases dp_mono s1 hd with
      | @tup a xs _ hs ha =>
        have exs := dpAll_ints ha
        subst exs
        exact iteF ⟨.ref a, rfl, a, ns, rfl, hs, h12, fun H' u s2 d2 => q1 ns rfl e H' u (s1.trans s2) d2⟩
end
end RS

set_option Elab.async false
set_option linter.all false
set_option maxRecDepth 100000
set_option maxHeartbeats 2000000
namespace RS
open PySem PySem.Spec PyProof.Rows L2
/-! ### a for over a range, the number told by itself -/
theorem for_rng {lo : Int} {n : Nat} {g : TG} {tb : TS} {D : Ends} {σ : L2.St} {H : Hp} (Pv : Nat → L2.St → Hp → Prop) (h0 : Pv 0 σ H)
    (hs : ∀ i σ H (z : Int), i < n → z = lo + i → Pv i σ H → g (.int z) σ H fun σ2 H2 => tb { D with nx := Pv (i + 1), ct := Pv (i + 1), bk := D.nx } σ2 H2) (hd : ∀ σ H, Pv n σ H → D.nx σ H) :
    ∃ W : Nat → Nat → L2.St → Hp → Prop, (∃ m, W 0 m σ H) ∧ ∀ i m σ H, W i m σ H →
      ((Itr lo n).stop i H ∧ D.nx σ H) ∨ ((Itr lo n).go i H ∧ ∃ N : L2.St → Hp → Prop, (∀ σ' H', N σ' H' → ∃ m', m' < m ∧ W (i + 1) m' σ' H') ∧ ∀ x H', (Itr lo n).yld i H x H' → g x σ H' fun σ2 H2 => tb { D with nx := N, ct := N, bk := D.nx } σ2 H2) :=
  for_range Pv h0 (fun i σ H hi p => hs i σ H _ hi rfl p) hd
/-! ### sights as the law looks for them -/
theorem mem_mid {ns : List Int} {i j : Nat} {h : Int} (hm : h ∈ mid ns i j) : ∃ k, i < k ∧ k < j ∧ ns[k]? = some h := by
  unfold mid at hm
  obtain ⟨m, hm⟩ := List.mem_iff_getElem?.mp hm
  rw [List.getElem?_take] at hm
  split at hm
  · rw [List.getElem?_drop] at hm
    exact ⟨i + 1 + m, by omega, by omega, hm⟩
  · cases hm
theorem at0_some {ns : List Int} {i : Nat} (h : i < ns.length) : ns[i]? = some (at0 ns i) := by
  unfold at0
  rw [List.getD_eq_getElem?_getD, List.getElem?_eq_getElem h]
  rfl
theorem nodup_ne {ns : List Int} (hn : ns.Nodup) {i j : Nat} {x y : Int} (hx : ns[i]? = some x) (hy : ns[j]? = some y) (h : i ≠ j) : x ≠ y := fun e => h (nd_ix hn hx (e ▸ hy))
theorem sees_law {ns : List Int} (hn : ns.Nodup) {i j : Nat} (h1 : i < j) (h2 : j < ns.length) : ((mid ns i j).filter fun h => decide (lower ns i j < h)).isEmpty = sees ns i j := by
  have key : ∀ h ∈ mid ns i j, decide (h < lower ns i j) = !decide (lower ns i j < h) := fun h hm => by
    obtain ⟨k, k1, k2, hk⟩ := mem_mid hm
    have n1 := nodup_ne hn hk (at0_some (show i < ns.length by omega)) (by omega)
    have n2 := nodup_ne hn hk (at0_some h2) (by omega)
    have n3 : h ≠ lower ns i j := by
      unfold lower
      split <;> assumption
    by_cases c : h < lower ns i j
    · rw [decide_eq_true c, decide_eq_false (by omega)]
      rfl
    · rw [decide_eq_false c, decide_eq_true (by omega)]
      rfl
  unfold sees
  generalize mid ns i j = l at key
  induction l with
  | nil => rfl
  | cons a r ih =>
    rw [List.filter_cons, List.all_cons, key a List.mem_cons_self]
    cases e : decide (lower ns i j < a) with
    | true => simp
    | false => simpa using ih fun h hm => key h (List.mem_cons_of_mem _ hm)
theorem mid_len (ns : List Int) (i j : Nat) : (mid ns i j).length ≤ ns.length := by
  unfold mid
  rw [List.length_take, List.length_drop]
  omega
/-! ### _law_seen -/
section
variable {P : Program} {w : World} {K : PySem.W.Frag} {mg : Str → Option Value} {base : Heap}
def spSeen (K : PySem.W.Frag) : Sp := fun vs H Q _ => ∃ (a : Addr) (ns : List Int), vs = [.ref a] ∧ SqT K H a (ns.map V.int) ∧ ns.length ≤ 12 ∧ ns.Nodup ∧ ∀ H' u, Same H H' → Dp K H' u (lotD (seen ns)) → Q u H'
theorem scSeen : FnScope ["heights_so", "found", "one", "other", "low", "height"] ["heights_so"] (defScope sSeen) := ⟨rfl, rfl, rfl, by decide +kernel, rfl, by decide +kernel, by decide +kernel⟩
theorem ok_seen {f : Addr} {fd : FuncData} {k : Nat} (F : Fun K "_law_seen" "_law_seen" sSeen f fd) (B : Bn mg) : FnOk P w K mg base CX0 (k + 1) f fd ["heights_so"] (spSeen K) := by
  refine F.ok scSeen (fun vs H Q E h => ?_) (fun cdv A outer s H vs Q E hr h => ?_)
  · obtain ⟨a, ns, rfl, _⟩ := h
    rfl
  · obtain ⟨a, ns, rfl, hs, h12, hnd, q⟩ := h
    refine ⟨_, pss_cons (ps_set (i := 1) scSeen.nd rfl (Or.inl rfl) (pe_lst pa_nil))
      (pss_cons (ps_for PassesOwn.never rfl (pi_range1 (by rfl) B.range (pa_cons (pe_callB call_len_seq (by rfl) B.len PySem.boot_len (pa_cons (pv 0) pa_nil)) pa_nil)) (pg_name (i := 2) scSeen.nd rfl (Or.inl rfl))
        (pss_one (ps_for PassesOwn.never rfl (pi_range2 (by rfl) B.range (pa_cons (pe_op op_add (pv 2) pe_int) (pa_cons (pe_callB call_len_seq (by rfl) B.len PySem.boot_len (pa_cons (pv 0) pa_nil)) pa_nil))) (pg_name (i := 3) scSeen.nd rfl (Or.inl rfl))
          (pss_cons (ps_set (i := 4) scSeen.nd rfl (Or.inr rfl) (pe_callB (call_min2 rfl) (by rfl) B.min boot_min (pa_cons (pe_ix ix_tup (pv 0) (pv 2) (fun _ _ => rfl)) (pa_cons (pe_ix ix_tup (pv 0) (pv 3) (fun _ _ => rfl)) pa_nil))))
          (pss_one (ps_if (pt_cmpR (op_eqD hr.units) (pe_lc (own := [("height", 5)]) (g := gName 5) rfl scSeen.nd (pi_tup (pe_slice sl_tup (pv 0) (po_some (pe_op op_add (pv 2) pe_int)) (po_some (pv 3))))
              (blkOk_by (N := ["heights_so", "found", "one", "other", "low", "height"]) (sc := defScope sSeen) (by decide +kernel)) (fun _ _ _ _ _ => pg_name (i := 5) scSeen.nd rfl (Or.inl rfl))
              (fun _ _ _ _ _ => pts_one (pt_cmpR op_gt (pv 5) (pv 4) (nomark _))) (fun _ _ _ _ _ => pv 5)) (pe_lst pa_nil) (nomark _))
            (pss_one (ps_expr (pe_bm PySem.F.plainAttrs_list PySem.F.slot_list_append PySem.F.type_list_append mt_append (pv 1) (pa_cons (pe_tup (pa_cons (pv 2) (pa_cons (pv 3) pa_nil))) pa_nil)))) pss_nil))))))
      (pss_one (ps_ret (pe_callTy call_tuple_of (by rfl) B.tuple boot_tuple (pa_cons (pv 1) pa_nil))))), ?_⟩
    refine ⟨Nat.zero_le _, fun p hp => ?_⟩
    have hlen : (ns.map V.int).length = ns.length := List.length_map ..
    have hN : (((ns.map V.int).length : Nat) : Int).toNat = ns.length := by rw [hlen]; omega
    have s0 : Same H (upd H p (.lst [])) := same_upd hp
    refine ⟨_, rfl, a, _, rfl, .inr (s0.seqT hs), _, rfl, by omega, by omega, ?_⟩
    rw [hN]
    refine for_rng (fun i σ H' => ∃ y2 y3 y4 y5, σ = [some (.ref a), some (.ref p), y2, y3, y4, y5] ∧ Same H H' ∧ ∃ ys, H' p = some (.lst ys) ∧ DpAll K (hide p H') ys ((seenTo ns i).map pairD)) ⟨_, _, _, _, rfl, s0, [], upd_same, .nil⟩ ?_ ?_
    · rintro i σ H1 z hi hz ⟨y2, y3, y4, y5, rfl, s1, ys, e1, h1⟩
      obtain rfl : z = (i : Int) := by omega
      have hM : (((ns.map V.int).length : Nat) - ((i : Int) + 1)).toNat = ns.length - (i + 1) := by rw [hlen]; omega
      refine ⟨_, rfl, _, _, rfl, rfl, _, rfl, a, _, rfl, .inr (s1.seqT hs), _, _, rfl, ⟨by omega, by omega, by omega, by omega⟩, ?_⟩
      rw [hM]
      refine for_rng (fun j σ H' => ∃ y3 y4 y5, σ = [some (.ref a), some (.ref p), some (.int (i : Int)), y3, y4, y5] ∧ Same H H' ∧ ∃ ys, H' p = some (.lst ys) ∧ DpAll K (hide p H') ys ((seenTo ns i ++ rowTo ns i j).map pairD))
        ⟨_, _, _, rfl, s1, ys, e1, by rw [show rowTo ns i 0 = [] from rfl, List.append_nil]; exact h1⟩ ?_ ?_
      · rintro j σ H2 z hj hz ⟨y3, y4, y5, rfl, s2, zs, e2, h2⟩
        obtain rfl : z = ((i + 1 + j : Nat) : Int) := by omega
        have hs2 := s2.seqT hs
        refine ⟨_, rfl, _, rfl, a, _, _, _, rfl, rfl, hs2, atI_nat (at0_get (by omega)), _, rfl, _, rfl, a, _, _, _, rfl, rfl, hs2, atI_nat (at0_get (show i + 1 + j < ns.length by omega)), _, _, rfl, ?_⟩
        refine ⟨.ref a, rfl, _, rfl, _, _, rfl, rfl, _, rfl, _, rfl, _, rfl, a, _, rfl, hs2, ?_, fun t ht => ?_⟩
        · rintro ⟨z, _⟩
          rw [show (i : Int) + 1 = ((i + 1 : Nat) : Int) by omega, HT.sIx_nat, List.length_map] at z
          omega
        · rw [cut_mid (show i < i + 1 + j by omega) (by omega)]
          have s3 : Same H2 (upd H2 t (.tup ((mid ns i (i + 1 + j)).map V.int))) := same_upd ht
          refine ⟨t, rfl, ⟨_, SqT.of upd_same⟩, fun D hD => lc_tup (K := K) (a := t) (xs := (mid ns i (i + 1 + j)).map V.int) (fun m H' => Same (upd H2 t (.tup ((mid ns i (i + 1 + j)).map V.int))) H' ∧ H' D = some (.lst ((((mid ns i (i + 1 + j)).take m).filter fun h => decide (lower ns i (i + 1 + j) < h)).map V.int)))
            ⟨same_upd hD, upd_same⟩ (fun m H' _ pv => pv.1.seqT (SqT.of upd_same)) (fun m x H' hx pv => ?_) (fun H' pv => ?_)⟩
          · obtain ⟨sm, eD⟩ := pv
            rw [List.getElem?_map] at hx
            cases e : (mid ns i (i + 1 + j))[m]? with
            | none => rw [e] at hx; cases hx
            | some y =>
              rw [e] at hx
              cases Option.some.inj hx
              have tk : (mid ns i (i + 1 + j)).take (m + 1) = (mid ns i (i + 1 + j)).take m ++ [y] := by rw [List.take_add_one, e]; rfl
              refine ⟨rfl, ⟨_, rfl, _, rfl, _, _, rfl, rfl, _, rfl, ?_⟩⟩
              show if decide (lower ns i (i + 1 + j) < y) = true then _ else _
              cases c : decide (lower ns i (i + 1 + j) < y) with
              | true =>
                refine iteT ⟨_, rfl, _, eD, ?_, same_put sm hD, ?_⟩
                · rw [List.length_map]
                  exact small1000 (Nat.le_trans (List.length_filter_le _ _) (by have := mid_len ns i (i + 1 + j); rw [List.length_take]; omega))
                · rw [upd_same, tk, List.filter_append, List.filter_cons, c, List.map_append]
                  rfl
              | false =>
                refine iteF ⟨sm, ?_⟩
                rw [tk, List.filter_append, List.filter_cons, c]
                simpa using eD
          · obtain ⟨sm, eD⟩ := pv
            rw [List.length_map, List.take_length] at eD
            refine ⟨Nat.zero_le _, fun Z hZ => ?_⟩
            have s4 : Same H' (upd H' Z (.lst [])) := same_upd hZ
            have sA : Same H2 (upd H' Z (.lst [])) := (s3.trans sm).trans s4
            have hda : ∀ l : List Int, DpAll K (upd H' Z (.lst [])) (l.map V.int) (l.map PyData.int) := fun l => by
              induction l with
              | nil => exact .nil
              | cons x r ih => exact .cons (.int x) ih
            refine ⟨_, _, .lst (SqL.of (s4 _ _ eD)) (hda _), .lst (SqL.of upd_same) .nil, ?_, ?_, _, rfl, ?_⟩
            · refine Shp.ok (n := 1) (shp_list.mpr fun d m => ?_) (by decide)
              obtain ⟨x, _, rfl⟩ := List.mem_map.mp m
              exact shp_int
            · exact Shp.ok (n := 1) shp_empty (by decide)
            · rw [eqv_nil, List.isEmpty_map, sees_law hnd (show i < i + 1 + j by omega) (by omega)]
              have e3 := sA _ _ e2
              have h3 := dpAll_mono (hide_mono (p := p) sA) h2
              cases c : sees ns i (i + 1 + j) with
              | false =>
                refine iteF ⟨_, _, _, rfl, s2.trans sA, zs, e3, ?_⟩
                rw [rowTo_succ, c]
                exact h3
              | true =>
                refine iteT ⟨_, rfl, .inl ⟨rfl, _, SqL.of e3⟩, _, rfl, _, rfl, (by show 2 ≤ sizeLine; decide), fun r hr => ?_⟩
                have s5 : Same (upd H' Z (.lst [])) (upd (upd H' Z (.lst [])) r (.tup [.int (i : Int), .int ((i + 1 + j : Nat) : Int)])) := same_upd hr
                have nP : r ≠ p := fun z => by rw [z, e3] at hr; cases hr
                refine ⟨p, zs, _, rfl, rfl, s5 _ _ e3, ?_, ?_⟩
                · rw [dpAll_len h2, List.length_map, List.length_append]
                  have a1 := seenTo_len ns h12 i
                  have a2 := rowTo_len ns i j
                  exact small1000 (by omega)
                · refine ⟨_, _, _, rfl, same_put ((s2.trans sA).trans s5) hp, _, upd_same, ?_⟩
                  rw [hide_upd, rowTo_succ, c, if_pos rfl, ← List.append_assoc, List.map_append]
                  refine dpAll_snoc (dpAll_mono (hide_mono s5) h3) (.tup (SqT.of ?_) (.cons (.int _) (.cons (.int _) .nil)))
                  rw [hide_ne nP, upd_same]
      · rintro σ H2 ⟨y3, y4, y5, rfl, s2, zs, e2, h2⟩
        refine ⟨_, _, _, _, rfl, s2, zs, e2, ?_⟩
        rw [seenTo_succ]
        exact h2
    · rintro σ H1 ⟨y2, y3, y4, y5, rfl, s1, ys, e1, h1⟩
      refine ⟨_, rfl, p, ys, rfl, .inl ⟨SqL.of e1, fun l hl => ?_⟩⟩
      have s3 : Same H1 (upd H1 l (.tup ys)) := same_upd hl
      exact q _ _ (s1.trans s3) (.tup (SqT.of upd_same) (dpAll_mono (hide_same.trans s3) h1))
end
end RS

set_option Elab.async false
set_option linter.all false
set_option maxRecDepth 100000
set_option maxHeartbeats 2000000
namespace RS
open PySem PySem.Spec PyProof.Rows L2
/-! ### heights in the same order have the same sights -/
def Iso (ns : List Int) (f : Int → Int) : Prop := ∀ a ∈ ns, ∀ b ∈ ns, (a < b ↔ f a < f b)
theorem at0_mem {ns : List Int} {i : Nat} (h : i < ns.length) : at0 ns i ∈ ns := List.mem_of_getElem? (at0_some h)
theorem at0_map {ns : List Int} {f : Int → Int} {i : Nat} (h : i < ns.length) : at0 (ns.map f) i = f (at0 ns i) := by
  have a := at0_some (ns := ns.map f) (i := i) (by rw [List.length_map]; exact h)
  rw [List.getElem?_map, at0_some h] at a
  exact (Option.some.inj a).symm
theorem mid_map {ns : List Int} {f : Int → Int} {i j : Nat} : mid (ns.map f) i j = (mid ns i j).map f := by
  unfold mid
  rw [List.map_take, List.map_drop]
theorem lower_mem {ns : List Int} {i j : Nat} (h1 : i < ns.length) (h2 : j < ns.length) : lower ns i j ∈ ns := by
  unfold lower
  split
  · exact at0_mem h2
  · exact at0_mem h1
theorem lower_map {ns : List Int} {f : Int → Int} (hf : Iso ns f) {i j : Nat} (h1 : i < ns.length) (h2 : j < ns.length) : lower (ns.map f) i j = f (lower ns i j) := by
  unfold lower
  rw [at0_map h1, at0_map h2]
  have k := hf _ (at0_mem h2) _ (at0_mem h1)
  by_cases c : at0 ns j < at0 ns i
  · rw [if_pos c, if_pos (k.mp c)]
  · rw [if_neg c, if_neg fun z => c (k.mpr z)]
theorem sees_map {ns : List Int} {f : Int → Int} (hf : Iso ns f) {i j : Nat} (h1 : i < ns.length) (h2 : j < ns.length) : sees (ns.map f) i j = sees ns i j := by
  unfold sees
  rw [mid_map, lower_map hf h1 h2, List.all_map]
  refine Bool.eq_iff_iff.mpr ?_
  simp only [List.all_eq_true, Function.comp, decide_eq_true_eq]
  have k : ∀ h ∈ mid ns i j, (f h < f (lower ns i j) ↔ h < lower ns i j) := fun h hm => by
    obtain ⟨m, _, _, e⟩ := mem_mid hm
    exact (hf _ (List.mem_of_getElem? e) _ (lower_mem h1 h2)).symm
  exact ⟨fun a h hm => (k h hm).mp (a h hm), fun a h hm => (k h hm).mpr (a h hm)⟩
theorem rowTo_map {ns : List Int} {f : Int → Int} (hf : Iso ns f) {i : Nat} : ∀ m, i + m < ns.length → rowTo (ns.map f) i m = rowTo ns i m
  | 0, _ => rfl
  | m + 1, h => by
    rw [rowTo_succ, rowTo_succ, sees_map hf (by omega) (by omega), rowTo_map hf m (by omega)]
theorem seenTo_map {ns : List Int} {f : Int → Int} (hf : Iso ns f) : ∀ i, i ≤ ns.length → seenTo (ns.map f) i = seenTo ns i
  | 0, _ => rfl
  | i + 1, h => by
    rw [seenTo_succ, seenTo_succ, seenTo_map hf i (by omega), List.length_map]
    congr 1
    exact rowTo_map hf _ (by omega)
theorem seen_map {ns : List Int} {f : Int → Int} (hf : Iso ns f) : seen (ns.map f) = seen ns := by
  unfold seen
  rw [List.length_map]
  exact seenTo_map hf _ (Nat.le_refl _)
/-! ### ranks -/
def rk (ns : List Int) (n : Int) : Int := ((ns.filter fun m => decide (m < n)).length : Int) + 1
def ranks (ns : List Int) : List Int := ns.map (rk ns)
theorem filter_lt {ns : List Int} {a b : Int} (ha : a ∈ ns) (h : a < b) : (ns.filter fun m => decide (m < a)).length < (ns.filter fun m => decide (m < b)).length := by
  induction ns with
  | nil => cases ha
  | cons x r ih =>
    have le : ∀ l : List Int, (l.filter fun m => decide (m < a)).length ≤ (l.filter fun m => decide (m < b)).length := fun l => by
      induction l with
      | nil => exact Nat.le_refl _
      | cons y t iht =>
        rw [List.filter_cons, List.filter_cons]
        by_cases c : y < a
        · rw [decide_eq_true c, decide_eq_true (show y < b by omega)]
          exact Nat.succ_le_succ iht
        · rw [decide_eq_false c]
          by_cases c2 : y < b
          · rw [decide_eq_true c2]
            exact Nat.le_succ_of_le iht
          · rw [decide_eq_false c2]
            exact iht
    rw [List.filter_cons, List.filter_cons]
    rcases List.mem_cons.mp ha with e | e
    · rw [← e, decide_eq_true h, decide_eq_false (Int.lt_irrefl a)]
      exact Nat.lt_succ_of_le (le r)
    · by_cases c : x < a
      · rw [decide_eq_true c, decide_eq_true (show x < b by omega)]
        exact Nat.succ_lt_succ (ih e)
      · rw [decide_eq_false c]
        by_cases c2 : x < b
        · rw [decide_eq_true c2]
          exact Nat.lt_succ_of_lt (ih e)
        · rw [decide_eq_false c2]
          exact ih e
theorem rk_iso (ns : List Int) : Iso ns (rk ns) := fun a ha b hb => by
  have k : ∀ a ∈ ns, ∀ b, a < b → rk ns a < rk ns b := fun a ha b h => by
    unfold rk
    have := filter_lt (b := b) ha h
    omega
  refine ⟨k a ha b, fun h => ?_⟩
  rcases Int.lt_trichotomy a b with c | c | c
  · exact c
  · rw [c] at h; omega
  · have := k b hb a c
    omega
theorem rk_low (ns : List Int) (n : Int) : 1 ≤ rk ns n := by unfold rk; omega
theorem rk_high {ns : List Int} {n : Int} (h : n ∈ ns) : rk ns n ≤ ns.length := by
  unfold rk
  have a : (ns.filter fun m => decide (m < n)).length < (ns.filter fun m => decide (m < n + 1)).length := filter_lt h (by omega)
  have b := List.length_filter_le (fun m => decide (m < n + 1)) ns
  omega
theorem nodup_iso {ns : List Int} {f : Int → Int} (hf : Iso ns f) (hn : ns.Nodup) : (ns.map f).Nodup := by
  unfold List.Nodup at *
  rw [List.pairwise_map]
  refine hn.imp_of_mem fun {a b} ha hb h e => h ?_
  rcases Int.lt_trichotomy a b with c | c | c
  · have := (hf a ha b hb).mp c; omega
  · exact c
  · have := (hf b hb a ha).mp c; omega
theorem isH_of {ns : List Int} (h1 : 1 ≤ ns.length) (h2 : ns.length ≤ 12) (hn : ns.Nodup) (hr : ∀ n ∈ ns, 0 ≤ n ∧ n ≤ 1000000000) : isH (.tuple (ns.map PyData.int)) = true := by
  rw [isH_ints ⟨h1, h2⟩ (List.all_eq_true.mpr fun n m => by
    rw [decide_eq_true (hr n m).1, decide_eq_true (hr n m).2]
    rfl)]
  exact decide_eq_true hn
/-- the place of n in the sorted row is how many are less -/
theorem place_rk {ns ns' : List Int} (hn : ns.Nodup) (hp : ns'.Perm ns) (hs : ns'.Pairwise (· ≤ ·)) {j : Nat} {n : Int} (hj : ns'[j]? = some n) : (j : Int) + 1 = rk ns n := by
  have hn' : ns'.Nodup := hp.nodup_iff.mpr hn
  have e1 : (ns.filter fun m => decide (m < n)).length = (ns'.filter fun m => decide (m < n)).length := ((hp.filter _).length_eq).symm
  unfold rk
  rw [e1]
  have : (ns'.filter fun m => decide (m < n)).length = j := by
    have split : ns' = ns'.take j ++ n :: ns'.drop (j + 1) := by
      have hl := (List.getElem?_eq_some_iff.mp hj)
      rw [← hl.2, List.getElem_cons_drop, List.take_append_drop]
    have hlt : j < ns'.length := (List.getElem?_eq_some_iff.mp hj).1
    rw [split] at hs hn'
    obtain ⟨_, p2, p3⟩ := List.pairwise_append.mp hs
    obtain ⟨p4, _⟩ := List.pairwise_cons.mp p2
    obtain ⟨_, _, q3⟩ := List.pairwise_append.mp hn'
    rw [split, List.filter_append, List.length_append, List.filter_cons, decide_eq_false (Int.lt_irrefl n)]
    have a : (ns'.take j).filter (fun m => decide (m < n)) = ns'.take j := List.filter_eq_self.mpr fun x hx => by
      have l1 := p3 x hx n List.mem_cons_self
      have l2 := q3 x hx n List.mem_cons_self
      exact decide_eq_true (by omega)
    have b : (ns'.drop (j + 1)).filter (fun m => decide (m < n)) = [] := List.filter_eq_nil_iff.mpr fun x hx => by
      have := p4 x hx
      simp only [decide_eq_true_eq]
      omega
    rw [a, List.length_take]
    simp only [Bool.false_eq_true, if_false, b, List.length_nil]
    omega
  omega
end RS

set_option Elab.async false
set_option linter.all false
set_option maxRecDepth 100000
set_option maxHeartbeats 2000000
namespace RS
open PySem PySem.Spec PyProof.Rows L2
section
variable {prog : Program} {w : World} {A : Around} {E : Value → Shared → Prop} {s : Shared}
/-- all items of a tuple, in a new list of the machine's own -/
theorem collect_tup {l : Addr} {vs : List Value} {Q : List Value → Shared → Prop} (ht : IsTup s.heap l vs.toArray) (hz : vs.length ≤ sizeLine)
    (h : Q vs { s with heap := (s.heap.push (seqObj "list" #[] 0)).update s.heap.objs.size (Obj.mapSeq (· ++ vs.toArray)) }) : wpAny (model prog w) A (collect (.ref l)) Q E s := by
  obtain ⟨o, ho, hc, n, hd⟩ := ht
  have new : (s.heap.push (seqObj "list" #[] 0)).get? s.heap.objs.size = some (seqObj "list" #[] 0) := Heap.get?_push_size _ rfl
  have old := Heap.get?_push_of_some (seqObj "list" #[] 0) ho
  unfold collect
  refine wpAny_bind (wpAny_runValue (codeAny_builtin entry_proto_collect' ?_))
  show wpAny _ _ (newList [] >>= fun v => again (.builtin "list.__iadd__" ⟨[v, .ref l], []⟩)) _ _ s
  refine wpAny_bind (wpAny_newList (wpAny_pure ⟨Code.quiet_builtin _ (by decide +kernel), codeAny_builtin entry_list_iadd' ?_⟩))
  show wpAny _ _ (Builtin.List.listExtendWith (.ref s.heap.objs.size) (.ref l) (.ref s.heap.objs.size)) _ _ ⟨s.heap.push (seqObj "list" #[] 0), s.gens, s.drawn, s.toks, s.os⟩
  unfold Builtin.List.listExtendWith
  refine wpAny_bind (wpAny_typeOf (T := "tuple") ⟨o, old, hc⟩ ?_)
  rw [if_pos (by rw [show (Value.type "tuple" == Value.type "tuple") = true from rfl]; simp)]
  refine wpAny_bind (listItems_at old hd (wpAny_bind (listItems_at new rfl ?_)))
  rw [if_neg (by simp)]
  refine wpAny_bind (listUpdate_at new rfl (wpAny_pure ?_) (Nat.zero_le _) (by show (#[] ++ vs.toArray).size ≤ sizeLine + 1; simp only [Array.size_append, List.size_toArray, List.length_nil]; omega))
  refine wpAny_bind (wpAny_load (get?_update_seq new _) ?_)
  show wpAny _ _ (pure ((#[] : Array Value) ++ vs.toArray).toList) Q E _
  rw [show ((#[] : Array Value) ++ vs.toArray).toList = vs by simp]
  exact wpAny_pure h
theorem sorted_tup {l : Addr} {vs : List Value} {ns : List Int} {Q : Value → Shared → Prop} (ht : IsTup s.heap l vs.toArray) (hI : IntsAre vs ns) (h64 : vs.length < 64)
    (h : ∀ (out : Array Value) (ns' : List Int), IntsAre out.toList ns' → ns'.Perm ns → ns'.Pairwise (· ≤ ·) → Q (.ref (s.heap.objs.size + 1)) { s with heap := sortedAll s.heap vs out }) :
    wpAny (model prog w) A (call (.builtin "sorted") [.ref l]) Q E s := by
  refine Calls.call_function_entry kind_sorted plain_sorted entry_sorted (args_sorted1 _) ?_
  unfold Builtin.«sorted»
  refine wpAny_bind (m := checkCount "sorted" 1 1 _) (wpAny_pure (wpAny_bind (collect_tup ht (small64 h64 |> Nat.le_trans (Nat.le_refl _)) (wpAny_bind (wpAny_newList ?_)))))
  have hsz : ((s.heap.push (seqObj "list" #[] 0)).update s.heap.objs.size (Obj.mapSeq (· ++ vs.toArray))).objs.size = s.heap.objs.size + 1 := (Heap.size_update ..).trans (size_push' _ _)
  have at1 : ((((s.heap.push (seqObj "list" #[] 0)).update s.heap.objs.size (Obj.mapSeq (· ++ vs.toArray))).push (seqObj "list" vs.toArray 0)).get? (s.heap.objs.size + 1)) = some (seqObj "list" vs.toArray 0) := hsz ▸ Heap.get?_push_size _ rfl
  show wpAny _ _ _ _ _ ⟨((s.heap.push (seqObj "list" #[] 0)).update s.heap.objs.size (Obj.mapSeq (· ++ vs.toArray))).push (seqObj "list" vs.toArray 0), s.gens, s.drawn, s.toks, s.os⟩
  rw [hsz]
  exact wpAny_bind (wpAny_holding (wpAny_call_entry slot_list_sort ⟨_, at1, rfl⟩ entry_list_sort (list_sort_tree at1 hI h64 fun out ns' a1 a2 a3 => ⟨_, rfl, wpAny_pure ⟨_, rfl, h out ns' a1 a2 a3⟩⟩) (args_list_sort _)))
end
/-- sorted(t), a tuple of fewer than 64 whole numbers -/
def rSortT (K : PySem.W.Frag) : List V → Hp → VK → Prop := fun vs H Q => ∃ (a : Addr) (ns : List Int), vs = [V.ref a] ∧ SqT K H a (ns.map V.int) ∧ ns.length < 64 ∧ ∀ (ns' : List Int) (p : Addr), ns'.Perm ns → ns'.Pairwise (· ≤ ·) → H p = none → Q (.ref p) (upd H p (.lst (ns'.map V.int)))
theorem cr_sortT1 {X : Cx} : CallR X (.builtin "sorted") (rSortT X.K) := by
  intro pins s σ H vs us Q I r h
  obtain ⟨a, ns, rfl, hs, h64, q⟩ := h
  obtain ⟨its, rv, ht, _⟩ := I.tuple hs
  rw [Vals.ref1 r]
  have hi := rv.ints
  refine sorted_tup ht hi (by rw [hi.length]; exact h64) fun out ns' h1 h2 h3 => ?_
  obtain ⟨ep, he⟩ := sortedAll_at s.heap its out
  have hl : (ns'.map V.int).length ≤ sizeLine := by rw [List.length_map, h2.length_eq]; exact small64 h64
  have J := I.laid (t' := s.toks) (o := .lst (ns'.map V.int)) (fun _ _ => sortedAll_old (vs := its) (out := out)) (Nat.le_succ _) ⟨hl, out.toList, ep, vals_of_ints h1, he⟩
  exact ⟨.ref _, _, J, rfl, q ns' _ h2 h3 (I.hok.fresh (Nat.le_succ _))⟩
/-! ### _law_ranks -/
section
variable {P : Program} {w : World} {K : PySem.W.Frag} {mg : Str → Option Value} {base : Heap}
theorem dp_ints {H : Hp} : ∀ l : List Int, DpAll K H (l.map V.int) (l.map PyData.int)
  | [] => .nil
  | x :: r => .cons (.int x) (dp_ints r)
def spRanks (K : PySem.W.Frag) : Sp := fun vs H Q _ => ∃ (a : Addr) (ns : List Int), vs = [.ref a] ∧ SqT K H a (ns.map V.int) ∧ ns.length ≤ 12 ∧ ns.Nodup ∧ ∀ H' p, Same H H' → H' p = some (.tup ((ranks ns).map V.int)) → Q (.ref p) H'
theorem scRanks : FnScope ["heights_so", "height"] ["heights_so"] (defScope sRanks) := ⟨rfl, rfl, rfl, by decide +kernel, rfl, by decide +kernel, by decide +kernel⟩
theorem ok_ranks {f : Addr} {fd : FuncData} {k : Nat} (F : Fun K "_law_ranks" "_law_ranks" sRanks f fd) (B : Bn mg) : FnOk P w K mg base CX0 (k + 1) f fd ["heights_so"] (spRanks K) := by
  refine F.ok scRanks (fun vs H Q E h => ?_) (fun cdv A outer s H vs Q E hr h => ?_)
  · obtain ⟨a, ns, rfl, _⟩ := h
    rfl
  · obtain ⟨a, ns, rfl, hs, h12, hnd, q⟩ := h
    refine ⟨_, pss_one (ps_ret (pe_callTy call_tuple_of (by rfl) B.tuple boot_tuple (pa_cons (pe_lc (te := tOp (rI0 fun i j => .int (i + j)) (tBM K "list" (rIndex K) (tCB (rSortT K) (tCons (tVar 0) tNil)) (tCons (tVar 1) tNil)) (tC (.int 1))) (own := [("height", 1)]) (g := gName 1) (tt := tYes) rfl scRanks.nd (pi_tup (pv 0))
        (blkOk_by (N := ["heights_so", "height"]) (sc := defScope sRanks) (by decide +kernel)) (fun _ _ _ _ _ => pg_name (i := 1) scRanks.nd rfl (Or.inl rfl)) (fun _ _ _ _ _ => pts_nil)
        (fun _ _ _ _ _ => pe_op op_add (pe_bm PySem.F.plainAttrs_list PySem.F.slot_list_index PySem.F.type_list_index mt_index (pe_callB cr_sortT1 (by rfl) B.sorted boot_sorted (pa_cons (pv 0) pa_nil)) (pa_cons (pv 1) pa_nil)) pe_int)) pa_nil))), ?_⟩
    refine ⟨_, rfl, a, rfl, ⟨_, hs⟩, fun D hD => lc_tup (K := K) (a := a) (xs := ns.map V.int) (fun i H' => Same H H' ∧ H' D = some (.lst (((ns.take i).map (rk ns)).map V.int)))
        ⟨same_upd hD, upd_same⟩ (fun i H' _ p => p.1.seqT hs) (fun i x H' hx p => ?_) (fun H' p => ?_)⟩
    · obtain ⟨sm, eD⟩ := p
      rw [List.getElem?_map] at hx
      cases e : ns[i]? with
      | none => rw [e] at hx; cases hx
      | some n =>
        rw [e] at hx
        cases Option.some.inj hx
        refine ⟨rfl, tYes_ok (iteT ⟨_, rfl, a, ns, rfl, sm.seqT hs, by omega, fun ns' p hp hso hf => ?_⟩)⟩
        have s1 : Same H' (upd H' p (.lst (ns'.map V.int))) := same_upd hf
        obtain ⟨j, hj⟩ := List.mem_iff_getElem?.mp (hp.mem_iff.mpr (List.mem_of_getElem? e))
        have hn' : ns'.Nodup := hp.nodup_iff.mpr hnd
        refine ⟨.inl ⟨rfl, _, SqL.of upd_same⟩, _, rfl, p, ns'.map V.int, .int n, j, .int n, rfl, rfl, SqL.of upd_same, rfl, ?_, ?_, ?_, ?_, ?_⟩
        · rw [List.all_map]
          exact List.all_eq_true.mpr fun _ _ => rfl
        · rw [List.getElem?_map, hj]
          rfl
        · exact beq_self_eq_true n
        · intro m z' hm hz
          rw [List.getElem?_map] at hz
          cases e2 : ns'[m]? with
          | none => rw [e2] at hz; cases hz
          | some y =>
            rw [e2] at hz
            cases Option.some.inj hz
            exact beq_eq_false_iff_ne.mpr (nodup_ne hn' e2 hj (by omega))
        · refine ⟨_, _, rfl, rfl, _, s1 _ _ eD, ?_, same_put (sm.trans s1) hD, ?_⟩
          · rw [List.length_map, List.length_map, List.length_take]
            exact small1000 (by omega)
          · rw [upd_same, List.take_add_one, e, List.map_append, List.map_append]
            show some (HO.lst (_ ++ [V.int ((j : Int) + 1)])) = _
            rw [place_rk hnd hp hso hj]
            rfl
    · obtain ⟨sm, eD⟩ := p
      rw [List.length_map, List.take_length] at eD
      refine ⟨D, _, rfl, .inl ⟨SqL.of eD, fun l hl => ?_⟩⟩
      exact q _ _ (sm.trans (same_upd hl)) upd_same
end
end RS

set_option Elab.async false
set_option linter.all false
set_option maxRecDepth 100000
set_option maxHeartbeats 2000000
namespace RS
open PySem PySem.Spec PyProof.Rows L2
/-! ### the deck: a list of three numbers at p, at most n draws done -/
def deckL (a b c : Int) : HO := .lst [.int a, .int b, .int c]
def Deck (H : Hp) (p : Addr) (n : Nat) : Prop := ∃ a b c : Int, H p = some (deckL a b c) ∧ 0 ≤ a ∧ 0 ≤ b ∧ b < 2147483579 ∧ 0 ≤ c ∧ c ≤ n
/-- all but p is as it was -/
def But (p : Addr) (H H' : Hp) : Prop := ∀ b o, b ≠ p → H b = some o → H' b = some o
theorem But.refl {p : Addr} (H : Hp) : But p H H := fun _ _ _ h => h
theorem But.trans {p : Addr} {H H1 H2 : Hp} (a : But p H H1) (b : But p H1 H2) : But p H H2 := fun c o n h => b c o n (a c o n h)
theorem But.of {p : Addr} {H H' : Hp} (s : Same H H') : But p H H' := fun b o _ h => s b o h
theorem But.put {p : Addr} {H : Hp} {o : HO} : But p H (upd H p o) := fun b x n h => by rw [upd_ne n]; exact h
theorem But.hide {p : Addr} {H H' : Hp} (s : But p H H') : Same (hide p H) (hide p H') := fun b o e => by
  by_cases c : b = p
  · rw [c, hide_at] at e
    cases e
  · rw [hide_ne c] at e ⊢
    exact s b o c e
theorem But.same {p : Addr} {H H' : Hp} {o : HO} (s : But p H H') (h : H p = some o) (h' : H' p = some o) : Same H H' := fun b x e => by
  by_cases c : b = p
  · rw [c, h] at e
    rw [c, h', ← e]
  · exact s b x c e
theorem Deck.same {H H' : Hp} {p : Addr} {n : Nat} (d : Deck H p n) (s : Same H H') : Deck H' p n := by
  obtain ⟨a, b, c, h, r⟩ := d
  exact ⟨a, b, c, s _ _ h, r⟩
theorem Deck.le {H : Hp} {p : Addr} {n m : Nat} (d : Deck H p n) (h : n ≤ m) : Deck H p m := by
  obtain ⟨a, b, c, e, r1, r2, r3, r4, r5⟩ := d
  exact ⟨a, b, c, e, r1, r2, r3, r4, by omega⟩
section
variable {P : Program} {w : World} {K : PySem.W.Frag} {mg : Str → Option Value} {base : Heap}
/-! ### _law_deck -/
def spDeck : Sp := fun vs H Q _ => ∃ cell turn : Int, vs = [.int cell, .int turn] ∧ 0 ≤ turn ∧ turn ≤ 1000 ∧ ∀ H' p, Same H H' → H p = none → Deck H' p 1000 → Q (.ref p) H'
theorem scDeck : FnScope ["cell", "turn"] ["cell", "turn"] (defScope sDeck) := ⟨rfl, rfl, rfl, by decide +kernel, rfl, by decide +kernel, by decide +kernel⟩
theorem ok_deck {f : Addr} {fd : FuncData} {k : Nat} (F : Fun K "_law_deck" "_law_deck" sDeck f fd) : FnOk P w K mg base CX0 (k + 1) f fd ["cell", "turn"] spDeck := by
  refine F.ok scDeck (fun vs H Q E h => ?_) (fun cdv A outer s H vs Q E hr h => ?_)
  · obtain ⟨cell, turn, rfl, _⟩ := h
    rfl
  · obtain ⟨cell, turn, rfl, h1, h2, q⟩ := h
    refine ⟨_, pss_cons (ps_if (pt_cmpR op_ge (pv 0) (pe_op op_pow pe_int pe_int) (nomark _))
        (pss_one (ps_ret (pe_lst (pa_cons (pe_op op_sub (pv 0) (pe_op op_pow pe_int pe_int)) (pa_cons (pe_op op_mod (pv 0) pe_int) (pa_cons (pv 1) pa_nil)))))) pss_nil)
      (pss_one (ps_ret (pe_lst (pa_cons pe_int (pa_cons (pe_op op_mod (pv 0) pe_int) (pa_cons (pv 1) pa_nil)))))), ?_⟩
    have e18 : (10 : Int) ^ (18 : Int).toNat = 1000000000000000000 := by decide
    have m1 : 0 ≤ cell % 2147483579 := Int.emod_nonneg _ (by decide)
    have m2 : cell % 2147483579 < 2147483579 := Int.emod_lt_of_pos _ (by decide)
    refine ⟨_, rfl, _, _, rfl, rfl, ⟨by decide, by decide, by decide⟩, _, _, rfl, rfl, _, rfl, ?_⟩
    rw [e18]
    cases c : decide ((1000000000000000000 : Int) ≤ cell) with
    | true =>
      have c' := of_decide_eq_true c
      refine iteT ⟨_, rfl, _, _, rfl, rfl, ⟨by decide, by decide, by decide⟩, _, _, rfl, rfl, _, rfl, _, _, rfl, rfl, (by show (0 : Int) < 2147483579; decide), _, rfl, (by show 3 ≤ sizeLine; decide), fun p hp => ?_⟩
      rw [e18]
      exact q _ _ (same_upd hp) hp ⟨_, _, _, upd_same, by omega, m1, m2, h1, by omega⟩
    | false =>
      refine iteF ⟨_, rfl, _, _, rfl, rfl, (by show (0 : Int) < 2147483579; decide), _, rfl, (by show 3 ≤ sizeLine; decide), fun p hp => ?_⟩
      exact q _ _ (same_upd hp) hp ⟨_, _, _, upd_same, by omega, m1, m2, h1, by omega⟩
/-! ### _law_pick -/
def spPick : Sp := fun vs H Q _ => ∃ (p : Addr) (size : Int) (n : Nat), vs = [.ref p, .int size] ∧ 0 < size ∧ size < 1073741824 ∧ Deck H p n ∧ n ≤ 1000000 ∧ ∀ H' (r : Nat), But p H H' → Deck H' p (n + 1) → (r : Int) < size → Q (.int r) H'
theorem scPick : FnScope ["deck", "size", "found", "number"] ["deck", "size"] (defScope sPick) := ⟨rfl, rfl, rfl, by decide +kernel, rfl, by decide +kernel, by decide +kernel⟩
theorem ok_pick {f : Addr} {fd : FuncData} {k : Nat} (F : Fun K "_law_pick" "_law_pick" sPick f fd) : FnOk P w K mg base CX0 (k + 1) f fd ["deck", "size"] spPick := by
  refine F.ok scPick (fun vs H Q E h => ?_) (fun cdv A outer s H vs Q E hr h => ?_)
  · obtain ⟨p, size, n, rfl, _⟩ := h
    rfl
  · obtain ⟨p, size, n, rfl, z1, z2, ⟨a, b, c, e, r1, r2, r3, r4, r5⟩, hn, q⟩ := h
    refine ⟨_, pss_cons (ps_if (pt_cmpR op_gt (pe_ix ix_list (pv 0) pe_int (fun _ _ => rfl)) pe_int (nomark _))
        (pss_cons (ps_set (i := 2) scPick.nd rfl (Or.inl rfl) (pe_op op_mod (pe_ix ix_list (pv 0) pe_int (fun _ _ => rfl)) (pv 1)))
        (pss_cons (ps_asg (pe_op op_fdiv (pe_ix ix_list (pv 0) pe_int (fun _ _ => rfl)) (pv 1)) (pg_sub (pv 0) pe_int set_list))
        (pss_one (ps_ret (pv 2))))) pss_nil)
      (pss_cons (ps_asg (pe_op op_add (pe_ix ix_list (pv 0) pe_int (fun _ _ => rfl)) pe_int) (pg_sub (pv 0) pe_int set_list))
      (pss_cons (ps_set (i := 3) scPick.nd rfl (Or.inl rfl) (pe_op op_mod (pe_op op_pow (pe_op op_add (pe_ix ix_list (pv 0) pe_int (fun _ _ => rfl)) (pe_op op_mul pe_int (pe_ix ix_list (pv 0) pe_int (fun _ _ => rfl)))) pe_int) pe_int))
      (pss_cons (ps_set (i := 2) scPick.nd rfl (Or.inl rfl) (pe_op op_fdiv (pe_op op_mod (pe_op op_pow (pe_op op_add (pv 3) (pe_op op_mul pe_int (pe_ix ix_list (pv 0) pe_int (fun _ _ => rfl)))) pe_int) pe_int) pe_int))
      (pss_one (ps_ret (pe_op op_mod (pv 2) (pv 1))))))), ?_⟩
    have fin : ∀ (x : Int), ∃ r : Nat, x % size = (r : Int) ∧ (r : Int) < size := fun x =>
      ⟨(x % size).toNat, by have := Int.emod_nonneg x (show size ≠ 0 by omega); omega, by have := Int.emod_nonneg x (show size ≠ 0 by omega); have := Int.emod_lt_of_pos x z1; omega⟩
    refine ⟨_, rfl, p, _, _, _, rfl, rfl, SqL.of e, atI_nat (j := 0) rfl, _, _, rfl, rfl, _, rfl, ?_⟩
    cases g : decide ((1 : Int) < a) with
    | true =>
      refine iteT ⟨_, rfl, p, _, _, _, rfl, rfl, SqL.of e, atI_nat (j := 0) rfl, _, rfl, _, _, rfl, rfl, z1, ?_⟩
      refine ⟨_, rfl, p, _, _, _, rfl, rfl, SqL.of e, atI_nat (j := 0) rfl, _, rfl, _, _, rfl, rfl, ⟨z1, z2⟩, ?_⟩
      refine ⟨.ref p, rfl, p, _, _, 0, rfl, rfl, e, rfl, _, rfl, ?_⟩
      obtain ⟨r, g1, g2⟩ := fin a
      show Q (.int (a % size)) _
      rw [g1]
      exact q _ r But.put ⟨_, _, _, upd_same, Int.ediv_nonneg r1 (by omega), r2, r3, r4, by omega⟩ g2
    | false =>
      refine iteF ⟨_, rfl, p, _, _, _, rfl, rfl, SqL.of e, atI_nat (j := 2) rfl, _, _, rfl, rfl, .ref p, rfl, p, _, _, 2, rfl, rfl, e, rfl, ?_⟩
      have e' : upd H p (.lst (([.int a, .int b, .int c] : List V).set 2 (.int (c + 1)))) p = some (.lst [.int a, .int b, .int (c + 1)]) := upd_same
      refine ⟨_, rfl, p, _, _, _, rfl, rfl, SqL.of e', atI_nat (j := 1) rfl, _, rfl, p, _, _, _, rfl, rfl, SqL.of e', atI_nat (j := 2) rfl, _, _, rfl, rfl, .inl ⟨by decide, by decide⟩, _, _, rfl, rfl, _, _, rfl, rfl, ⟨by decide, by decide, by omega⟩, _, _, rfl, rfl, (by show (0 : Int) < 2147483647; decide), ?_⟩
      have m1 : 0 ≤ (b + 15485867 * (c + 1)) ^ (5 : Int).toNat % 2147483647 := Int.emod_nonneg _ (by decide)
      have m2 : (b + 15485867 * (c + 1)) ^ (5 : Int).toNat % 2147483647 < 2147483647 := Int.emod_lt_of_pos _ (by decide)
      refine ⟨_, rfl, _, rfl, p, _, _, _, rfl, rfl, SqL.of e', atI_nat (j := 2) rfl, _, _, rfl, rfl, .inl ⟨by decide, by decide⟩, _, _, rfl, rfl, _, _, rfl, rfl, ⟨by decide, by decide, by omega⟩, _, _, rfl, rfl, (by show (0 : Int) < 2147483629; decide), _, _, rfl, rfl, ⟨by decide, by decide⟩, ?_⟩
      refine ⟨_, rfl, _, rfl, _, _, rfl, rfl, z1, ?_⟩
      obtain ⟨r, g1, g2⟩ := fin (((b + 15485867 * (c + 1)) ^ (5 : Int).toNat % 2147483647 + 7919 * (c + 1)) ^ (3 : Int).toNat % 2147483629 / 32)
      show Q (.int ((((b + 15485867 * (c + 1)) ^ (5 : Int).toNat % 2147483647 + 7919 * (c + 1)) ^ (3 : Int).toNat % 2147483629 / 32) % size)) _
      rw [g1]
      exact q _ r But.put ⟨_, _, _, e', r1, r2, r3, by omega, by omega⟩ g2
end
end RS

set_option Elab.async false
set_option linter.all false
set_option maxRecDepth 100000
set_option maxHeartbeats 2000000
namespace RS
open PySem PySem.Spec PyProof.Rows L2
/-! ### a free number is found -/
theorem mods_apart {h T : Int} {i j : Nat} (hij : i < j) (hj : (j : Int) < T) : (h + i) % T ≠ (h + j) % T := fun e => by
  have z : ((h + j) - (h + i)) % T = 0 := Int.emod_eq_emod_iff_emod_sub_eq_zero.mp e.symm
  rw [show (h + (j : Int)) - (h + i) = (j : Int) - i by omega, Int.emod_eq_of_lt (by omega) (by omega)] at z
  omega
theorem mods_few {ns : List Int} {h T : Int} {j : Nat} (hl : (ns.length : Int) < T) (hj : j ≤ ns.length) (hm : ∀ k, k ≤ j → (h + (k : Nat)) % T ∈ ns) : j + 1 ≤ ns.length := by
  have nd : ((List.range (j + 1)).map fun k => (h + (k : Nat)) % T).Nodup := by
    unfold List.Nodup
    rw [List.pairwise_map, List.pairwise_iff_getElem]
    intro a b ha hb hab
    rw [List.length_range] at ha hb
    rw [List.getElem_range, List.getElem_range]
    exact mods_apart hab (by omega)
  have := len_le_sub nd fun x hx => by
    obtain ⟨k, hk, rfl⟩ := List.mem_map.mp hx
    exact hm k (by have := List.mem_range.mp hk; omega)
  rw [List.length_map, List.length_range] at this
  exact this
theorem inV_ints {ns : List Int} {h : Int} : inV (.int h) (ns.map V.int) = decide (h ∈ ns) := by
  unfold inV
  rw [List.any_map]
  refine Bool.eq_iff_iff.mpr ?_
  simp only [List.any_eq_true, decide_eq_true_eq]
  constructor
  · rintro ⟨y, hy, e⟩
    have e : (y == h) = true := e
    rw [beq_iff_eq] at e
    exact e ▸ hy
  · intro hm
    exact ⟨h, hm, beq_self_eq_true h⟩
theorem flat_ints (ns : List Int) : (ns.map V.int).all flatV = true := by
  rw [List.all_map]
  exact List.all_eq_true.mpr fun _ _ => rfl
section
variable {P : Program} {w : World} {K : PySem.W.Frag} {mg : Str → Option Value} {base : Heap}
/-! ### _law_one -/
def spOne (K : PySem.W.Frag) : Sp := fun vs H Q _ => ∃ (p l : Addr) (xs : List V) (n : Nat), vs = [.ref p, .ref l] ∧ Deck H p n ∧ n ≤ 1000000 ∧ SqL K (hide p H) l xs ∧ 1 ≤ xs.length ∧ xs.length ≤ 1000 ∧
  ∀ H' x, But p H H' → Deck H' p (n + 1) → x ∈ xs → Q x H'
theorem scOne : FnScope ["deck", "some"] ["deck", "some"] (defScope sOne) := ⟨rfl, rfl, rfl, by decide +kernel, rfl, by decide +kernel, by decide +kernel⟩
theorem ok_one {f fP : Addr} {fd fdP : FuncData} {k : Nat} (F : Fun K "_law_one" "_law_one" sOne f fd) (FP : Fun K "_law_pick" "_law_pick" sPick fP fdP) (bP : Binds K fdP ["deck", "size"] []) (gP : mg "_law_pick" = some (.ref fP)) (B : Bn mg) :
    FnOk P w K mg base CX0 (k + 2) f fd ["deck", "some"] (spOne K) := by
  have GP : FnOk P w K mg base CX0 (k + 1) fP fdP ["deck", "size"] spPick := ok_pick FP
  refine F.ok scOne (fun vs H Q E h => ?_) (fun cdv A outer s H vs Q E hr h => ?_)
  · obtain ⟨p, l, xs, n, rfl, _⟩ := h
    rfl
  · obtain ⟨p, l, xs, n, rfl, hd, hn, hs, h1, h2, q⟩ := h
    refine ⟨_, pss_one (ps_ret (pe_ix ix_list (pv 1) (pe_call GP hr (by rfl) gP FP.kp bP .nil pass0 (pa_cons (pv 0) (pa_cons (pe_callB call_len_seq (by rfl) B.len PySem.boot_len (pa_cons (pv 1) pa_nil)) pa_nil))) (fun _ _ => rfl))), ?_⟩
    refine ⟨.ref l, rfl, _, rfl, _, rfl, l, xs, rfl, .inl (hide_same.seq hs), p, _, n, rfl, by omega, by omega, hd, hn, fun H' r b d hr => ?_⟩
    have hr' : r < xs.length := by omega
    exact ⟨l, xs, _, xs[r], rfl, rfl, (b.hide.trans hide_same).seq hs, atI_nat (List.getElem?_eq_getElem hr'), q H' _ b d (List.getElem_mem hr')⟩
/-! ### _law_heights -/
def spHts : Sp := fun vs H Q _ => ∃ (p : Addr) (many n : Nat) (top : Int), vs = [.ref p, .int many, .int top] ∧ Deck H p n ∧ n ≤ 100000 ∧ many ≤ 12 ∧ 11 ≤ top ∧ top ≤ 1000000000 ∧
  ∀ H' u (ns : List Int), But p H H' → Deck H' p (n + many) → ns.length = many → ns.Nodup → (∀ x ∈ ns, 0 ≤ x ∧ x ≤ top) → H' u = some (.tup (ns.map V.int)) → Q (.ref u) H'
theorem scHts : FnScope ["deck", "many", "top", "found", "turn", "height"] ["deck", "many", "top"] (defScope sHts) := ⟨rfl, rfl, rfl, by decide +kernel, rfl, by decide +kernel, by decide +kernel⟩
theorem but_put {p l : Addr} {H H' : Hp} {o : HO} (b : But p H H') (n : H l = none) : But p H (upd H' l o) := fun c x hc e => by
  rw [upd_ne (ne_of_none e n)]
  exact b c x hc e
theorem Deck.put {H : Hp} {p l : Addr} {n : Nat} {o : HO} (d : Deck H p n) (h : l ≠ p) : Deck (upd H l o) p n := by
  obtain ⟨a, b, c, e, r⟩ := d
  exact ⟨a, b, c, (upd_ne h.symm).trans e, r⟩
theorem ok_hts {f fP : Addr} {fd fdP : FuncData} {k : Nat} (F : Fun K "_law_heights" "_law_heights" sHts f fd) (FP : Fun K "_law_pick" "_law_pick" sPick fP fdP) (bP : Binds K fdP ["deck", "size"] []) (gP : mg "_law_pick" = some (.ref fP)) (B : Bn mg) :
    FnOk P w K mg base CX0 (k + 2) f fd ["deck", "many", "top"] spHts := by
  have GP : FnOk P w K mg base CX0 (k + 1) fP fdP ["deck", "size"] spPick := ok_pick FP
  refine F.ok scHts (fun vs H Q E h => ?_) (fun cdv A outer s H vs Q E hr h => ?_)
  · obtain ⟨p, many, n, top, rfl, _⟩ := h
    rfl
  · obtain ⟨p, many, n, top, rfl, hd, hn, hm, t1, t2, q⟩ := h
    refine ⟨_, pss_cons (ps_set (i := 3) scHts.nd rfl (Or.inl rfl) (pe_lst pa_nil))
      (pss_cons (ps_for PassesOwn.never rfl (pi_range1 (by rfl) B.range (pa_cons (pv 1) pa_nil)) (pg_name (i := 4) scHts.nd rfl (Or.inl rfl))
        (pss_cons (ps_set (i := 5) scHts.nd rfl (Or.inl rfl) (pe_call GP hr (by rfl) gP FP.kp bP .nil pass0 (pa_cons (pv 0) (pa_cons (pe_op op_add (pv 2) pe_int) pa_nil))))
        (pss_cons (ps_while PassesOwn.never (pt_cmpR op_in_seq (pv 5) (pv 3) rfl)
          (pss_one (ps_set (i := 5) scHts.nd rfl (Or.inl rfl) (pe_op op_mod (pe_op op_add (pv 5) pe_int) (pe_op op_add (pv 2) pe_int)))))
        (pss_one (ps_expr (pe_bm PySem.F.plainAttrs_list PySem.F.slot_list_append PySem.F.type_list_append mt_append (pv 3) (pa_cons (pv 5) pa_nil)))))))
      (pss_one (ps_ret (pe_callTy call_tuple_of (by rfl) B.tuple boot_tuple (pa_cons (pv 3) pa_nil))))), ?_⟩
    refine ⟨Nat.zero_le _, fun l hl => ?_⟩
    obtain ⟨a0, b0, c0, hd0, _⟩ := id hd
    have nlp : l ≠ p := (ne_of_none hd0 hl).symm
    refine ⟨_, rfl, _, rfl, by omega, by omega, ?_⟩
    rw [show (((many : Nat) : Int)).toNat = many by omega]
    refine for_rng (fun i σ H' => ∃ y4 y5 ns, σ = [some (.ref p), some (.int many), some (.int top), some (.ref l), y4, y5] ∧ But p H H' ∧ Deck H' p (n + i) ∧ H' l = some (.lst ((ns : List Int).map V.int)) ∧ ns.length = i ∧ ns.Nodup ∧ ∀ x ∈ ns, 0 ≤ x ∧ x ≤ top)
      ⟨_, _, [], rfl, but_put (But.refl H) hl, hd.put nlp, upd_same, rfl, List.nodup_nil, fun _ h => absurd h (by simp)⟩ ?_ ?_
    · rintro i σ H1 z hi hz ⟨y4, y5, ns, rfl, b1, d1, e1, n1, n2, n3⟩
      refine ⟨_, rfl, _, rfl, _, _, rfl, rfl, p, _, n + i, rfl, by omega, by omega, d1, by omega, fun H2 r b2 d2 hr => ?_⟩
      have e2 : H2 l = some (.lst (ns.map V.int)) := b2 _ _ nlp e1
      have hT : (ns.length : Int) < top + 1 := by omega
      refine ⟨fun m σ H' => H' = H2 ∧ ∃ (j : Nat) (y4 : Option V), m + j = ns.length ∧ σ = [some (.ref p), some (.int many), some (.int top), some (.ref l), y4, some (.int (((r : Int) + j) % (top + 1)))] ∧ ∀ k, k < j → ((r : Int) + (k : Nat)) % (top + 1) ∈ ns, ⟨ns.length, rfl, 0, some (.int z), rfl, ?_, fun k hk => absurd hk (by omega)⟩, ?_⟩
      · rw [show ((r : Int) + (0 : Nat)) % (top + 1) = r by rw [Int.emod_eq_of_lt] <;> omega]
        rfl
      · rintro m σ H' ⟨rfl, j, y4, hmj, rfl, hk⟩
        refine ⟨_, rfl, _, rfl, l, _, rfl, .inl (SqL.of e2), rfl, flat_ints ns, _, rfl, ?_⟩
        show if inV (.int (((r : Int) + j) % (top + 1))) (ns.map V.int) = true then _ else _
        rw [inV_ints]
        cases c : decide ((((r : Int) + j) % (top + 1)) ∈ ns) with
        | true =>
          have c' := of_decide_eq_true c
          have hall : ∀ k, k ≤ j → ((r : Int) + (k : Nat)) % (top + 1) ∈ ns := fun k hkj => by
            by_cases z : k < j
            · exact hk k z
            · rw [show k = j by omega]; exact c'
          have hj1 := mods_few hT (by omega) hall
          refine iteT ⟨fun σ' H3 => H3 = H' ∧ ∃ (y4 : Option V), σ' = [some (.ref p), some (.int many), some (.int top), some (.ref l), y4, some (.int (((r : Int) + ((j + 1 : Nat) : Int)) % (top + 1)))], fun σ' H3 ⟨eH, y4, es⟩ => ⟨m - 1, by omega, eH, j + 1, y4, by omega, es, fun k hk => hall k (by omega)⟩, ?_⟩
          refine ⟨_, rfl, _, _, rfl, rfl, _, rfl, _, _, rfl, rfl, _, _, rfl, rfl, (show (0 : Int) < top + 1 by omega), rfl, y4, ?_⟩
          show ([some (.ref p), some (.int many), some (.int top), some (.ref l), y4, some (.int (((((r : Int) + j) % (top + 1)) + 1) % (top + 1)))] : L2.St) = _
          rw [Int.emod_add_emod, show (r : Int) + j + 1 = (r : Int) + ((j + 1 : Nat) : Int) by omega]
        | false =>
          have c' := of_decide_eq_false c
          refine iteF ⟨_, rfl, .inl ⟨rfl, _, SqL.of e2⟩, _, rfl, l, _, _, rfl, rfl, e2, ?_, ?_⟩
          · rw [List.length_map]
            exact small1000 (by omega)
          · have m1 := Int.emod_nonneg ((r : Int) + j) (show top + 1 ≠ 0 by omega)
            have m2 := Int.emod_lt_of_pos ((r : Int) + j) (show 0 < top + 1 by omega)
            refine ⟨_, _, ns ++ [((r : Int) + j) % (top + 1)], rfl, but_put (b1.trans b2) hl, (d2.put nlp).le (by omega), ?_, by rw [List.length_append, n1]; rfl, ?_, ?_⟩
            · rw [upd_same, List.map_append]
              rfl
            · exact nd_snoc n2 c'
            · intro x hx
              rcases List.mem_append.mp hx with hx | hx
              · exact n3 x hx
              · rw [List.mem_singleton.mp hx]
                omega
    · rintro σ H1 ⟨y4, y5, ns, rfl, b1, d1, e1, n1, n2, n3⟩
      refine ⟨_, rfl, l, _, rfl, .inl ⟨SqL.of e1, fun u hu => ?_⟩⟩
      obtain ⟨a1, b1', c1, hd1, _⟩ := id d1
      have nup : u ≠ p := (ne_of_none hd1 hu).symm
      exact q _ u ns (b1.trans (But.of (same_upd hu))) (d1.put nup) n1 n2 n3 upd_same
end
end RS

set_option Elab.async false
set_option linter.all false
set_option maxRecDepth 100000
set_option maxHeartbeats 2000000
namespace RS
open PySem PySem.Spec PyProof.Rows L2
open AutoSeq1 (wpAny_loadPart')
/-! ### enumerate(t), t a tuple -/
abbrev tupIt (t : Addr) : Obj := { cls := .type "tuple_iterator", data := .fields #[.ref t, .int 0 0] }
abbrev enumO (it : Addr) : Obj := { cls := .type "enumerate", data := .fields #[.none, .bool false, .ref it, rawInt 0, .none, .none] }
theorem enum_meets (t : Addr) (items : Array Value) (n : Nat) (dct : Option Addr) (sl : Array (Option Value)) : Meets (Builtin.«enumerate.__new__» ⟨[.type "enumerate", .ref t], []⟩) fun _ R s =>
    s.heap.get? t = some { cls := .type "tuple", dict := dct, data := .seq items n, slots := sl } ∧ R (.ok (.ret (.ref (s.heap.push (tupIt t)).objs.size))) { s with heap := (s.heap.push (tupIt t)).push (enumO s.heap.objs.size) } :=
  .of_wp fun prog w A R s h => by
    obtain ⟨hp, g, d, tk, os⟩ := s
    obtain ⟨hl, h⟩ := h
    have sub := sub_enumerate
    have hT : Heap.IsTuple (Shared.heap ⟨hp, g, d, tk, os⟩) t items := ⟨_, hl, rfl, n, rfl⟩
    wp_walk using wpAny_loadPart' hl
    refine wpAny_stack_any fun st => wpAny_pure ?_
    split
    · rename_i c _ _ _ _ _
      cases c == Value.type "enumerate" <;> (wp_walk using wpAny_loadPart' hl, wpAny_pyIter_tuple hT; exact ⟨_, rfl, h⟩)
    · wp_walk using wpAny_loadPart' hl, wpAny_pyIter_tuple hT
      exact ⟨_, rfl, h⟩
theorem call_enum {prog : Program} {w : World} {A : Around} {E : Value → Shared → Prop} {s : Shared} {t : Addr} {items : Array Value} {Q : Value → Shared → Prop} (ht : IsTup s.heap t items)
    (h : ∀ h', IsEnum h' (s.heap.objs.size + 1) s.heap.objs.size 0 .none → h'.IsTupleIter s.heap.objs.size t 0 → (∀ b o, s.heap.get? b = some o → h'.get? b = some o) → Q (.ref (s.heap.objs.size + 1)) { s with heap := h' }) :
    wpAny (model prog w) A (call (.type "enumerate") [.ref t]) Q E s := by
  obtain ⟨⟨c, dct, dt, sl⟩, hl, hc, n, hd⟩ := ht
  simp only at hc hd
  subst hc hd
  refine callType_new PySem.F.called_enumerate (by decide) (PySem.F.typeCall_enumerate_1 _) (PySem.F.newCall_enumerate_1 _) (fun obj => PySem.F.args_object_init_2 obj _) PySem.F.entry_enumerate_new (enum_meets t items n dct sl) ⟨hl, ?_⟩
  have hz : (s.heap.push (tupIt t)).objs.size = s.heap.objs.size + 1 := Heap.size_push ..
  have he : IsEnum ((s.heap.push (tupIt t)).push (enumO s.heap.objs.size)) (s.heap.objs.size + 1) s.heap.objs.size 0 .none := by
    have z := Heap.get?_push_size (s.heap.push (tupIt t)) (o := enumO s.heap.objs.size) rfl
    rw [hz] at z
    exact z
  show _ ∧ _
  rw [hz]
  exact ⟨⟨_, he, rfl⟩, h _ he ⟨_, Heap.get?_push_of_some _ (Heap.get?_push_size _ rfl), rfl, rfl⟩ fun b o x => Heap.get?_push_of_some _ (Heap.get?_push_of_some _ x)⟩
/-- the tuple at a, each item in a new pair with its place -/
def IteT (K : PySem.W.Frag) (a : Addr) : It where
  go := fun i H => ∃ (xs : List V) (x : V), SqT K H a xs ∧ xs[i]? = some x
  yld := fun i H v H' => ∃ T x, v = .ref T ∧ H T = none ∧ H' = upd H T (.tup [.int (i : Nat), x]) ∧ ∀ xs, SqT K H a xs → xs[i]? = some x
  stop := fun i H => ∃ xs : List V, SqT K H a xs ∧ xs.length = i
theorem turn_enumT {P : Program} {w : World} {K : PySem.W.Frag} {elts : List Expr} {kk : Nat} {tpos : Pos} (a e it : Addr) :
    Turn P w K (.Tuple elts kk tpos) (IteT K a) [e, it] e (fun i h => (∃ old, IsEnum h e it ((i : Nat) : Int) old) ∧ h.IsTupleIter it a i ∧ e ≠ it) where
  mem := List.mem_cons_self
  obj := fun i h st b hb => by
    obtain ⟨⟨old, he⟩, ⟨o, ho, hc, hd⟩, _⟩ := st
    rcases List.mem_cons.mp hb with z | z
    · rw [z]
      exact ⟨_, he, fun v q => nomatch q⟩
    · rw [List.mem_singleton.mp z]
      exact ⟨o, ho, fun v q => by rw [hd] at q; cases q⟩
  keep := fun i h h' st k => by
    obtain ⟨⟨old, he⟩, hi, hne⟩ := st
    exact ⟨⟨old, k e (by simp) _ he⟩, hi.at fun o q => k it (by simp) o q, hne⟩
  item := by
    intro X hP hw hK hc i pins s σ H E I hf st hg
    subst hP hw hK
    obtain ⟨⟨old, he⟩, hit, hne⟩ := st
    obtain ⟨xs, x, hq, hx⟩ := hg
    obtain ⟨its, rv, pt, hz⟩ := I.tuple hq
    obtain ⟨u, hu, ru⟩ := rv.get hx
    have hel := Heap.lt_size he
    obtain ⟨oi, hoi, hci, hdi⟩ := id hit
    have hil := Heap.lt_size hoi
    obtain ⟨ot, hot, hct, nt, hdt⟩ := id pt
    have nai : a ≠ it := fun z => by
      rw [z, hoi] at hot
      cases hot
      rw [hdi] at hdt
      cases hdt
    have nae : e ≠ a := fun z => by
      have he' : s.heap.get? a = some _ := z ▸ he
      rw [hot] at he'
      cases he'
      cases hdt
    have D := Draws.tuple (prog := X.prog) (w := X.w) (A := X.A.in1) (I.ok.hd hc) it a nai its.toArray
    have hlt : i < its.toArray.size := by
      have := (List.getElem?_eq_some_iff.mp hu).1
      simpa using this
    refine wpAny_pyNext_enum_itemD D he ⟨hit, pt⟩ hlt hne (by simp [hne, nae]) fun x' h' tk hP ho hst hT hsz hk => ?_
    have ex : x' = u := by
      have z : its.toArray[i]? = some x' := hP
      have z2 : its.toArray[i]? = some u := by simpa using hu
      exact Option.some.inj (z.symm.trans z2)
    subst ex
    refine ⟨_, rfl, wpAny_letOwnedTupleGo_enum (s := { s with heap := h', toks := tk + 1 }) ho fun h'' he' sb => ?_⟩
    have hT2 : h''.get? s.heap.objs.size = some { cls := .type "tuple", data := .seq #[.int i tk, x'] } := (sb.2 _ (Nat.ne_of_gt hel)).trans hT
    have new : ObjOk X.prog X.w (upd H s.heap.objs.size (.tup [.int (i : Nat), x])) h'' s.heap.objs.size (.tup [.int (i : Nat), x]) := ⟨by show 2 ≤ sizeLine; decide, [.int i tk, x'], .cons ⟨_, rfl⟩ (.cons ru .nil), _, hT2, rfl, _, rfl⟩
    have kp : ∀ b ob, b ∉ [e, it] → s.heap.get? b = some ob → h''.get? b = some ob := fun b ob hb q => by
      have n1 : b ≠ e := fun z => hb (by simp [z])
      have n2 : b ≠ it := fun z => hb (by simp [z])
      exact (sb.2 b n1).trans (hk b ob n1 n2 q)
    have J := I.turnedNew (ch := [e, it]) (t' := tk + 1) kp hf (Nat.le_refl _) new
    refine ⟨.ref s.heap.objs.size, _, J, rfl, ⟨_, x, rfl, I.hok.fresh (Nat.le_refl _), rfl, fun ys hy => by rw [I.tuple_inj hy hq]; exact hx⟩, ⟨⟨x', ?_⟩, hst.1.at fun o q => (sb.2 it (Ne.symm hne)).trans q, hne⟩, fun b hb => ?_⟩
    · rw [show ((i + 1 : Nat) : Int) = (i : Int) + 1 by omega]
      exact he'
    · have hb' : b < s.heap.objs.size := by
        rcases List.mem_cons.mp hb with z | z
        · rw [z]; exact hel
        · rw [List.mem_singleton.mp z]; exact hil
      rw [upd_ne (Nat.ne_of_lt hb')]
      exact (hf b hb).1
  done := by
    intro X hP hw hK hc i pins s σ H E I hf st hg
    subst hP hw hK
    obtain ⟨⟨old, he⟩, hit, hne⟩ := st
    obtain ⟨xs, hq, hx⟩ := hg
    obtain ⟨its, rv, pt, hz⟩ := I.tuple hq
    obtain ⟨f0, f1, f2, f3, f4, f5⟩ := hf it (by simp)
    obtain ⟨oi, hoi, hci, hdi⟩ := id hit
    obtain ⟨ot, hot, hct, nt, hdt⟩ := id pt
    have nai : a ≠ it := fun z => by
      rw [z, hoi] at hot
      cases hot
      rw [hdi] at hdt
      cases hdt
    have D := Draws.tuple (prog := X.prog) (w := X.w) (A := X.A.in1) (I.ok.hd hc) it a nai its.toArray
    have hi : i = its.toArray.size := by
      have := rv.length
      rw [List.size_toArray]
      omega
    subst hi
    exact wpAny_pyNext_enum_endD D he ⟨hit, pt⟩ fun h' eb => ⟨rfl, I.turned (t' := s.toks) (fun b o hb q => eb b o hb q) f0 f1 f3 f4 f5⟩
  self := fun A i s Q E st h => wpAny_pyIter_enum st.1.choose_spec h
def iEnumT (K : PySem.W.Frag) (ta : TA) : TI := fun σ H R => ta σ H fun vs H1 => ∃ a xs, vs = [.ref a] ∧ SqT K H1 a xs ∧ R (IteT K a) H1
theorem pi_enumT {X : Cx} {e : Expr} {ta : TA} {p pos tpos : Pos} {elts : List Expr} {kk : Nat} (hg : Gl X "enumerate") (hm : X.mg "enumerate" = none) (ha : PA X [e] ta) (hs : starEach [e] X.env = [(false, eval e X.env)] := by rfl) :
    PI X (.Tuple elts kk tpos) (.Call (.Name "enumerate" p) [e] [] pos) (iEnumT X.K ta) := by
  refine ⟨fun pins s σ H R I h => Call_ (ld_blt I hg hm boot_enumerate (PyProof.Rows.callWith_type1 (thn (ha.run pos pins s σ H _ I h) fun us s1 ⟨vs, H1, I1, r1, q1⟩ => ?_) hs rfl))⟩
  obtain ⟨a, xs, ex, hq, q⟩ := q1
  subst ex
  rw [Vals.ref1 r1]
  obtain ⟨its, rv, pt, hz⟩ := I1.tuple hq
  refine call_enum pt fun h' he hit hk => wpAny_pyIter_enum he ?_
  refine ⟨s1.heap.objs.size + 1, [s1.heap.objs.size + 1, s1.heap.objs.size], _, _, H1, rfl, I1.kept (t' := s1.toks) hk, turn_enumT a (s1.heap.objs.size + 1) s1.heap.objs.size, ⟨⟨.none, he⟩, hit, Nat.succ_ne_self _⟩, fun b hb => ?_, q⟩
  have hle : s1.heap.objs.size ≤ b := by
    rcases List.mem_cons.mp hb with z | z
    · rw [z]; exact Nat.le_add_right _ _
    · rw [List.mem_singleton.mp z]; exact Nat.le_refl _
  exact I1.fpOk hle (I1.hok.fresh hle)
end RS

set_option Elab.async false
set_option linter.all false
set_option maxRecDepth 100000
set_option maxHeartbeats 2000000
namespace RS
open PySem PySem.Spec PyProof.Rows L2
theorem enumT_walk {K : PySem.W.Frag} {a : Addr} {xs : List V} {H0 : Hp} {Qd : Hp → Prop} {B : V → Hp → (Hp → Prop) → Prop} (Pv : Nat → Hp → Prop) (h0 : Pv 0 H0) (hl : ∀ i H, Pv i H → SqT K H a xs)
    (hs : ∀ i x H T, xs[i]? = some x → Pv i H → H T = none → B (.ref T) (upd H T (.tup [.int (i : Nat), x])) (Pv (i + 1))) (hd : ∀ H, Pv xs.length H → Qd H) :
    ∃ W : Nat → Nat → Hp → Prop, (∃ m, W 0 m H0) ∧ ∀ i m H, W i m H → ((IteT K a).stop i H ∧ Qd H) ∨ ((IteT K a).go i H ∧ ∃ Nx : Hp → Prop, (∀ H', Nx H' → ∃ m', m' < m ∧ W (i + 1) m' H') ∧ ∀ x H', (IteT K a).yld i H x H' → B x H' Nx) := by
  refine ⟨fun i m H => m = xs.length - i ∧ i ≤ xs.length ∧ Pv i H, ⟨xs.length, rfl, Nat.zero_le _, h0⟩, ?_⟩
  rintro i m H ⟨rfl, hi, p⟩
  have q := hl i H p
  by_cases hlt : i < xs.length
  · refine .inr ⟨⟨xs, xs[i], q, List.getElem?_eq_getElem hlt⟩, Pv (i + 1), fun H' p' => ⟨xs.length - (i + 1), by omega, rfl, hlt, p'⟩, ?_⟩
    rintro x H' ⟨T, y, rfl, nT, rfl, hy⟩
    exact hs i y H T (hy xs q) p nT
  · have e : i = xs.length := by omega
    subst e
    exact .inl ⟨⟨xs, q, rfl⟩, hd H p⟩
section
variable {P : Program} {w : World} {K : PySem.W.Frag} {mg : Str → Option Value} {base : Heap}
/-! ### _law_sort -/
def srt : PyData → Int
  | .bool _ => 1
  | .int _ => 2
  | .str _ => 3
  | .list _ => 4
  | .tuple _ => 5
  | _ => 6
def spSort (K : PySem.W.Frag) : Sp := fun vs H Q _ => ∃ v d, vs = [v] ∧ Dp K H v d ∧ Q (.int (srt d)) H
theorem scSort : FnScope ["thing"] ["thing"] (defScope sSort) := ⟨rfl, rfl, rfl, by decide +kernel, rfl, by decide +kernel, by decide +kernel⟩
theorem ok_sort {f : Addr} {fd : FuncData} {k : Nat} (F : Fun K "_law_sort" "_law_sort" sSort f fd) (B : Bn mg) : FnOk P w K mg base CX0 (k + 1) f fd ["thing"] (spSort K) := by
  refine F.ok scSort (fun vs H Q E h => ?_) (fun cdv A outer s H vs Q E hr h => ?_)
  · obtain ⟨v, d, rfl, _⟩ := h
    rfl
  · obtain ⟨v, d, rfl, hd, q⟩ := h
    refine ⟨_, pss_cons (ps_if (pt_val (pe_callB call_isi (by rfl) B.isi boot_isinstance (pa_cons (pv 0) (pa_cons (pe_bltn (v := .ty "bool") (by rfl) B.bool boot_bool rfl) pa_nil)))) (pss_one (ps_ret pe_int)) pss_nil)
      (pss_cons (ps_if (pt_val (pe_callB call_isi (by rfl) B.isi boot_isinstance (pa_cons (pv 0) (pa_cons (pe_bltn (v := .ty "int") (by rfl) B.int boot_int rfl) pa_nil)))) (pss_one (ps_ret pe_int)) pss_nil)
      (pss_cons (ps_if (pt_val (pe_callB call_isi (by rfl) B.isi boot_isinstance (pa_cons (pv 0) (pa_cons (pe_bltn (v := .ty "str") (by rfl) B.str boot_str rfl) pa_nil)))) (pss_one (ps_ret pe_int)) pss_nil)
      (pss_cons (ps_if (pt_val (pe_callB call_isi (by rfl) B.isi boot_isinstance (pa_cons (pv 0) (pa_cons (pe_bltn (v := .ty "list") (by rfl) B.list boot_list rfl) pa_nil)))) (pss_one (ps_ret pe_int)) pss_nil)
      (pss_one (ps_ret (pe_ifExp (pt_val (pe_callB call_isi (by rfl) B.isi boot_isinstance (pa_cons (pv 0) (pa_cons (pe_bltn (v := .ty "tuple") (by rfl) B.tuple boot_tuple rfl) pa_nil)))) pe_int pe_int)))))), ?_⟩
    have isi := fun (T : String) (hT : T ∈ five) => kit_of_data hT hd
    have ty := tyX_of hd
    refine ⟨v, rfl, v, _, _, _, _, rfl, .ty _, ty, isi _ (by decide), _, rfl, ?_⟩
    cases hd with
    | bl b => exact iteT q
    | int i => exact iteF ⟨_, rfl, _, _, _, _, _, rfl, .ty _, ty, isi _ (by decide), _, rfl, iteT q⟩
    | str x => exact iteF ⟨_, rfl, _, _, _, _, _, rfl, .ty _, ty, isi _ (by decide), _, rfl, iteF ⟨_, rfl, _, _, _, _, _, rfl, .ty _, ty, isi _ (by decide), _, rfl, iteT q⟩⟩
    | lst a b => exact iteF ⟨_, rfl, _, _, _, _, _, rfl, .ty _, ty, isi _ (by decide), _, rfl, iteF ⟨_, rfl, _, _, _, _, _, rfl, .ty _, ty, isi _ (by decide), _, rfl, iteF ⟨_, rfl, _, _, _, _, _, rfl, .ty _, ty, isi _ (by decide), _, rfl, iteT q⟩⟩⟩
    | tup a b => exact iteF ⟨_, rfl, _, _, _, _, _, rfl, .ty _, ty, isi _ (by decide), _, rfl, iteF ⟨_, rfl, _, _, _, _, _, rfl, .ty _, ty, isi _ (by decide), _, rfl, iteF ⟨_, rfl, _, _, _, _, _, rfl, .ty _, ty, isi _ (by decide), _, rfl, iteF ⟨_, rfl, _, _, _, _, _, rfl, .ty _, ty, isi _ (by decide), _, rfl, iteT q⟩⟩⟩⟩
    | non => exact iteF ⟨_, rfl, _, _, _, _, _, rfl, .ty _, ty, isi _ (by decide), _, rfl, iteF ⟨_, rfl, _, _, _, _, _, rfl, .ty _, ty, isi _ (by decide), _, rfl, iteF ⟨_, rfl, _, _, _, _, _, rfl, .ty _, ty, isi _ (by decide), _, rfl, iteF ⟨_, rfl, _, _, _, _, _, rfl, .ty _, ty, isi _ (by decide), _, rfl, iteF q⟩⟩⟩⟩
/-! ### _law_same, of the same data -/
def Flat : PyData → Prop
  | .none => True
  | .bool _ => True
  | .int _ => True
  | .str x => (PyData.str x).canLay0 = true
  | _ => False
/-- flat, or tuples of such, at most n within one another -/
def Tp : Nat → PyData → Prop
  | 0, d => Flat d
  | n + 1, d => Flat d ∨ ∃ ds, d = .tuple ds ∧ ∀ x ∈ ds, Tp n x
def spSame (K : PySem.W.Frag) : Nat → Sp
  | 0 => fun _ _ _ _ => False
  | n + 1 => fun vs H Q _ => ∃ x y d, vs = [x, y] ∧ Dp K H x d ∧ Dp K H y d ∧ Tp n d ∧ ∀ H', Same H H' → Q (.bl true) H'
theorem scSame : FnScope ["told", "due", "k", "part"] ["told", "due"] (defScope sSame) := ⟨rfl, rfl, rfl, by decide +kernel, rfl, by decide +kernel, by decide +kernel⟩
theorem flat_eqv {d : PyData} (h : Flat d) : PyData.eqv d d = true := by
  cases d with
  | none => rfl
  | bool b => cases b <;> rfl
  | int i => simp [PyData.eqv]
  | str x => simp [PyData.eqv]
  | list _ => exact h.elim
  | tuple _ => exact h.elim
  | dict _ => exact h.elim
theorem flat_shp {d : PyData} (h : Flat d) : Shp 0 d := by
  cases d with
  | none => exact shp_none
  | bool b => exact shp_bool
  | int i => exact shp_int
  | str x => exact shp_str h
  | list _ => exact h.elim
  | tuple _ => exact h.elim
  | dict _ => exact h.elim
theorem flat_sort {d : PyData} (h : Flat d) : ¬ (3 < srt d ∧ srt d < 6) := by
  cases d with
  | none => simp [srt]
  | bool b => simp [srt]
  | int i => simp [srt]
  | str x => simp [srt]
  | list _ => exact h.elim
  | tuple _ => exact h.elim
  | dict _ => exact h.elim
theorem ok_same {f fS : Addr} {fd fdS : FuncData} (F : Fun K "_law_same" "_law_same" sSame f fd) (bF : Binds K fd ["told", "due"] []) (gF : mg "_law_same" = some (.ref f)) (FS : Fun K "_law_sort" "_law_sort" sSort fS fdS) (bS : Binds K fdS ["thing"] []) (gS : mg "_law_sort" = some (.ref fS)) (B : Bn mg) :
    ∀ n, FnOk P w K mg base CX0 (n + 1) f fd ["told", "due"] (spSame K n)
  | 0 => F.ok scSame (fun _ _ _ _ h => h.elim) (fun _ _ _ _ _ _ _ _ _ h => h.elim)
  | n + 1 => by
    have G := ok_same F bF gF FS bS gS B n
    have GS : FnOk P w K mg base CX0 1 fS fdS ["thing"] (spSort K) := ok_sort FS B
    refine F.ok scSame (fun vs H Q E h => ?_) (fun cdv A outer s H vs Q E hr h => ?_)
    · obtain ⟨x, y, d, rfl, _⟩ := h
      rfl
    · obtain ⟨x, y, d, rfl, hx, hy, hT, q⟩ := h
      have hr1 : Room 1 _ := hr.mono (by omega)
      refine ⟨_, pss_cons (ps_if (pt_cmpR op_ne (pe_call GS hr1 (by rfl) gS FS.kp bS .nil pass0 (pa_cons (pv 0) pa_nil)) (pe_call GS hr1 (by rfl) gS FS.kp bS .nil pass0 (pa_cons (pv 1) pa_nil)) (nomark _)) (pss_one (ps_ret pe_bl)) pss_nil)
        (pss_cons (ps_if (PW.pt (pw_and (pt_cmpR op_gt (pe_call GS hr1 (by rfl) gS FS.kp bS .nil pass0 (pa_cons (pv 0) pa_nil)) pe_int (nomark _)) (pw_and1 (pt_cmpR op_lt (pe_call GS hr1 (by rfl) gS FS.kp bS .nil pass0 (pa_cons (pv 0) pa_nil)) pe_int (nomark _)))))
          (pss_cons (ps_if (pt_cmpR op_ne (pe_callB call_len_seq (by rfl) B.len PySem.boot_len (pa_cons (pv 0) pa_nil)) (pe_callB call_len_seq (by rfl) B.len PySem.boot_len (pa_cons (pv 1) pa_nil)) (nomark _)) (pss_one (ps_ret pe_bl)) pss_nil)
          (pss_one (ps_ret (pe_cmpR (op_eqD hr.units) (pe_lc (own := [("k", 2), ("part", 3)]) (g := gTup K 2 (gCons (gName 2) (gCons (gName 3) gNil))) (tt := tNot (tB (tCall (spSame K n) [] E0 (tCons (tVar 3) (tCons (tOp (rIxT K) (tVar 1) (tVar 2)) tNil))))) rfl scSame.nd (pi_enumT (by rfl) B.enum (pa_cons (pv 0) pa_nil))
              (blkOk_by (N := ["told", "due", "k", "part"]) (sc := defScope sSame) (by decide +kernel))
              (fun _ _ _ _ _ => pg_tup rfl (pgs_cons (pg_name (i := 2) scSame.nd rfl (Or.inl rfl)) (pgs_cons (pg_name (i := 3) scSame.nd rfl (Or.inl rfl)) pgs_nil)))
              (fun _ _ _ _ _ => pts_one (pt_not (pt_val (pe_call G hr (by rfl) gF F.kp bF .nil pass0 (pa_cons (pv 3) (pa_cons (pe_ix ix_tup (pv 1) (pv 2) (fun _ _ => rfl)) pa_nil))))))
              (fun _ _ _ _ _ => pv 2)) (pe_lst pa_nil) (nomark _))))) pss_nil)
        (pss_one (ps_ret (pe_cmpR (op_eqD hr.units) (pv 0) (pv 1) (nomark _))))), ?_⟩
      refine ⟨_, rfl, x, d, rfl, hx, _, rfl, y, d, rfl, hy, rfl, _, rfl, iteNS rfl ?_⟩
      refine ⟨_, rfl, x, d, rfl, hx, _, _, rfl, rfl, _, rfl, ?_⟩
      have hT' : Flat d ∨ ∃ m ds, n = m + 1 ∧ d = .tuple ds ∧ ∀ x ∈ ds, Tp m x := by
        cases n with
        | zero => exact .inl hT
        | succ m =>
          rcases hT with h | ⟨ds, e, h⟩
          · exact .inl h
          · exact .inr ⟨m, ds, rfl, e, h⟩
      rcases hT' with hF | ⟨m, ds, rfl, rfl, hds⟩
      · have fin : tRet (tOp (rEqD K) (tVar 0) (tVar 1)) { nx := fun _ H' => Q .non H', rt := Q } (L2.start ["told", "due", "k", "part"] [x, y]) H := by
          refine ⟨_, rfl, _, rfl, d, d, hx, hy, (flat_shp hF).ok (by decide), (flat_shp hF).ok (by decide), ?_⟩
          rw [flat_eqv hF]
          exact q H (Same.refl H)
        cases c : decide ((3 : Int) < srt d) with
        | false => exact iteF (iteF fin)
        | true =>
          refine iteT ⟨_, rfl, x, d, rfl, hx, _, _, rfl, rfl, _, rfl, ?_⟩
          rw [decide_eq_false fun z => flat_sort hF ⟨of_decide_eq_true c, z⟩]
          exact iteF fin
      · cases hx with
        | @tup a xs _ sa da =>
          cases hy with
          | @tup b ys _ sb db =>
            refine iteT ⟨_, rfl, _, _, rfl, .tup sa da, _, _, rfl, rfl, _, rfl, iteT ?_⟩
            have la := dpAll_len da
            have lb := dpAll_len db
            refine ⟨_, rfl, a, xs, rfl, .inr sa, _, rfl, b, ys, rfl, .inr sb, rfl, _, rfl, ?_⟩
            rw [show ys.length = xs.length by omega]
            refine iteNS rfl ?_
            refine ⟨_, rfl, a, xs, rfl, sa, fun D hD => enumT_walk (fun i H' => Same H H' ∧ H' D = some (.lst [])) ⟨same_upd hD, upd_same⟩ (fun i H' p => p.1.seqT sa) (fun i v H' T hv p nT => ?_) (fun H' p => ?_)⟩
            · obtain ⟨sm, eD⟩ := p
              obtain ⟨d, hd, hvd⟩ := dpAll_get da hv
              have hi : i < ys.length := by
                have := (List.getElem?_eq_some_iff.mp hv).1
                omega
              obtain ⟨d2, hd2, hud⟩ := dpAll_get db (List.getElem?_eq_getElem hi)
              have e2 : d2 = d := Option.some.inj (hd2.symm.trans hd)
              subst e2
              have s1 : Same H' (upd H' T (.tup [.int (i : Nat), v])) := same_upd nT
              have s2 := sm.trans s1
              refine ⟨T, _, rfl, SqT.of upd_same, rfl, _, _, rfl, _, _, rfl, rfl, rfl, ?_⟩
              refine ⟨_, rfl, _, rfl, _, rfl, b, ys, _, _, rfl, rfl, s2.seqT sb, atI_nat (List.getElem?_eq_getElem hi), ?_⟩
              refine ⟨_, _, d2, rfl, dp_mono s2 hvd, dp_mono s2 hud, hds d2 (List.mem_of_getElem? hd), fun H3 s3 => ⟨_, rfl, iteF ?_⟩⟩
              exact ⟨s2.trans s3, s3 _ _ (s1 _ _ eD)⟩
            · obtain ⟨sm, eD⟩ := p
              refine ⟨Nat.zero_le _, fun Z hZ => ?_⟩
              have s4 : Same H' (upd H' Z (.lst [])) := same_upd hZ
              refine ⟨_, _, .lst (SqL.of (s4 _ _ eD)) .nil, .lst (SqL.of upd_same) .nil, Shp.ok (n := 1) shp_empty (by decide), Shp.ok (n := 1) shp_empty (by decide), ?_⟩
              rw [eqv_nil]
              exact q _ (sm.trans s4)
end
end RS

set_option Elab.async false
set_option linter.all false
set_option maxRecDepth 100000
set_option maxHeartbeats 2000000
namespace RS
open PySem PySem.Spec PyProof.Rows L2 HT
/-! ### truths as numbers; str of a truth -/
section
variable {X : Cx}
theorem op_add_bi : OpR X (binaryOp .Add) (fun x y H Q => ∃ k i, x = .bl k ∧ y = .int i ∧ Q (.int ((if k = true then (1 : Int) else 0) + i)) H) := by
  intro pins s σ H x y v u Q I rx ry h
  obtain ⟨k, i, rfl, rfl, q⟩ := h
  cases rx
  obtain ⟨t, rfl⟩ := ry
  exact IntBool.add_bool_int ⟨.int _, H, I.tok _, ⟨_, rfl⟩, q⟩
theorem op_sub_bi : OpR X (binaryOp .Sub) (fun x y H Q => ∃ k i, x = .bl k ∧ y = .int i ∧ Q (.int ((if k = true then (1 : Int) else 0) - i)) H) := by
  intro pins s σ H x y v u Q I rx ry h
  obtain ⟨k, i, rfl, rfl, q⟩ := h
  cases rx
  obtain ⟨t, rfl⟩ := ry
  exact IntBool.sub_bool_int ⟨.int _, H, I.tok _, ⟨_, rfl⟩, q⟩
def txtB (b : Bool) : Str := if b then "True" else "False"
theorem call_str_b : CallR X (.type "str") (fun xs H Q => ∃ b, xs = [.bl b] ∧ Q (.str (txtB b)) H) := by
  intro pins s σ H xs us Q I r h
  obtain ⟨b, rfl, q⟩ := h
  obtain ⟨u, rfl, ru⟩ := vals1 r
  cases ru
  refine callType_new PySem.F.called_str (by decide) (PySem.F.typeCall_str_1 _) (PySem.F.newCall_str_1 _) (fun obj => PySem.F.args_object_init_2 obj _) PySem.F.entry_str_new
    (meets_str_new (S := fun _ R s => R (.ok (.ret (.str (if b then "True" else "False") s.toks))) { s with toks := s.toks + 1 }) fun _ _ _ _ s hq =>
      wpAny_strOf_gives rfl (PySem.typeIs_bool s b) PySem.F.slot_bool_str PySem.F.slot_bool_repr PySem.F.entry_bool_repr (PySem.F.args_bool_repr_1 _) (gives_bool_repr b) hq (hsz := by cases b <;> decide)) ⟨typeIs_str _ _ _, ?_⟩
  exact ⟨.str _, H, I.tok _, ⟨_, rfl⟩, q⟩
/-! ### xs + ys of lists that are read -/
def rCatS (K : PySem.W.Frag) : R2 := fun x y H Q => ∃ l b xs zs, x = .ref l ∧ y = .ref b ∧ SqL K H l xs ∧ SqL K H b zs ∧ xs.length + zs.length ≤ sizeLine ∧ ∀ p, H p = none → Q (.ref p) (upd H p (.lst (xs ++ zs)))
theorem op_catS : OpR X (binaryOp .Add) (rCatS X.K) := by
  intro pins s σ H x y v u Q I rx ry h
  obtain ⟨l, b, xs, zs, rfl, rfl, hx, hz, hsz, q⟩ := h
  cases rx
  cases ry
  obtain ⟨its, r, ⟨⟨c1, d1, t1, s1⟩, n, e, ec, ed, et⟩, _⟩ := I.list hx
  obtain ⟨its2, r2, ⟨⟨c2, d2, t2, s2⟩, n2, e2, ec2, ed2, et2⟩, _⟩ := I.list hz
  simp only at ec ed et ec2 ed2 et2
  subst ec ed et ec2 ed2 et2
  have l1 := r.length
  have l2 := r2.length
  refine concat_meets ⟨_, e, rfl⟩ ⟨_, e2, rfl⟩ noFill_list_add seq_list_add PySem.F.slot_list_add PySem.F.entry_list_add (PySem.F.args_list_add_2 _ _) (list_addW l b its.toArray its2.toArray n n2 none none s1 s2 (by rw [List.size_toArray, List.size_toArray]; omega)) ⟨e, e2, ?_⟩
  rw [show its.toArray ++ its2.toArray = (its ++ its2).toArray by simp]
  exact ⟨.ref _, _, I.lnew (t' := s.toks) (r.append r2) (by rw [List.length_append]; omega), rfl, q _ I.fresh⟩
end
/-! ### t[::-1] -/
section
variable {prog : Program} {w : World} {A : Around} {E : Value → Shared → Prop} {s : Shared}
theorem places_rev (n : Nat) : Builtin.Slice.slicePlaces ((n : Int) - 1) (-1) (-1) = n := by
  unfold Builtin.Slice.slicePlaces
  rw [if_neg (by decide)]
  by_cases h : (n : Int) - 1 > -1
  · rw [if_pos h, show -(-1 : Int) = 1 by decide, Int.ediv_one]
    omega
  · rw [if_neg h]
    omega
theorem fm_congr {α β : Type} {f g : α → Option β} : ∀ {l : List α}, (∀ x ∈ l, f x = g x) → l.filterMap f = l.filterMap g
  | [], _ => rfl
  | a :: r, h => by
    rw [List.filterMap_cons, List.filterMap_cons, h a List.mem_cons_self, fm_congr fun x hx => h x (List.mem_cons_of_mem _ hx)]
theorem pick_rev (items : Array Value) : ((List.range items.size).filterMap fun (k : Nat) => items[(((items.size : Int) - 1) + (k : Int) * (-1)).toNat]?) = items.toList.reverse := by
  have e : ∀ k ∈ List.range items.size, items[(((items.size : Int) - 1) + (k : Int) * (-1)).toNat]? = items.toList.reverse[k]? := fun k hk => by
    have hk := List.mem_range.mp hk
    rw [show (((items.size : Int) - 1) + (k : Int) * (-1)).toNat = items.size - 1 - k by omega, List.getElem?_reverse (by simpa using hk), Array.length_toList, Array.getElem?_toList]
  rw [fm_congr e]
  have hl : items.size = items.toList.reverse.length := by simp
  rw [hl]
  generalize items.toList.reverse = l
  refine List.ext_getElem? fun i => ?_
  induction l generalizing i with
  | nil => rfl
  | cons a r ih =>
    rw [List.length_cons, List.range_succ_eq_map, List.filterMap_cons]
    simp only [List.getElem?_cons_zero, List.filterMap_map]
    cases i with
    | zero => rfl
    | succ i =>
      rw [List.getElem?_cons_succ, List.getElem?_cons_succ]
      exact ih i
theorem getItem_tup_rev {t sl : Addr} {items : Array Value} {u : Tok} {Q : Value → Shared → Prop} (ht : IsTup s.heap t items) (hs : s.heap.IsSliceOf sl .none .none (.int (-1) u)) (hz : items.size ≤ sizeLine)
    (h : Q (.ref s.heap.objs.size) { s with heap := s.heap.push { cls := .type "tuple", data := .seq items.toList.reverse.toArray } }) : wpAny (model prog w) A (getItem (.ref t) (.ref sl)) Q E s := by
  obtain ⟨os, hos, hcs, hds⟩ := id hs
  have hTs : s.TypeIs (.ref sl) "slice" := ⟨os, hos, hcs⟩
  have fit : sizeOk (.seq items.toList.reverse.toArray) := by
    show items.toList.reverse.toArray.size ≤ sizeLine
    simpa using hz
  unfold getItem
  try with_reducible refine wpAny_holding ?_
  first | refine wpAny_bind (wpAny_pure ?_) | skip
  refine wpAny_bind (wpAny_sequenceKey ht.typeIs (by decide) (wpAny_bind (wpAny_callSpecial?_slot (name := Str.ofString "__getitem__") ht.typeIs PyProof.Rows.slot_tuple_getitem (wpAny_call_entry PyProof.Rows.slot_tuple_getitem ht.typeIs entry_tuple_getitem ?_ (args_tuple_getitem _ _)))))
  show wpAny _ _ (Builtin.Tuple.tupleItemsOf (.ref t) >>= _) _ _ s
  refine wpAny_bind (tupleItemsOf_ ht (wpAny_bind (wpAny_typeOf hTs ?_)))
  rw [if_pos (by decide)]
  have app : ∀ (Q' : Int × Int × Nat → Shared → Prop) (E' : Value → Shared → Prop) (A' : Around), Q' (((items.size : Nat) : Int) - 1, -1, items.size) s → wpAny (model prog w) A' (Builtin.Slice.sliceApplied (.ref sl) (pure (items.size : Int))) Q' E' s := fun Q' E' A' q => by
    unfold Builtin.Slice.sliceApplied Builtin.Slice.sliceFields
    refine wpAny_bind (wpAny_bind (wpAny_field hos hds (x := .none) rfl (wpAny_bind (wpAny_field hos hds (x := .none) rfl (wpAny_bind (wpAny_field hos hds (x := .int (-1) u) rfl (wpAny_pure ?_)))))))
    refine wpAny_bind (slicePart_ (IsPart.int (-1) u) ?_)
    show wpAny _ _ (if ((-1 : Int) == 0) = true then _ else _) _ _ s
    rw [if_neg (by decide)]
    refine wpAny_bind (slicePart_none (wpAny_bind (slicePart_none (wpAny_bind (wpAny_pure ?_)))))
    show wpAny _ _ (pure (((items.size : Nat) : Int) - 1, (-1 : Int), Builtin.Slice.slicePlaces (((items.size : Nat) : Int) - 1) (-1) (-1))) _ _ s
    rw [places_rev]
    exact wpAny_pure q
  refine wpAny_bind (app _ _ _ ?_)
  show wpAny _ _ (if ((((items.size : Nat) : Int) - 1) == 0 && (-1 : Int) == 1 && items.size == items.size) = true then _ else _) _ _ s
  rw [if_neg (by rw [show ((-1 : Int) == 1) = false from rfl, Bool.and_false, Bool.false_and]; exact Bool.false_ne_true), pick_rev]
  first
    | exact wpAny_bind (m := Builtin.Tuple.tupleExact _) (wpAny_newObj_type (wpAny_pure ⟨_, rfl, wpAny_pure h⟩) fit)
    | exact wpAny_bind (m := Builtin.Tuple.tupleExact _) (wpAny_newObj_type (wpAny_bind (wpAny_pure (wpAny_pure ⟨_, rfl, wpAny_pure h⟩))) fit)
    | exact wpAny_bind (wpAny_bind (m := Builtin.Tuple.tupleExact _) (wpAny_newObj_type (wpAny_pure (wpAny_pure ⟨_, rfl, wpAny_pure h⟩)) fit))
end
/-- x[::-1], a list or a tuple -/
def rRevS (K : PySem.W.Frag) (x : V) (H1 : Hp) (Q : VK) : Prop := ∃ a xs, x = .ref a ∧ ((SqL K H1 a xs ∧ ∀ p, H1 p = none → Q (.ref p) (upd H1 p (.lst xs.reverse))) ∨ (SqT K H1 a xs ∧ ∀ p, H1 p = none → Q (.ref p) (upd H1 p (.tup xs.reverse))))
def tRevS (K : PySem.W.Frag) (te : TE) : TE := fun σ H Q => te σ H fun x H1 => rRevS K x H1 Q
theorem pe_revS {X : Cx} {e : Expr} {te : TE} {k : Nat} {p1 p2 p3 pos : Pos} (he : PE X e te) : PE X (.Subscript e (.Slice none none (some (.UnaryOp .USub (.Constant (.int 1) k p1) p2)) p3) pos) (tRevS X.K te) := by
  refine ⟨fun pins s σ H Q I h => Subscript_ (thn (he.run pins s σ H _ I h) fun v s1 hq => ?_)⟩
  obtain ⟨x, H1, I1, r1, a, xs, ex, q⟩ := hq
  subst ex
  cases r1
  have step : PO X (some (.UnaryOp .USub (.Constant (.int 1) k p1) p2)) (tPart (tUn (rU fun i => .int (-i)) (tC (.int 1)))) := po_some (pe_un un_neg pe_int)
  refine wpAny_Slice (thn (po_none.run pins s1 σ H1 (fun o H2 => o = none ∧ H2 = H1) I1 ⟨rfl, rfl⟩) fun vl s2 hl => ?_)
  obtain ⟨l, H2, I2, pl, rfl, rfl⟩ := hl
  refine thn (po_none.run pins s2 σ H2 (fun o H3 => o = none ∧ H3 = H2) I2 ⟨rfl, rfl⟩) fun vu s3 hu => ?_
  obtain ⟨u, H3, I3, pu, rfl, rfl⟩ := hu
  refine thn (step.run pins s3 σ H3 (fun o H4 => o = some (-1) ∧ H4 = H3) I3 ⟨1, rfl, -1, rfl, rfl, rfl⟩) fun vs s4 hv => ?_
  obtain ⟨o, H4, I4, ps, rfl, rfl⟩ := hv
  cases pl
  cases pu
  cases ps
  rename_i u
  have I5 : Inv X pins σ H4 { s4 with heap := s4.heap.push { cls := .type "slice", data := .fields #[.none, .none, .int (-1) u] } } := I4.kept (t' := s4.toks) fun b ob z => Heap.get?_push_of_some _ z
  show wpAny (model X.prog X.w) X.A (subscriptTail e (.Slice none none (some (.UnaryOp .USub (.Constant (.int 1) k p1) p2)) p3) (.ref a) (.ref s4.heap.objs.size)) (EP X pins σ Q) X.xe ⟨s4.heap.push { cls := .type "slice", data := .fields #[.none, .none, .int (-1) u] }, s4.gens, s4.drawn, s4.toks, s4.os⟩
  rcases q with ⟨hx, q⟩ | ⟨hx, q⟩
  · obtain ⟨its, r, ht, hz⟩ := I5.list hx
    have hlen := r.length
    refine tail_any (ops := [.ref a, .ref s4.heap.objs.size]) ht.isList.typeIs (PySem.slot_list_getitem.lookup) ?_ (by with_unfolding_all rfl)
    refine wpAny_getItem_list_slice ht.isList (Heap.IsSliceOf.new _ .none .none (.int (-1) u)) .none .none (.int _ _) (by decide) ?_ (by rw [List.size_toArray]; omega)
    rw [PySem.W.krv_pick]
    have J := I5.laid (t' := s4.toks) (o := .lst xs.reverse) (fun b ob z => Heap.get?_push_of_some { cls := .type "list", data := .seq its.toArray.toList.reverse.toArray } z) (Nat.le_refl _) ⟨by rw [List.length_reverse]; exact hz, _, 0, r.reverse, Heap.get?_push_size _ rfl⟩
    exact ⟨.ref _, _, J, rfl, q _ (I5.hok.fresh (Nat.le_refl _))⟩
  · obtain ⟨its, r, ht, hz⟩ := I5.tuple hx
    have hlen := r.length
    refine tail_any (ops := [.ref a, .ref s4.heap.objs.size]) ht.typeIs (PyProof.Rows.slot_tuple_getitem.lookup) ?_ (by with_unfolding_all rfl)
    refine getItem_tup_rev ht (Heap.IsSliceOf.new _ .none .none (.int (-1) u)) (by rw [List.size_toArray]; omega) ?_
    have J := I5.laid (t' := s4.toks) (o := .tup xs.reverse) (fun b ob z => Heap.get?_push_of_some { cls := .type "tuple", data := .seq its.toArray.toList.reverse.toArray } z) (Nat.le_refl _) ⟨by rw [List.length_reverse]; exact hz, its.toArray.toList.reverse, r.reverse, _, Heap.get?_push_size _ rfl, rfl, _, rfl⟩
    exact ⟨.ref _, _, J, rfl, q _ (I5.hok.fresh (Nat.le_refl _))⟩
end RS

set_option Elab.async false
set_option linter.all false
set_option maxRecDepth 100000
set_option maxHeartbeats 2000000
namespace RS
open PySem PySem.Spec PyProof.Rows L2
section
variable {P : Program} {w : World} {K : PySem.W.Frag} {mg : Str → Option Value} {base : Heap}
/-- where one stands: but the deck all is as it was, the thing is still the data d -/
structure Cur (K : PySem.W.Frag) (p : Addr) (H : Hp) (v : V) (d : PyData) (Hc : Hp) (n : Nat) : Prop where
  but : But p H Hc
  dk : Deck Hc p n
  dp : Dp K (hide p Hc) v d
theorem Cur.ne {p a : Addr} {H Hc : Hp} {v : V} {d : PyData} {n : Nat} (c : Cur K p H v d Hc n) (h : Hc a = none) : a ≠ p := by
  obtain ⟨_, _, _, e, _⟩ := c.dk
  exact (ne_of_none e h).symm
theorem Cur.new {p a : Addr} {H Hc : Hp} {v : V} {d : PyData} {n : Nat} {o : HO} (c : Cur K p H v d Hc n) (h : Hc a = none) : Cur K p H v d (upd Hc a o) n :=
  ⟨c.but.trans (But.of (same_upd h)), c.dk.put (c.ne h), dp_mono (hide_mono (same_upd h)) c.dp⟩
theorem Cur.pick {p : Addr} {H Hc H' : Hp} {v : V} {d : PyData} {n m : Nat} (c : Cur K p H v d Hc n) (b : But p Hc H') (dk : Deck H' p m) : Cur K p H v d H' m := ⟨c.but.trans b, dk, dp_mono b.hide c.dp⟩
theorem Cur.now {p : Addr} {H Hc : Hp} {v : V} {d : PyData} {n : Nat} (c : Cur K p H v d Hc n) : Dp K Hc v d := dp_mono hide_same c.dp
/-- an item of a list, by a draw -/
theorem pick_of {p l : Addr} {H Hl : Hp} {xs : List V} {ds : List PyData} {n : Nat} {size : Int} {Q : VK} (hl : Hl l = some (.lst xs)) (nl : l ≠ p) (dk : Deck Hl p n) (hn : n ≤ 1000000) (hz : size = xs.length) (h1 : 1 ≤ xs.length) (h2 : xs.length ≤ 1000) (bt : But p H Hl) (da : DpAll K (hide p Hl) xs ds)
    (q : ∀ H' v' d', But p H H' → Deck H' p (n + 1) → Dp K (hide p H') v' d' → d' ∈ ds → Q v' H') : spPick [.ref p, .int size] Hl (fun y H2 => rIxL K (.ref l) y H2 Q) E0 := by
  subst hz
  refine ⟨p, _, n, rfl, by omega, by omega, dk, hn, fun H' r b d hr => ?_⟩
  have hr' : r < xs.length := by omega
  obtain ⟨d', e1, e2⟩ := dpAll_get da (List.getElem?_eq_getElem hr')
  exact ⟨l, xs, _, xs[r], rfl, rfl, SqL.of (b _ _ nl hl), atI_nat (List.getElem?_eq_getElem hr'), q H' _ d' (bt.trans b) d (dp_mono b.hide e2) (List.mem_of_getElem? e1)⟩
def isSeq : PyData → Bool
  | .tuple _ => true
  | .list _ => true
  | _ => false
theorem kit2 {H : Hp} {v : V} {d : PyData} (h : Dp K H v d) : PySem.W.kitAny K (.type (tyN d)) [.type "tuple", .type "list"] = some (isSeq d) := by
  refine kitAny_cons (kit_of_data (by decide) h) (fun e => kitAny_cons (kit_of_data (by decide) h) (fun e2 => ?_) fun e2 => ?_) fun e => ?_
  · rw [kitAny_nil]
    cases h <;> first | rfl | exact Bool.noConfusion e | exact Bool.noConfusion e2
  · cases h <;> first | rfl | exact Bool.noConfusion e2
  · cases h <;> first | rfl | exact Bool.noConfusion e
theorem strOk_of (x : String) : PyData.strOk (Str.ofString x) = true := by
  rw [Str.ofString_eq_toList]
  unfold PyData.strOk
  rw [List.all_toArray, List.all_eq_true]
  intro c hc
  obtain ⟨a, _, rfl⟩ := List.mem_map.mp hc
  refine decide_eq_true ?_
  rcases a.valid with h | h
  · have h : a.val.toNat < 0xd800 := h
    show a.val.toNat < _
    omega
  · exact h.2
theorem shp_txt {n : Nat} (x : String) : Shp n (.str (Str.ofString x)) := shp_str (by simp only [PyData.canLay0]; exact strOk_of x)
/-! ### _law_odd -/
def spOdd (K : PySem.W.Frag) : Sp := fun vs H Q _ => ∃ (p : Addr) (n : Nat), vs = [.ref p] ∧ Deck H p n ∧ n ≤ 100000 ∧ ∀ H' v d, But p H H' → Deck H' p (n + 1) → Dp K (hide p H') v d → Shp 5 d → Q v H'
theorem scOdd : FnScope ["deck", "some"] ["deck"] (defScope sOdd) := ⟨rfl, rfl, rfl, by decide +kernel, rfl, by decide +kernel, by decide +kernel⟩
theorem tupD {p a : Addr} {H : Hp} {xs : List V} {ds : List PyData} (h : H a = some (.tup xs)) (n : a ≠ p) (da : DpAll K (hide p H) xs ds) : Dp K (hide p H) (.ref a) (.tuple ds) := .tup (SqT.of (by rw [hide_ne n]; exact h)) da
theorem lstD {p a : Addr} {H : Hp} {xs : List V} {ds : List PyData} (h : H a = some (.lst xs)) (n : a ≠ p) (da : DpAll K (hide p H) xs ds) : Dp K (hide p H) (.ref a) (.list ds) := .lst (SqL.of (by rw [hide_ne n]; exact h)) da
theorem ok_odd {f fO fP : Addr} {fd fdO fdP : FuncData} {k : Nat} (F : Fun K "_law_odd" "_law_odd" sOdd f fd) (FO : Fun K "_law_one" "_law_one" sOne fO fdO) (bO : Binds K fdO ["deck", "some"] []) (gO : mg "_law_one" = some (.ref fO)) (FP : Fun K "_law_pick" "_law_pick" sPick fP fdP) (bP : Binds K fdP ["deck", "size"] []) (gP : mg "_law_pick" = some (.ref fP)) (B : Bn mg) :
    FnOk P w K mg base CX0 (k + 3) f fd ["deck"] (spOdd K) := by
  have GO : FnOk P w K mg base CX0 (k + 2) fO fdO ["deck", "some"] (spOne K) := ok_one FO FP bP gP B
  refine F.ok scOdd (fun vs H Q E h => ?_) (fun cdv A outer s H vs Q E hr h => ?_)
  · obtain ⟨p, n, rfl, _⟩ := h
    rfl
  · obtain ⟨p, n, rfl, hd, hn, q⟩ := h
    refine ⟨_, pss_cons (ps_set (i := 1) scOdd.nd rfl (Or.inl rfl) (pe_lst (pa_cons pe_non (pa_cons pe_bl (pa_cons pe_str (pa_cons pe_str (pa_cons (pe_tup pa_nil) (pa_cons (pe_lst pa_nil) (pa_cons (pe_tup (pa_cons (pe_tup pa_nil) pa_nil)) (pa_cons pe_int (pa_cons (pe_un un_neg pe_int) (pa_cons (pe_op op_pow pe_int pe_int)
        (pa_cons (pe_tup (pa_cons pe_int (pa_cons pe_int pa_nil))) (pa_cons (pe_tup (pa_cons (pe_tup (pa_cons pe_int (pa_cons pe_int pa_nil))) pa_nil)) (pa_cons (pe_tup (pa_cons (pe_tup (pa_cons pe_int (pa_cons pe_int pa_nil))) (pa_cons (pe_tup (pa_cons pe_int (pa_cons pe_int pa_nil))) pa_nil)))
        (pa_cons (pe_tup (pa_cons pe_str (pa_cons pe_int (pa_cons pe_int pa_nil)))) pa_nil))))))))))))))))
      (pss_one (ps_ret (pe_call GO hr (by rfl) gO FO.kp bO .nil pass0 (pa_cons (pv 0) (pa_cons (pv 1) pa_nil))))), ?_⟩
    have c0 : Cur K p H .non .none H n := ⟨But.refl H, hd, .non⟩
    refine ⟨Nat.zero_le _, fun a1 n1 => ⟨Nat.zero_le _, fun a2 n2 => ⟨Nat.zero_le _, fun a3 n3 => ⟨(by show 1 ≤ sizeLine; decide), fun a4 n4 => ⟨_, rfl, _, _, rfl, rfl, ⟨by decide, by decide, by decide⟩, (by show 2 ≤ sizeLine; decide), fun a5 n5 => ⟨(by show 2 ≤ sizeLine; decide), fun a6 n6 => ⟨(by show 1 ≤ sizeLine; decide), fun a7 n7 => ⟨(by show 2 ≤ sizeLine; decide), fun a8 n8 => ⟨(by show 2 ≤ sizeLine; decide), fun a9 n9 => ⟨(by show 2 ≤ sizeLine; decide), fun b1 m1 => ⟨(by show 3 ≤ sizeLine; decide), fun b2 m2 => ⟨(by show 14 ≤ sizeLine; decide), fun l nl => ?_⟩⟩⟩⟩⟩⟩⟩⟩⟩⟩⟩⟩
    have c1 := c0.new (o := .tup []) n1
    have c2 := c1.new (o := .lst []) n2
    have c3 := c2.new (o := .tup []) n3
    have c4 := c3.new (o := .tup [.ref a3]) n4
    have c5 := c4.new (o := .tup [.int 1, .int 2]) n5
    have c6 := c5.new (o := .tup [.int 0, .int 1]) n6
    have c7 := c6.new (o := .tup [.ref a6]) n7
    have c8 := c7.new (o := .tup [.int 0, .int 1]) n8
    have c9 := c8.new (o := .tup [.int 1, .int 2]) n9
    have d1 := c9.new (o := .tup [.ref a8, .ref a9]) m1
    have d2 := d1.new (o := .tup [.str "apart", .int 0, .int 1]) m2
    have nlp := d2.ne nl
    have xsE : ∃ xs : List V, xs = [.non, .bl true, .str "", .str "a", .ref a1, .ref a2, .ref a4, .int 7, .int (-1), .int (10 ^ (30 : Int).toNat), .ref a5, .ref a7, .ref b1, .ref b2] := ⟨_, rfl⟩
    obtain ⟨xs, exs⟩ := xsE
    have t13 := same_upd (o := .lst xs) nl
    have t12 := (same_upd (o := .tup [.str "apart", .int 0, .int 1]) m2).trans t13
    have t11 := (same_upd (o := .tup [.ref a8, .ref a9]) m1).trans t12
    have t10 := (same_upd (o := .tup [.int 1, .int 2]) n9).trans t11
    have t9 := (same_upd (o := .tup [.int 0, .int 1]) n8).trans t10
    have t8 := (same_upd (o := .tup [.ref a6]) n7).trans t9
    have t7 := (same_upd (o := .tup [.int 0, .int 1]) n6).trans t8
    have t6 := (same_upd (o := .tup [.int 1, .int 2]) n5).trans t7
    have t5 := (same_upd (o := .tup [.ref a3]) n4).trans t6
    have t4 := (same_upd (o := .tup []) n3).trans t5
    have t3 := (same_upd (o := .lst []) n2).trans t4
    have e1 := tupD (K := K) (t3 _ _ upd_same) (c0.ne n1) .nil
    have e2 := lstD (K := K) (t4 _ _ upd_same) (c1.ne n2) .nil
    have e3 := tupD (K := K) (t5 _ _ upd_same) (c2.ne n3) .nil
    have e4 := tupD (K := K) (t6 _ _ upd_same) (c3.ne n4) (.cons e3 .nil)
    have e5 := tupD (K := K) (t7 _ _ upd_same) (c4.ne n5) (.cons (.int 1) (.cons (.int 2) .nil))
    have e6 := tupD (K := K) (t8 _ _ upd_same) (c5.ne n6) (.cons (.int 0) (.cons (.int 1) .nil))
    have e7 := tupD (K := K) (t9 _ _ upd_same) (c6.ne n7) (.cons e6 .nil)
    have e8 := tupD (K := K) (t10 _ _ upd_same) (c7.ne n8) (.cons (.int 0) (.cons (.int 1) .nil))
    have e9 := tupD (K := K) (t11 _ _ upd_same) (c8.ne n9) (.cons (.int 1) (.cons (.int 2) .nil))
    have e10 := tupD (K := K) (t12 _ _ upd_same) (c9.ne m1) (.cons e8 (.cons e9 .nil))
    have e11 := tupD (K := K) (t13 _ _ upd_same) (d1.ne m2) (.cons (.str "apart") (.cons (.int 0) (.cons (.int 1) .nil)))
    have da := DpAll.cons .non (DpAll.cons (.bl true) (DpAll.cons (.str "") (DpAll.cons (.str "a") (DpAll.cons e1 (DpAll.cons e2 (DpAll.cons e4 (DpAll.cons (.int 7) (DpAll.cons (.int (-1)) (DpAll.cons (.int (10 ^ (30 : Int).toNat)) (DpAll.cons e5 (DpAll.cons e7 (DpAll.cons e10 (DpAll.cons e11 .nil)))))))))))))
    have d3 := d2.new (o := .lst xs) nl
    subst exs
    refine ⟨_, rfl, _, rfl, p, l, _, n, rfl, d3.dk, by omega, SqL.of (by rw [hide_ne nlp]; exact upd_same), (by show 1 ≤ 14; decide), (by show 14 ≤ 1000; decide), fun H' x b dk hx => ?_⟩
    obtain ⟨i, hi⟩ := List.mem_iff_getElem?.mp hx
    obtain ⟨d, hd1, hd2⟩ := dpAll_get da hi
    have hd3 := List.mem_of_getElem? hd1
    refine q H' x d (d3.but.trans b) dk (dp_mono b.hide hd2) ?_
    have ss : ∀ {k : Nat}, Shp k (.str "") ∧ Shp k (.str "a") ∧ Shp k (.str "apart") := fun {k} => ⟨shp_txt _, shp_txt _, shp_txt _⟩
    simp only [List.mem_cons, List.not_mem_nil, or_false] at hd3
    rcases hd3 with h | h | h | h | h | h | h | h | h | h | h | h | h | h <;> rw [h]
    · exact shp_none
    · exact shp_bool
    · exact ss.1
    · exact ss.2.1
    · exact shp_tup.mpr fun _ z => absurd z (by simp)
    · exact shp_list.mpr fun _ z => absurd z (by simp)
    · refine shp_tup.mpr fun _ z => ?_
      rw [List.mem_singleton.mp z]
      exact shp_tup.mpr fun _ z => absurd z (by simp)
    · exact shp_int
    · exact shp_int
    · exact shp_int
    · refine shp_tup.mpr fun _ z => ?_
      simp only [List.mem_cons, List.not_mem_nil, or_false] at z
      rcases z with z | z <;> rw [z] <;> exact shp_int
    · refine shp_tup.mpr fun _ z => ?_
      rw [List.mem_singleton.mp z]
      refine shp_tup.mpr fun _ z => ?_
      simp only [List.mem_cons, List.not_mem_nil, or_false] at z
      rcases z with z | z <;> rw [z] <;> exact shp_int
    · refine shp_tup.mpr fun _ z => ?_
      simp only [List.mem_cons, List.not_mem_nil, or_false] at z
      rcases z with z | z <;> rw [z] <;> refine shp_tup.mpr fun _ z => ?_ <;> simp only [List.mem_cons, List.not_mem_nil, or_false] at z <;> rcases z with z | z <;> rw [z] <;> exact shp_int
    · refine shp_tup.mpr fun _ z => ?_
      simp only [List.mem_cons, List.not_mem_nil, or_false] at z
      rcases z with z | z | z <;> rw [z] <;> first | exact shp_int | exact ss.2.2
end
end RS

set_option Elab.async false
set_option linter.all false
set_option maxRecDepth 100000
set_option maxHeartbeats 4000000
namespace RS
open PySem PySem.Spec PyProof.Rows L2
theorem flat_dp {K : PySem.W.Frag} {H H' : Hp} {v : V} {d : PyData} (f : Flat d) (h : Dp K H v d) : Dp K H' v d := by
  cases h with
  | non => exact .non
  | bl b => exact .bl b
  | int i => exact .int i
  | str x => exact .str x
  | lst _ _ => exact f.elim
  | tup _ _ => exact f.elim
theorem dpAll_set {K : PySem.W.Frag} {H : Hp} {v : V} {d : PyData} (h : Dp K H v d) : ∀ {vs : List V} {ds : List PyData} (i : Nat), DpAll K H vs ds → DpAll K H (vs.set i v) (ds.set i d)
  | _, _, _, .nil => .nil
  | _, _, 0, .cons _ t => .cons h t
  | _, _, i + 1, .cons a t => .cons a (dpAll_set h i t)
theorem dpAll_app {K : PySem.W.Frag} {H : Hp} : ∀ {vs ws : List V} {ds es : List PyData}, DpAll K H vs ds → DpAll K H ws es → DpAll K H (vs ++ ws) (ds ++ es)
  | _, _, _, _, .nil, h => h
  | _, _, _, _, .cons a t, h => .cons a (dpAll_app t h)
theorem dpAll_take {K : PySem.W.Frag} {H : Hp} : ∀ {vs : List V} {ds : List PyData} (i : Nat), DpAll K H vs ds → DpAll K H (vs.take i) (ds.take i)
  | _, _, 0, _ => .nil
  | _, _, _ + 1, .nil => .nil
  | _, _, i + 1, .cons a t => .cons a (dpAll_take i t)
theorem dpAll_drop {K : PySem.W.Frag} {H : Hp} : ∀ {vs : List V} {ds : List PyData} (i : Nat), DpAll K H vs ds → DpAll K H (vs.drop i) (ds.drop i)
  | _, _, 0, h => h
  | _, _, _ + 1, .nil => .nil
  | _, _, i + 1, .cons _ t => dpAll_drop i t
theorem dpAll_rev {K : PySem.W.Frag} {H : Hp} : ∀ {vs : List V} {ds : List PyData}, DpAll K H vs ds → DpAll K H vs.reverse ds.reverse
  | _, _, .nil => .nil
  | _, _, .cons a t => by
    rw [List.reverse_cons, List.reverse_cons]
    exact dpAll_snoc (dpAll_rev t) a
theorem cut_take1 (xs : List V) : cutV xs none (some 1) = xs.take 1 := by
  unfold cutV
  rw [HT.sIx_none, show HT.sIx xs.length xs.length (some 1) = min 1 xs.length from HT.sIx_nat xs.length xs.length 1]
  cases xs with
  | nil => rfl
  | cons a r =>
    rw [List.length_cons, show min 1 (r.length + 1) = 1 by omega]
    rfl
theorem cut_drop1 (xs : List V) : cutV xs (some 1) none = xs.drop 1 := by
  unfold cutV
  rw [show HT.sIx xs.length 0 (some 1) = min 1 xs.length from HT.sIx_nat xs.length 0 1, HT.sIx_none]
  cases xs with
  | nil => rfl
  | cons a r =>
    rw [List.length_cons, show min 1 (r.length + 1) = 1 by omega]
    show List.take (r.length + 1 - 1) r = r
    rw [Nat.add_sub_cancel, List.take_length]
/-! ### what the spoilt things are -/
structure Cl (Pre0 Post0 Pre Post : PyData → Prop) : Prop where
  itT : ∀ ds, Pre (.tuple ds) → ds.length ≤ 900 ∧ ∀ x ∈ ds, Pre0 x
  itL : ∀ ds, Pre (.list ds) → ds.length ≤ 900 ∧ ∀ x ∈ ds, Pre0 x
  fl0 : ∀ d, Post0 d → Flat d
  reT : ∀ ds i x, Pre (.tuple ds) → Post0 x → Post (.tuple (ds.set i x))
  reL : ∀ ds i x, Pre (.list ds) → Post0 x → Post (.list (ds.set i x))
  otT : ∀ ds, Pre (.tuple ds) → Post (.list ds) ∧ Post (.tuple (ds ++ ds.take 1)) ∧ Post (.tuple (ds.drop 1)) ∧ Post (.tuple ds.reverse)
  otL : ∀ ds, Pre (.list ds) → Post (.tuple ds) ∧ Post (.list (ds ++ ds.take 1)) ∧ Post (.list (ds.drop 1)) ∧ Post (.list ds.reverse)
  int : ∀ i, Pre (.int i) → i.natAbs.log2 < 1920 ∧ Post (.int (i + 1)) ∧ Post (.int (i - 1))
  few : ∀ i : Int, -5 ≤ i → i ≤ 1000000000 → Post (.int i)
  txt : ∀ x : String, Post (.str (Str.ofString x))
  non : Post .none
  tru : Post (.bool true)
def sqD : Bool → List PyData → PyData
  | true, ds => .tuple ds
  | false, ds => .list ds
theorem isSeq_some {d : PyData} (h : isSeq d = true) : ∃ k ds, d = sqD k ds := by
  cases d with
  | tuple ds => exact ⟨true, ds, rfl⟩
  | list ds => exact ⟨false, ds, rfl⟩
  | none => cases h
  | bool _ => cases h
  | int _ => cases h
  | str _ => cases h
  | dict _ => cases h
/-- a sequence at a: a tuple or a list -/
def Sq (K : PySem.W.Frag) (H : Hp) : Bool → Addr → List V → Prop
  | true, a, xs => SqT K H a xs
  | false, a, xs => SqL K H a xs
theorem Sq.mono {K : PySem.W.Frag} {H H' : Hp} {k : Bool} {a : Addr} {xs : List V} (h : Sq K H k a xs) (s : Same H H') : Sq K H' k a xs := by
  cases k with
  | true => exact s.seqT h
  | false => exact s.seq h
theorem Sq.or {K : PySem.W.Frag} {H : Hp} {k : Bool} {a : Addr} {xs : List V} (h : Sq K H k a xs) : SqL K H a xs ∨ SqT K H a xs := by
  cases k with
  | true => exact .inr h
  | false => exact .inl h
theorem dp_sq {K : PySem.W.Frag} {H : Hp} {k : Bool} {v : V} {ds : List PyData} (h : Dp K H v (sqD k ds)) : ∃ a xs, v = .ref a ∧ Sq K H k a xs ∧ DpAll K H xs ds := by
  cases k with
  | true =>
    cases h with
    | tup hs ha => exact ⟨_, _, rfl, hs, ha⟩
  | false =>
    cases h with
    | lst hs ha => exact ⟨_, _, rfl, hs, ha⟩
theorem sq_dp {K : PySem.W.Frag} {H : Hp} {k : Bool} {a : Addr} {xs : List V} {ds : List PyData} (h : Sq K H k a xs) (ha : DpAll K H xs ds) : Dp K H (.ref a) (sqD k ds) := by
  cases k with
  | true => exact .tup h ha
  | false => exact .lst h ha
theorem whole_cut {xs : List V} {lo hi : Option Int} (h : HT.sIx xs.length 0 lo = 0 ∧ HT.sIx xs.length xs.length hi = xs.length) : cutV xs lo hi = xs := by
  unfold cutV
  rw [h.1, h.2]
  show List.take (xs.length - 0) xs = xs
  rw [Nat.sub_zero, List.take_length]
/-- all but p and z -/
def hid (p z : Addr) (H : Hp) : Hp := hide z (hide p H)
theorem hid_same {p z : Addr} {H : Hp} : Same (hid p z H) H := (hide_same (p := z)).trans hide_same
theorem hid_mono {p z : Addr} {H H' : Hp} (s : Same H H') : Same (hid p z H) (hid p z H') := hide_mono (hide_mono s)
theorem hid_ne {p z b : Addr} {H : Hp} (h : b ≠ p ∧ b ≠ z) : hid p z H b = H b := by
  unfold hid
  rw [hide_ne h.2, hide_ne h.1]
theorem hid_self {p : Addr} {H : Hp} : hid p p H = hide p H := by
  funext b
  unfold hid hide
  by_cases h : b = p
  · rw [if_pos h, if_pos h]
  · rw [if_neg h]
theorem But.hid {p z : Addr} {H H' : Hp} (b : But p H H') : Same (hid p z H) (hid p z H') := hide_mono b.hide
structure Cuz (K : PySem.W.Frag) (p z : Addr) (H : Hp) (v : V) (d : PyData) (Hc : Hp) (n : Nat) : Prop where
  but : But p H Hc
  dk : Deck Hc p n
  zn : Hc z ≠ none
  dp : Dp K (hid p z Hc) v d
section
variable {K : PySem.W.Frag} {p z a : Addr} {H Hc H' : Hp} {v : V} {d : PyData} {n m : Nat} {o : HO}
theorem Cuz.ne (c : Cuz K p z H v d Hc n) (h : Hc a = none) : a ≠ p ∧ a ≠ z := by
  obtain ⟨_, _, _, e, _⟩ := c.dk
  refine ⟨(ne_of_none e h).symm, fun x => ?_⟩
  subst x
  exact c.zn h
theorem some_same (h : H z ≠ none) (s : Same H H') : H' z ≠ none := fun x => by
  cases e : H z with
  | none => exact h e
  | some o => rw [s z o e] at x; cases x
theorem some_but (h : H z ≠ none) (b : But p H H') (dk : Deck H' p n) : H' z ≠ none := fun x => by
  by_cases hz : z = p
  · subst hz
    obtain ⟨_, _, _, e, _⟩ := dk
    rw [e] at x
    cases x
  · cases e : H z with
    | none => exact h e
    | some o => rw [b z o hz e] at x; cases x
theorem Cuz.new (c : Cuz K p z H v d Hc n) (h : Hc a = none) : Cuz K p z H v d (upd Hc a o) n :=
  ⟨c.but.trans (But.of (same_upd h)), c.dk.put (c.ne h).1, some_same c.zn (same_upd h), dp_mono (hid_mono (same_upd h)) c.dp⟩
theorem Cuz.pick (c : Cuz K p z H v d Hc n) (b : But p Hc H') (dk : Deck H' p m) : Cuz K p z H v d H' m := ⟨c.but.trans b, dk, some_but c.zn b dk, dp_mono b.hid c.dp⟩
theorem Cuz.now (c : Cuz K p z H v d Hc n) : Dp K Hc v d := dp_mono hid_same c.dp
theorem Cuz.same (c : Cuz K p z H v d Hc n) (s : Same Hc H') : Cuz K p z H v d H' n := ⟨c.but.trans (But.of s), c.dk.same s, some_same c.zn s, dp_mono (hid_mono s) c.dp⟩
theorem pick_oz {l : Addr} {Hl : Hp} {xs : List V} {ds : List PyData} {size : Int} {Q : VK} (hl : Hl l = some (.lst xs)) (nl : l ≠ p ∧ l ≠ z) (dk : Deck Hl p n) (hn : n ≤ 1000000) (hz : size = xs.length) (h1 : 1 ≤ xs.length) (h2 : xs.length ≤ 1000) (bt : But p H Hl) (da : DpAll K (hid p z Hl) xs ds)
    (q : ∀ H' v' d', But p H H' → Deck H' p (n + 1) → Dp K (hid p z H') v' d' → d' ∈ ds → Q v' H') : spPick [.ref p, .int size] Hl (fun y H2 => rIxL K (.ref l) y H2 Q) E0 := by
  subst hz
  refine ⟨p, _, n, rfl, by omega, by omega, dk, hn, fun H' r b d hr => ?_⟩
  have hr' : r < xs.length := by omega
  obtain ⟨d', e1, e2⟩ := dpAll_get da (List.getElem?_eq_getElem hr')
  exact ⟨l, xs, _, xs[r], rfl, rfl, SqL.of (b _ _ nl.1 hl), atI_nat (List.getElem?_eq_getElem hr'), q H' _ d' (bt.trans b) d (dp_mono b.hid e2) (List.mem_of_getElem? e1)⟩
theorem tupz {xs : List V} {ds : List PyData} (h : H a = some (.tup xs)) (n : a ≠ p ∧ a ≠ z) (da : DpAll K (hid p z H) xs ds) : Dp K (hid p z H) (.ref a) (.tuple ds) := .tup (SqT.of (by rw [hid_ne n]; exact h)) da
theorem lstz {xs : List V} {ds : List PyData} (h : H a = some (.lst xs)) (n : a ≠ p ∧ a ≠ z) (da : DpAll K (hid p z H) xs ds) : Dp K (hid p z H) (.ref a) (.list ds) := .lst (SqL.of (by rw [hid_ne n]; exact h)) da
end
theorem slice_ok {K : PySem.W.Frag} {p z : Addr} {k : Bool} {v : V} {ds es : List PyData} {Hc : Hp} {lo hi : Option Int} {Q : VK} (hp : ∀ a, Hc a = none → a ≠ p ∧ a ≠ z) (h : Dp K (hid p z Hc) v (sqD k ds)) (hcut : ∀ {H : Hp} {vs : List V}, DpAll K H vs ds → DpAll K H (cutV vs lo hi) es)
    (q : ∀ y H', Same Hc H' → Dp K (hid p z H') y (sqD k es) → Q y H') : rSlA K v lo hi Hc Q ∨ rSlL K v lo hi Hc Q := by
  obtain ⟨a, xs, rfl, hs, ha⟩ := dp_sq h
  cases k with
  | true =>
    refine .inl ⟨a, xs, rfl, hid_same.seqT hs, fun hw => q _ Hc (Same.refl _) (.tup hs ?_), fun _ r hr => q _ _ (same_upd hr) (.tup (SqT.of (by rw [hid_ne (hp r hr)]; exact upd_same)) (hcut (dpAll_mono (hid_mono (same_upd hr)) ha)))⟩
    rw [← whole_cut hw]
    exact hcut ha
  | false => exact .inr ⟨a, xs, rfl, hid_same.seq hs, fun r hr => q _ _ (same_upd hr) (.lst (SqL.of (by rw [hid_ne (hp r hr)]; exact upd_same)) (hcut (dpAll_mono (hid_mono (same_upd hr)) ha)))⟩
theorem cat_ok {K : PySem.W.Frag} {p z : Addr} {k : Bool} {x y : V} {ds es : List PyData} {Hc : Hp} {Q : VK} (hp : ∀ a, Hc a = none → a ≠ p ∧ a ≠ z) (h : Dp K (hid p z Hc) x (sqD k ds)) (h2 : Dp K (hid p z Hc) y (sqD k es)) (hl : ds.length + es.length ≤ sizeLine)
    (q : ∀ y H', Same Hc H' → Dp K (hid p z H') y (sqD k (ds ++ es)) → Q y H') : rCatA K x y Hc Q ∨ rCatS K x y Hc Q := by
  obtain ⟨a, xs, rfl, hs, ha⟩ := dp_sq h
  obtain ⟨b, ys, rfl, hs2, hb⟩ := dp_sq h2
  have l1 := dpAll_len ha
  have l2 := dpAll_len hb
  cases k with
  | true =>
    refine .inl ⟨a, b, xs, ys, rfl, rfl, hid_same.seqT hs, hid_same.seqT hs2, by omega, fun e => q _ Hc (Same.refl _) ?_, fun _ e => q _ Hc (Same.refl _) ?_, fun _ _ r hr => q _ _ (same_upd hr) (.tup (SqT.of (by rw [hid_ne (hp r hr)]; exact upd_same)) (dpAll_app (dpAll_mono (hid_mono (same_upd hr)) ha) (dpAll_mono (hid_mono (same_upd hr)) hb)))⟩
    · subst e
      cases ha
      exact .tup hs2 hb
    · subst e
      cases hb
      rw [List.append_nil]
      exact .tup hs ha
  | false => exact .inr ⟨a, b, xs, ys, rfl, rfl, hid_same.seq hs, hid_same.seq hs2, by omega, fun r hr => q _ _ (same_upd hr) (.lst (SqL.of (by rw [hid_ne (hp r hr)]; exact upd_same)) (dpAll_app (dpAll_mono (hid_mono (same_upd hr)) ha) (dpAll_mono (hid_mono (same_upd hr)) hb)))⟩
theorem rev_ok {K : PySem.W.Frag} {p z : Addr} {k : Bool} {v : V} {ds : List PyData} {Hc : Hp} {Q : VK} (hp : ∀ a, Hc a = none → a ≠ p ∧ a ≠ z) (h : Dp K (hid p z Hc) v (sqD k ds)) (q : ∀ y H', Same Hc H' → Dp K (hid p z H') y (sqD k ds.reverse) → Q y H') : rRevS K v Hc Q := by
  obtain ⟨a, xs, rfl, hs, ha⟩ := dp_sq h
  cases k with
  | true => exact ⟨a, xs, rfl, .inr ⟨hid_same.seqT hs, fun r hr => q _ _ (same_upd hr) (.tup (SqT.of (by rw [hid_ne (hp r hr)]; exact upd_same)) (dpAll_rev (dpAll_mono (hid_mono (same_upd hr)) ha)))⟩⟩
  | false => exact ⟨a, xs, rfl, .inl ⟨hid_same.seq hs, fun r hr => q _ _ (same_upd hr) (.lst (SqL.of (by rw [hid_ne (hp r hr)]; exact upd_same)) (dpAll_rev (dpAll_mono (hid_mono (same_upd hr)) ha)))⟩⟩
theorem Cl.it {Pre0 Post0 Pre Post : PyData → Prop} (C : Cl Pre0 Post0 Pre Post) {k : Bool} {ds : List PyData} (h : Pre (sqD k ds)) : ds.length ≤ 900 ∧ ∀ x ∈ ds, Pre0 x := by
  cases k with
  | true => exact C.itT ds h
  | false => exact C.itL ds h
theorem Cl.ot {Pre0 Post0 Pre Post : PyData → Prop} (C : Cl Pre0 Post0 Pre Post) {k : Bool} {ds : List PyData} (h : Pre (sqD k ds)) : Post (sqD (!k) ds) ∧ Post (sqD k (ds ++ ds.take 1)) ∧ Post (sqD k (ds.drop 1)) ∧ Post (sqD k ds.reverse) := by
  cases k with
  | true => exact C.otT ds h
  | false => exact C.otL ds h
theorem isT_sq {k : Bool} {ds : List PyData} : isT "tuple" (sqD k ds) = k := by cases k <;> rfl
section
variable {P : Program} {w : World} {K : PySem.W.Frag} {mg : Str → Option Value} {base : Heap}
def spSpoilt (K : PySem.W.Frag) (c : Nat) (Pre Post : PyData → Prop) : Sp := fun vs H Q _ => ∃ (p z : Addr) (v : V) (d : PyData) (n : Nat), vs = [.ref p, v] ∧ Deck H p n ∧ n + c ≤ 100000 ∧ H z ≠ none ∧ Dp K (hid p z H) v d ∧ Pre d ∧
  ∀ H' v' d', But p H H' → Deck H' p (n + c) → Dp K (hid p z H') v' d' → Post d' → Q v' H'
theorem scSpoilt : FnScope ["deck", "thing", "rows", "at", "other"] ["deck", "thing"] (defScope sSpoilt) := ⟨rfl, rfl, rfl, by decide +kernel, rfl, by decide +kernel, by decide +kernel⟩
theorem ok_spoilt1 {Pre0 Post0 Pre Post : PyData → Prop} (C : Cl Pre0 Post0 Pre Post) {f fP : Addr} {fd fdP : FuncData} {j c : Nat} (F : Fun K "_law_spoilt" "_law_spoilt" sSpoilt f fd) (bF : Binds K fd ["deck", "thing"] []) (gF : mg "_law_spoilt" = some (.ref f))
    (FP : Fun K "_law_pick" "_law_pick" sPick fP fdP) (bP : Binds K fdP ["deck", "size"] []) (gP : mg "_law_pick" = some (.ref fP)) (B : Bn mg) (hc : c ≤ 1000) (G : FnOk P w K mg base CX0 (j + 1) f fd ["deck", "thing"] (spSpoilt K c Pre0 Post0)) :
    FnOk P w K mg base CX0 (j + 2) f fd ["deck", "thing"] (spSpoilt K (c + 2) Pre Post) := by
  have GP : FnOk P w K mg base CX0 1 fP fdP ["deck", "size"] spPick := ok_pick FP
  refine F.ok scSpoilt (fun vs H Q E h => ?_) (fun cdv A outer s H vs Q E hr h => ?_)
  · obtain ⟨p, z, v, d, n, rfl, _⟩ := h
    rfl
  · obtain ⟨p, z, v, d, n, rfl, hd, hn, hzn, hv, hp, q⟩ := h
    have hr1 : Room 1 _ := hr.mono (by omega)
    refine ⟨_, C8.pss_cut (ps_if (PW.pt (pw_and (pt_val (pe_callB call_isiT (by rfl) B.isi boot_isinstance (pa_cons (pv 1) (pa_cons (pe_tup (pa_cons (pe_bltn (v := .ty "tuple") (by rfl) B.tuple boot_tuple rfl) (pa_cons (pe_bltn (v := .ty "list") (by rfl) B.list boot_list rfl) pa_nil))) pa_nil))))
        (pw_and (pt_cmpR op_gt (pe_callB call_len_seq (by rfl) B.len PySem.boot_len (pa_cons (pv 1) pa_nil)) pe_int (nomark _))
        (pw_and1 (pt_cmpR op_gt (pe_call GP hr1 (by rfl) gP FP.kp bP .nil pass0 (pa_cons (pv 0) (pa_cons pe_int pa_nil))) pe_int (nomark _))))))
        (pss_cons (ps_set (i := 2) scSpoilt.nd rfl (Or.inl rfl) (pe_callTy call_list_of (by rfl) B.list boot_list (pa_cons (pv 1) pa_nil)))
        (pss_cons (ps_set (i := 3) scSpoilt.nd rfl (Or.inl rfl) (pe_call GP hr1 (by rfl) gP FP.kp bP .nil pass0 (pa_cons (pv 0) (pa_cons (pe_callB call_len_seq (by rfl) B.len PySem.boot_len (pa_cons (pv 2) pa_nil)) pa_nil))))
        (pss_cons (ps_asg (pe_call G hr (by rfl) gF F.kp bF .nil pass0 (pa_cons (pv 0) (pa_cons (pe_ix ix_list (pv 2) (pv 3) (fun _ _ => rfl)) pa_nil))) (pg_sub (pv 2) (pv 3) set_list))
        (pss_one (ps_ret (pe_ifExp (pt_val (pe_callB call_isi (by rfl) B.isi boot_isinstance (pa_cons (pv 1) (pa_cons (pe_bltn (v := .ty "tuple") (by rfl) B.tuple boot_tuple rfl) pa_nil)))) (pe_callTy call_tuple_of (by rfl) B.tuple boot_tuple (pa_cons (pv 2) pa_nil)) (pv 2))))))) pss_nil)
      (C8.pss_cut (ps_if (pt_val (pe_callB call_isiT (by rfl) B.isi boot_isinstance (pa_cons (pv 1) (pa_cons (pe_tup (pa_cons (pe_bltn (v := .ty "tuple") (by rfl) B.tuple boot_tuple rfl) (pa_cons (pe_bltn (v := .ty "list") (by rfl) B.list boot_list rfl) pa_nil))) pa_nil))))
        (pss_cons (ps_set (i := 4) scSpoilt.nd rfl (Or.inl rfl) (pe_ifExp (pt_val (pe_callB call_isi (by rfl) B.isi boot_isinstance (pa_cons (pv 1) (pa_cons (pe_bltn (v := .ty "tuple") (by rfl) B.tuple boot_tuple rfl) pa_nil)))) (pe_callTy call_list_of (by rfl) B.list boot_list (pa_cons (pv 1) pa_nil)) (pe_callTy call_tuple_of (by rfl) B.tuple boot_tuple (pa_cons (pv 1) pa_nil))))
        (pss_one (ps_ret (pe_ix ix_list (pe_lst (pa_cons (pv 4) (pa_cons (pe_op (OpR.or op_catA op_catS) (pv 1) (pe_slice (SlR.or sl_tupA sl_list) (pv 1) po_none (po_some pe_int))) (pa_cons (pe_slice (SlR.or sl_tupA sl_list) (pv 1) (po_some pe_int) po_none) (pa_cons (pe_revS (pv 1)) (pa_cons pe_non pa_nil))))))
          (pe_call GP hr1 (by rfl) gP FP.kp bP .nil pass0 (pa_cons (pv 0) (pa_cons pe_int pa_nil))) (fun _ _ => rfl))))) pss_nil)
      (C8.pss_cut (ps_if (pt_val (pe_callB call_isi (by rfl) B.isi boot_isinstance (pa_cons (pv 1) (pa_cons (pe_bltn (v := .ty "int") (by rfl) B.int boot_int rfl) pa_nil))))
        (pss_one (ps_ret (pe_ix ix_list (pe_lst (pa_cons (pe_op (OpR.or op_add op_add_bi) (pv 1) pe_int) (pa_cons (pe_op (OpR.or op_sub op_sub_bi) (pv 1) pe_int) (pa_cons pe_bl (pa_cons pe_non (pa_cons pe_int (pa_cons (pe_op op_pow pe_int pe_int) (pa_cons (pe_callTy (CallR.or call_str_int call_str_b) (by rfl) B.str boot_str (pa_cons (pv 1) pa_nil)) pa_nil))))))))
          (pe_call GP hr1 (by rfl) gP FP.kp bP .nil pass0 (pa_cons (pv 0) (pa_cons pe_int pa_nil))) (fun _ _ => rfl)))) pss_nil)
      (pss_one (ps_ret (pe_ix ix_list (pe_lst (pa_cons pe_non (pa_cons pe_int (pa_cons pe_str (pa_cons pe_str (pa_cons pe_str (pa_cons pe_str (pa_cons pe_str (pa_cons pe_str pa_nil)))))))))
          (pe_call GP hr1 (by rfl) gP FP.kp bP .nil pass0 (pa_cons (pv 0) (pa_cons pe_int pa_nil))) (fun _ _ => rfl)))))), ?_⟩
    have c0 : Cuz K p z H v d H n := ⟨But.refl H, hd, hzn, hv⟩
    refine ⟨fun σ H' => σ = L2.start ["deck", "thing", "rows", "at", "other"] [.ref p, v] ∧ ∃ m, m ≤ n + 1 ∧ Cuz K p z H v d H' m, ?_, ?_⟩
    · refine ⟨v, rfl, (by show 2 ≤ sizeLine; decide), fun a ha => ⟨v, a, _, _, _, _, rfl, upd_same, .cons (.ty _) (.cons (.ty _) .nil), tyX_of (c0.new ha).now, kit2 c0.now, _, rfl, ?_⟩⟩
      have c1 := c0.new (o := .tup [.ty "tuple", .ty "list"]) ha
      generalize upd H a (.tup [.ty "tuple", .ty "list"]) = Hc at c1
      cases hk : isSeq d with
      | false => exact iteF (iteF ⟨rfl, n, by omega, c1⟩)
      | true =>
        obtain ⟨k, ds, rfl⟩ := isSeq_some hk
        obtain ⟨a0, xs, rfl, hs, hx⟩ := dp_sq c1.dp
        obtain ⟨hl9, hit⟩ := C.it hp
        have hlen := dpAll_len hx
        refine iteT ⟨_, rfl, a0, xs, rfl, (hs.mono hid_same).or, _, _, rfl, rfl, _, rfl, ?_⟩
        cases e1 : decide ((0 : Int) < ((xs.length : Nat) : Int)) with
        | false => exact iteF (iteF ⟨rfl, n, by omega, c1⟩)
        | true =>
          have e1' := of_decide_eq_true e1
          refine iteT ⟨_, rfl, p, 5, n, rfl, by decide, by decide, c1.dk, by omega, fun H2 r b2 dk2 hr => ⟨_, _, rfl, rfl, _, rfl, ?_⟩⟩
          have c2 := c1.pick b2 dk2
          cases e2 : decide ((0 : Int) < (r : Int)) with
          | false => exact iteF ⟨rfl, n + 1, by omega, c2⟩
          | true =>
            have hs2 : Sq K (hid p z H2) k a0 xs := hs.mono b2.hid
            have hx2 := dpAll_mono b2.hid hx
            refine iteT ⟨_, rfl, a0, xs, rfl, (hs2.mono hid_same).or, fun l nl => ?_⟩
            have nlp := c2.ne nl
            have c3 := c2.new (o := .lst xs) nl
            refine ⟨_, rfl, _, rfl, l, xs, rfl, .inl (SqL.of upd_same), p, _, n + 1, rfl, by omega, by omega, c3.dk, by omega, fun H4 r2 b4 dk4 hr2 => ?_⟩
            have hr2' : r2 < xs.length := by omega
            have e4 : H4 l = some (.lst xs) := b4 _ _ nlp.1 upd_same
            have b24 : But p H2 H4 := (But.of (same_upd nl)).trans b4
            obtain ⟨d2, g1, g2⟩ := dpAll_get (dpAll_mono b24.hid hx2) (List.getElem?_eq_getElem hr2')
            refine ⟨_, rfl, _, rfl, _, rfl, l, xs, _, xs[r2], rfl, rfl, SqL.of e4, atI_nat (List.getElem?_eq_getElem hr2'), p, z, xs[r2], d2, n + 1 + 1, rfl, dk4, by omega, (c3.pick b4 dk4).zn, g2, hit d2 (List.mem_of_getElem? g1), fun H5 v5 d5 b5 dk5 dp5 post5 => ?_⟩
            have e5 : H5 l = some (.lst xs) := b5 _ _ nlp.1 e4
            have hix : ixN xs.length ((r2 : Nat) : Int) = some r2 := by
              unfold ixN
              rw [if_pos (by omega), if_pos (by omega)]
              simp
            refine ⟨_, rfl, _, rfl, l, xs, _, r2, rfl, rfl, e5, hix, ?_⟩
            have b26 : But p H2 (upd H5 l (.lst (xs.set r2 v5))) := fun c o hc e => by
              rw [upd_ne (ne_of_none e nl)]
              exact (b24.trans b5) c o hc e
            have c6 := c2.pick b26 (dk5.put nlp.1)
            have hset : DpAll K (hid p z (upd H5 l (.lst (xs.set r2 v5)))) (xs.set r2 v5) (ds.set r2 d5) := dpAll_set (flat_dp (C.fl0 _ post5) dp5) r2 (dpAll_mono b26.hid hx2)
            refine ⟨_, rfl, _, _, _, _, _, rfl, .ty _, tyX_of c6.now, kit_of_data (by decide) c6.now, _, rfl, ?_⟩
            rw [isT_sq]
            cases k with
            | true =>
              refine iteT ⟨_, rfl, l, _, rfl, .inl ⟨SqL.of upd_same, fun t nt => ?_⟩⟩
              have c7 := c6.new (o := .tup (xs.set r2 v5)) nt
              exact q _ _ _ c7.but (c7.dk.le (by omega)) (tupz upd_same (c6.ne nt) (dpAll_mono (hid_mono (same_upd nt)) hset)) (C.reT ds r2 d5 hp post5)
            | false => exact iteF ⟨_, rfl, q _ _ _ c6.but (c6.dk.le (by omega)) (lstz upd_same nlp hset) (C.reL ds r2 d5 hp post5)⟩
    · rintro σ H1 ⟨rfl, m, hm, c1⟩
      refine ⟨fun σ H' => σ = L2.start ["deck", "thing", "rows", "at", "other"] [.ref p, v] ∧ Cuz K p z H v d H' m, ?_, ?_⟩
      · refine ⟨v, rfl, (by show 2 ≤ sizeLine; decide), fun a ha => ⟨v, a, _, _, _, _, rfl, upd_same, .cons (.ty _) (.cons (.ty _) .nil), tyX_of (c1.new ha).now, kit2 c1.now, _, rfl, ?_⟩⟩
        have c2 := c1.new (o := .tup [.ty "tuple", .ty "list"]) ha
        generalize upd H1 a (.tup [.ty "tuple", .ty "list"]) = Hc at c2
        cases hk : isSeq d with
        | false => exact iteF ⟨rfl, c2⟩
        | true =>
          obtain ⟨k, ds, rfl⟩ := isSeq_some hk
          obtain ⟨hl9, hit⟩ := C.it hp
          obtain ⟨o1, o2, o3, o4⟩ := C.ot hp
          have fin : ∀ (o : Addr) (H3 : Hp), Cuz K p z H v (sqD k ds) H3 m → Dp K (hid p z H3) (.ref o) (sqD (!k) ds) → tRet (tOp (rIxL K) (tLst (tCons (tVar 4) (tCons (tOp (fun x y H Q => rCatA K x y H Q ∨ rCatS K x y H Q) (tVar 1) (tSl (fun x lo hi H Q => rSlA K x lo hi H Q ∨ rSlL K x lo hi H Q) (tVar 1) tNoPart (tPart (tC (.int 1))))) (tCons (tSl (fun x lo hi H Q => rSlA K x lo hi H Q ∨ rSlL K x lo hi H Q) (tVar 1) (tPart (tC (.int 1))) tNoPart) (tCons (tRevS K (tVar 1)) (tCons (tC .non) tNil))))))
              (tCall spPick [] E0 (tCons (tVar 0) (tCons (tC (.int 5)) tNil)))) { nx := fun _ H' => Q .non H', rt := Q } [some (.ref p), some v, none, none, some (.ref o)] H3 := fun o H3 c3 ho => by
            refine ⟨_, rfl, _, rfl, _, rfl, _, rfl, slice_ok (fun a h => c3.ne h) c3.dp (es := ds.take 1) (fun h => by rw [cut_take1]; exact dpAll_take 1 h) fun y4 H4 s4 d4 => ?_⟩
            have c4 := c3.same s4
            refine cat_ok (fun a h => c4.ne h) c4.dp d4 (by rw [List.length_take]; exact Nat.le_trans (show _ ≤ 1000 by omega) (by decide)) fun y5 H5 s5 d5 => ?_
            have c5 := c4.same s5
            refine ⟨_, rfl, _, rfl, slice_ok (fun a h => c5.ne h) c5.dp (es := ds.drop 1) (fun h => by rw [cut_drop1]; exact dpAll_drop 1 h) fun y6 H6 s6 d6 => ?_⟩
            have c6 := c5.same s6
            refine ⟨_, rfl, rev_ok (fun a h => c6.ne h) c6.dp fun y7 H7 s7 d7 => ?_⟩
            have c7 := c6.same s7
            refine ⟨(by show 5 ≤ sizeLine; decide), fun l nl => ⟨_, rfl, ?_⟩⟩
            have c8 := c7.new (o := .lst [.ref o, y5, y6, y7, .non]) nl
            have t8 := hid_mono (p := p) (z := z) (same_upd (o := .lst [.ref o, y5, y6, y7, .non]) nl)
            have t7 := (hid_mono (p := p) (z := z) s7).trans t8
            have t6 := (hid_mono (p := p) (z := z) s6).trans t7
            have t5 := ((hid_mono (p := p) (z := z) s4).trans (hid_mono (p := p) (z := z) s5)).trans t6
            refine pick_oz upd_same (c7.ne nl) c8.dk (by omega) rfl (by show 1 ≤ 5; decide) (by show 5 ≤ 1000; decide) c8.but (.cons (dp_mono t5 ho) (.cons (dp_mono t6 d5) (.cons (dp_mono t7 d6) (.cons (dp_mono t8 d7) (.cons .non .nil))))) fun H' v' d' b dk dp hd' => q H' v' d' b (dk.le (by omega)) dp ?_
            simp only [List.mem_cons, List.not_mem_nil, or_false] at hd'
            rcases hd' with h | h | h | h | h <;> rw [h]
            · exact o1
            · exact o2
            · exact o3
            · exact o4
            · exact C.non
          obtain ⟨a0, xs, rfl, hs, hx⟩ := dp_sq c2.dp
          refine iteT ⟨_, rfl, _, _, _, _, _, rfl, .ty _, tyX_of c2.now, kit_of_data (by decide) c2.now, _, rfl, ?_⟩
          rw [isT_sq]
          cases k with
          | true =>
            refine iteT ⟨_, rfl, a0, xs, rfl, .inr (hid_same.seqT hs), fun o no => ?_⟩
            exact fin o _ (c2.new no) (lstz upd_same (c2.ne no) (dpAll_mono (hid_mono (same_upd no)) hx))
          | false =>
            refine iteF ⟨_, rfl, a0, xs, rfl, .inl ⟨hid_same.seq hs, fun o no => ?_⟩⟩
            exact fin o _ (c2.new no) (tupz upd_same (c2.ne no) (dpAll_mono (hid_mono (same_upd no)) hx))
      · rintro σ H2 ⟨rfl, c2⟩
        refine ⟨fun σ H' => σ = L2.start ["deck", "thing", "rows", "at", "other"] [.ref p, v] ∧ Cuz K p z H v d H' m, ?_, ?_⟩
        · refine ⟨v, rfl, v, _, _, _, _, rfl, .ty _, tyX_of c2.now, kit_of_data (by decide) c2.now, _, rfl, ?_⟩
          cases hk : isT "int" d with
          | false => exact iteF ⟨rfl, c2⟩
          | true =>
            have e9 : (10 : Int) ^ (9 : Int).toNat = 1000000000 := by decide
            cases d with
            | int i =>
              obtain ⟨i1, i2, i3⟩ := C.int i hp
              have cd := c2.dp
              cases cd
              refine iteT ⟨_, rfl, .inl ⟨_, _, rfl, rfl, _, rfl, .inl ⟨_, _, rfl, rfl, _, _, rfl, rfl, ⟨by decide, by decide, by decide⟩, _, rfl, .inl ⟨i, rfl, i1, (by show 7 ≤ sizeLine; decide), fun l nl => ⟨_, rfl, ?_⟩⟩⟩⟩⟩
              refine pick_oz (ds := [.int (i + 1), .int (i - 1), .bool true, .none, .int 0, .int ((10 : Int) ^ (9 : Int).toNat), .str (toString i)]) upd_same (c2.ne nl) (c2.new nl).dk (by omega) rfl (by show 1 ≤ 7; decide) (by show 7 ≤ 1000; decide) (c2.new nl).but
                (.cons (.int _) (.cons (.int _) (.cons (.bl _) (.cons .non (.cons (.int _) (.cons (.int _) (.cons (.str _) .nil))))))) fun H' v' d' b dk dp hd' => q H' v' d' b (dk.le (by omega)) dp ?_
              simp only [List.mem_cons, List.not_mem_nil, or_false] at hd'
              rcases hd' with h | h | h | h | h | h | h <;> rw [h]
              · exact i2
              · exact i3
              · exact C.tru
              · exact C.non
              · exact C.few 0 (by decide) (by decide)
              · exact C.few _ (by rw [e9]; decide) (by rw [e9]; decide)
              · exact C.txt _
            | bool t =>
              have cd := c2.dp
              cases cd
              refine iteT ⟨_, rfl, .inr ⟨_, _, rfl, rfl, _, rfl, .inr ⟨_, _, rfl, rfl, _, _, rfl, rfl, ⟨by decide, by decide, by decide⟩, _, rfl, .inr ⟨t, rfl, (by show 7 ≤ sizeLine; decide), fun l nl => ⟨_, rfl, ?_⟩⟩⟩⟩⟩
              refine pick_oz (ds := [.int ((if t = true then (1 : Int) else 0) + 1), .int ((if t = true then (1 : Int) else 0) - 1), .bool true, .none, .int 0, .int ((10 : Int) ^ (9 : Int).toNat), .str (txtB t)]) upd_same (c2.ne nl) (c2.new nl).dk (by omega) rfl (by show 1 ≤ 7; decide) (by show 7 ≤ 1000; decide) (c2.new nl).but
                (.cons (.int _) (.cons (.int _) (.cons (.bl _) (.cons .non (.cons (.int _) (.cons (.int _) (.cons (.str _) .nil))))))) fun H' v' d' b dk dp hd' => q H' v' d' b (dk.le (by omega)) dp ?_
              simp only [List.mem_cons, List.not_mem_nil, or_false] at hd'
              rcases hd' with h | h | h | h | h | h | h <;> rw [h]
              · exact C.few _ (by cases t <;> decide) (by cases t <;> decide)
              · exact C.few _ (by cases t <;> decide) (by cases t <;> decide)
              · exact C.tru
              · exact C.non
              · exact C.few 0 (by decide) (by decide)
              · exact C.few _ (by rw [e9]; decide) (by rw [e9]; decide)
              · cases t
                · exact C.txt "False"
                · exact C.txt "True"
            | none => cases hk
            | str _ => cases hk
            | list _ => cases hk
            | tuple _ => cases hk
            | dict _ => cases hk
        · rintro σ H3 ⟨rfl, c3⟩
          refine ⟨(by show 8 ≤ sizeLine; decide), fun l nl => ⟨_, rfl, pick_oz (ds := [.none, .int 7, .str "n", .str "", .str "apart", .str "cross", .str "alone", .str "row"]) upd_same (c3.ne nl) (c3.new nl).dk (by omega) rfl (by show 1 ≤ 8; decide) (by show 8 ≤ 1000; decide) (c3.new nl).but
            (.cons .non (.cons (.int 7) (.cons (.str _) (.cons (.str _) (.cons (.str _) (.cons (.str _) (.cons (.str _) (.cons (.str _) .nil)))))))) fun H' v' d' b dk dp hd' => q H' v' d' b (dk.le (by omega)) dp ?_⟩⟩
          simp only [List.mem_cons, List.not_mem_nil, or_false] at hd'
          rcases hd' with h | h | h | h | h | h | h | h <;> rw [h]
          · exact C.non
          · exact C.few 7 (by decide) (by decide)
          all_goals exact C.txt _
end
end RS

set_option Elab.async false
set_option linter.all false
set_option maxRecDepth 100000
set_option maxHeartbeats 2000000
namespace RS
open PySem PySem.Spec PyProof.Rows L2 HotX
section
variable {prog : Program} {w : World} {A : Around} {E : Value → Shared → Prop} {s : Shared}
/-- StopIteration, made and raised while another error is handled -/
theorem stop_hot {α : Type} {x1 : Addr} {Q : α → Shared → Prop} (hot : HotAt A x1 s.heap)
    (hE : ∀ h' e, (∀ b o, s.heap.get? b = some o → h'.get? b = some o) → (∃ o, h'.get? e = some o ∧ o.cls = .type "StopIteration") → E (.ref e) { s with heap := h' }) :
    wpAny (model prog w) A (newExc (.type "StopIteration") [] >>= fun e => (raiseNew e : Sem α)) Q E s := by
  obtain ⟨hh, o1, vs1, h1, d1, c1⟩ := hot
  refine wpAny_bind ?_
  simp only [newExc, newTuple]
  refine wpAny_bind (wpAny_newObj_type (wpAny_bind (m := firstArgMember _ _) (wpAny_of_eq (a := Value.none) (by first | rfl | (simp only [firstArgMember]; rfl)) (wpAny_newObj_type ?_ (by size_fits)))) (by size_fits))
  have k1 : ∀ {o o' : Obj} (b : Addr) (x : Obj), s.heap.get? b = some x → ((s.heap.push o).push o').get? b = some x := fun b x e => Heap.get?_push_of_some _ (Heap.get?_push_of_some _ e)
  refine raiseNew_hot ⟨hh, o1, vs1, k1 _ _ h1, d1, c1⟩ (Nat.ne_of_lt (Heap.lt_size (Heap.get?_push_of_some _ h1))) (Heap.get?_push_size _ rfl) rfl (by first | (simp; done) | (simp; omega) | (simp only [Array.size_append]; simp; omega)) ?_
  refine hE _ _ (fun b o e => ?_) ⟨_, Heap.get?_update_self _ (Heap.get?_push_size _ rfl) rfl, rfl⟩
  rw [Heap.get?_update_other _ _ (Nat.ne_of_gt (Heap.lt_size (Heap.get?_push_of_some _ e)))]
  exact k1 b o e
theorem hot_upd {x1 it : Addr} {h : Heap} {f : Obj → Obj} (hot : HotAt A x1 h) (ne : x1 ≠ it) : HotAt A x1 (h.update it f) := by
  obtain ⟨hh, o1, vs1, h1, d1, c1⟩ := hot
  exact ⟨hh, o1, vs1, by rw [Heap.get?_update_other _ _ ne.symm]; exact h1, d1, c1⟩
theorem hot_keep {x1 : Addr} {h h' : Heap} (hot : HotAt A x1 h) (k : ∀ o, h.get? x1 = some o → h'.get? x1 = some o) : HotAt A x1 h' := by
  obtain ⟨hh, o1, vs1, h1, d1, c1⟩ := hot
  exact ⟨hh, o1, vs1, k _ h1, d1, c1⟩
/-- the end of a list's iterator -/
theorem list_end_hot {it l x1 : Addr} {i : Nat} {items : Array Value} {Q : Value → Shared → Prop} (hot : HotAt A x1 s.heap) (ne : x1 ≠ it) (hit : s.heap.IsListIter it l i) (hl : s.heap.IsList l items) (hx : items[i]? = none)
    (hE : ∀ h' e, Heap.ExtBut it s.heap h' → (∃ o, h'.get? e = some o ∧ o.cls = .type "StopIteration") → E (.ref e) { s with heap := h' }) : wpAny (model prog w) A (Builtin.SmallTypes.nextOf (.ref it)) Q E s := by
  obtain ⟨o, ho, hc, hd⟩ := id hit
  obtain ⟨ol, hol, _, nl, hdl⟩ := hl
  unfold Builtin.SmallTypes.nextOf
  refine wpAny_bind (wpAny_callSpecial?_slot (name := Str.ofString "__next__") hit.typeIs slot_listiter_next (wpAny_call_entry slot_listiter_next hit.typeIs entry_listiter_next ?_ (args_listiter_next _)))
  show wpAny _ _ (field (.ref it) 0 >>= _) _ _ s
  refine wpAny_bind (wpAny_field ho hd (x := .ref l) rfl ?_)
  show wpAny _ _ (if (Value.ref l == Value.none) = true then _ else _) _ _ s
  rw [if_neg (show ¬ ((Value.ref l == Value.none) = true) from Bool.false_ne_true)]
  show wpAny _ _ (field (.ref it) 1 >>= _) _ _ s
  refine wpAny_bind (wpAny_field ho hd (x := .int i 0) rfl ?_)
  show wpAny _ _ (seqItems? (.ref l) >>= _) _ _ s
  refine wpAny_bind (wpAny_seqItems hol hdl ?_)
  simp only [Int.toNat_natCast, hx]
  refine wpAny_bind (wpAny_rule (wpAny_bind (wpAny_setField ho hd (by simp) ?_)))
  refine stop_hot (hot_upd hot ne) fun h' e k he => hE h' e (fun b o' nb z => k b o' ?_) he
  rw [Heap.get?_update_other _ _ (Ne.symm nb)]
  exact z
theorem Draws.listHot {it l x1 : Addr} (hA : ∃ a, A.handled = some a) (hne : l ≠ it) (hn1 : x1 ≠ it) (items : Array Value) :
    Draws prog w A it [it, l, x1] items.size (fun i v => items[i]? = some v) (fun i h => h.IsListIter it l i ∧ h.IsList l items ∧ HotAt A x1 h) where
  live := fun _ _ st => let ⟨o, ho, _⟩ := st.1; ⟨o, ho⟩
  frame := fun _ _ _ st hk => ⟨st.1.at fun o e => hk it (by simp) o e, st.2.1.at fun o e => hk l (by simp) o e, hot_keep st.2.2 fun o e => hk x1 (by simp) o e⟩
  item := fun i s Q E hi st hQ => by
    refine wpAny_nextOf_list_item st.1 st.2.1 (x := items[i]) (by simp [hi]) fun h' hit' hs' => ?_
    exact hQ _ h' s.toks (by simp [hi]) ⟨hit', st.2.1.extBut hs'.extBut hne, hot_keep st.2.2 fun o e => hs'.extBut _ _ hn1 e⟩ hs'
  done := fun s Q E st hE => list_end_hot st.2.2 hn1 st.1 st.2.1 (by simp) hE
/-- a tuple unpacked into as many names -/
theorem tup_end_hot {it t x1 : Addr} {i : Nat} {items : Array Value} {Q : Option Value → Shared → Prop} (hot : HotAt A x1 s.heap) (ne : x1 ≠ it) (hit : IsTupIter s.heap it t i) (ht : IsTup s.heap t items) (hx : items[i]? = none)
    (hQ : ∀ h', Heap.ExtBut it s.heap h' → Q none { s with heap := h' }) : wpAny (model prog w) A (pyNext (.ref it)) Q E s := by
  obtain ⟨o, ho, hc, hd⟩ := id hit
  obtain ⟨ol, hol, _, nl, hdl⟩ := ht
  unfold pyNext
  refine wpAny_bind (wpAny_attempt (wpAny_callSpecial?_slot (name := Str.ofString "__next__") hit.typeIs slot_tupleiter_next (wpAny_call_entry slot_tupleiter_next hit.typeIs entry_tupleiter_next ?_ (args_tupleiter_next _))))
  show wpAny _ _ (field (.ref it) 0 >>= _) _ _ s
  refine wpAny_bind (wpAny_field ho hd (x := .ref t) rfl ?_)
  show wpAny _ _ (if (Value.ref t == Value.none) = true then _ else _) _ _ s
  rw [if_neg (show ¬ ((Value.ref t == Value.none) = true) from Bool.false_ne_true)]
  show wpAny _ _ (field (.ref it) 1 >>= _) _ _ s
  refine wpAny_bind (wpAny_field ho hd (x := .int i 0) rfl ?_)
  show wpAny _ _ (seqItems? (.ref t) >>= _) _ _ s
  refine wpAny_bind (wpAny_seqItems hol hdl ?_)
  simp only [Int.toNat_natCast, hx]
  refine wpAny_bind (wpAny_rule (wpAny_bind (wpAny_setField ho hd (by simp) ?_)))
  refine stop_hot (hot_upd hot ne) fun h' e k he => ?_
  obtain ⟨oe, hoe, hce⟩ := he
  refine wpAny_bind (wpAny_isInstance (T := "StopIteration") (b := true) ⟨oe, hoe, hce⟩ isSubtype_stop (wpAny_pure (hQ _ fun b o' nb z => k b o' ?_)))
  rw [Heap.get?_update_other _ _ (Ne.symm nb)]
  exact z
end
end RS

set_option Elab.async false
set_option linter.all false
set_option maxRecDepth 100000
set_option maxHeartbeats 2000000
namespace RS
open PySem PySem.Spec PyProof.Rows L2 HotX
section
variable {prog : Program} {w : World} {A : Around} {E : Value → Shared → Prop} {s : Shared}
theorem assign_tup_hot {env : Env} {elts : List Expr} {k : Nat} {pos : Pos} {t x1 : Addr} {items : Array Value} {Q : Unit → Shared → Prop} (hot : HotAt A x1 s.heap) (ht : IsTup s.heap t items) (hn : (assignEach elts env).length = items.size) (hstar : (assignEach elts env).findIdx? (·.1) = none)
    (h : ∀ h', Heap.ExtBut s.heap.objs.size s.heap h' → wpAny (model prog w) A (assignInOrder ((assignEach elts env).map (·.2)) items.toList) Q E { s with heap := h' }) : wpAny (model prog w) A (assign (.Tuple elts k pos) env (.ref t)) Q E s := by
  have lx : x1 ≠ s.heap.objs.size := by
    obtain ⟨_, o1, _, h1, _⟩ := hot
    exact Nat.ne_of_lt (Heap.lt_size h1)
  have lt : t ≠ s.heap.objs.size := by
    obtain ⟨o, ho, _⟩ := ht
    exact Nat.ne_of_lt (Heap.lt_size ho)
  rw [assign_Tuple]
  refine wpAny_bind (wpAny_standAt ?_)
  unfold unpack
  rw [hn, hstar]
  refine wpAny_bind (wpAny_holding ?_)
  unfold unpackItems notIterableAtAll
  refine wpAny_bind (wpAny_bind (wpAny_specialOf ht.typeIs slot_tuple_iter.lookup (wpAny_pure ?_)))
  simp only [Bool.false_eq_true, if_false]
  refine wpAny_bind (wpAny_holding (iter_tuple ht (wpAny_bind (wpAny_holding (draw_tuple lt items.size 0 _ _ ⟨_, Heap.get?_push_size _ rfl, rfl, rfl⟩ (ht.push _) (by omega) fun h1 it1 sb1 => ?_)))))
  rw [show List.take items.size (List.drop 0 items.toList) = items.toList by rw [List.drop_zero]; exact List.take_of_length_le (by simp), if_neg (by simp)]
  have hot1 : HotAt A x1 h1 := hot_keep hot fun o e => sb1.extBut _ _ lx (Heap.get?_push_of_some _ e)
  refine wpAny_bind (wpAny_holding (tup_end_hot (s := ⟨h1, s.gens, s.drawn, s.toks, s.os⟩) hot1 lx it1 ((ht.push _).extBut sb1.extBut lt) (by simp) fun h2 e2 => ?_))
  simp only [Option.isSome_none, Bool.false_eq_true, if_false]
  exact wpAny_pure (h h2 fun b o hb e => e2 b o hb (sb1.extBut b o hb (Heap.get?_push_of_some _ e)))
end
/-- those that are marked -/
def marked : List V → List Bool → List V
  | x :: xs, b :: bs => if b = true then x :: marked xs bs else marked xs bs
  | _, _ => []
theorem marked_snoc : ∀ (xs : List V) (bs : List Bool) (x : V) (b : Bool), xs.length = bs.length → marked (xs ++ [x]) (bs ++ [b]) = if b = true then marked xs bs ++ [x] else marked xs bs
  | [], [], x, b, _ => by cases b <;> rfl
  | y :: xs, c :: bs, x, b, h => by
    have ih := marked_snoc xs bs x b (Nat.succ.inj h)
    show (if c = true then y :: marked (xs ++ [x]) (bs ++ [b]) else marked (xs ++ [x]) (bs ++ [b])) = if b = true then (if c = true then y :: marked xs bs else marked xs bs) ++ [x] else (if c = true then y :: marked xs bs else marked xs bs)
    rw [ih]
    cases b <;> cases c <;> rfl
  | [], _ :: _, _, _, h => by cases h
  | _ :: _, [], _, _, h => by cases h
theorem marked_len : ∀ (xs : List V) (bs : List Bool), (marked xs bs).length ≤ xs.length
  | [], _ => Nat.zero_le _
  | _ :: _, [] => Nat.zero_le _
  | x :: xs, b :: bs => by
    have := marked_len xs bs
    show (if b = true then x :: marked xs bs else marked xs bs).length ≤ xs.length + 1
    cases b
    · exact Nat.le_succ_of_le this
    · exact Nat.succ_le_succ this
theorem sepN (N a b x : Nat) (ha : a < N) (hb : b < N) (hx : x < N) : ZipSep2 (N + 4) (N + 2) (N + 3) N (N + 1) [N, a, x] [N + 1, b, x] := by
  have m : ∀ k c : Nat, c < N → (N + k ∈ [N, c, x]) → k = 0 := fun k c hc h => by
    simp at h
    omega
  have m2 : ∀ k c : Nat, c < N → (N + k ∈ [N + 1, c, x]) → k = 1 := fun k c hc h => by
    simp at h
    omega
  have ne : ∀ k j : Nat, k ≠ j → N + k ≠ N + j := fun k j h e => h (by omega)
  exact ⟨ne 2 4 (by decide), ne 3 4 (by decide), ne 2 3 (by decide), ne 2 0 (by decide), List.mem_cons_self, fun h => absurd (m 4 a ha h) (by decide), fun h => absurd (m 3 a ha h) (by decide), ne 2 1 (by decide), List.mem_cons_self,
    fun h => absurd (m2 4 b hb h) (by decide), fun h => absurd (m2 3 b hb h) (by decide), fun h => absurd (m2 0 b hb h) (by decide), fun h => absurd (m 1 a ha h) (by decide)⟩
theorem outN (N D c : Nat) (hD : N + 5 ≤ D) (hc : c < N) (h : c ∈ D :: [N + 4, N + 3, N, N + 1]) : False := by
  simp at h
  omega
theorem outN2 (N D c : Nat) (hc : N + 5 ≤ c) (ne : D ≠ c) (h : c ∈ D :: [N + 4, N + 3, N, N + 1]) : False := by
  simp at h
  omega
theorem ltC (N C b : Nat) (hC : N + 5 ≤ C) (h : b < N) : b ≠ C := by omega
theorem ltC2 (N C k : Nat) (hC : N + 5 ≤ C) (h : k < 5) : N + k ≠ C := by omega
theorem ltN (N a k : Nat) (h : a < N) : a ≠ N + k := by omega
theorem inN (N a b x c : Nat) (ha : a < N) (hb : b < N) (hx : x < N) (h : c ∈ (N + 4) :: (N + 2) :: (N + 3) :: ([N, a, x] ++ [N + 1, b, x])) : c < N + 5 := by
  simp at h
  omega
/-- [x for x, b in zip(e1, e2) if b], while an error is handled -/
def tMarked (K : PySem.W.Frag) (ta : TA) : TE := fun σ H Q => ta σ H fun vs H1 => ∃ (a b : Addr) (xs : List V) (bs : List Bool), vs = [.ref a, .ref b] ∧ SqL K H1 a xs ∧ SqL K H1 b (bs.map V.bl) ∧ xs.length = bs.length ∧ xs.length ≤ 1000 ∧ ∀ D, H1 D = none → Q (.ref D) (upd H1 D (.lst (marked xs bs)))
theorem pe_marked {X : Cx} {n1 n2 : Str} {p1 p2 p3 p4 pz tp zp pos : Pos} {kk : Nat} {e1 e2 : Expr} {scope : Scope} {ta : TA} (hc : L2H.HotC X) (hg : Gl X "zip") (hm : X.mg "zip" = none) (ha : PA X [e1, e2] ta)
    (hclos : closureFor scope X.env = pure []) (hcell : ∀ y ∈ scope.names, y.2 ≠ .cell) (hkind : scope.kind = .function) (hnames : ∀ y ∈ scope.names, y.2 = .local → scope.names.lookup y.1 = some .local)
    (k1 : scope.names.lookup n1 = some .local) (k2 : scope.names.lookup n2 = some .local) (hne : n1 ≠ n2) (d1 : (n1 == ("__debug__" : Str)) = false) (d2 : (n2 == ("__debug__" : Str)) = false)
    (hs : starEach [e1, e2] X.env = (false, eval e1 X.env) :: starEach [e2] X.env := by rfl) (hpl : (backTo zp (starEach [e2] X.env)).any (·.1) = false := by rfl) :
    PE X (.ListComp (.Name n1 p1) [⟨.Tuple [.Name n1 p2, .Name n2 p3] kk tp, .Call (.Name "zip" pz) [e1, e2] [] zp, [.Name n2 p4], 0⟩] scope pos) (tMarked X.K ta) := by
  refine ⟨fun pins s σ H Q I h => ?_⟩
  refine ListComp_goes hclos hcell hkind hnames ?_ (by intro _; rfl)
  refine Call_ (ld_blt I hg hm PyProof.Rows.boot_zip (PyProof.Rows.callWith_type1 (thn (ha.run zp pins s σ H _ I h) fun us s1 hq => ?_) hs hpl))
  obtain ⟨vs, H1, I1, r1, a, b, xs, bs, ex, hx, hb, hl, hl2, q⟩ := hq
  subst ex
  obtain ⟨u1, u2, eu, ru1, ru2⟩ := vals2 r1
  subst eu
  cases ru1
  cases ru2
  obtain ⟨its, rv, pl1, _⟩ := I1.list hx
  obtain ⟨its2, rv2, pl2, _⟩ := I1.list hb
  have la := pl1.lt
  have lb := pl2.lt
  obtain ⟨x1, hot⟩ := hc.at I1
  have lx1 : x1 < s1.heap.objs.size := by
    obtain ⟨_, o1, _, h1, _⟩ := hot
    exact Heap.lt_size h1
  have len1 : its.length = xs.length := rv.length.symm
  have len2 : its2.length = xs.length := by
    have := rv2.length
    rw [List.length_map] at this
    omega
  generalize hN : s1.heap.objs.size = N at la lb lx1
  refine call_zip_2 pl1.isList pl2.isList fun h' hz hTI hTO i1 i2 hsz hk => wpAny_pyIter_zip hz ?_
  rw [hN] at hz hTI hTO i1 i2 hsz ⊢
  have hA : ∃ v, X.A.in1.handled = some v := ⟨_, hot.1⟩
  have hot' : HotAt X.A.in1 x1 h' := hot_keep (A := X.A.in1) hot fun o e => hk _ _ e
  have D1 := Draws.listHot (prog := X.prog) (w := X.w) (A := X.A.in1) (it := N) (l := a) (x1 := x1) hA (Nat.ne_of_lt la) (Nat.ne_of_lt lx1) its.toArray
  have D2 := Draws.listHot (prog := X.prog) (w := X.w) (A := X.A.in1) (it := N + 1) (l := b) (x1 := x1) hA (ltN N b 1 lb) (ltN N x1 1 lx1) its2.toArray
  have S := sepN N a b x1 la lb lx1
  refine ⟨N + 4, _, _, _, _, _, rfl, Goes.zip2 S D1 D2, ?_, ⟨hz, hTI, ⟨_, _, hTO⟩, ⟨i1, pl1.isList.at fun o e => hk _ _ e, hot'⟩, ⟨i2, pl2.isList.at fun o e => hk _ _ e, hot'⟩⟩, ?_, ?_⟩
  · rw [List.size_toArray, List.size_toArray, len1, len2, Nat.min_self]
    exact Nat.le_of_lt (small1000 hl2)
  · intro c hcm
    show c < h'.objs.size
    rw [hsz]
    exact inN N a b x1 c la lb lx1 hcm
  · intro D C s3 CB
    obtain ⟨⟨h3, tk3, rfl⟩, old, newD, newC, neDC, ns⟩ := CB
    have newD : N + 5 ≤ D := by
      have z : h'.objs.size ≤ D := newD
      rw [hsz] at z
      exact z
    have newC : N + 5 ≤ C := by
      have z : h'.objs.size ≤ C := newC
      rw [hsz] at z
      exact z
    have kn : ∀ {y : Str}, scope.names.lookup y = some .local → (compEnvC scope [] C X.env).kindOf y = some .local := fun hy => lookup_relabel_local hy
    have ki : (compEnvC scope [] C X.env).scope.kind = .function := hkind
    have kp : ((compEnvC scope [] C X.env).scope.kind == .class || ((compEnvC scope [] C X.env).scope.kind == .module && (compEnvC scope [] C X.env).locals != (compEnvC scope [] C X.env).globals)) = false := by
      rw [ki]
      rfl
    refine ⟨fun i ys st => st.gens = s1.gens ∧ st.os = s1.os ∧ (∀ b o, s1.heap.get? b = some o → st.heap.get? b = some o) ∧ (∃ m, st.heap.Ns C m) ∧ Vals (marked (xs.take i) (bs.take i)) ys, ?_, ?_, ?_, ?_⟩
    · exact ⟨rfl, rfl, fun b o e => old b o (hk b o e), ⟨_, ns⟩, .nil⟩
    · rintro i ys st h'' tk ⟨g1, g2, g3, ⟨m, g4⟩, g5⟩ hkeep _
      have outW : ∀ c, c < N → c ∉ D :: [N + 4, N + 3, N, N + 1] := fun c hc hm => outN N D c newD hc hm
      have outC : C ∉ D :: [N + 4, N + 3, N, N + 1] := fun hm => outN2 N D C newC neDC hm
      refine ⟨g1, g2, fun b o e => hkeep b o (outW b (hN ▸ Heap.lt_size e)) (g3 b o e), ⟨m, ?_⟩, g5⟩
      exact g4.at fun o e => hkeep C o outC e
    · rintro i v ys st hi ⟨T, x, y, ev, hx1, hy1, hT⟩ stS ⟨g1, g2, g3, ⟨m, g4⟩, g5⟩ pl
      subst ev
      obtain ⟨hS1, hS2, hS3, ⟨q1, q2, q3⟩, q4, q5, _⟩ := stS
      have hit : HotAt X.A x1 st.heap := q3
      have hli : i < xs.length := by
        have : i < min its.toArray.size its2.toArray.size := hi
        rw [List.size_toArray, List.size_toArray, len1, len2, Nat.min_self] at this
        exact this
      have hlb : i < bs.length := by omega
      obtain ⟨ux, hux, rx⟩ := rv.get (List.getElem?_eq_getElem hli)
      have ex : x = ux := by
        have z : its.toArray[i]? = some x := hx1
        have z2 : its.toArray[i]? = some ux := by simpa using hux
        exact Option.some.inj (z.symm.trans z2)
      subst ex
      obtain ⟨uy, huy, ry⟩ := rv2.get (x := .bl bs[i]) (i := i) (by rw [List.getElem?_map, List.getElem?_eq_getElem hlb]; rfl)
      have ey : y = uy := by
        have z : its2.toArray[i]? = some y := hy1
        have z2 : its2.toArray[i]? = some uy := by simpa using huy
        exact Option.some.inj (z.symm.trans z2)
      subst ey
      obtain rfl : y = Value.bool bs[i] := ry
      have lC : C < st.heap.objs.size := g4.lt
      have sizeN : N ≤ st.heap.objs.size := Nat.le_trans (Nat.le_trans (Nat.le_add_right N 5) newC) (Nat.le_of_lt lC)
      have lD : D < st.heap.objs.size := by
        obtain ⟨o, ho⟩ := pl
        exact Heap.lt_size ho
      refine assign_tup_hot hit hT (by rfl) (by rfl) fun h5 e5 => ?_
      have n5 : h5.Ns C m := g4.at fun o e => e5 C o (Nat.ne_of_lt lC) e
      show wpAny _ _ (assignInOrder [assign (.Name n1 p2) (compEnvC scope [] C X.env), assign (.Name n2 p3) (compEnvC scope [] C X.env)] [x, .bool bs[i]]) _ _ _
      refine assignInOrder_cons (wpAny_assign_Name (wpAny_storeName_local (kn k1) n5 (fun h6 n6 sb6 => ?_) kp))
      refine assignInOrder_cons (wpAny_assign_Name (wpAny_storeName_local (kn k2) n6 (fun h7 n7 sb7 => assignInOrder_nil ?_) kp))
      have v2 : (fun z => if z = n2 then some (Value.bool bs[i]) else (fun z => if z = n1 then some x else m z) z) n2 = some (Value.bool bs[i]) := if_pos rfl
      have v1 : (fun z => if z = n2 then some (Value.bool bs[i]) else (fun z => if z = n1 then some x else m z) z) n1 = some x := (if_neg hne).trans (if_pos rfl)
      have keep7 : ∀ b o, b ≠ C → b < st.heap.objs.size → st.heap.get? b = some o → h7.get? b = some o := fun b o nb lb e => sb7.extBut b o nb (sb6.extBut b o nb (e5 b o (Nat.ne_of_lt lb) e))
      have keepS : ∀ b o, b ≠ C → st.heap.get? b = some o → h7.get? b = some o := fun b o nb e => keep7 b o nb (Heap.lt_size e) e
      have tk1 : xs.take (i + 1) = xs.take i ++ [xs[i]] := by rw [List.take_add_one, List.getElem?_eq_getElem hli]; rfl
      have tk2 : bs.take (i + 1) = bs.take i ++ [bs[i]] := by rw [List.take_add_one, List.getElem?_eq_getElem hlb]; rfl
      have tl : (xs.take i).length = (bs.take i).length := by rw [List.length_take, List.length_take]; omega
      have oldC : ∀ b o, s1.heap.get? b = some o → b ≠ C := fun b o e => ltC N C b newC (hN ▸ Heap.lt_size e)
      have stay : ∀ {ys' : List Value}, Vals (marked (xs.take (i + 1)) (bs.take (i + 1))) ys' → ∀ tk : Nat, (({ st with heap := h7, toks := tk } : Shared).gens = s1.gens ∧ ({ st with heap := h7, toks := tk } : Shared).os = s1.os ∧ (∀ b o, s1.heap.get? b = some o → h7.get? b = some o) ∧ (∃ m, h7.Ns C m) ∧ Vals (marked (xs.take (i + 1)) (bs.take (i + 1))) ys') := fun v tk => ⟨g1, g2, fun b o e => keepS b o (oldC b o e) (g3 b o e), ⟨_, n7⟩, v⟩
      have frameS : IsZip h7 (N + 4) (N + 2) (N + 3) .none ∧ IsTupOf2 h7 (N + 2) (.ref N) (.ref (N + 1)) ∧ (∃ a1 a2, IsTupOf2 h7 (N + 3) a1 a2) ∧ (h7.IsListIter N a (i + 1) ∧ h7.IsList a its.toArray ∧ HotAt X.A.in1 x1 h7) ∧ (h7.IsListIter (N + 1) b (i + 1) ∧ h7.IsList b its2.toArray ∧ HotAt X.A.in1 x1 h7) := by
        obtain ⟨a1, a2, hS3⟩ := hS3
        have nc : ∀ k : Nat, k < 5 → N + k ≠ C := fun k hk => ltC2 N C k newC hk
        exact ⟨keepS _ _ (nc 4 (by decide)) hS1, keepS _ _ (nc 2 (by decide)) hS2, ⟨a1, a2, keepS _ _ (nc 3 (by decide)) hS3⟩, ⟨q1.at fun o e => keepS _ _ (nc 0 (by decide)) e, q2.at fun o e => keepS _ _ (ltC N C a newC la) e, hot_keep (A := X.A.in1) q3 fun o e => keepS _ _ (ltC N C x1 newC lx1) e⟩,
          ⟨q4.at fun o e => keepS _ _ (nc 1 (by decide)) e, q5.at fun o e => keepS _ _ (ltC N C b newC lb) e, hot_keep (A := X.A.in1) q3 fun o e => keepS _ _ (ltC N C x1 newC lx1) e⟩⟩
      have pl7 : h7.PlainList D ys.toArray := by
        obtain ⟨n, hp⟩ := pl
        exact ⟨n, keepS _ _ neDC hp⟩
      refine wpAny_tests_one (isTrue_plain (wpAny_Name (wpAny_loadName_local ki (kn k2) n7 v2 (wpAny_truthy_bool ?_)) d2) rfl)
      cases eb : bs[i] with
      | false =>
        refine iteF ⟨stay ?_ _, frameS, pl7⟩
        rw [tk1, tk2, marked_snoc _ _ _ _ tl, eb]
        exact g5
      | true =>
        refine iteT (wpAny_Name (wpAny_loadName_local ki (kn k1) n7 v1 ⟨stay ?_ _, frameS, pl7⟩) d1)
        rw [tk1, tk2, marked_snoc _ _ _ _ tl, eb]
        exact g5.append (.cons rx .nil)
    · rintro ys st ⟨g1, g2, g3, ⟨m, g4⟩, g5⟩ pl
      have hlen : min its.toArray.size its2.toArray.size = xs.length := by rw [List.size_toArray, List.size_toArray, len1, len2, Nat.min_self]
      rw [hlen, List.take_length, hl, List.take_length] at g5
      refine ⟨m, g4, fun h9 sb9 => ?_⟩
      obtain ⟨n, hp⟩ := pl
      obtain ⟨hst, gst, dst, tst, ost⟩ := st
      simp only at g1 g2 g3 g4 hp sb9
      have hD9 : h9.get? D = some { cls := .type "list", data := .seq ys.toArray n } := sb9.extBut _ _ neDC hp
      have J := I1.laid (h' := h9) (t' := tst) (o := .lst (marked xs bs)) (a := D) (fun b o e => sb9.extBut b o (ltC N C b newC (hN ▸ Heap.lt_size e)) (g3 b o e)) (by rw [hN]; exact Nat.le_trans (Nat.le_add_right N 5) newD)
        ⟨Nat.le_trans (marked_len xs bs) (Nat.le_of_lt (small1000 hl2)), ys, n, g5, hD9⟩
      refine ⟨.ref D, _, ?_, rfl, q D (I1.hok.fresh (by rw [hN]; exact Nat.le_trans (Nat.le_add_right N 5) newD))⟩
      subst g1 g2
      exact ⟨J.ok, J.os, J.bare, J.base, J.loc, J.cell, J.free, J.freeC, J.pin, J.hok, J.len⟩
end RS

set_option Elab.async false
set_option linter.all false
set_option maxRecDepth 100000
set_option maxHeartbeats 2000000
namespace RS
open PySem PySem.Spec PyProof.Rows L2 HotX
/-- a def called while the error p is handled -/
theorem run_hot {P : Program} {w : World} {K : PySem.W.Frag} {mg : Str → Option Value} {base : Heap} {k : Nat} {f : Addr} {x qual : Str} {st : Stmt} {fd : FuncData} {N ps : List Str} (F : Fun K x qual st f fd) (S : FnScope N ps (defScope st)) {A : Around} {outer : List Env} {s : Shared} {H : Hp} {us : List Value} {vs : List V} {Q : VK} {E : XK} {p : Addr × Obj}
    (hr : L2H.RoomH (k + 1) A) (hpin : L2H.PinOk outer H s p) (e0 : Env0 P w K mg base A outer s H) (hb : Binds K fd ps []) (r : Vals vs us) (hl : vs.length = ps.length)
    (hbody : ∀ cdv, L2H.RoomH k (A.deeper (envOfC qual (defScope st) s.heap.objs.size f cdv)) → ∃ t, PSs (L2H.cxH CX0 P w K mg base N qual (defScope st) f cdv A outer s H E p) (defBody st) t ∧ t { nx := fun _ H' => Q .non H', rt := Q } (L2.start N vs) H) :
    codeAny (model P w) A (.call (.ref f) ⟨us, []⟩) (CR CX0 outer P w H s Q E) s := by
  obtain ⟨oc, od, kV, doc, pm, an, cdv, ct, osl, e, lk, hcd⟩ := F.ex
  subst e
  have old : ∀ b o, base.get? b = some o → s.heap.get? b = some o := fun b o z => (e0.bs b o z).1
  have KX : K.In s.heap := e0.mod.kin.keeps old
  have lim : s.heap.NoLimit := e0.mod.nolimit.keeps old
  have lu : us.length = ps.length := r.length.symm.trans hl
  have bd := hb s us KX (by rw [List.append_nil]; exact lu)
  rw [List.append_nil] at bd
  refine codeAny_call_function hr.depth (KX _ _ lk) rfl S.co S.gen rfl (PySem.W.codeRec_of KX hcd) (bd _ _ _ _ ?_)
  refine wpAny_newFunctionEnv_cells S.kind (fun y hy => ?_) fun env he s1 ic => ?_
  · rcases S.par y.1 (List.of_mem_zip (show (y.1, y.2) ∈ ps.zip us from hy)).1 with q | q
    · exact .inl q
    · exact .inr ⟨q, PySem.W.cellsFrom_some _ _ _ (.inl q)⟩
  · subst he
    obtain ⟨t, ht, hq⟩ := hbody cdv (hr.deeper _)
    have J := L2H.inv_startH (CX := CX0) (E := E) S hpin e0 hl r ic
    refine ⟨lim.keeps ic.toInCall.keep, codeAny_func (wpAny_mono (ht.run [] s1 (L2.start N vs) H _ J hq) (fun fl s2 hs => ?_) fun _ _ z => z)⟩
    cases fl with
    | ret u =>
      obtain ⟨v, σ', H', J', rv, q⟩ := hs
      exact ⟨v, H', J'.os, J'.bare, J'.base, J'.hok, rv, q⟩
    | next =>
      obtain ⟨σ', H', J', q⟩ := hs
      exact ⟨V.non, H', J'.os, J'.bare, J'.base, J'.hok, rfl, q⟩
    | brk =>
      obtain ⟨_, _, _, q⟩ := hs
      exact q.elim
    | cont =>
      obtain ⟨_, _, _, q⟩ := hs
      exact q.elim
/-- isinstance(e, c), e an error that stays where it is -/
theorem call_isP {X : Cx} {a D : Addr} {oe : Obj} (hp : (a, oe) ∈ X.pn) (C : ExcC X.K D) (hz : Zc (.ref D) none oe) (hf : ∃ vs, oe.data = .fields vs) : CallR X (.builtin "isinstance") (rIsE X.K D a) := by
  intro pins s σ H xs us Q I r h
  obtain ⟨c, cv, b, rfl, hcv, e, q⟩ := h
  obtain ⟨u1, u2, rfl, r1, r2⟩ := vals2 r
  cases r1
  have ec := hcv _ r2
  subst ec
  obtain ⟨hget, _⟩ := I.pin (a, oe) (List.mem_append_left _ hp)
  obtain ⟨vs, hv⟩ := hf
  have J : PySem.W.InstAt s.heap a oe D none := by
    obtain ⟨oc, od, oda, osl⟩ := oe
    obtain ⟨h1, h2⟩ := hz
    simp only at h1 h2 hv
    subst h1 h2 hv
    exact ⟨hget, rfl, rfl, trivial⟩
  exact PySem.W.kia_one (PySem.W.handS_kitx_exc C.hg C.hk C.hs C.hd C.ha C.hn C.ht C.hm) I.kIn J e (fun z => nomatch z) fun tk => ⟨.bl b, H, I.kept (t' := tk) fun _ _ z => z, rfl, q⟩
/-! ### _law_kin, of a NoHeights -/
structure KinT (K : PySem.W.Frag) (mg : Str → Option Value) (D : Addr) : Prop where
  exc : ExcC K D
  c0 : mg "NoHeights" = some (.ref D) ∧ PySem.W.kitOne K (.ref D) (.ref D) = some true
  c1 : ∃ C, mg "NoNumber" = some (.ref C) ∧ PySem.W.kitOne K (.ref D) (.ref C) = some false
  c2 : ∃ C, mg "NoLot" = some (.ref C) ∧ PySem.W.kitOne K (.ref D) (.ref C) = some false
  c3 : ∃ C, mg "NoHouse" = some (.ref C) ∧ PySem.W.kitOne K (.ref D) (.ref C) = some false
  c4 : ∃ C, mg "NoCounts" = some (.ref C) ∧ PySem.W.kitOne K (.ref D) (.ref C) = some false
  c5 : ∃ C, mg "NoPlace" = some (.ref C) ∧ PySem.W.kitOne K (.ref D) (.ref C) = some false
  c6 : ∃ C, mg "NoHeight" = some (.ref C) ∧ PySem.W.kitOne K (.ref D) (.ref C) = some false
  c7 : ∃ C, mg "Taken" = some (.ref C) ∧ PySem.W.kitOne K (.ref D) (.ref C) = some false
  c8 : ∃ C, mg "Full" = some (.ref C) ∧ PySem.W.kitOne K (.ref D) (.ref C) = some false
  c9 : ∃ C, mg "NothingLeft" = some (.ref C) ∧ PySem.W.kitOne K (.ref D) (.ref C) = some false
  ve : mg "ValueError" = none ∧ PySem.W.kitOne K (.ref D) (.type "ValueError") = some true
theorem scKin : FnScope ["e", "kinds_met", "names"] ["e"] (defScope sKin) := ⟨rfl, rfl, rfl, by decide +kernel, rfl, by decide +kernel, by decide +kernel⟩
section
variable {P : Program} {w : World} {K : PySem.W.Frag} {mg : Str → Option Value} {base : Heap}
theorem body_kin {D a : Addr} {oe : Obj} {k : Nat} (T : KinT K mg D) (B : Bn mg) (hz : Zc (.ref D) none oe) (hf : ∃ vs, oe.data = .fields vs) (hot : ∀ vs, oe.data = .fields vs → vs[2]? = some .none) {f : Addr} {cdv : Value} {A : Around} {outer : List Env} {s : Shared} {H : Hp} {Q : VK} {E : XK} (hA : A.handled = some (.ref a))
    (q : ∀ H', Same H H' → Q (.str "NoHeights+") H') :
    ∃ t, PSs (L2H.cxH CX0 P w K mg base ["e", "kinds_met", "names"] "_law_kin" (defScope sKin) f cdv A outer s H E (a, oe)) (defBody sKin) t ∧ t { nx := fun _ H' => Q .non H', rt := Q } (L2.start ["e", "kinds_met", "names"] [.ref a]) H := by
  obtain ⟨C1, g1, b1⟩ := T.c1
  obtain ⟨C2, g2, b2⟩ := T.c2
  obtain ⟨C3, g3, b3⟩ := T.c3
  obtain ⟨C4, g4, b4⟩ := T.c4
  obtain ⟨C5, g5, b5⟩ := T.c5
  obtain ⟨C6, g6, b6⟩ := T.c6
  obtain ⟨C7, g7, b7⟩ := T.c7
  obtain ⟨C8', g8, b8⟩ := T.c8
  obtain ⟨C9, g9, b9⟩ := T.c9
  have hc : L2H.HotC (L2H.cxH CX0 P w K mg base ["e", "kinds_met", "names"] "_law_kin" (defScope sKin) f cdv A outer s H E (a, oe)) := ⟨(a, oe), ⟨hA, by obtain ⟨vs, hv⟩ := hf; exact ⟨vs, hv, hot vs hv⟩⟩, List.mem_singleton.mpr rfl⟩
  have isp : CallR (L2H.cxH CX0 P w K mg base ["e", "kinds_met", "names"] "_law_kin" (defScope sKin) f cdv A outer s H E (a, oe)) (.builtin "isinstance") (rIsE K D a) := call_isP (List.mem_singleton.mpr rfl) T.exc hz hf
  refine ⟨_, pss_cons (ps_set (i := 1) scKin.nd rfl (Or.inl rfl) (pe_lst (pa_cons (pe_callB isp (by rfl) B.isi boot_isinstance (pa_cons (pv 0) (pa_cons (pe_glob (v := .ref D) (by rfl) T.c0.1 rfl) pa_nil))) (pa_cons (pe_callB isp (by rfl) B.isi boot_isinstance (pa_cons (pv 0) (pa_cons (pe_glob (v := .ref C1) (by rfl) g1 rfl) pa_nil)))
      (pa_cons (pe_callB isp (by rfl) B.isi boot_isinstance (pa_cons (pv 0) (pa_cons (pe_glob (v := .ref C2) (by rfl) g2 rfl) pa_nil))) (pa_cons (pe_callB isp (by rfl) B.isi boot_isinstance (pa_cons (pv 0) (pa_cons (pe_glob (v := .ref C3) (by rfl) g3 rfl) pa_nil))) pa_nil))))))
    (pss_cons (ps_set (i := 1) scKin.nd rfl (Or.inl rfl) (pe_op op_cat (pv 1) (pe_lst (pa_cons (pe_callB isp (by rfl) B.isi boot_isinstance (pa_cons (pv 0) (pa_cons (pe_glob (v := .ref C4) (by rfl) g4 rfl) pa_nil))) (pa_cons (pe_callB isp (by rfl) B.isi boot_isinstance (pa_cons (pv 0) (pa_cons (pe_glob (v := .ref C5) (by rfl) g5 rfl) pa_nil)))
      (pa_cons (pe_callB isp (by rfl) B.isi boot_isinstance (pa_cons (pv 0) (pa_cons (pe_glob (v := .ref C6) (by rfl) g6 rfl) pa_nil))) pa_nil))))))
    (pss_cons (ps_set (i := 1) scKin.nd rfl (Or.inl rfl) (pe_op op_cat (pv 1) (pe_lst (pa_cons (pe_callB isp (by rfl) B.isi boot_isinstance (pa_cons (pv 0) (pa_cons (pe_glob (v := .ref C7) (by rfl) g7 rfl) pa_nil))) (pa_cons (pe_callB isp (by rfl) B.isi boot_isinstance (pa_cons (pv 0) (pa_cons (pe_glob (v := .ref C8') (by rfl) g8 rfl) pa_nil)))
      (pa_cons (pe_callB isp (by rfl) B.isi boot_isinstance (pa_cons (pv 0) (pa_cons (pe_glob (v := .ref C9) (by rfl) g9 rfl) pa_nil))) pa_nil))))))
    (pss_cons (ps_set (i := 2) scKin.nd rfl (Or.inl rfl) (pe_lst (pa_cons pe_str (pa_cons pe_str (pa_cons pe_str (pa_cons pe_str (pa_cons pe_str (pa_cons pe_str (pa_cons pe_str (pa_cons pe_str (pa_cons pe_str pa_nil)))))))))))
    (pss_cons (ps_set (i := 1) scKin.nd rfl (Or.inl rfl) (pe_op op_cat (pv 1) (pe_lst (pa_cons (pe_callB isp (by rfl) B.isi boot_isinstance (pa_cons (pv 0) (pa_cons (pe_bltn (v := .ty "ValueError") (by rfl) T.ve.1 (by decide +kernel) rfl) pa_nil))) pa_nil))))
    (pss_one (ps_ret (pe_join pe_str (pe_marked hc (by rfl) B.zip (pa_cons (pe_op op_cat (pv 2) (pe_lst (pa_cons pe_str (pa_cons pe_str pa_nil)))) (pa_cons (pv 1) pa_nil)) (by rfl) (by decide +kernel) rfl (by decide +kernel) rfl rfl (by decide) (by decide) (by decide))))))))), ?_⟩
  have i1 : ∀ (C : Addr) (u : Value), L2.RelV (.ref C) u → u = .ref C := fun _ _ h => h
  refine ⟨_, rfl, _, _, _, rfl, i1 _, T.c0.2, _, rfl, _, _, _, rfl, i1 _, b1, _, rfl, _, _, _, rfl, i1 _, b2, _, rfl, _, _, _, rfl, i1 _, b3, (by show 4 ≤ sizeLine; decide), fun l1 n1 => ?_⟩
  refine ⟨_, rfl, _, rfl, _, _, _, rfl, i1 _, b4, _, rfl, _, _, _, rfl, i1 _, b5, _, rfl, _, _, _, rfl, i1 _, b6, (by show 3 ≤ sizeLine; decide), fun l2 n2 => ?_⟩
  have s1 := same_upd (o := .lst [.bl true, .bl false, .bl false, .bl false]) n1
  have s2 := same_upd (o := .lst [.bl false, .bl false, .bl false]) n2
  refine ⟨l1, l2, _, _, rfl, rfl, s2 _ _ upd_same, upd_same, (by show 4 + 3 ≤ sizeLine; decide), fun l3 n3 => ?_⟩
  have s3 := same_upd (o := .lst ([.bl true, .bl false, .bl false, .bl false] ++ [.bl false, .bl false, .bl false])) n3
  refine ⟨_, rfl, _, rfl, _, _, _, rfl, i1 _, b7, _, rfl, _, _, _, rfl, i1 _, b8, _, rfl, _, _, _, rfl, i1 _, b9, (by show 3 ≤ sizeLine; decide), fun l4 n4 => ?_⟩
  have s4 := same_upd (o := .lst [.bl false, .bl false, .bl false]) n4
  refine ⟨l3, l4, _, _, rfl, rfl, s4 _ _ upd_same, upd_same, (by show 7 + 3 ≤ sizeLine; decide), fun l5 n5 => ?_⟩
  have s5 := same_upd (o := .lst (([.bl true, .bl false, .bl false, .bl false] ++ [.bl false, .bl false, .bl false]) ++ [.bl false, .bl false, .bl false])) n5
  refine ⟨(by show 9 ≤ sizeLine; decide), fun l6 n6 => ?_⟩
  have s6 := same_upd (o := .lst [.str "NoHeights", .str "NoNumber", .str "NoLot", .str "NoHouse", .str "NoCounts", .str "NoPlace", .str "NoHeight", .str "Taken", .str "Full"]) n6
  refine ⟨_, rfl, _, rfl, _, _, _, rfl, (fun u hu => hu), T.ve.2, (by show 1 ≤ sizeLine; decide), fun l7 n7 => ?_⟩
  have s7 := same_upd (o := .lst [.bl true]) n7
  refine ⟨l5, l7, _, _, rfl, rfl, s7 _ _ (s6 _ _ upd_same), upd_same, (by show 10 + 1 ≤ sizeLine; decide), fun l8 n8 => ?_⟩
  have s8 := same_upd (o := .lst ((([.bl true, .bl false, .bl false, .bl false] ++ [.bl false, .bl false, .bl false]) ++ [.bl false, .bl false, .bl false]) ++ [.bl true])) n8
  refine ⟨⟨_, rfl⟩, _, rfl, (by show 2 ≤ sizeLine; decide), fun l9 n9 => ?_⟩
  have s9 := same_upd (o := .lst [.str "NothingLeft", .str "+"]) n9
  refine ⟨l6, l9, _, _, rfl, rfl, s9 _ _ (s8 _ _ (s7 _ _ upd_same)), upd_same, (by show 9 + 2 ≤ sizeLine; decide), fun l10 n10 => ?_⟩
  have s10 := same_upd (o := .lst ([.str "NoHeights", .str "NoNumber", .str "NoLot", .str "NoHouse", .str "NoCounts", .str "NoPlace", .str "NoHeight", .str "Taken", .str "Full"] ++ [.str "NothingLeft", .str "+"])) n10
  refine ⟨_, rfl, l10, l8, _, [true, false, false, false, false, false, false, false, false, false, true], rfl, SqL.of upd_same, SqL.of (s10 _ _ (s9 _ _ upd_same)), rfl, (by show 11 ≤ 1000; decide), fun D nD => ?_⟩
  have s11 := same_upd (o := .lst [.str "NoHeights", .str "+"]) nD
  have all := (((((((((s1.trans s2).trans s3).trans s4).trans s5).trans s6).trans s7).trans s8).trans s9).trans s10).trans s11
  exact ⟨_, D, ["NoHeights", "+"], rfl, rfl, .inl (SqL.of upd_same), by decide +kernel, q _ all⟩
end
end RS

set_option Elab.async false
set_option linter.all false
set_option maxRecDepth 100000
set_option maxHeartbeats 2000000
namespace RS
open PySem PySem.Spec PyProof.Rows L2 HotX LamX
/-! ### _law_kin(e) in an except suite -/
def tKin (D a : Addr) (cls : Value) (d : Option Addr) : TE := fun σ H Q => σ[2]? = some (some (.ref a)) ∧ cls = .ref D ∧ d = none ∧ ∀ H', Same H H' → Q (.str "NoHeights+") H'
theorem pe_kin {X : Cx} {D a fk : Addr} {oe : Obj} {cls : Value} {d : Option Addr} {pn : List (Addr × Obj)} {fdk : FuncData} {n : Str} {p p2 pos : Pos} (F : Fun X.K "_law_kin" "_law_kin" sKin fk fdk) (bF : Binds X.K fdk ["e"] []) (gF : X.mg "_law_kin" = some (.ref fk)) (T : KinT X.K X.mg D) (B : Bn X.mg)
    (hz : L2N.Zn cls d oe) (hf : ∃ vs, oe.data = .fields vs) (hr : L2H.RoomH 1 X.A) (hg : Gl (X.suite a ((a, oe) :: pn)) "_law_kin") (hv : PE (X.suite a ((a, oe) :: pn)) (.Name n p2) (tVar 2)) (he : starEach [.Name n p2] X.env = (false, eval (.Name n p2) X.env) :: starEach [] X.env := by rfl) :
    PE (X.suite a ((a, oe) :: pn)) (.Call (.Name "_law_kin" p) [.Name n p2] [] pos) (tKin D a cls d) := by
  refine ⟨fun pins s σ H Q I h => ?_⟩
  obtain ⟨h2, rfl, rfl, q⟩ := h
  have hA : (X.suite a ((a, oe) :: pn)).A.handled = some (.ref a) := rfl
  refine wpAny_Call_Name_kw (ld_glob I hg gF (PySem.W.callWith_K (h₀ := X.base) I.ok.mod.kin F.kp ?_ he rfl))
  refine thn ((pa_cons hv pa_nil).run pos pins s σ H (fun vs H1 => vs = [.ref a] ∧ H1 = H) I ⟨.ref a, h2, rfl, rfl⟩) fun us s1 hq => ?_
  obtain ⟨vs, H1, I1, r1, rfl, rfl⟩ := hq
  refine ⟨I1.kIn, ?_⟩
  obtain ⟨P1, P2, P3, P4, P5⟩ := I1.pin (a, oe) (List.mem_append_left _ List.mem_cons_self)
  have hpin : L2H.PinOk X.stack H1 s1 (a, oe) := ⟨P1, P2, fun hm => (List.mem_cons.mp (I1.stkSub a hm)).elim P3 P4, P5⟩
  have rc := run_hot (P := X.prog) (w := X.w) (mg := X.mg) (base := X.base) (k := 0) (N := ["e", "kinds_met", "names"]) (E := E0) (Q := Q) F scKin (A := (X.suite a ((a, oe) :: pn)).A) ⟨hr.dp, hr.un⟩ hpin I1.env0 bF r1 rfl fun cdv _ => body_kin (k := 0) T B hz.zc hf hz.2.2 hA q
  refine wpAny_call (codeAny_mono rc fun r s' hq => ?_)
  cases r with
  | error e => exact (show False from hq).elim
  | ok fl =>
    cases fl with
    | ret u => exact I1.after hq
    | next => exact False.elim hq
    | brk => exact False.elim hq
    | cont => exact False.elim hq
/-! ### a lambda whose errors bear no context -/
def lamN (X : Cx) (A : Around) (outer : List Env) (s : Shared) (H : Hp) (E : XK) (scope : Scope) (f c' : Addr) : Cx :=
  (lamCx X A outer s H E scope f c').wish fun e s' => wpAny (model X.prog X.w) (A.deeper (lamEnv X scope s.heap.objs.size f c')) (leaving (lamEnv X scope s.heap.objs.size f c') e) (fun _ s2 => L2N.CX X.prog X.w outer H s E e s2) (fun e2 s2 => L2N.CX X.prog X.w outer H s E e2 s2) s'
theorem lamN_takes {X : Cx} {A : Around} {outer : List Env} {s : Shared} {H : Hp} {E : XK} {scope : Scope} {f c' : Addr} : L2N.Takes (lamN X A outer s H E scope f c') (fun cls d _ H' => E cls d H') := L2N.takes_of rfl rfl rfl rfl
section
variable {X : Cx} {pins : List (Addr × Obj)} {σ : L2.St} {H : Hp} {s : Shared}
theorem pe_actN {CXg : CXT} {Eg : XK} {Ng : List Str} {qg : Str} {sg : Scope} {g f c' : Addr} {cdg pm ctv : Value} {params : Arguments} {body : Expr} {scope : Scope} {k i : Nat} {a : Str} {pn : List (Addr × Obj)} {xe : Value → Shared → Prop} {W : WX} {tb : XK → TE} {p1 p2 : Pos}
    (I : Inv X pins σ H s) (L : LamS X.env.scope scope) (hf : s.heap.get? f = some (PySem.W.kla_obj "<lambda>" (X.env.qual ++ "<lambda>") params body scope (cloFrom X.env.cells scope.names []) pm c' ctv)) (hfn : H f = none) (hfr : f ∉ frs X.stack)
    (hbind : bindArgs (PySem.W.kla_fn "<lambda>" (X.env.qual ++ "<lambda>") params body scope (cloFrom X.env.cells scope.names []) pm (.ref c') ctv) ⟨[], []⟩ = pure [])
    (tk : L2N.Takes ((cxOf CXg X.prog X.w X.K X.mg X.base Ng qg sg g cdg X.A X.stack s H Eg).tr pn xe) W) (hr : Room (k + 1) (X.A.deeper (envOfC qg sg s.heap.objs.size g cdg)))
    (hbody : ∀ (A : Around) (outer : List Env) (s : Shared) (H : Hp) (E : XK), Room k (A.deeper (lamEnv X scope s.heap.objs.size f c')) → PE (lamN X A outer s H E scope f c') body (tb E))
    (hN : Ng[i]? = some a) (hv : Vis sg a) (hd : (a == ("__debug__" : Str)) = false := by decide) (hcd : (a == ("__classdict__" : Str)) = false := by decide) :
    PE ((cxOf CXg X.prog X.w X.K X.mg X.base Ng qg sg g cdg X.A X.stack s H Eg).tr pn xe) (.Call (.Name a p1) [] [] p2)
      (fun σZ HZ Q => σZ[i]? = some (some (.ref f)) ∧ HZ c' = some (CodeO c' (X.env.qual ++ "<lambda>")) ∧ tb (WE W σZ) σ HZ Q) := by
  refine ⟨fun pinsZ sZ σZ HZ Q IZ h => ?_⟩
  obtain ⟨hs, hc, ht⟩ := h
  refine wpAny_Call_Name_kw (thn ((pe_var (pos := p1) (i := i) hN hv hd hcd).run pinsZ sZ σZ HZ (fun v H1 => v = .ref f ∧ H1 = HZ) IZ ⟨.ref f, hs, rfl, rfl⟩) fun u s1 hq => ?_)
  obtain ⟨v, H1, I1, r1, rfl, rfl⟩ := hq
  obtain rfl : u = Value.ref f := r1
  have of1 := I1.base.keep f _ hf hfn hfr (fun z => nomatch (show f ∈ ([] : List Addr) from z))
  obtain ⟨⟨oc, vs, t, hoc, hdc, hvc⟩, _, _⟩ := I1.hok c' _ hc
  refine PySem.W.callWith_F0 ⟨_, _, _, _, of1⟩ ?_
  have rc : codeAny (model X.prog X.w) (X.A.deeper (envOfC qg sg s.heap.objs.size g cdg)) (.call (.ref f) ⟨[], []⟩) (CR (L2N.CX X.prog X.w) (envOfC qg sg s.heap.objs.size g cdg :: X.stack) X.prog X.w H1 s1 Q (WE W σZ)) s1 := by
    refine PySem.W.kla_callFunE hr.depth of1 rfl L.co L.gen rfl ⟨c', oc, vs, t, rfl, hoc, hdc, hvc⟩ ?_
    rw [hbind]
    refine wpAny_pure (wpAny_newFunctionEnv (fun y hy => (L.own y hy).2) (fun y hy => absurd hy (by simp)) (fun h₁ hns hsb => ⟨I1.nolimit.fresh _ hsb, ?_⟩) L.kind)
    show codeAny _ _ (.expr body (lamEnv X scope s1.heap.objs.size f c')) _ _
    have J := lam_start2 (E := WE W σZ) (f := f) (c' := c') (tk := s1.toks + ([] : List (Str × Value)).length) I L I1.env0 hr.hd I1.base hns fun b o e => hsb.extBut b o (Nat.ne_of_lt (Heap.lt_size e)) (Heap.get?_push_of_some _ e)
    have J2 : Inv (lamN X (X.A.deeper (envOfC qg sg s.heap.objs.size g cdg)) (envOfC qg sg s.heap.objs.size g cdg :: X.stack) s1 H1 (WE W σZ) scope f c') [] σ H1 _ := ⟨⟨J.ok.mod, J.ok.kind, J.ok.glob, J.ok.blt, J.ok.above, J.ok.inj, J.ok.has, J.ok.cab, J.ok.hd, J.ok.frames, J.ok.stk, J.ok.exf, J.ok.bs, J.ok.bsz, J.ok.noex, J.ok.exfs, J.ok.funs, J.ok.frf⟩, J.os, J.bare, J.base, J.loc, J.cell, J.free, J.freeC, J.pin, J.hok, J.len⟩
    refine PySem.W.kla_codeExpr (wpAny_mono ((hbody _ _ s1 H1 (WE W σZ) (hr.deeper _)).run [] _ _ H1 Q J2 ht) (fun v s' hq => ?_) fun e s' hq => hq)
    obtain ⟨w', H', J', rv, q⟩ := hq
    exact ⟨w', H', J'.os, J'.bare, J'.base, J'.hok, rv, q⟩
  refine wpAny_call (codeAny_mono rc fun r s' hq => ?_)
  cases r with
  | error e => exact L2N.passAt tk σZ pinsZ H1 s1 e s' I1 hq
  | ok fl =>
    cases fl with
    | ret u => exact I1.after hq
    | next => exact False.elim hq
    | brk => exact False.elim hq
    | cont => exact False.elim hq
end
end RS

set_option Elab.async false
set_option linter.all false
set_option maxRecDepth 100000
set_option maxHeartbeats 2000000
namespace RS
open PySem PySem.Spec PyProof.Rows L2 HotX LamX
theorem takes0N {X : Cx} : L2N.Takes X (fun _ _ _ _ => False) := fun _ _ x => by
  obtain ⟨_, _, _, _, _, _, _, _, _, _, _, _, _, _, _, _, z⟩ := x
  exact z.elim
/-- _law_try(lambda: body), what may be raised being a D -/
def tTry (T : List (Addr × Str)) (D : Addr) (t : XK → TE) : TE := fun σ H Q => Tabs T H ∧ ∀ H1, ExtN H H1 → Tabs T H1 →
  t (fun cls d H2 => cls = .ref D ∧ d = none ∧ ∀ H3, Same H2 H3 → Q (.str "NoHeights+") H3) σ H1 (fun v H2 => ∀ p, H2 p = none → Q (.ref p) (upd H2 p (.tup [.str "told", v])))
theorem scTry : FnScope ["door", "found", "e"] ["door"] (defScope sTry) := ⟨rfl, rfl, rfl, by decide +kernel, rfl, by decide +kernel, by decide +kernel⟩
theorem pe_try {X : Cx} {T : List (Addr × Str)} {D R fk g c P : Addr} {fdk fdg : FuncData} {k : Nat} {params : Arguments} {body : Expr} {scope : Scope} {t : XK → TE} {p lpos pos : Pos}
    (FK : Fun X.K "_law_kin" "_law_kin" sKin fk fdk) (bK : Binds X.K fdk ["e"] []) (gK : X.mg "_law_kin" = some (.ref fk)) (KT : KinT X.K X.mg D) (B : Bn X.mg)
    (F : Fun X.K "_law_try" "_law_try" sTry g fdg) (bF : Binds X.K fdg ["door"] []) (gF : X.mg "_law_try" = some (.ref g)) (gR : X.mg "RoofError" = some (.ref R)) (ex : PySem.W.exmOne X.K (.ref D) (.ref R) = some true) (hg : Gl X "_law_try")
    (TB : TabB X.base X.mg c P) (hcode : X.env.code = .ref c) (hmT : (P, X.env.qual ++ "<lambda>") ∈ T) (hu : ∀ p ∈ T, p.1 = P → p.2 = X.env.qual ++ "<lambda>") (hr : Room (k + 2) X.A) (L : LamS X.env.scope scope) (hdef : defaultsOf params X.env = ([], []))
    (hbind : ∀ (q : Str) (cl : List (Str × Addr)) (pm cv ctv : Value), bindArgs (PySem.W.kla_fn "<lambda>" q params body scope cl pm cv ctv) ⟨[], []⟩ = pure [])
    (mono : ∀ E E' σ H Q Q', (∀ cls d H, E cls d H → E' cls d H) → (∀ v H, Q v H → Q' v H) → t E σ H Q → t E' σ H Q')
    (hbody : ∀ (A : Around) (outer : List Env) (s : Shared) (H : Hp) (E : XK) (f c' : Addr), Room k (A.deeper (lamEnv X scope s.heap.objs.size f c')) → PE (lamN X A outer s H E scope f c') body (t E)) :
    PE X (.Call (.Name "_law_try" p) [.Lambda params body scope lpos] [] pos) (tTry T D t) := by
  refine ⟨fun pins s σ H Q I h => ?_⟩
  obtain ⟨hT, h⟩ := h
  obtain ⟨oc, od, kV, doc, pm, an, cdv, ct, osl, ef, lk, hcd⟩ := F.ex
  subst ef
  refine wpAny_Call_Name_kw (ld_glob I hg gF (PySem.W.callWith_K (h₀ := X.base) I.ok.mod.kin F.kp ?_ (by rfl) (by rfl)))
  show wpAny _ _ (spliced ((false, eval (.Lambda params body scope lpos) X.env) :: backTo pos (starEach [] X.env))) _ _ s
  refine Calls.spliced_cons (lam_make2 I TB hcode hmT hu hT hdef (L.has I.ok) fun f c' pm' ctv H1 s' I1 eN T1 hf hfn hfr hco => Calls.spliced_nil ⟨I1.kIn, ?_⟩)
  have rc : codeAny (model X.prog X.w) X.A (.call (.ref g) ⟨[.ref f], []⟩) (CR CX0 X.stack X.prog X.w H1 s' Q E0) s' := by
    refine run_ofS (N := ["door", "found", "e"]) (ps := ["door"]) (us := [.ref f]) (vs := [.ref f]) lk hcd scTry hr I1.env0 (bF s' [.ref f] I1.kIn rfl) (.cons rfl .nil) rfl fun hr' => ?_
    have hrk : L2H.RoomH 1 (X.A.deeper (envOfC "_law_try" (defScope sTry) s'.heap.objs.size g cdv)) := ⟨by have := hr'.dp; omega, by have := hr'.un; omega⟩
    have PB : PSs (cxOf CX0 X.prog X.w X.K X.mg X.base ["door", "found", "e"] "_law_try" (defScope sTry) g cdv X.A X.stack s' H1 E0).nox (defBody sTry) _ :=
      pss_cons (ps_set (i := 1) scTry.nd rfl (Or.inl rfl) pe_non)
      (pss_cons (L2N.ps_try_as (i := 2) (tb := fun W => tAsg (tTup (tCons (tC (.str "told")) (tCons (fun σZ HZ Q => σZ[0]? = some (some (.ref f)) ∧ HZ c' = some (CodeO c' (X.env.qual ++ "<lambda>")) ∧ t (WE W σZ) σ HZ Q) tNil))) (gName 1)) (ts := fun a cls d => tAsg (tKin D a cls d) (gName 1)) (Wout := fun _ _ _ _ => False)
          rfl rfl scTry.nd rfl rfl ⟨rfl, by decide, .inl gR⟩ takes0N
        (fun W pn xe tk _ => pss_one (ps_set (i := 1) scTry.nd rfl (Or.inl rfl) (pe_tup (pa_cons pe_str (pa_cons (pe_actN (CXg := CX0) (Eg := E0) (i := 0) (k := k) (Ng := ["door", "found", "e"]) I1 L hf hfn hfr (hbind _ _ _ _ _) tk hr' (fun A outer s H E hr2 => hbody A outer s H E f c' hr2) rfl (Or.inl rfl)) pa_nil)))))
        (fun a oe cls d pn hz hfl => pss_one (ps_set (i := 1) scTry.nd rfl (Or.inl rfl) (pe_kin FK bK gK KT B hz hfl hrk (by rfl) (pv 2)))))
      (pss_one (ps_ret (pv 1))))
    refine ⟨_, PB.nox, ?_⟩
    refine ⟨rfl, hco, mono _ _ _ _ _ _ (fun cls d H2 hE => ?_) (fun v H2 hQ => ?_) (h H1 eN T1)⟩
    · obtain ⟨rfl, rfl, hq⟩ := hE
      exact ⟨true, ex, fun _ a ha => ⟨rfl, rfl, rfl, fun H' sm => ⟨_, rfl, hq H' sm⟩⟩, fun z => nomatch z⟩
    · exact ⟨by show 2 ≤ sizeLine; decide, fun q hq => ⟨_, rfl, hQ q hq⟩⟩
  refine wpAny_call (codeAny_mono rc fun r s2 hq => ?_)
  cases r with
  | error e => exact (show False from hq).elim
  | ok fl =>
    cases fl with
    | ret u => exact I1.after hq
    | next => exact False.elim hq
    | brk => exact False.elim hq
    | cont => exact False.elim hq
end RS

set_option Elab.async false
set_option linter.all false
set_option maxRecDepth 100000
set_option maxHeartbeats 2000000
namespace RS
open PySem PySem.Spec PyProof.Rows L2 HotX LamX
variable {K : PySem.W.Frag}
theorem rd_N {H H' : Hp} {a : Addr} {u : HO} (h : Rd H a u) (e : ExtN H H') (n : ∀ ps, u ≠ .tbl ps) : Rd H' a u := by
  rcases h with h | ⟨o, h⟩
  · exact .inl (e a u h n)
  · exact .inr ⟨o, e a _ h (fun ps z => nomatch z)⟩
theorem sqL_N {H H' : Hp} {a : Addr} {xs : List V} (h : SqL K H a xs) (e : ExtN H H') : SqL K H' a xs := by
  rcases h with h | h
  · exact .inl (rd_N h e fun ps z => nomatch z)
  · exact .inr h
theorem sqT_N {H H' : Hp} {a : Addr} {xs : List V} (h : SqT K H a xs) (e : ExtN H H') : SqT K H' a xs := by
  rcases h with h | h
  · exact .inl (rd_N h e fun ps z => nomatch z)
  · exact .inr h
mutual
theorem dp_N {H H' : Hp} (e : ExtN H H') : ∀ {v : V} {d : PyData}, Dp K H v d → Dp K H' v d
  | _, _, .non => .non
  | _, _, .bl b => .bl b
  | _, _, .int i => .int i
  | _, _, .str x => .str x
  | _, _, .lst s a => .lst (sqL_N s e) (dpAll_N e a)
  | _, _, .tup s a => .tup (sqT_N s e) (dpAll_N e a)
theorem dpAll_N {H H' : Hp} (e : ExtN H H') : ∀ {vs : List V} {ds : List PyData}, DpAll K H vs ds → DpAll K H' vs ds
  | _, _, .nil => .nil
  | _, _, .cons a b => .cons (dp_N e a) (dpAll_N e b)
end
theorem extN_hide {p : Addr} {H H' : Hp} (e : ExtN H H') : ExtN (hide p H) (hide p H') := fun b o h n => by
  by_cases hb : b = p
  · subst hb
    rw [hide_at] at h
    cases h
  · rw [hide_ne hb] at h ⊢
    exact e b o h n
theorem deck_N {H H' : Hp} {p : Addr} {n : Nat} (d : Deck H p n) (e : ExtN H H') : Deck H' p n := by
  obtain ⟨a, b, c, h, r⟩ := d
  exact ⟨a, b, c, e p _ h (fun ps z => nomatch z), r⟩
theorem deck_ne {H : Hp} {p : Addr} {n : Nat} (d : Deck H p n) : ∀ a, H a = none → a ≠ p := fun a h z => by
  obtain ⟨_, _, _, e, _⟩ := d
  rw [← z, h] at e
  cases e
theorem tabs_hide {T : List (Addr × Str)} {H : Hp} {p : Addr} {n : Nat} (t : Tabs T H) (d : Deck H p n) : Tabs T (hide p H) := fun x hx => by
  obtain ⟨ps, h1, h2, h3⟩ := t x hx
  obtain ⟨a, b, c, h, _⟩ := d
  refine ⟨ps, ?_, h2, fun pos cv hc => ?_⟩
  · rw [hide_ne]
    · exact h1
    · rintro rfl
      rw [h] at h1
      cases h1
  · obtain ⟨c', e, h4⟩ := h3 pos cv hc
    refine ⟨c', e, ?_⟩
    rw [hide_ne]
    · exact h4
    · rintro rfl
      rw [h] at h4
      cases h4
theorem tabs_same {T : List (Addr × Str)} {H H' : Hp} (t : Tabs T H) (s : Same H H') : Tabs T H' := fun x hx => (t x hx).ext s
theorem tabs_but {T : List (Addr × Str)} {H H' : Hp} {p : Addr} {n : Nat} (t : Tabs T H) (d : Deck H p n) (b : But p H H') : Tabs T H' := tabs_same (tabs_same (tabs_hide t d) b.hide) hide_same
/-- a list of few things, each of a plain shape -/
def Ls (K : PySem.W.Frag) (H : Hp) (n : Nat) (a : Addr) : Prop := ∃ xs ds, SqL K H a xs ∧ DpAll K H xs ds ∧ ds.length ≤ n ∧ ∀ d ∈ ds, Shp 60 d
theorem Ls.same {H H' : Hp} {n : Nat} {a : Addr} (h : Ls K H n a) (s : Same H H') : Ls K H' n a := by
  obtain ⟨xs, ds, h1, h2, h3⟩ := h
  exact ⟨xs, ds, s.seq h1, dpAll_mono s h2, h3⟩
theorem Ls.ext {H H' : Hp} {n : Nat} {a : Addr} (h : Ls K H n a) (s : ExtN H H') : Ls K H' n a := by
  obtain ⟨xs, ds, h1, h2, h3⟩ := h
  exact ⟨xs, ds, sqL_N h1 s, dpAll_N s h2, h3⟩
/-- what stands while the deck p is drawn from -/
structure Bs (K : PySem.W.Frag) (T : List (Addr × Str)) (p wr L : Addr) (cells : List V) (H : Hp) (n : Nat) : Prop where
  l : SqL K (hide p H) L cells
  w : Ls K (hide p H) 20 wr
  t : Tabs T H
  d : Deck H p n
section
variable {T : List (Addr × Str)} {p wr L : Addr} {cells : List V} {H H' : Hp} {n m : Nat}
theorem Bs.but (b : Bs K T p wr L cells H n) (s : But p H H') (d : Deck H' p m) : Bs K T p wr L cells H' m := ⟨s.hide.seq b.l, b.w.same s.hide, tabs_but b.t b.d s, d⟩
theorem Bs.same (b : Bs K T p wr L cells H n) (s : Same H H') : Bs K T p wr L cells H' n := ⟨(hide_mono s).seq b.l, b.w.same (hide_mono s), tabs_same b.t s, b.d.same s⟩
theorem Bs.ext (b : Bs K T p wr L cells H n) (s : ExtN H H') (t : Tabs T H') : Bs K T p wr L cells H' n := ⟨sqL_N b.l (extN_hide s), b.w.ext (extN_hide s), t, deck_N b.d s⟩
theorem Bs.le (b : Bs K T p wr L cells H n) (h : n ≤ m) : Bs K T p wr L cells H m := ⟨b.l, b.w, b.t, b.d.le h⟩
theorem Bs.ne (b : Bs K T p wr L cells H n) : ∀ a, H a = none → a ≠ p := deck_ne b.d
end
theorem dpAll_at {H : Hp} : ∀ {vs : List V} {ds : List PyData} {i : Nat} {x : V}, DpAll K H vs ds → vs[i]? = some x → ∃ d ∈ ds, Dp K H x d
  | _, _, 0, _, .cons a _, e => by cases e; exact ⟨_, List.mem_cons_self, a⟩
  | _, _, i + 1, _, .cons _ b, e => by
    obtain ⟨d, hd, h⟩ := dpAll_at b (i := i) e
    exact ⟨d, List.mem_cons_of_mem _ hd, h⟩
/-- a loop over a list that stays -/
theorem for_list {a : Addr} {xs : List V} {g : TG} {tb : TS} {D : Ends} {σ : L2.St} {H : Hp} (Pv : Nat → L2.St → Hp → Prop) (h0 : Pv 0 σ H) (hl : ∀ i σ H, Pv i σ H → SqL K H a xs)
    (hs : ∀ i σ H x, xs[i]? = some x → Pv i σ H → g x σ H fun σ2 H2 => tb { D with nx := Pv (i + 1), ct := Pv (i + 1), bk := D.nx } σ2 H2) (hd : ∀ σ H, Pv xs.length σ H → D.nx σ H) :
    ∃ W : Nat → Nat → L2.St → Hp → Prop, (∃ m, W 0 m σ H) ∧ ∀ i m σ H, W i m σ H →
      ((Itl K a).stop i H ∧ D.nx σ H) ∨ ((Itl K a).go i H ∧ ∃ N : L2.St → Hp → Prop, (∀ σ' H', N σ' H' → ∃ m', m' < m ∧ W (i + 1) m' σ' H') ∧ ∀ x H', (Itl K a).yld i H x H' → g x σ H' fun σ2 H2 => tb { D with nx := N, ct := N, bk := D.nx } σ2 H2) := by
  refine ⟨fun i m σ H => i + m = xs.length ∧ Pv i σ H, ⟨xs.length, Nat.zero_add _, h0⟩, fun i m σ H ⟨hm, hp⟩ => ?_⟩
  cases m with
  | zero =>
    have e : i = xs.length := by omega
    subst e
    exact .inl ⟨⟨xs, hl _ _ _ hp, Nat.le_refl _⟩, hd _ _ hp⟩
  | succ m =>
    have hi : i < xs.length := by omega
    refine .inr ⟨⟨xs, xs[i], hl _ _ _ hp, List.getElem?_eq_getElem hi⟩, Pv (i + 1), fun σ' H' h => ⟨m, Nat.lt_succ_self _, by omega, h⟩, fun x H' y => ?_⟩
    obtain ⟨rfl, hy⟩ := y
    exact hs i σ _ x (hy xs (hl _ _ _ hp)) hp
theorem slice_t {p : Addr} {v : V} {ds es : List PyData} {Hc : Hp} {lo hi : Option Int} {Q : VK} (hp : ∀ a, Hc a = none → a ≠ p) (h : Dp K (hide p Hc) v (.tuple ds)) (hcut : ∀ {H : Hp} {vs : List V}, DpAll K H vs ds → DpAll K H (cutV vs lo hi) es)
    (q : ∀ y H', Same Hc H' → Dp K (hide p H') y (.tuple es) → Q y H') : rSlA K v lo hi Hc Q := by
  obtain ⟨a, xs, rfl, hs, ha⟩ := dp_sq (k := true) h
  refine ⟨a, xs, rfl, hide_same.seqT hs, fun hw => q _ Hc (Same.refl _) (.tup hs ?_), fun _ r hr => q _ _ (same_upd hr) (.tup (SqT.of (by rw [hide_ne (hp r hr)]; exact upd_same)) (hcut (dpAll_mono (hide_mono (same_upd hr)) ha)))⟩
  rw [← whole_cut hw]
  exact hcut ha
theorem cat_t {p : Addr} {x y : V} {ds es : List PyData} {Hc : Hp} {Q : VK} (hp : ∀ a, Hc a = none → a ≠ p) (h : Dp K (hide p Hc) x (.tuple ds)) (h2 : Dp K (hide p Hc) y (.tuple es)) (hl : ds.length + es.length ≤ sizeLine)
    (q : ∀ z H', Same Hc H' → Dp K (hide p H') z (.tuple (ds ++ es)) → Q z H') : rCatA K x y Hc Q := by
  obtain ⟨a, xs, rfl, hs, ha⟩ := dp_sq (k := true) h
  obtain ⟨b, ys, rfl, hs2, hb⟩ := dp_sq (k := true) h2
  have l1 := dpAll_len ha
  have l2 := dpAll_len hb
  refine ⟨a, b, xs, ys, rfl, rfl, hide_same.seqT hs, hide_same.seqT hs2, by omega, fun e => q _ Hc (Same.refl _) ?_, fun _ e => q _ Hc (Same.refl _) ?_, fun _ _ r hr => q _ _ (same_upd hr) (.tup (SqT.of (by rw [hide_ne (hp r hr)]; exact upd_same)) (dpAll_app (dpAll_mono (hide_mono (same_upd hr)) ha) (dpAll_mono (hide_mono (same_upd hr)) hb)))⟩
  · subst e
    cases ha
    exact .tup hs2 hb
  · subst e
    cases hb
    rw [List.append_nil]
    exact .tup hs ha
end RS

set_option Elab.async false
set_option linter.all false
set_option maxRecDepth 100000
set_option maxHeartbeats 2000000
namespace RS
open PySem PySem.Spec PyProof.Rows L2 HotX LamX
/-- flat, its numbers at most B -/
def FlB (B : Nat) (d : PyData) : Prop := Flat d ∧ ∀ i, d = .int i → i.natAbs ≤ B
def Okd (m B : Nat) (d : PyData) : Prop := FlB B d ∨ ∃ ds, (d = .tuple ds ∨ d = .list ds) ∧ ds.length ≤ m ∧ ∀ x ∈ ds, FlB B x
theorem FlB.mono {B B' : Nat} {d : PyData} (h : FlB B d) (e : B ≤ B') : FlB B' d := ⟨h.1, fun i z => Nat.le_trans (h.2 i z) e⟩
theorem flb_int {B : Nat} {i : Int} (h : i.natAbs ≤ B) : FlB B (.int i) := ⟨trivial, fun j e => by cases e; exact h⟩
theorem flb_str {B : Nat} (x : String) : FlB B (.str (Str.ofString x)) := ⟨by
  have := shp_txt (n := 0) x
  unfold Flat
  simp only [Shp, PyData.canLay0] at this
  first | exact this.1 | trivial, fun j e => nomatch e⟩
theorem flb_non {B : Nat} : FlB B .none := ⟨trivial, fun j e => nomatch e⟩
theorem flb_bool {B : Nat} {b : Bool} : FlB B (.bool b) := ⟨trivial, fun j e => nomatch e⟩
theorem okd_seq {m B : Nat} {k : Bool} {ds : List PyData} (h : Okd m B (sqD k ds)) : ds.length ≤ m ∧ ∀ x ∈ ds, FlB B x := by
  rcases h with h | ⟨es, e, h⟩
  · cases k <;> exact h.1.elim
  · cases k <;> rcases e with e | e <;> cases e <;> exact h
theorem seq_okd {m B : Nat} {k : Bool} {ds : List PyData} (h : ds.length ≤ m) (h2 : ∀ x ∈ ds, FlB B x) : Okd m B (sqD k ds) := by
  cases k
  · exact .inr ⟨ds, .inr rfl, h, h2⟩
  · exact .inr ⟨ds, .inl rfl, h, h2⟩
theorem cl1 {B : Nat} (h1 : 1000000000 ≤ B) (h2 : B ≤ 2000000000) : Cl (fun _ => False) (fun _ => False) (FlB B) (FlB (B + 1)) where
  itT := fun ds h => h.1.elim
  itL := fun ds h => h.1.elim
  fl0 := fun d h => h.elim
  reT := fun ds i x h => h.1.elim
  reL := fun ds i x h => h.1.elim
  otT := fun ds h => h.1.elim
  otL := fun ds h => h.1.elim
  int := fun i h => by
    have h3 := h.2 i rfl
    refine ⟨?_, flb_int (by omega), flb_int (by omega)⟩
    by_cases hz : i.natAbs = 0
    · rw [hz]; decide
    · have : i.natAbs < 2 ^ 31 := by omega
      have := (Nat.log2_lt hz).mpr this
      omega
  few := fun i a b => flb_int (by omega)
  txt := fun x => flb_str x
  non := flb_non
  tru := flb_bool
theorem mem_set_or {ds : List PyData} {i : Nat} {x y : PyData} (h : y ∈ ds.set i x) : y ∈ ds ∨ y = x := List.mem_or_eq_of_mem_set h
theorem cl2 {m B : Nat} (hm : m ≤ 900) (h1 : 1000000000 ≤ B) (h2 : B ≤ 2000000000) : Cl (FlB B) (FlB (B + 1)) (Okd m B) (Okd (m + 1) (B + 1)) where
  itT := fun ds h => have q := okd_seq (k := true) h; ⟨Nat.le_trans q.1 hm, q.2⟩
  itL := fun ds h => have q := okd_seq (k := false) h; ⟨Nat.le_trans q.1 hm, q.2⟩
  fl0 := fun d h => h.1
  reT := fun ds i x h hx => have q := okd_seq (k := true) h; seq_okd (k := true) (by rw [List.length_set]; omega) fun y hy => (mem_set_or hy).elim (fun z => (q.2 y z).mono (by omega)) fun z => z ▸ hx
  reL := fun ds i x h hx => have q := okd_seq (k := false) h; seq_okd (k := false) (by rw [List.length_set]; omega) fun y hy => (mem_set_or hy).elim (fun z => (q.2 y z).mono (by omega)) fun z => z ▸ hx
  otT := fun ds h => by
    have q := okd_seq (k := true) h
    refine ⟨seq_okd (k := false) (by omega) fun y hy => (q.2 y hy).mono (by omega), seq_okd (k := true) (by rw [List.length_append, List.length_take]; omega) fun y hy => ?_, seq_okd (k := true) (by rw [List.length_drop]; omega) fun y hy => (q.2 y (List.mem_of_mem_drop hy)).mono (by omega), seq_okd (k := true) (by rw [List.length_reverse]; omega) fun y hy => (q.2 y (List.mem_reverse.mp hy)).mono (by omega)⟩
    rcases List.mem_append.mp hy with z | z
    · exact (q.2 y z).mono (by omega)
    · exact (q.2 y (List.mem_of_mem_take z)).mono (by omega)
  otL := fun ds h => by
    have q := okd_seq (k := false) h
    refine ⟨seq_okd (k := true) (by omega) fun y hy => (q.2 y hy).mono (by omega), seq_okd (k := false) (by rw [List.length_append, List.length_take]; omega) fun y hy => ?_, seq_okd (k := false) (by rw [List.length_drop]; omega) fun y hy => (q.2 y (List.mem_of_mem_drop hy)).mono (by omega), seq_okd (k := false) (by rw [List.length_reverse]; omega) fun y hy => (q.2 y (List.mem_reverse.mp hy)).mono (by omega)⟩
    rcases List.mem_append.mp hy with z | z
    · exact (q.2 y z).mono (by omega)
    · exact (q.2 y (List.mem_of_mem_take z)).mono (by omega)
  int := fun i h => by
    have h3 : FlB B (.int i) := by
      rcases h with h | ⟨es, e, h⟩
      · exact h
      · rcases e with e | e <;> cases e
    have q := (cl1 h1 h2).int i h3
    exact ⟨q.1, .inl q.2.1, .inl q.2.2⟩
  few := fun i a b => .inl (flb_int (by omega))
  txt := fun x => .inl (flb_str x)
  non := .inl flb_non
  tru := .inl flb_bool
theorem okd_shp {m B n : Nat} {d : PyData} (h : Okd m B d) : Shp (n + 1) d := by
  rcases h with h | ⟨ds, e, h1, h2⟩
  · exact (flat_shp h.1).mono (by omega)
  · rcases e with e | e <;> rw [e]
    · exact shp_tup.mpr fun x hx => (flat_shp (h2 x hx).1).mono (by omega)
    · exact shp_list.mpr fun x hx => (flat_shp (h2 x hx).1).mono (by omega)
section
variable {P : Program} {w : World} {K : PySem.W.Frag} {mg : Str → Option Value} {base : Heap}
theorem ok_spoilt {m B j : Nat} (hm : m ≤ 900) (h1 : 1000000000 ≤ B) (h2 : B ≤ 2000000000) {f fP : Addr} {fd fdP : FuncData} (F : Fun K "_law_spoilt" "_law_spoilt" sSpoilt f fd) (bF : Binds K fd ["deck", "thing"] []) (gF : mg "_law_spoilt" = some (.ref f))
    (FP : Fun K "_law_pick" "_law_pick" sPick fP fdP) (bP : Binds K fdP ["deck", "size"] []) (gP : mg "_law_pick" = some (.ref fP)) (B0 : Bn mg) : FnOk P w K mg base CX0 (j + 3) f fd ["deck", "thing"] (spSpoilt K 4 (Okd m B) (Okd (m + 1) (B + 1))) := by
  have G0 : FnOk P w K mg base CX0 (j + 1) f fd ["deck", "thing"] (spSpoilt K 0 (fun _ => False) (fun _ => False)) := by
    refine F.ok scSpoilt (fun vs H Q E h => ?_) (fun cdv A outer s H vs Q E hr h => ?_)
    · obtain ⟨p, z, v, d, n, rfl, _⟩ := h
      rfl
    · obtain ⟨p, z, v, d, n, rfl, hd, hn, hzn, hv, hp, q⟩ := h
      exact hp.elim
  have G1 := ok_spoilt1 (cl1 h1 h2) F bF gF FP bP gP B0 (by decide) G0
  exact ok_spoilt1 (cl2 hm h1 h2) F bF gF FP bP gP B0 (by decide) G1
end
end RS

set_option Elab.async false
set_option linter.all false
set_option maxRecDepth 100000
set_option maxHeartbeats 2000000
namespace RS
open PySem PySem.Spec PyProof.Rows L2 HotX LamX
section
variable {K : PySem.W.Frag} {σ : L2.St} {k n : Nat} {te : TE} {ta : TA}
/-- an expression of plain data, new where it is no number -/
def GoodE (K : PySem.W.Frag) (te : TE) (σ : L2.St) (k : Nat) : Prop := ∀ (H : Hp) (Q : VK), (∀ x d H', Same H H' → Dp K H' x d → Shp k d → Q x H') → te σ H Q
def GoodA (K : PySem.W.Frag) (ta : TA) (σ : L2.St) (k n : Nat) : Prop := ∀ (H : Hp) (Q : List V → Hp → Prop), (∀ xs ds H', Same H H' → DpAll K H' xs ds → ds.length = n → (∀ d ∈ ds, Shp k d) → Q xs H') → ta σ H Q
theorem good_int {i : Int} : GoodE K (tC (.int i)) σ k := fun H Q q => q _ _ H (Same.refl _) (.int i) shp_int
theorem good_bl {b : Bool} : GoodE K (tC (.bl b)) σ k := fun H Q q => q _ _ H (Same.refl _) (.bl b) shp_bool
theorem good_nil : GoodA K tNil σ k 0 := fun H Q q => q [] [] H (Same.refl _) .nil rfl fun d m => absurd m (by simp)
theorem good_cons (he : GoodE K te σ k) (ha : GoodA K ta σ k n) : GoodA K (tCons te ta) σ k (n + 1) := fun H Q q =>
  he H _ fun x d H1 s1 d1 p1 => ha H1 _ fun xs ds H2 s2 d2 l2 p2 => q (x :: xs) (d :: ds) H2 (s1.trans s2) (.cons (dp_mono s2 d1) d2) (by rw [List.length_cons, l2]) fun y hy => (List.mem_cons.mp hy).elim (fun e => e ▸ p1) (p2 y)
theorem good_tup (ha : GoodA K ta σ k n) (hn : n ≤ 1000) : GoodE K (tTup ta) σ (k + 1) := fun H Q q =>
  ha H _ fun xs ds H1 s1 d1 l1 p1 => ⟨by rw [dpAll_len d1, l1]; exact Nat.le_trans hn (by decide), fun a ha => q _ (.tuple ds) _ (s1.trans (same_upd ha)) (.tup (SqT.of upd_same) (dpAll_mono (same_upd ha) d1)) (shp_tup.mpr p1)⟩
theorem good_pow {i j : Int} (h : CPow i j) : GoodE K (tOp (rI CPow fun i j => .int (i ^ j.toNat)) (tC (.int i)) (tC (.int j))) σ k := fun H Q q => ⟨i, j, rfl, rfl, h, q _ _ H (Same.refl _) (.int _) shp_int⟩
theorem intsDp {H : Hp} : ∀ (ns : List Int), DpAll K H (ns.map V.int) (ns.map PyData.int)
  | [] => .nil
  | n :: r => .cons (.int n) (intsDp r)
theorem rgV_ints (a b : Int) : rgV a b = ((List.range (b - a).toNat).map fun i => a + (i : Nat)).map V.int := by
  unfold rgV
  rw [List.map_map]
  rfl
theorem good_tupRg {m : Int} (h0 : 0 ≤ m) (h1 : m ≤ 1000) : GoodE K (tTupRg (tRg1 (tC (.int m)))) σ (k + 1) := fun H Q q => ⟨m, rfl, RgOk.of_le (by omega) (by omega) (by omega) h0, fun a ha => by
  refine q _ (.tuple (((List.range (m - 0).toNat).map fun i => (0 : Int) + (i : Nat)).map PyData.int)) _ (same_upd ha) (.tup (SqT.of upd_same) ?_) (shp_tup.mpr fun d hd => ?_)
  · rw [rgV_ints]
    exact intsDp _
  · obtain ⟨i, _, rfl⟩ := List.mem_map.mp hd
    exact shp_int⟩
end
end RS

set_option Elab.async false
set_option linter.all false
set_option maxRecDepth 100000
set_option maxHeartbeats 2000000
namespace RS
open PySem PySem.Spec PyProof.Rows L2 HotX LamX
variable {K : PySem.W.Frag}
theorem shp_pair {n : Nat} (p : Nat × Nat) : Shp (n + 1) (pairD p) := shp_tup.mpr fun d hd => by
  simp only [List.mem_cons, List.not_mem_nil, or_false] at hd
  rcases hd with h | h <;> rw [h] <;> exact shp_int
theorem shp_lot {n : Nat} (ps : List (Nat × Nat)) : Shp (n + 2) (lotD ps) := shp_tup.mpr fun d hd => by
  obtain ⟨p, _, rfl⟩ := List.mem_map.mp hd
  exact shp_pair p
theorem tp_lot (ps : List (Nat × Nat)) : Tp 2 (lotD ps) := .inr ⟨_, rfl, fun d hd => by
  obtain ⟨p, _, rfl⟩ := List.mem_map.mp hd
  refine .inr ⟨_, rfl, fun x hx => ?_⟩
  simp only [List.mem_cons, List.not_mem_nil, or_false] at hx
  rcases hx with h | h <;> rw [h] <;> exact trivial⟩
theorem shp_eqv {n : Nat} {d : PyData} (h : Shp n d) : PyData.eqv d d = true := SeqAt.eqv_refl d h.1
theorem hid_upd {p z : Addr} {H : Hp} {o : HO} : hid p z (upd H z o) = hid p z H := by
  funext b
  unfold hid hide
  by_cases h : b = z
  · rw [if_pos h, if_pos h]
  · rw [if_neg h, if_neg h]
    by_cases h2 : b = p
    · rw [if_pos h2, if_pos h2]
    · rw [if_neg h2, if_neg h2, upd_ne h]
theorem rev_t {p : Addr} {v : V} {ds : List PyData} {Hc : Hp} {Q : VK} (hp : ∀ a, Hc a = none → a ≠ p) (h : Dp K (hide p Hc) v (.tuple ds)) (q : ∀ y H', Same Hc H' → Dp K (hide p H') y (.tuple ds.reverse) → Q y H') : rRevS K v Hc Q :=
  rev_ok (z := p) (k := true) (fun a h => ⟨hp a h, hp a h⟩) (by rw [hid_self]; exact h) fun y H' s d => q y H' s (by rw [hid_self] at d; exact d)
theorem cells_int {ns : List Int} {lo hi : Option Int} {i : Nat} {x : V} (h : (cutV ([V.int 0] ++ ns.map V.int) lo hi)[i]? = some x) : ∃ z : Int, x = .int z := by
  have hm := List.mem_of_getElem? h
  unfold cutV at hm
  have hm := List.mem_of_mem_drop (List.mem_of_mem_take hm)
  rcases List.mem_append.mp hm with h | h
  · exact ⟨0, List.mem_singleton.mp h⟩
  · obtain ⟨z, _, rfl⟩ := List.mem_map.mp h
    exact ⟨z, rfl⟩
/-- all but p and D stays: a thing that was there when D was new -/
def But2 (p D : Addr) (H H' : Hp) : Prop := ∀ b o, b ≠ p → b ≠ D → H b = some o → H' b = some o
theorem But2.hid {p D : Addr} {H H' : Hp} (b : But2 p D H H') (n : H D = none) : Same (hide p H) (RS.hid p D H') := fun c o e => by
  have hc : c ≠ p := by
    rintro rfl
    rw [hide_at] at e
    cases e
  rw [hide_ne hc] at e
  have hd : c ≠ D := by
    rintro rfl
    rw [n] at e
    cases e
  rw [hid_ne ⟨hc, hd⟩]
  exact b c o hc hd e
def AnySt (a wr : Addr) (σ : L2.St) : Prop := ∃ y2 y3 y4 y5 y6 y7 y8 y9 y10 y11 y12, σ = [some (.ref a), some (.ref wr), y2, y3, y4, y5, y6, y7, y8, y9, y10, y11, y12]
/-- the drawn row -/
structure Row (K : PySem.W.Frag) (p u : Addr) (rn : List Int) (H : Hp) : Prop where
  dp : Dp K (hide p H) (.ref u) (.tuple (rn.map PyData.int))
  le1 : 1 ≤ rn.length
  le2 : rn.length ≤ 12
  nd : rn.Nodup
  bd : ∀ n ∈ rn, 0 ≤ n ∧ n ≤ 1000000000
section
variable {p u : Addr} {rn : List Int} {H H' : Hp}
theorem Row.same (r : Row K p u rn H) (s : Same (hide p H) (hide p H')) : Row K p u rn H' := ⟨dp_mono s r.dp, r.le1, r.le2, r.nd, r.bd⟩
theorem Row.ext (r : Row K p u rn H) (s : ExtN H H') : Row K p u rn H' := ⟨dp_N (extN_hide s) r.dp, r.le1, r.le2, r.nd, r.bd⟩
theorem Row.okd (r : Row K p u rn H) : Okd 12 1000000000 (.tuple (rn.map PyData.int)) := seq_okd (k := true) (by rw [List.length_map]; exact r.le2) fun x hx => by
  obtain ⟨n, hn, rfl⟩ := List.mem_map.mp hx
  have := r.bd n hn
  exact flb_int (by omega)
theorem Row.isH (r : Row K p u rn H) : isH (.tuple (rn.map PyData.int)) = true := isH_of r.le1 r.le2 r.nd r.bd
theorem Row.sq (r : Row K p u rn H) : SqT K H u (rn.map V.int) := by
  obtain ⟨a, xs, e, hs, ha⟩ := dp_sq (k := true) r.dp
  cases e
  rw [← dpAll_ints ha]
  exact hide_same.seqT hs
end
theorem deck_ne' {H : Hp} {p u : Addr} {n : Nat} {xs : List V} (d : Deck H p n) (h : H u = some (.tup xs)) : u ≠ p := fun z => by
  obtain ⟨_, _, _, e, _⟩ := d
  rw [← z, h] at e
  cases e
theorem lst_asg {σ : L2.St} {n : Nat} {ta : TA} {g : TG} {D : Ends} {H : Hp} (G : GoodA K ta σ 1 n) (hn : n ≤ 20) (q : ∀ wr H', Same H H' → Ls K H' 20 wr → g (.ref wr) σ H' D.nx) : tAsg (tLst ta) g D σ H :=
  G H _ fun xs ds H1 s1 d1 l1 p1 => ⟨by rw [dpAll_len d1, l1]; exact Nat.le_trans hn (by decide), fun wr hw => q wr _ (s1.trans (same_upd hw)) ⟨xs, ds, SqL.of upd_same, dpAll_mono (same_upd hw) d1, by omega, fun d hd => (p1 d hd).mono (by decide)⟩⟩
theorem good_powp {σ : L2.St} {k : Nat} {i j m : Int} (h : CPow i j) : GoodE K (tOp (rI0 fun i j => .int (i + j)) (tOp (rI CPow fun i j => .int (i ^ j.toNat)) (tC (.int i)) (tC (.int j))) (tC (.int m))) σ k := fun H Q q => ⟨i, j, rfl, rfl, h, _, m, rfl, rfl, q _ _ H (Same.refl _) (.int _) shp_int⟩
theorem good_neg {σ : L2.St} {k : Nat} {i : Int} : GoodE K (tUn (rU fun i => .int (-i)) (tC (.int i))) σ k := fun H Q q => ⟨i, rfl, q _ _ H (Same.refl _) (.int _) shp_int⟩
theorem iteC {c : Bool} {A B : Prop} (h : c = true) (x : A) : if c = true then A else B := by
  subst h
  exact iteT x
theorem iteN {c : Bool} {A B : Prop} (h : c = false) (x : B) : if c = true then A else B := by
  subst h
  exact iteF x
theorem ints_inj {ns ms : List Int} (h : PyData.tuple (ns.map PyData.int) = PyData.tuple (ms.map PyData.int)) : ns = ms := by
  have e := congrArg intsOf (PyData.tuple.inj h)
  rw [intsOf_map, intsOf_map] at e
  exact Option.some.inj e
theorem lc_map {b : Addr} {xs : List Int} (f : Int → Int) {g : TG} {te : TE} {vs : List Nat} {σ : L2.St} {H1 : Hp} {R : Addr → Hp → Prop} (hb : H1 b = some (.tup (xs.map V.int))) (hlen : xs.length ≤ 1000)
    (hs : ∀ x H (Q' : VK), Q' (.int (f x)) H → g (.int x) (wipe σ vs) H fun σ2 H2 => wipe σ2 vs = wipe σ vs ∧ te σ2 H2 Q')
    (gm : ∀ x σ H (Q Q' : L2.St → Hp → Prop), (∀ σ H, Q σ H → Q' σ H) → g x σ H Q → g x σ H Q')
    (q : ∀ D H, H1 D = none → But D H1 H → H D = some (.lst ((xs.map f).map V.int)) → R D H) :
    ∀ D, H1 D = none → ∃ W : Nat → Nat → Hp → Prop, (∃ m, W 0 m (upd H1 D (.lst []))) ∧ ∀ i m H, W i m H →
      ((Itt K b).stop i H ∧ R D H) ∨ ((Itt K b).go i H ∧ ∃ Nx : Hp → Prop, (∀ H', Nx H' → ∃ m', m' < m ∧ W (i + 1) m' H') ∧ ∀ x H', (Itt K b).yld i H x H' → g x (wipe σ vs) H' fun σ2 H2 => wipe σ2 vs = wipe σ vs ∧ tYes σ2 H2 fun b H3 =>
        if b = true then te σ2 H3 fun y H4 => ∃ acc, H4 D = some (.lst acc) ∧ acc.length < sizeLine ∧ Nx (upd H4 D (.lst (acc ++ [y]))) else Nx H3) := by
  intro D nD
  have nb : b ≠ D := by
    rintro rfl
    rw [nD] at hb
    cases hb
  refine ⟨fun i m H => i + m = xs.length ∧ But D H1 H ∧ H D = some (.lst (((xs.take i).map f).map V.int)), ⟨xs.length, Nat.zero_add _, fun c o h e => by rw [upd_ne h]; exact e, upd_same⟩, fun i m H h => ?_⟩
  obtain ⟨him, bt, hD⟩ := h
  have hsq : SqT K H b (xs.map V.int) := SqT.of (bt b _ nb hb)
  cases m with
  | zero =>
    refine .inl ⟨⟨_, hsq, by rw [List.length_map]; omega⟩, q D H nD bt ?_⟩
    rw [hD, List.take_of_length_le (by omega)]
  | succ m =>
    have hi : i < xs.length := by omega
    have hg : (xs.map V.int)[i]? = some (.int xs[i]) := by rw [List.getElem?_map, List.getElem?_eq_getElem hi]; rfl
    refine .inr ⟨⟨_, _, hsq, hg⟩, fun H' => i + 1 + m = xs.length ∧ But D H1 H' ∧ H' D = some (.lst (((xs.take (i + 1)).map f).map V.int)), fun H' h => ⟨m, Nat.lt_succ_self _, h⟩, fun x H' y => ?_⟩
    obtain ⟨rfl, hy⟩ := y
    have ex := hy _ hsq
    rw [hg] at ex
    obtain rfl := Option.some.inj ex
    refine gm _ _ _ _ _ ?_ (hs xs[i] H' (fun y H4 => ∃ acc, H4 D = some (.lst acc) ∧ acc.length < sizeLine ∧ i + 1 + m = xs.length ∧ But D H1 (upd H4 D (.lst (acc ++ [y]))) ∧ upd H4 D (.lst (acc ++ [y])) D = some (.lst (((xs.take (i + 1)).map f).map V.int))) ?_)
    · rintro σ2 H2 ⟨h1, h2⟩
      refine ⟨h1, ?_⟩
      unfold tYes
      exact iteT h2
    · refine ⟨_, hD, ?_, by omega, fun c o h e => ?_, ?_⟩
      · rw [List.length_map, List.length_map, List.length_take]
        exact Nat.lt_of_lt_of_le (show _ < 1001 by omega) (by decide)
      · rw [upd_ne h]
        exact bt c o h e
      · rw [upd_same, List.take_succ_eq_append_getElem hi, List.map_append, List.map_append]
        rfl
def allI (ds : List PyData) : Prop := ∀ d ∈ ds, ∃ i, d = PyData.int i
theorem allI_map (rn : List Int) : allI (rn.map PyData.int) := fun d hd => by
  obtain ⟨i, _, rfl⟩ := List.mem_map.mp hd
  exact ⟨i, rfl⟩
theorem allI.tup {ds : List PyData} {n : Nat} (h : allI ds) : Shp (n + 1) (.tuple ds) := shp_tup.mpr fun d hd => by
  obtain ⟨i, rfl⟩ := h d hd
  exact shp_int
theorem allI.lst {ds : List PyData} {n : Nat} (h : allI ds) : Shp (n + 1) (.list ds) := shp_list.mpr fun d hd => by
  obtain ⟨i, rfl⟩ := h d hd
  exact shp_int
theorem deck_some {H : Hp} {p : Addr} {n : Nat} (d : Deck H p n) : H p ≠ none := fun x => by
  obtain ⟨_, _, _, e, _⟩ := d
  rw [x] at e
  cases e
/-- the ranks, high up, or not -/
theorem ranks_isH {ns : List Int} (h1 : 1 ≤ ns.length) (h2 : ns.length ≤ 12) (hn : ns.Nodup) (f : Int → Int) (hf : Iso ns f) (hb : ∀ n ∈ ns, 0 ≤ f n ∧ f n ≤ 1000000000) : isH (.tuple ((ns.map f).map PyData.int)) = true := by
  refine isH_of (by rw [List.length_map]; exact h1) (by rw [List.length_map]; exact h2) ?_ fun n m => ?_
  · unfold List.Nodup
    rw [List.pairwise_map]
    refine List.Pairwise.imp_of_mem (fun {a b} ha hb hne he => ?_) hn
    rcases Int.lt_or_gt_of_ne hne with h | h
    · have := (hf a ha b hb).mp h
      omega
    · have := (hf b hb a ha).mp h
      omega
  · obtain ⟨k, hk, rfl⟩ := List.mem_map.mp m
    exact hb k hk
theorem hi_iso {ns : List Int} {f : Int → Int} (hf : Iso ns f) (k : Int) : Iso ns (fun n => k + f n) := fun a ha b hb => by
  have := hf a ha b hb
  constructor
  · intro h
    have := this.mp h
    show k + f a < k + f b
    omega
  · intro h
    have h : k + f a < k + f b := h
    exact this.mpr (by omega)
theorem seen_ranks (ns : List Int) : seen (ranks ns) = seen ns := seen_map (rk_iso ns)
theorem seen_high (ns : List Int) (k : Int) : seen ((ranks ns).map fun r => k + r) = seen ns := by
  unfold ranks
  rw [List.map_map]
  exact seen_map (hi_iso (rk_iso ns) k)
theorem ranks_ok {ns : List Int} (h1 : 1 ≤ ns.length) (h2 : ns.length ≤ 12) (hn : ns.Nodup) : isH (.tuple ((ranks ns).map PyData.int)) = true :=
  ranks_isH h1 h2 hn _ (rk_iso ns) fun n h => ⟨by have := rk_low ns n; omega, by have := rk_high h; omega⟩
theorem high_ok {ns : List Int} (h1 : 1 ≤ ns.length) (h2 : ns.length ≤ 12) (hn : ns.Nodup) {k : Int} (hk : k = 1000000000 - (ns.length : Int)) : isH (.tuple (((ranks ns).map fun r => k + r).map PyData.int)) = true := by
  have e : ((ranks ns).map fun r => k + r) = ns.map fun n => k + rk ns n := by
    unfold ranks
    rw [List.map_map]
    rfl
  rw [e]
  exact ranks_isH h1 h2 hn _ (hi_iso (rk_iso ns) k) fun n h => ⟨by show 0 ≤ k + rk ns n; have := rk_low ns n; omega, by show k + rk ns n ≤ _; have := rk_high h; omega⟩
theorem ranks_len (ns : List Int) : (ranks ns).length = ns.length := by unfold ranks; rw [List.length_map]
end RS

set_option Elab.async false
set_option linter.all false
set_option maxRecDepth 100000
set_option maxHeartbeats 8000000
namespace RS
open PySem PySem.Spec PyProof.Rows L2 HotX LamX
theorem passN {X : Cx} : Passes (L2N.CX X.prog X.w) X E0 := fun _ _ _ _ _ _ _ h => by
  obtain ⟨_, _, _, _, _, _, _, _, _, _, _, _, z⟩ := h
  exact z.elim
abbrev NL : List Str := ["script", "written", "cell", "deck", "many", "row", "bent", "some", "thing", "good", "told", "k", "rank"]
theorem scLaw : FnScope NL ["script"] (defScope sLaw) := ⟨rfl, rfl, rfl, by decide +kernel, rfl, by decide +kernel, by decide +kernel⟩
structure Defs (P : Program) (w : World) (K : PySem.W.Frag) (mg : Str → Option Value) (base : Heap) (C : Addr) : Prop where
  bn : Bn mg
  deck : ∃ f fd, Fun K "_law_deck" "_law_deck" sDeck f fd ∧ Binds K fd ["cell", "turn"] [] ∧ mg "_law_deck" = some (.ref f) ∧ FnOk P w K mg base CX0 4 f fd ["cell", "turn"] spDeck
  pick : ∃ f fd, Fun K "_law_pick" "_law_pick" sPick f fd ∧ Binds K fd ["deck", "size"] [] ∧ mg "_law_pick" = some (.ref f) ∧ FnOk P w K mg base CX0 4 f fd ["deck", "size"] spPick
  one : ∃ f fd, Fun K "_law_one" "_law_one" sOne f fd ∧ Binds K fd ["deck", "some"] [] ∧ mg "_law_one" = some (.ref f) ∧ FnOk P w K mg base CX0 4 f fd ["deck", "some"] (spOne K)
  hts : ∃ f fd, Fun K "_law_heights" "_law_heights" sHts f fd ∧ Binds K fd ["deck", "many", "top"] [] ∧ mg "_law_heights" = some (.ref f) ∧ FnOk P w K mg base CX0 4 f fd ["deck", "many", "top"] spHts
  odd : ∃ f fd, Fun K "_law_odd" "_law_odd" sOdd f fd ∧ Binds K fd ["deck"] [] ∧ mg "_law_odd" = some (.ref f) ∧ FnOk P w K mg base CX0 4 f fd ["deck"] (spOdd K)
  spoilt : ∃ f fd, Fun K "_law_spoilt" "_law_spoilt" sSpoilt f fd ∧ Binds K fd ["deck", "thing"] [] ∧ mg "_law_spoilt" = some (.ref f) ∧ FnOk P w K mg base CX0 4 f fd ["deck", "thing"] (spSpoilt K 4 (Okd 12 1000000000) (Okd 13 1000000001)) ∧ FnOk P w K mg base CX0 4 f fd ["deck", "thing"] (spSpoilt K 4 (Okd 13 1000000001) (Okd 14 1000000002))
  lare : ∃ f fd, Fun K "_law_are_heights" "_law_are_heights" sLAre f fd ∧ Binds K fd ["thing"] [] ∧ mg "_law_are_heights" = some (.ref f) ∧ FnOk P w K mg base CX0 4 f fd ["thing"] (spLAre K)
  are : ∃ f fd, Fun K "are_heights" "are_heights" sAre f fd ∧ Binds K fd ["thing"] [] ∧ mg "are_heights" = some (.ref f) ∧ FnOk P w K mg base CX0 4 f fd ["thing"] (spAre K)
  same : ∃ f fd, Fun K "_law_same" "_law_same" sSame f fd ∧ Binds K fd ["told", "due"] [] ∧ mg "_law_same" = some (.ref f) ∧ FnOk P w K mg base CX0 4 f fd ["told", "due"] (spSame K 3)
  seen : ∃ f fd, Fun K "_law_seen" "_law_seen" sSeen f fd ∧ Binds K fd ["heights_so"] [] ∧ mg "_law_seen" = some (.ref f) ∧ FnOk P w K mg base CX0 4 f fd ["heights_so"] (spSeen K)
  ranks : ∃ f fd, Fun K "_law_ranks" "_law_ranks" sRanks f fd ∧ Binds K fd ["heights_so"] [] ∧ mg "_law_ranks" = some (.ref f) ∧ FnOk P w K mg base CX0 4 f fd ["heights_so"] (spRanks K)
  sights : ∃ f fd, Fun K "sights" "sights" sSights f fd ∧ Binds K fd ["heights"] [] ∧ mg "sights" = some (.ref f) ∧ FnOk P w K mg base (L2N.CX P w) 5 f fd ["heights"] (spSights K C)
  kin : KinT K mg C ∧ ∃ f fd, Fun K "_law_kin" "_law_kin" sKin f fd ∧ Binds K fd ["e"] [] ∧ mg "_law_kin" = some (.ref f)
  tri : ∃ f fd R, Fun K "_law_try" "_law_try" sTry f fd ∧ Binds K fd ["door"] [] ∧ mg "_law_try" = some (.ref f) ∧ mg "RoofError" = some (.ref R) ∧ PySem.W.exmOne K (.ref C) (.ref R) = some true
section
variable {P : Program} {w : World} {K : PySem.W.Frag} {mg : Str → Option Value} {base : Heap}
abbrev qL : Str := (("law" : Str) ++ (".<locals>." : Str)) ++ ("<lambda>" : Str)
def spLaw (K : PySem.W.Frag) (Pt : Addr) (q : Str) : Sp := fun vs H Q _ => ∃ (a : Addr) (ns : List Int), vs = [.ref a] ∧ SqL K H a (ns.map V.int) ∧ ns.length ≤ 63 ∧ Tabs [(Pt, q)] H ∧ ∀ H', Q (.bl true) H'
theorem ok_law {C f c Pt : Addr} {fd : FuncData} (F : Fun K "law" "law" sLaw f fd) (D : Defs P w K mg base C) (TB : TabB base mg c Pt) (hcode : ∀ x q params body scope dV kV doc pm an cdv ct, fd = PySem.W.fnOf x q params body scope dV kV doc pm an cdv ct → cdv = .ref c) : FnOk P w K mg base CX0 10 f fd ["script"] (spLaw K Pt qL) := by
  obtain ⟨fD, fdD, FD, bD, gD, GD⟩ := D.deck
  obtain ⟨fP, fdP, FP, bP, gP, GP⟩ := D.pick
  obtain ⟨fO, fdO, FO, bO, gO, GO⟩ := D.one
  obtain ⟨fH, fdH, FH, bH, gH, GH⟩ := D.hts
  obtain ⟨fX, fdX, FX, bX, gX, GX⟩ := D.odd
  obtain ⟨fS, fdS, FS, bS, gS, GS1, GS2⟩ := D.spoilt
  obtain ⟨fL, fdL, FL, bL, gL, GL⟩ := D.lare
  obtain ⟨fA, fdA, FA, bA, gA, GA⟩ := D.are
  obtain ⟨fE, fdE, FE, bE, gE, GE⟩ := D.same
  obtain ⟨fN, fdN, FN, bN, gN, GN⟩ := D.seen
  obtain ⟨fR, fdR, FR, bR, gR, GR⟩ := D.ranks
  obtain ⟨fG, fdG, FG, bG, gG, GG⟩ := D.sights
  obtain ⟨KT, fK, fdK, FK, bK, gK⟩ := D.kin
  obtain ⟨fT, fdT, RR, FT, bT, gT, gRo, exm⟩ := D.tri
  have B := D.bn
  obtain ⟨oc, od, kV, doc, pm, an, cdv, ct, osl, ef, lk, hcd⟩ := F.ex
  have ecode := hcode _ _ _ _ _ _ _ _ _ _ _ _ ef
  subst ef
  refine fn_of lk hcd scLaw (fun vs H Q E h => ?_) (fun A outer s H vs Q E hr h => ?_)
  · obtain ⟨a, ns, rfl, _⟩ := h
    rfl
  · obtain ⟨a, ns, rfl, hs, h63, hTab, q⟩ := h
    have hr4 : Room 4 _ := hr.mono (by decide)
    have hr5 : Room 5 _ := hr.mono (by decide)
    apply Exists.intro
    apply And.intro
    · apply PSs.nox
      apply C8.pss_cut
      · exact ps_set (i := 1) scLaw.nd rfl (Or.inl rfl) (pe_lst (pa_cons (pe_tupRg rfl (by rfl) B.tuple (prg_1 (by rfl) B.range pe_int)) (pa_cons (pe_tupRg rfl (by rfl) B.tuple (prg_1 (by rfl) B.range pe_int)) (pa_cons (pe_tup (pa_cons (pe_op op_pow pe_int pe_int) pa_nil)) (pa_cons (pe_tup (pa_cons (pe_op op_add (pe_op op_pow pe_int pe_int) pe_int) pa_nil)) (pa_cons (pe_tup (pa_cons (pe_un un_neg pe_int) pa_nil)) (pa_cons (pe_tup (pa_cons pe_bl pa_nil)) (pa_cons (pe_tup (pa_cons pe_int (pa_cons pe_int pa_nil))) (pa_cons (pe_tup (pa_cons pe_int (pa_cons pe_int (pa_cons pe_int pa_nil)))) (pa_cons (pe_tup pa_nil) pa_nil))))))))))
      apply C8.pss_cut
      · apply ps_for PassesOwn.never rfl (pi_list (pe_slice sl_list (pe_op op_catS (pe_lst (pa_cons pe_int pa_nil)) (pv 0)) po_none (po_some pe_int))) (pg_name (i := 2) scLaw.nd rfl (Or.inl rfl))
        apply pss_cons
        · exact ps_set (i := 3) scLaw.nd rfl (Or.inr rfl) (pe_call GD hr4 (by rfl) gD FD.kp bD .nil pass0 (pa_cons (pv 2) (pa_cons pe_int pa_nil)))
        apply C8.pss_cut
        · exact ps_set (i := 4) scLaw.nd rfl (Or.inr rfl) (pe_op op_add pe_int (pe_call GP hr4 (by rfl) gP FP.kp bP .nil pass0 (pa_cons (pv 3) (pa_cons pe_int pa_nil))))
        apply C8.pss_cut
        · apply ps_set (i := 5) scLaw.nd rfl (Or.inr rfl)
          apply pe_call GH hr4 (by rfl) gH FH.kp bH .nil pass0
          exact pa_cons (pv 3) (pa_cons (pv 4) (pa_cons (pe_call GO hr4 (by rfl) gO FO.kp bO .nil pass0 (pa_cons (pv 3) (pa_cons (pe_lst (pa_cons pe_int (pa_cons pe_int (pa_cons (pe_op op_pow pe_int pe_int) pa_nil)))) pa_nil))) pa_nil))
        apply pss_cons
        · exact ps_set (i := 6) scLaw.nd rfl (Or.inl rfl) (pe_call GS1 hr4 (by rfl) gS FS.kp bS .nil pass0 (pa_cons (pv 3) (pa_cons (pv 5) pa_nil)))
        apply C8.pss_cut
        · apply ps_set (i := 7) scLaw.nd rfl (Or.inl rfl)
          exact pe_lst (pa_cons (pv 5) (pa_cons (pv 6) (pa_cons (pe_call GS2 hr4 (by rfl) gS FS.kp bS .nil pass0 (pa_cons (pv 3) (pa_cons (pv 6) pa_nil))) (pa_cons (pe_revS (pv 5)) (pa_cons (pe_callTy call_list_of (by rfl) B.list boot_list (pa_cons (pv 5) pa_nil))
            (pa_cons (pe_op op_catA (pv 5) (pe_slice sl_tupA (pv 5) po_none (po_some pe_int))) (pa_cons pe_non (pa_cons (pe_call GX hr4 (by rfl) gX FX.kp bX .nil pass0 (pa_cons (pv 3) pa_nil)) pa_nil))))))))
        apply C8.pss_cut
        · apply ps_for PassesOwn.never rfl
          · apply pi_list
            apply pe_op op_catS
            · apply pe_op op_catS (pv 7)
              exact pe_lc (te := tCall (spSpoilt K 4 (Okd 12 1000000000) (Okd 13 1000000001)) [] E0 (tCons (tVar 3) (tCons (tVar 5) tNil))) (own := [("k", 11)]) (g := gName 11) (tt := tYes) rfl scLaw.nd (pi_range1 (by rfl) B.range (pa_cons pe_int pa_nil))
                (blkOk_by (N := NL) (sc := defScope sLaw) (by decide +kernel)) (fun _ _ _ _ _ => pg_name (i := 11) scLaw.nd rfl (Or.inl rfl)) (fun _ _ _ _ _ => pts_nil) (fun _ _ _ _ _ => pe_call GS1 hr4 (by rfl) gS FS.kp bS .nil pass0 (pa_cons (pv 3) (pa_cons (pv 5) pa_nil)))
            · exact pv 1
          · exact pg_name (i := 8) scLaw.nd rfl (Or.inr rfl)
          apply pss_cons
          · exact ps_set (i := 9) scLaw.nd rfl (Or.inl rfl) (pe_call GL hr4 (by rfl) gL FL.kp bL .nil pass0 (pa_cons (pv 8) pa_nil))
          apply pss_cons
          · exact ps_if (pt_not (pt_val (pe_call GE hr4 (by rfl) gE FE.kp bE .nil pass0 (pa_cons (pe_call GA hr4 (by rfl) gA FA.kp bA .nil pass0 (pa_cons (pv 8) pa_nil)) (pa_cons (pv 9) pa_nil))))) (pss_one (ps_ret pe_bl)) pss_nil
          apply pss_cons
          · apply ps_set (i := 10) scLaw.nd rfl (Or.inl rfl)
            exact pe_try (T := [(Pt, qL)]) (k := 5) (t := fun E => tCall (spSights K C) [] E (tCons (tVar 8) tNil)) FK bK gK KT B FT bT gT gRo exm (by rfl) TB ecode List.mem_cons_self (fun p hp _ => by rw [List.mem_singleton.mp hp]; rfl) (hr.mono (by decide)) (lamS_by (by show lamSB (defScope sLaw) _ = true; decide +kernel)) (by rfl) (by intros; rfl) (fun E E' σ H Q Q' hE hQ h => by obtain ⟨v, e, v', d, ev, hd, hA, hB⟩ := h; exact ⟨v, e, v', d, ev, hd, fun ns e1 e2 H' u s1 d1 => hQ _ _ (hA ns e1 e2 H' u s1 d1), fun hf H' s => hE _ _ _ (hB hf H' s)⟩) (fun A outer s H E f c' hr' => pe_call GG (hr'.mono (by decide)) (by rfl) gG FG.kp bG .nil (L2N.passes_call lamN_takes fun _ _ _ _ h => h) (pa_cons (pv 8) pa_nil))
          apply pss_one
          exact ps_if (pt_cmpR (op_neD hr.units) (pv 10) (pe_ifExp (pt_val (pv 9)) (pe_tup (pa_cons pe_str (pa_cons (pe_call GN hr4 (by rfl) gN FN.kp bN .nil pass0 (pa_cons (pv 8) pa_nil)) pa_nil))) pe_str) (nomark _)) (pss_one (ps_ret pe_bl)) pss_nil
        apply pss_cons
        · exact ps_set (i := 10) scLaw.nd rfl (Or.inl rfl) (pe_call GG hr5 (by rfl) gG FG.kp bG .nil passN (pa_cons (pv 5) pa_nil))
        apply pss_cons
        · refine ps_if (PW.pt (pw_or (pt_not (pt_val (by exact pe_call GE hr4 (by rfl) gE FE.kp bE .nil pass0 (pa_cons (pv 10) (pa_cons (pe_call GN hr4 (by rfl) gN FN.kp bN .nil pass0 (pa_cons (pv 5) pa_nil)) pa_nil))))) (pw_or1 (pt_cmpR (op_neD hr.units) (by exact pe_call GG hr5 (by rfl) gG FG.kp bG .nil passN (pa_cons (pe_call GR hr4 (by rfl) gR FR.kp bR .nil pass0 (pa_cons (pv 5) pa_nil)) pa_nil)) (pv 10) (nomark _))))) (pss_one (ps_ret pe_bl)) pss_nil
        apply pss_one
        exact ps_if (pt_cmpR (op_neD hr.units) (by exact pe_call GG hr5 (by rfl) gG FG.kp bG .nil passN (pa_cons (pe_callTy call_tuple_of (by rfl) B.tuple boot_tuple (pa_cons (by exact pe_lc (own := [("rank", 12)]) (g := gName 12) (tt := tYes) rfl scLaw.nd (pi_tup (pe_call GR hr4 (by rfl) gR FR.kp bR .nil pass0 (pa_cons (pv 5) pa_nil))) (blkOk_by (N := NL) (sc := defScope sLaw) (by decide +kernel)) (fun _ _ _ _ _ => pg_name (i := 12) scLaw.nd rfl (Or.inl rfl)) (fun _ _ _ _ _ => pts_nil) (fun _ _ _ _ _ => pe_op op_add (pe_op op_sub (pe_op op_pow pe_int pe_int) (pv 4)) (pv 12))) pa_nil)) pa_nil)) (pv 10) (nomark _)) (pss_one (ps_ret pe_bl)) pss_nil
      apply pss_one
      apply ps_ret
      exact pe_and (pe_cmpR (op_eqD hr.units) (pe_call GG hr5 (by rfl) gG FG.kp bG .nil passN (pa_cons (pe_tup (pa_cons pe_int (pa_cons pe_int (pa_cons pe_int (pa_cons pe_int pa_nil))))) pa_nil)) (pe_tup (pa_cons (pe_tup (pa_cons pe_int (pa_cons pe_int pa_nil))) (pa_cons (pe_tup (pa_cons pe_int (pa_cons pe_int pa_nil))) (pa_cons (pe_tup (pa_cons pe_int (pa_cons pe_int pa_nil))) (pa_cons (pe_tup (pa_cons pe_int (pa_cons pe_int pa_nil))) (pa_cons (pe_tup (pa_cons pe_int (pa_cons pe_int pa_nil))) pa_nil)))))) (nomark _))
        (pe_one (pe_cmpR (op_eqD hr.units) (pe_call GG hr5 (by rfl) gG FG.kp bG .nil passN (pa_cons (pe_tup (pa_cons pe_int pa_nil)) pa_nil)) (pe_tup pa_nil) (nomark _)))
    · refine ⟨fun σ1 H1 => ∃ wr, σ1 = [some (.ref a), some (.ref wr), none, none, none, none, none, none, none, none, none, none, none] ∧ Ls K H1 20 wr ∧ SqL K H1 a (ns.map V.int) ∧ Tabs [(Pt, qL)] H1, ?_, ?_⟩
      · refine lst_asg (n := 9) ?_ (by decide) fun wr H1 s1 hw => ⟨wr, rfl, hw, s1.seq hs, tabs_same hTab s1⟩
        apply good_cons (good_tupRg (by decide) (by decide))
        apply good_cons (good_tupRg (by decide) (by decide))
        apply good_cons (good_tup (n := 1) (good_cons (good_pow ⟨by decide, by decide, by decide⟩) good_nil) (by decide))
        apply good_cons (good_tup (n := 1) (good_cons (good_powp ⟨by decide, by decide, by decide⟩) good_nil) (by decide))
        apply good_cons (good_tup (n := 1) (good_cons good_neg good_nil) (by decide))
        apply good_cons (good_tup (n := 1) (good_cons good_bl good_nil) (by decide))
        apply good_cons (good_tup (n := 2) (good_cons good_int (good_cons good_int good_nil)) (by decide))
        apply good_cons (good_tup (n := 3) (good_cons good_int (good_cons good_int (good_cons good_int good_nil))) (by decide))
        exact good_cons (good_tup (n := 0) good_nil (by decide)) good_nil
      · rintro σ1 H1 ⟨wr, rfl, hw, hs1, ht1⟩
        refine ⟨fun σ2 H2 => True, ?_, ?_⟩
        · refine ⟨(by show 1 ≤ sizeLine; decide), fun l0 n0 => ⟨_, rfl, l0, a, [V.int 0], ns.map V.int, rfl, rfl, SqL.of upd_same, (same_upd n0).seq hs1, ?_, fun l1 n1 => ⟨10, rfl, l1, _, rfl, SqL.of upd_same, fun L nL => ⟨L, rfl, ⟨_, SqL.of upd_same⟩, ?_⟩⟩⟩⟩
          · rw [List.length_map]
            show 1 + ns.length ≤ _
            exact Nat.le_trans (show 1 + ns.length ≤ 64 by omega) (by decide)
          have sL := ((same_upd (o := .lst [V.int 0]) n0).trans (same_upd (o := .lst ([V.int 0] ++ ns.map V.int)) n1)).trans (same_upd (o := .lst (cutV ([V.int 0] ++ ns.map V.int) none (some 10))) nL)
          refine for_list (K := K) (xs := cutV ([V.int 0] ++ ns.map V.int) none (some 10)) (fun i σ H => AnySt a wr σ ∧ SqL K H L (cutV ([V.int 0] ++ ns.map V.int) none (some 10)) ∧ Ls K H 20 wr ∧ Tabs [(Pt, qL)] H) ⟨⟨_, _, _, _, _, _, _, _, _, _, _, rfl⟩, SqL.of upd_same, hw.same sL, tabs_same ht1 sL⟩ (fun i σ H h => h.2.1) (fun i σ H x hx h => ?_) fun σ H h => trivial
          obtain ⟨⟨y2, y3, y4, y5, y6, y7, y8, y9, y10, y11, y12, rfl⟩, hL, hW, hT⟩ := h
          obtain ⟨z, rfl⟩ := cells_int hx
          refine ⟨_, rfl, z, 1, rfl, by decide, by decide, fun H2 p s2 hp hd => ?_⟩
          have b0 : Bs K [(Pt, qL)] p wr L (cutV ([V.int 0] ++ ns.map V.int) none (some 10)) H2 1000 := ⟨(same_hide s2 hp).seq hL, hW.same (same_hide s2 hp), tabs_same hT s2, hd⟩
          refine ⟨fun σ H => ∃ m : Int, 1 ≤ m ∧ m ≤ 12 ∧ σ = [some (.ref a), some (.ref wr), some (.int z), some (.ref p), some (.int m), y5, y6, y7, y8, y9, y10, y11, y12] ∧ Bs K [(Pt, qL)] p wr L (cutV ([V.int 0] ++ ns.map V.int) none (some 10)) H 1001, ?_, ?_⟩
          · exact ⟨_, rfl, p, 12, 1000, rfl, by decide, by decide, hd, by decide, fun H3 r b d hr => ⟨1, r, rfl, rfl, _, by omega, by omega, rfl, b0.but b d⟩⟩
          · rintro σ3 H3 ⟨m, m1, m2, rfl, b3⟩
            obtain ⟨mn, rfl⟩ : ∃ k : Nat, m = k := ⟨m.toNat, by omega⟩
            refine ⟨fun σ H => ∃ u rn, σ = [some (.ref a), some (.ref wr), some (.int z), some (.ref p), some (.int mn), some (.ref u), y6, y7, y8, y9, y10, y11, y12] ∧ rn.length = mn ∧ Row K p u rn H ∧ Bs K [(Pt, qL)] p wr L (cutV ([V.int 0] ++ ns.map V.int) none (some 10)) H 1020, ?_, ?_⟩
            · refine ⟨_, rfl, _, rfl, _, rfl, 10, 9, rfl, rfl, ⟨by decide, by decide, by decide⟩, (by show 3 ≤ sizeLine; decide), fun l4 n4 => ⟨p, l4, _, 1001, rfl, b3.d.put (b3.ne l4 n4), by decide, SqL.of (by rw [hide_ne (b3.ne l4 n4)]; exact upd_same), (by show 1 ≤ 3; decide), (by show 3 ≤ 1000; decide), fun H5 x b5 dk5 hx => ?_⟩⟩
              have ht : ∃ top : Int, x = .int top ∧ 11 ≤ top ∧ top ≤ 1000000000 := by
                simp only [List.mem_cons, List.not_mem_nil, or_false] at hx
                rcases hx with h | h | h <;> rw [h]
                · exact ⟨11, rfl, by decide, by decide⟩
                · exact ⟨40, rfl, by decide, by decide⟩
                · exact ⟨_, rfl, by decide, by decide⟩
              obtain ⟨top, rfl, t1, t2⟩ := ht
              refine ⟨p, mn, 1002, top, rfl, dk5, by decide, by omega, t1, t2, fun H6 u rn b6 dk6 l6 nd6 bd6 hu => ⟨u, rn, rfl, l6, ⟨tupD hu (deck_ne' dk6 hu) (intsDp _), by omega, by omega, nd6, fun n hn => ⟨(bd6 n hn).1, by have := (bd6 n hn).2; omega⟩⟩, ?_⟩⟩
              exact (((b3.same (same_upd n4)).but b5 dk5).but b6 dk6).le (by omega)
            · rintro σ4 H4 ⟨u, rn, rfl, hln, row4, b4⟩
              refine ⟨_, rfl, _, rfl, p, p, .ref u, _, 1020, rfl, b4.d, by decide, deck_some b4.d, (by rw [hid_self]; exact row4.dp), row4.okd, fun H5 bv bd b5 dk5 dp5 ok5 => ?_⟩
              rw [hid_self] at dp5
              have bb5 := b4.but b5 dk5
              have row5 := row4.same b5.hide
              refine ⟨fun σ H => ∃ bv sl, σ = [some (.ref a), some (.ref wr), some (.int z), some (.ref p), some (.int mn), some (.ref u), some bv, some (.ref sl), y8, y9, y10, y11, y12] ∧ Row K p u rn H ∧ Bs K [(Pt, qL)] p wr L (cutV ([V.int 0] ++ ns.map V.int) none (some 10)) H 1040 ∧ Ls K (hide p H) 8 sl, ?_, ?_⟩
              · refine ⟨_, rfl, _, rfl, _, rfl, _, rfl, p, p, bv, bd, _, rfl, dk5, (by decide), deck_some dk5, (by rw [hid_self]; exact dp5), ok5, fun H6 sv sd b6 dk6 dp6 ok6 => ?_⟩
                rw [hid_self] at dp6
                have row6 := row5.same b6.hide
                have bb6 := bb5.but b6 dk6
                refine ⟨_, rfl, rev_t bb6.ne row6.dp fun rv H7 s7 dp7 => ?_⟩
                have row7 := row6.same (hide_mono s7)
                have bb7 := bb6.same s7
                refine ⟨_, rfl, u, rn.map V.int, rfl, .inr row7.sq, fun l8 n8 => ?_⟩
                have s8 := same_upd (o := .lst (rn.map V.int)) n8
                have row8 := row7.same (hide_mono s8)
                have bb8 := bb7.same s8
                have dp8 : Dp K (hide p (upd H7 l8 (.lst (rn.map V.int)))) (.ref l8) (.list (rn.map PyData.int)) := lstD upd_same (bb7.ne l8 n8) (intsDp _)
                refine ⟨_, rfl, _, rfl, 1, rfl, slice_t bb8.ne row8.dp (es := (rn.map PyData.int).take 1) (fun h => by rw [cut_take1]; exact dpAll_take 1 h) fun yk H9 s9 d9 => ?_⟩
                have row9 := row8.same (hide_mono s9)
                have bb9 := bb8.same s9
                refine cat_t bb9.ne row9.dp d9 (by rw [List.length_take, List.length_map]; exact Nat.le_trans (show _ ≤ 24 by have := row9.le2; omega) (by decide)) fun yv H10 s10 d10 => ?_
                have row10 := row9.same (hide_mono s10)
                have bb10 := bb9.same s10
                refine ⟨_, rfl, p, _, rfl, bb10.d, by decide, fun H11 ov od b11 dk11 dp11 sh11 => ⟨(by show 8 ≤ sizeLine; decide), fun sl nsl => ⟨_, sl, rfl, ?_, ?_, ?_⟩⟩⟩
                · exact (row10.same b11.hide).same (hide_mono (same_upd nsl))
                · exact ((bb10.but b11 dk11).same (same_upd nsl)).le (by decide)
                · have t12 := hide_mono (p := p) (same_upd (o := .lst [.ref u, bv, sv, rv, .ref l8, yv, .non, ov]) nsl)
                  have t11 := b11.hide.trans t12
                  have t10 := (hide_mono (p := p) s10).trans t11
                  have t9 := (hide_mono (p := p) s9).trans t10
                  have t8 := (hide_mono (p := p) s8).trans t9
                  have t7 := (hide_mono (p := p) s7).trans t8
                  have t6 := b6.hide.trans t7
                  refine ⟨_, _, SqL.of (by rw [hide_ne ((bb10.but b11 dk11).ne sl nsl)]; exact upd_same), .cons (dp_mono t12 (row10.same b11.hide).dp) (.cons (dp_mono t6 dp5) (.cons (dp_mono t7 dp6) (.cons (dp_mono t8 dp7) (.cons (dp_mono t9 dp8) (.cons (dp_mono t11 d10) (.cons .non (.cons (dp_mono t12 dp11) .nil))))))), Nat.le_refl _, fun d hd => ?_⟩
                  simp only [List.mem_cons, List.not_mem_nil, or_false] at hd
                  rcases hd with h | h | h | h | h | h | h | h <;> rw [h]
                  · exact okd_shp row4.okd
                  · exact okd_shp ok5
                  · exact okd_shp ok6
                  · exact allI.tup fun x hx => allI_map rn x (List.mem_reverse.mp hx)
                  · exact (allI_map rn).lst
                  · exact allI.tup fun x hx => (List.mem_append.mp hx).elim (allI_map rn x) fun z => allI_map rn x (List.mem_of_mem_take z)
                  · exact shp_none
                  · exact sh11.mono (by decide)
              · rintro σ5 H5 ⟨bv, sl, rfl, row5, b5, hsl⟩
                refine ⟨fun σ H => (∃ y8 y9 y10 y11 y12, σ = [some (.ref a), some (.ref wr), some (.int z), some (.ref p), some (.int mn), some (.ref u), some bv, some (.ref sl), y8, y9, y10, y11, y12]) ∧ Row K p u rn H ∧ Bs K [(Pt, qL)] p wr L (cutV ([V.int 0] ++ ns.map V.int) none (some 10)) H 1100, ?_, ?_⟩
                · obtain ⟨svs, sds, hsl1, hsl2, hsl3, hsl4⟩ := hsl
                  refine ⟨_, rfl, 8, rfl, by decide, by decide, fun D nD => ⟨fun i m H => i + m = 8 ∧ But2 p D H5 H ∧ Deck H p (1040 + 4 * i) ∧ ∃ acc ds, H D = some (.lst acc) ∧ DpAll K (hid p D H) acc ds ∧ acc.length = i ∧ ∀ d ∈ ds, Shp 60 d, ⟨8, rfl, fun b o h1 h2 e => by rw [upd_ne h2]; exact e, b5.d.put (b5.ne D nD), [], [], upd_same, .nil, rfl, fun d h => absurd h (by simp)⟩, fun i m H h => ?_⟩⟩
                  obtain ⟨him, bt, dk, acc, ds, hD, hA, hlen, hsh⟩ := h
                  have nDp : D ≠ p := b5.ne D nD
                  have sm := bt.hid nD
                  have sm2 : Same (hid p D H) (hide p H) := hide_same
                  cases m with
                  | succ m =>
                    refine .inr ⟨show i < 8 by omega, _, fun H' h => ⟨m, Nat.lt_succ_self _, h⟩, fun x H' y => ?_⟩
                    obtain ⟨rfl, rfl⟩ := y
                    refine ⟨rfl, ?_⟩
                    unfold tYes
                    refine iteT ⟨_, rfl, _, rfl, p, D, .ref u, _, 1040 + 4 * i, rfl, dk, by omega, (by rw [hD]; exact fun x => nomatch x), dp_mono sm row5.dp, row5.okd, fun H6 y d6 b6 dk6 dp6 ok6 => ⟨acc, b6 D _ nDp hD, Nat.lt_of_lt_of_le (show acc.length < 20 by omega) (by decide), by omega, fun b o h1 h2 e => by rw [upd_ne h2]; exact b6 b o h1 (bt b o h1 h2 e), (dk6.put nDp).le (by omega), acc ++ [y], ds ++ [d6], upd_same, (by rw [hid_upd]; exact dpAll_snoc (dpAll_mono b6.hid hA) dp6), by rw [List.length_append, hlen]; rfl, fun d hd => ?_⟩⟩
                    rcases List.mem_append.mp hd with h | h
                    · exact hsh d h
                    · rw [List.mem_singleton.mp h]
                      exact okd_shp ok6
                  | zero =>
                    have sm3 := sm.trans sm2
                    have rowH := row5.same sm3
                    have bH : Bs K [(Pt, qL)] p wr L (cutV ([V.int 0] ++ ns.map V.int) none (some 10)) H 1100 := ⟨sm3.seq b5.l, b5.w.same sm3, tabs_same (tabs_same (tabs_hide b5.t b5.d) sm3) hide_same, dk.le (by omega)⟩
                    obtain ⟨wvs, wds, hw1, hw2, hw3, hw4⟩ := bH.w
                    have e1 := dpAll_len hsl2
                    have e2 := dpAll_len hw2
                    refine .inl ⟨show 8 ≤ i by omega, sl, D, svs, acc, rfl, rfl, hide_same.seq (sm3.seq hsl1), SqL.of hD, Nat.le_trans (show _ ≤ 40 by omega) (by decide), fun c1 n1 => ⟨_, rfl, c1, wr, _, wvs, rfl, rfl, SqL.of upd_same, (same_upd n1).seq (hide_same.seq hw1), Nat.le_trans (show _ ≤ 40 by rw [List.length_append]; omega) (by decide), fun c2 n2 => ⟨c2, rfl, ⟨_, SqL.of upd_same⟩, ?_⟩⟩⟩
                    have s12 := (same_upd (o := .lst (svs ++ acc)) n1).trans (same_upd (o := .lst ((svs ++ acc) ++ wvs)) n2)
                    have hall : DpAll K (hide p H) ((svs ++ acc) ++ wvs) ((sds ++ ds) ++ wds) := dpAll_app (dpAll_app (dpAll_mono sm3 hsl2) (dpAll_mono sm2 hA)) hw2
                    have hshp : ∀ d ∈ (sds ++ ds) ++ wds, Shp 60 d := fun d hd => by
                      rcases List.mem_append.mp hd with h | h
                      · rcases List.mem_append.mp h with h | h
                        · exact hsl4 d h
                        · exact hsh d h
                      · exact hw4 d h
                    have nc2 : c2 ≠ p := (bH.same (same_upd n1)).ne c2 n2
                    refine for_list (K := K) (xs := (svs ++ acc) ++ wvs) (fun i σ H => (∃ y8 y9 y10 y11 y12, σ = [some (.ref a), some (.ref wr), some (.int z), some (.ref p), some (.int mn), some (.ref u), some bv, some (.ref sl), y8, y9, y10, y11, y12]) ∧ SqL K (hide p H) c2 ((svs ++ acc) ++ wvs) ∧ DpAll K (hide p H) ((svs ++ acc) ++ wvs) ((sds ++ ds) ++ wds) ∧ Row K p u rn H ∧ Bs K [(Pt, qL)] p wr L (cutV ([V.int 0] ++ ns.map V.int) none (some 10)) H 1100) ⟨⟨_, _, _, _, _, rfl⟩, SqL.of (by rw [hide_ne nc2]; exact upd_same), dpAll_mono (hide_mono s12) hall, rowH.same (hide_mono s12), bH.same s12⟩ (fun i σ H h => hide_same.seq h.2.1) (fun i σ H x hx h => ?_) fun σ H h => ⟨h.1, h.2.2.2.1, h.2.2.2.2⟩
                    obtain ⟨⟨y8, y9, y10, y11, y12, rfl⟩, hc2, hx2, rowI, bI⟩ := h
                    obtain ⟨d, hd, dpx⟩ := dpAll_at hx2 hx
                    have shd := hshp d hd
                    have dpx1 : Dp K H x d := dp_mono hide_same dpx
                    refine ⟨_, rfl, x, d, rfl, dpx1, shd, fun H2 s2 => ?_⟩
                    refine ⟨_, rfl, x, d, rfl, dp_mono s2 dpx1, fun H3 s3 => ⟨_, rfl, _, _, .bool (isH d), rfl, .bl _, .bl _, .inl trivial, fun H4 s4 => ⟨true, rfl, iteN rfl ?_⟩⟩⟩
                    have s24 := (s2.trans s3).trans s4
                    refine ⟨tabs_same bI.t s24, fun H5 e5 t5 => ⟨_, rfl, x, d, rfl, dp_N e5 (dp_mono s24 dpx1), fun nn ed hh H6 u6 s6 d6 q nq => ?_, fun hf H6 s6 => ⟨rfl, rfl, fun H7 s7 => ?_⟩⟩⟩
                    · obtain ⟨n2, e2, q1, q2, q3, q4⟩ := isH_some hh
                      obtain rfl := ints_inj (ed.symm.trans e2)
                      obtain ⟨bx, xs, rfl, hsx, hax⟩ := dp_sq (k := true) (ed ▸ dpx)
                      rw [dpAll_ints hax] at hsx
                      have s7 := s6.trans (same_upd (o := .tup [.str "told", u6]) nq)
                      refine ⟨_, rfl, _, rfl, _, rfl, iteC hh ⟨_, rfl, bx, nn, rfl, s7.seqT (sqT_N (s24.seqT (hide_same.seqT hsx)) e5), q2, q3, fun H8 u8 s8 d8 => ⟨(by show 2 ≤ sizeLine; decide), fun r nr => ?_⟩⟩⟩
                      have s9 := s8.trans (same_upd (o := .tup [.str "told", u8]) nr)
                      have shT : Shp 3 (.tuple [.str "told", lotD (seen nn)]) := shp_tup.mpr fun x hx => by
                        simp only [List.mem_cons, List.not_mem_nil, or_false] at hx
                        rcases hx with h | h <;> rw [h]
                        · exact shp_txt "told"
                        · exact shp_lot _
                      refine ⟨.tuple [.str "told", lotD (seen nn)], .tuple [.str "told", lotD (seen nn)], .tup (SqT.of (s9 _ _ upd_same)) (.cons (.str _) (.cons (dp_mono ((same_upd nq).trans s9) d6) .nil)), .tup (SqT.of upd_same) (.cons (.str _) (.cons (dp_mono (same_upd nr) d8) .nil)), shT.ok (by decide), shT.ok (by decide), _, rfl, iteN (by rw [shp_eqv shT]; rfl) ?_⟩
                      have eN := ((ExtN.of s24).trans e5).trans (ExtN.of (s7.trans s9))
                      exact ⟨⟨_, _, _, _, _, rfl⟩, sqL_N hc2 (extN_hide eN), dpAll_N (extN_hide eN) hx2, rowI.ext eN, bI.ext eN (tabs_same t5 (s7.trans s9))⟩
                    · have shT : Shp 0 (.str "NoHeights+") := shp_txt "NoHeights+"
                      refine ⟨_, rfl, _, rfl, _, rfl, iteN hf ⟨.str "NoHeights+", .str "NoHeights+", .str _, .str _, shT.ok (by decide), shT.ok (by decide), _, rfl, iteN (by rw [shp_eqv shT]; rfl) ?_⟩⟩
                      have eN := ((ExtN.of s24).trans e5).trans (ExtN.of (s6.trans s7))
                      exact ⟨⟨_, _, _, _, _, rfl⟩, sqL_N hc2 (extN_hide eN), dpAll_N (extN_hide eN) hx2, rowI.ext eN, bI.ext eN (tabs_same t5 (s6.trans s7))⟩
                · rintro σ6 H6 ⟨⟨y8, y9, y10, y11, y12, rfl⟩, row6, b6⟩
                  refine ⟨_, rfl, .ref u, _, rfl, dp_mono hide_same row6.dp, fun nn ed hh H7 t7 s7 d7 => ?_, fun hf => Bool.noConfusion (hf.symm.trans row6.isH)⟩
                  obtain rfl := ints_inj ed
                  have row7 := row6.same (hide_mono s7)
                  refine ⟨_, rfl, _, rfl, u, rn, rfl, row7.sq, row7.le2, row7.nd, fun H8 t8 s8 d8 => ⟨t7, t8, _, rfl, dp_mono s8 d7, d8, tp_lot _, fun H9 s9 => ⟨true, rfl, iteN rfl ?_⟩⟩⟩
                  have s79 := s8.trans s9
                  have row9 := row7.same (hide_mono s79)
                  have shL : Shp 2 (lotD (seen rn)) := shp_lot _
                  refine ⟨_, rfl, u, rn, rfl, row9.sq, row9.le2, row9.nd, fun Ha pa sa ea => ⟨.ref pa, _, rfl, .tup (SqT.of ea) (intsDp _), fun nn ed hh Hb tb sb db => ?_, fun hf => Bool.noConfusion (hf.symm.trans (ranks_ok row9.le1 row9.le2 row9.nd))⟩⟩
                  obtain rfl := ints_inj ed
                  rw [seen_ranks] at db
                  have s7b := (s79.trans sa).trans sb
                  refine ⟨_, rfl, _, _, db, dp_mono s7b d7, shL.ok (by decide), shL.ok (by decide), _, rfl, iteN (by rw [shp_eqv shL]; rfl) ?_⟩
                  have rowb := row7.same (hide_mono s7b)
                  refine ⟨_, rfl, u, rn, rfl, rowb.sq, rowb.le2, rowb.nd, fun Hc pc sc ec => ⟨pc, rfl, ⟨_, SqT.of ec⟩, ?_⟩⟩
                  refine lc_map (K := K) (fun r => ((10 : Int) ^ (9 : Int).toNat - mn) + r) ec (by rw [ranks_len]; have := rowb.le2; omega) (fun x H Q' h => ⟨rfl, 10, 9, rfl, rfl, ⟨by decide, by decide, by decide⟩, _, rfl, _, _, rfl, rfl, _, rfl, _, _, rfl, rfl, h⟩) (fun x σ H Q Q' h g => h _ _ g) fun D Hd nD bD hD => ?_
                  refine ⟨D, _, rfl, .inl ⟨SqL.of hD, fun te ne => ⟨.ref te, _, rfl, .tup (SqT.of upd_same) (intsDp _), fun nn ed hh Hf tf sf df => ?_, fun hf => Bool.noConfusion (hf.symm.trans (high_ok rowb.le1 rowb.le2 rowb.nd (by rw [hln]; rfl)))⟩⟩⟩
                  obtain rfl := ints_inj ed
                  rw [seen_high] at df
                  have scd : Same Hc (upd Hd te (.tup (((ranks rn).map fun r => ((10 : Int) ^ (9 : Int).toNat - mn) + r).map V.int))) := fun c o e => (same_upd ne) c o (bD c o (by rintro rfl; rw [nD] at e; cases e) e)
                  have s7f := ((s7b.trans sc).trans scd).trans sf
                  refine ⟨_, rfl, _, _, df, dp_mono s7f d7, shL.ok (by decide), shL.ok (by decide), _, rfl, iteN (by rw [shp_eqv shL]; rfl) ?_⟩
                  have bf := b6.same (s7.trans s7f)
                  exact ⟨⟨_, _, _, _, _, _, _, _, _, _, _, rfl⟩, hide_same.seq bf.l, bf.w.same hide_same, bf.t⟩
        · rintro σ2 H2 -
          refine ⟨(by show 4 ≤ sizeLine; decide), fun q1 n1 => ⟨.ref q1, _, rfl, .tup (SqT.of upd_same) (intsDp [5, 1, 2, 4]), fun nn ed hh H3 t3 s3 d3 => ?_, fun hf => Bool.noConfusion (hf.symm.trans (show isH _ = true by decide +kernel))⟩⟩
          obtain rfl := ints_inj (ms := [5, 1, 2, 4]) ed.symm
          rw [show seen [5, 1, 2, 4] = [(0, 1), (0, 2), (0, 3), (1, 2), (2, 3)] by decide +kernel] at d3
          refine ⟨(by show 2 ≤ sizeLine; decide), fun a1 m1 => ⟨(by show 2 ≤ sizeLine; decide), fun a2 m2 => ⟨(by show 2 ≤ sizeLine; decide), fun a3 m3 => ⟨(by show 2 ≤ sizeLine; decide), fun a4 m4 => ⟨(by show 2 ≤ sizeLine; decide), fun a5 m5 => ⟨(by show 5 ≤ sizeLine; decide), fun a6 m6 => ?_⟩⟩⟩⟩⟩⟩
          have t6 := same_upd (o := .tup [.ref a1, .ref a2, .ref a3, .ref a4, .ref a5]) m6
          have t5 := (same_upd (o := .tup [.int 2, .int 3]) m5).trans t6
          have t4 := (same_upd (o := .tup [.int 1, .int 2]) m4).trans t5
          have t3' := (same_upd (o := .tup [.int 0, .int 3]) m3).trans t4
          have t2 := (same_upd (o := .tup [.int 0, .int 2]) m2).trans t3'
          have t1 := (same_upd (o := .tup [.int 0, .int 1]) m1).trans t2
          have shL : Shp 2 (lotD [(0, 1), (0, 2), (0, 3), (1, 2), (2, 3)]) := shp_lot _
          refine ⟨_, _, dp_mono t1 d3, (show Dp K _ (.ref a6) (lotD [(0, 1), (0, 2), (0, 3), (1, 2), (2, 3)]) from .tup (SqT.of upd_same) (.cons (.tup (SqT.of (t2 _ _ upd_same)) (intsDp [0, 1])) (.cons (.tup (SqT.of (t3' _ _ upd_same)) (intsDp [0, 2])) (.cons (.tup (SqT.of (t4 _ _ upd_same)) (intsDp [0, 3])) (.cons (.tup (SqT.of (t5 _ _ upd_same)) (intsDp [1, 2])) (.cons (.tup (SqT.of (t6 _ _ upd_same)) (intsDp [2, 3])) .nil)))))), shL.ok (by decide), shL.ok (by decide), _, rfl, iteC (shp_eqv shL) ?_⟩
          refine ⟨(by show 1 ≤ sizeLine; decide), fun b1 k1 => ⟨.ref b1, _, rfl, .tup (SqT.of upd_same) (intsDp [7]), fun nn ed hh H5 t5 s5 d5 => ?_, fun hf => Bool.noConfusion (hf.symm.trans (show isH _ = true by decide +kernel))⟩⟩
          obtain rfl := ints_inj (ms := [7]) ed.symm
          rw [show seen [7] = [] by decide +kernel] at d5
          refine ⟨(by show 0 ≤ sizeLine; decide), fun b2 k2 => ⟨_, _, dp_mono (same_upd k2) d5, .tup (SqT.of upd_same) .nil, (shp_lot (n := 0) []).ok (by decide), (show SeqAt.shaped (.tuple []) = true from (shp_lot (n := 0) []).ok (by decide)), ?_⟩⟩
          rw [show PyData.eqv (lotD []) (.tuple []) = true from shp_eqv (shp_lot (n := 0) [])]
          exact q _
end
end RS

set_option Elab.async false
set_option linter.all false
set_option maxRecDepth 100000
set_option maxHeartbeats 8000000
namespace RS
open PySem PySem.Spec PyProof.Rows L2 HotX LamX
/-- a def as the top has left it -/
def FnF (K : PySem.W.Frag) (x : Str) (st : Stmt) : Prop := ∃ (f : Addr) (oc kV doc pm cdv ct : Value) (od an : Option Addr) (osl : Array (Option Value)), PySem.W.nsIn K mainGlobals x = some (some (.ref f)) ∧
  K.lookup f = some ⟨oc, od, .func (PySem.W.fnOf x x (defArgs st) (defBody st) (defScope st) .none kV doc pm an cdv ct), osl⟩ ∧ PySem.W.codeIn K cdv x = true ∧ PySem.W.keepIn K (.ref f) = true
theorem FnF.ok {K : PySem.W.Frag} {x : Str} {st : Stmt} {h : Heap} {mg : Str → Option Value} (F : FnF K x st) (X : K.In h) (G : h.Ns mainGlobals mg) : ∃ f fd, Fun K x x st f fd ∧ mg x = some (.ref f) := by
  obtain ⟨f, oc, kV, doc, pm, cdv, ct, od, an, osl, a, l, c, k⟩ := F
  exact ⟨f, _, fun_mk l c k, PySem.W.mg_of X G a⟩
/-- a class that D is not of -/
def ClF (K : PySem.W.Frag) (D : Addr) (x : Str) : Prop := ∃ C : Addr, PySem.W.nsIn K mainGlobals x = some (some (.ref C)) ∧ PySem.W.isClsIn K C = true ∧ PySem.W.typeIn K (.ref C) = some (.type "type") ∧ PySem.W.subIn K (.ref D) (.ref C) = some false ∧ (Value.ref D == Value.ref C) = false
theorem ClF.ok {K : PySem.W.Frag} {x : Str} {D : Addr} {h : Heap} {mg : Str → Option Value} (F : ClF K D x) (X : K.In h) (G : h.Ns mainGlobals mg) : ∃ C, mg x = some (.ref C) ∧ PySem.W.kitOne K (.ref D) (.ref C) = some false := by
  obtain ⟨C, a, c, t, s, n⟩ := F
  refine ⟨C, PySem.W.mg_of X G a, ?_⟩
  have c' : (PySem.W.clsIn K C).isSome = true := c
  unfold PySem.W.kitOne
  rw [n, if_neg (by decide)]
  show (if ((PySem.W.clsIn K C).isSome && PySem.W.typeIn K (.ref C) == some (.type "type")) = true then PySem.W.subIn K (.ref D) (.ref C) else none) = some false
  rw [c', t, s]
  rfl
theorem kit_self {K : PySem.W.Frag} {D : Addr} : PySem.W.kitOne K (.ref D) (.ref D) = some true := by
  unfold PySem.W.kitOne
  rw [if_pos (beq_self_eq_true _)]
theorem kit_ve {K : PySem.W.Frag} {D : Addr} (h : PySem.W.subIn K (.ref D) (.type "ValueError") = some true) : PySem.W.kitOne K (.ref D) (.type "ValueError") = some true := by
  have n : (Value.ref D == Value.type "ValueError") = false := rfl
  unfold PySem.W.kitOne
  rw [n, if_neg (by decide)]
  show (if PySem.W.kitMeta "ValueError" = true then PySem.W.subIn K (.ref D) (.type "ValueError") else none) = some true
  rw [h, if_pos (by decide +kernel)]
def NoF (K : PySem.W.Frag) : Prop := PySem.W.nsIn K mainGlobals "isinstance" = some none ∧ PySem.W.nsIn K mainGlobals "int" = some none ∧ PySem.W.nsIn K mainGlobals "bool" = some none ∧ PySem.W.nsIn K mainGlobals "str" = some none ∧ PySem.W.nsIn K mainGlobals "list" = some none ∧ PySem.W.nsIn K mainGlobals "tuple" = some none ∧ PySem.W.nsIn K mainGlobals "len" = some none ∧ PySem.W.nsIn K mainGlobals "set" = some none ∧ PySem.W.nsIn K mainGlobals "all" = some none ∧ PySem.W.nsIn K mainGlobals "min" = some none ∧ PySem.W.nsIn K mainGlobals "range" = some none ∧ PySem.W.nsIn K mainGlobals "enumerate" = some none ∧ PySem.W.nsIn K mainGlobals "zip" = some none ∧ PySem.W.nsIn K mainGlobals "sorted" = some none ∧ PySem.W.nsIn K mainGlobals "ValueError" = some none

/-- the class of what is refused -/
structure DF (K : PySem.W.Frag) (D R : Addr) : Prop where
  g : PySem.W.nsIn K mainGlobals "NoHeights" = some (some (.ref D))
  x : PySem.W.excIn K D [.type "ValueError", .type "Exception", .type "BaseException", .type "object"] "ValueError.__new__" = true
  k : PySem.W.keepIn K (.ref D) = true
  b : PySem.W.subIn K (.ref D) (.type "BaseException") = some true
  t : PySem.W.typeIn K (.ref D) = some (.type "type")
  v : PySem.W.subIn K (.ref D) (.type "ValueError") = some true
  exc : ExcC K D
  r1 : PySem.W.nsIn K mainGlobals "RoofError" = some (some (.ref R))
  r2 : PySem.W.subIn K (.ref R) (.type "BaseException") = some true
  r3 : PySem.W.hasDictIn K R = true
  r4 : PySem.W.typeIn K (.ref R) = some (.type "type")
  r5 : PySem.W.subIn K (.ref D) (.ref R) = some true
/-- the law's own def, its code and its table -/
def LwF (K : PySem.W.Frag) : Prop := ∃ (f c P : Addr) (oc kV doc pm ct e : Value) (od an dd : Option Addr) (osl sl : Array (Option Value)) (vs : Array Value), PySem.W.nsIn K mainGlobals "law" = some (some (.ref f)) ∧
  K.lookup f = some ⟨oc, od, .func (PySem.W.fnOf "law" "law" (defArgs sLaw) (defBody sLaw) (defScope sLaw) .none kV doc pm an (.ref c) ct), osl⟩ ∧ PySem.W.codeIn K (.ref c) "law" = true ∧ PySem.W.keepIn K (.ref f) = true ∧
  K.lookup c = some ⟨e, dd, .fields vs, sl⟩ ∧ vs[11]? = some (.ref P) ∧ PySem.W.codeHdIn K c P = true ∧ K.lookup P = none

theorem all_mk {l : PySem.W.OpenLaw} {w : World} {K : PySem.W.Frag} {h : Heap} {mg : Str → Option Value} {fa D R : Addr} (X : K.In h) (G : h.Ns mainGlobals mg) (hfa : mg "law" = some (.ref fa)) (own : OwnTab K fa h)
    (fW : FnF K "is_whole" sWhole) (fI : FnF K "is_whole_within" sWithin) (fJ : FnF K "is_height" sHeight) (fA : FnF K "are_heights" sAre) (fG : FnF K "sights" sSights) (fB : FnF K "sights_in_row" sInRow) (fC : FnF K "all_pairs" sPairsP) (fZ : FnF K "see_one_another" sSee) (fD : FnF K "_law_deck" sDeck) (fP : FnF K "_law_pick" sPick) (fV : FnF K "_law_whole" sLWhole) (fO : FnF K "_law_one" sOne) (fK : FnF K "_law_kin" sKin) (fT : FnF K "_law_try" sTry) (fQ : FnF K "_law_sort" sSort) (fE : FnF K "_law_same" sSame) (fX : FnF K "_law_odd" sOdd) (fS : FnF K "_law_spoilt" sSpoilt) (fH : FnF K "_law_heights" sHts) (fN : FnF K "_law_seen" sSeen) (fR : FnF K "_law_ranks" sRanks) (fL : FnF K "_law_are_heights" sLAre) (c0 : ClF K D "NoNumber") (c1 : ClF K D "NoLot") (c2 : ClF K D "NoHouse") (c3 : ClF K D "NoCounts") (c4 : ClF K D "NoPlace") (c5 : ClF K D "NoHeight") (c6 : ClF K D "Taken") (c7 : ClF K D "Full") (c8 : ClF K D "NothingLeft")
    (dF : DF K D R) (nF : NoF K) (m12 : ∃ t, PySem.W.nsIn K mainGlobals "MOST_HOUSES" = some (some (.int 12 t))) (mHt : ∃ t, PySem.W.nsIn K mainGlobals "MOST_HEIGHT" = some (some (.int 1000000000 t))) (lw : LwF K) : LawAtS l w K CX0 10 63 "script" mg fa h := by
  obtain ⟨f, c, Pt, oc, kV, doc, pm, ct, e, od, an, dd, osl, sl, vs, a1, a2, a3, a4, a5, a6, a7, a8⟩ := lw
  have ef := hfa.symm.trans (PySem.W.mg_of X G a1)
  cases ef
  obtain ⟨aW, dW, FW, gW⟩ := fW.ok X G
  have bW := FW.binds (ps := ["thing"]) fun _ _ _ _ _ _ us hl => match us, hl with | [_], _ => rfl
  obtain ⟨aI, dI, FI, gI⟩ := fI.ok X G
  have bI := FI.binds (ps := ["thing", "least", "most"]) fun _ _ _ _ _ _ us hl => match us, hl with | [_, _, _], _ => rfl
  obtain ⟨aJ, dJ, FJ, gJ⟩ := fJ.ok X G
  have bJ := FJ.binds (ps := ["thing"]) fun _ _ _ _ _ _ us hl => match us, hl with | [_], _ => rfl
  obtain ⟨aB, dB, FB, gB⟩ := fB.ok X G
  have bB := FB.binds (ps := ["row"]) fun _ _ _ _ _ _ us hl => match us, hl with | [_], _ => rfl
  obtain ⟨aC, dC, FC, gC⟩ := fC.ok X G
  have bC := FC.binds (ps := ["many"]) fun _ _ _ _ _ _ us hl => match us, hl with | [_], _ => rfl
  obtain ⟨aA, dA, FA, gA⟩ := fA.ok X G
  have bA := FA.binds (ps := ["thing"]) fun _ _ _ _ _ _ us hl => match us, hl with | [_], _ => rfl
  obtain ⟨aG, dG, FG, gG⟩ := fG.ok X G
  have bG := FG.binds (ps := ["heights"]) fun _ _ _ _ _ _ us hl => match us, hl with | [_], _ => rfl
  obtain ⟨aZ, dZ, FZ, gZ⟩ := fZ.ok X G
  have bZ := FZ.binds (ps := ["heights", "one", "other"]) fun _ _ _ _ _ _ us hl => match us, hl with | [_, _, _], _ => rfl
  obtain ⟨aD, dD, FD, gD⟩ := fD.ok X G
  have bD := FD.binds (ps := ["cell", "turn"]) fun _ _ _ _ _ _ us hl => match us, hl with | [_, _], _ => rfl
  obtain ⟨aP, dP, FP, gP⟩ := fP.ok X G
  have bP := FP.binds (ps := ["deck", "size"]) fun _ _ _ _ _ _ us hl => match us, hl with | [_, _], _ => rfl
  obtain ⟨aV, dV, FV, gV⟩ := fV.ok X G
  have bV := FV.binds (ps := ["thing"]) fun _ _ _ _ _ _ us hl => match us, hl with | [_], _ => rfl
  obtain ⟨aO, dO, FO, gO⟩ := fO.ok X G
  have bO := FO.binds (ps := ["deck", "some"]) fun _ _ _ _ _ _ us hl => match us, hl with | [_, _], _ => rfl
  obtain ⟨aK, dK, FK, gK⟩ := fK.ok X G
  have bK := FK.binds (ps := ["e"]) fun _ _ _ _ _ _ us hl => match us, hl with | [_], _ => rfl
  obtain ⟨aT, dT, FT, gT⟩ := fT.ok X G
  have bT := FT.binds (ps := ["door"]) fun _ _ _ _ _ _ us hl => match us, hl with | [_], _ => rfl
  obtain ⟨aQ, dQ, FQ, gQ⟩ := fQ.ok X G
  have bQ := FQ.binds (ps := ["thing"]) fun _ _ _ _ _ _ us hl => match us, hl with | [_], _ => rfl
  obtain ⟨aE, dE, FE, gE⟩ := fE.ok X G
  have bE := FE.binds (ps := ["told", "due"]) fun _ _ _ _ _ _ us hl => match us, hl with | [_, _], _ => rfl
  obtain ⟨aX, dX, FX, gX⟩ := fX.ok X G
  have bX := FX.binds (ps := ["deck"]) fun _ _ _ _ _ _ us hl => match us, hl with | [_], _ => rfl
  obtain ⟨aS, dS, FS, gS⟩ := fS.ok X G
  have bS := FS.binds (ps := ["deck", "thing"]) fun _ _ _ _ _ _ us hl => match us, hl with | [_, _], _ => rfl
  obtain ⟨aH, dH, FH, gH⟩ := fH.ok X G
  have bH := FH.binds (ps := ["deck", "many", "top"]) fun _ _ _ _ _ _ us hl => match us, hl with | [_, _, _], _ => rfl
  obtain ⟨aN, dN, FN, gN⟩ := fN.ok X G
  have bN := FN.binds (ps := ["heights_so"]) fun _ _ _ _ _ _ us hl => match us, hl with | [_], _ => rfl
  obtain ⟨aR, dR, FR, gR⟩ := fR.ok X G
  have bR := FR.binds (ps := ["heights_so"]) fun _ _ _ _ _ _ us hl => match us, hl with | [_], _ => rfl
  obtain ⟨aL, dL, FL', gL⟩ := fL.ok X G
  have bL := FL'.binds (ps := ["thing"]) fun _ _ _ _ _ _ us hl => match us, hl with | [_], _ => rfl
  obtain ⟨n0, n1, n2, n3, n4, n5, n6, n7, n8, n9, n10, n11, n12, n13, n14⟩ := nF
  obtain ⟨t12, e12⟩ := m12
  obtain ⟨tHt, eHt⟩ := mHt
  have B : Bn mg := { isi := PySem.W.mg_none_of X G n0, int := PySem.W.mg_none_of X G n1, bool := PySem.W.mg_none_of X G n2, str := PySem.W.mg_none_of X G n3, list := PySem.W.mg_none_of X G n4, tuple := PySem.W.mg_none_of X G n5, len := PySem.W.mg_none_of X G n6, set := PySem.W.mg_none_of X G n7, all := PySem.W.mg_none_of X G n8, min := PySem.W.mg_none_of X G n9, range := PySem.W.mg_none_of X G n10, enum := PySem.W.mg_none_of X G n11, zip := PySem.W.mg_none_of X G n12, sorted := PySem.W.mg_none_of X G n13, m12 := ⟨t12, PySem.W.mg_of X G e12⟩, mHt := ⟨tHt, PySem.W.mg_of X G eHt⟩ }
  have ET : ExT K mg "NoHeights" D := ⟨PySem.W.mg_of X G dF.g, dF.x, dF.k, dF.b, dF.t⟩
  have KT : KinT K mg D := { exc := dF.exc, c0 := ⟨PySem.W.mg_of X G dF.g, kit_self⟩, c1 := c0.ok X G, c2 := c1.ok X G, c3 := c2.ok X G, c4 := c3.ok X G, c5 := c4.ok X G, c6 := c5.ok X G, c7 := c6.ok X G, c8 := c7.ok X G, c9 := c8.ok X G, ve := ⟨PySem.W.mg_none_of X G n14, kit_ve dF.v⟩ }
  have FL := fun_mk (st := sLaw) a2 a3 a4
  refine ⟨PySem.W.fnOf "law" "law" (defArgs sLaw) (defBody sLaw) (defScope sLaw) .none kV doc pm an (.ref c) ct, [(c, Pt)], spLaw K Pt qL, ?_, ?_, ?_, fun s v => .of_eq rfl, ?_, ?_⟩
  · intro p hp
    rw [List.mem_singleton.mp hp]
    exact own c Pt _ _ e dd vs sl a2 rfl rfl a5 a6
  · intro p hp
    rw [List.mem_singleton.mp hp]
    exact a8
  · intro p hp
    rw [List.mem_singleton.mp hp]
    exact PySem.W.codeHd_of_K X a7
  · intro H a ns hl hb hH hS
    refine ⟨a, ns, rfl, hS, hl, fun p hp => ?_, fun _ => rfl⟩
    rw [List.mem_singleton.mp hp]
    exact TabS.nil (hH (c, Pt) List.mem_cons_self)
  · intro base kb gb tb
    refine ok_law FL { bn := B, deck := ⟨_, _, FD, bD, gD, ok_deck FD⟩, pick := ⟨_, _, FP, bP, gP, ok_pick FP⟩, one := ⟨_, _, FO, bO, gO, ok_one FO FP bP gP B⟩, hts := ⟨_, _, FH, bH, gH, ok_hts FH FP bP gP B⟩, odd := ⟨_, _, FX, bX, gX, ok_odd FX FO bO gO FP bP gP B⟩, spoilt := ⟨_, _, FS, bS, gS, ok_spoilt (by decide) (by decide) (by decide) FS bS gS FP bP gP B, ok_spoilt (by decide) (by decide) (by decide) FS bS gS FP bP gP B⟩, lare := ⟨_, _, FL', bL, gL, ok_lare FL' FV bV gV B⟩, are := ⟨_, _, FA, bA, gA, ok_are (fW := aW) (fdW := dW) FA FJ bJ gJ (ok_height FJ FI bI gI (ok_within FI FW bW gW B) B) B⟩, same := ⟨_, _, FE, bE, gE, ok_same FE bE gE FQ bQ gQ B 3⟩, seen := ⟨_, _, FN, bN, gN, ok_seen FN B⟩, ranks := ⟨_, _, FR, bR, gR, ok_ranks FR B⟩, sights := ⟨_, _, FG, bG, gG, ok_sights FG FA bA gA (ok_are (fW := aW) (fdW := dW) FA FJ bJ gJ (ok_height FJ FI bI gI (ok_within FI FW bW gW B) B) B) FB bB gB (ok_inrow FB FC bC gC FZ bZ gZ B) B ET⟩, kin := ⟨KT, _, _, FK, bK, gK⟩, tri := ⟨_, _, R, FT, bT, gT, PySem.W.mg_of X G dF.r1, PySem.W.exm_ref dF.r2 dF.r3 dF.r4 dF.r5⟩ } (tb (c, Pt) List.mem_cons_self) fun x q params body scope dV kV doc pm an cdv ct e => (congrArg (·.code) e).symm
end RS

set_option Elab.async false
set_option linter.all false
open PySem PySem.W PyProof.Rows
set_option maxRecDepth 100000 in
set_option maxHeartbeats 0 in
theorem PySem.Challenge.cw_roofsights_k01_heights_and_their_sights_holds : PySem.Challenge.rw_roofsights_k01_heights_and_their_sights.Holds := by
  w_on; o_law; k_head; (case hw => w_witness2)
  k_fill
  refine LamX.walk_ofOwn (l := PySem.Challenge.rw_roofsights_k01_heights_and_their_sights) (n := 63) (k := 10) (x := "script") (CX := fun _ => L2.CX0) rfl (by decide) rfl ⟨rfl, by decide, by decide⟩ (by decide +kernel) (fun w h Y => PySem.W.km_in_of Y) ?F (fun _ _ _ _ _ h => h)
  case F =>
    intro w mg fa h Y KX G hmg own

    refine' RS.all_mk KX G hmg own ?fW ?fI ?fJ ?fA ?fG ?fB ?fC ?fZ ?fD ?fP ?fV ?fO ?fK ?fT ?fQ ?fE ?fX ?fS ?fH ?fN ?fR ?fL ?c0 ?c1 ?c2 ?c3 ?c4 ?c5 ?c6 ?c7 ?c8 ?dF ?nF ?m12 ?mHt ?lw
    case dF => exact ⟨by k_is, by k_exc, by k_is, by k_is, by k_is, by k_is, ⟨by k_is, by k_is, by k_is, by k_is, by k_is, by k_is, by k_is, by k_is⟩, by k_is, by k_is, by k_is, by k_is, by k_is⟩
    case fW => exact ⟨_, _, _, _, _, _, _, _, _, _, by k_is, by k_is, by k_is, by k_is⟩
    case fI => exact ⟨_, _, _, _, _, _, _, _, _, _, by k_is, by k_is, by k_is, by k_is⟩
    case fJ => exact ⟨_, _, _, _, _, _, _, _, _, _, by k_is, by k_is, by k_is, by k_is⟩
    case fB => exact ⟨_, _, _, _, _, _, _, _, _, _, by k_is, by k_is, by k_is, by k_is⟩
    case fC => exact ⟨_, _, _, _, _, _, _, _, _, _, by k_is, by k_is, by k_is, by k_is⟩
    case fA => exact ⟨_, _, _, _, _, _, _, _, _, _, by k_is, by k_is, by k_is, by k_is⟩
    case fG => exact ⟨_, _, _, _, _, _, _, _, _, _, by k_is, by k_is, by k_is, by k_is⟩
    case fZ => exact ⟨_, _, _, _, _, _, _, _, _, _, by k_is, by k_is, by k_is, by k_is⟩
    case fD => exact ⟨_, _, _, _, _, _, _, _, _, _, by k_is, by k_is, by k_is, by k_is⟩
    case fP => exact ⟨_, _, _, _, _, _, _, _, _, _, by k_is, by k_is, by k_is, by k_is⟩
    case fV => exact ⟨_, _, _, _, _, _, _, _, _, _, by k_is, by k_is, by k_is, by k_is⟩
    case fO => exact ⟨_, _, _, _, _, _, _, _, _, _, by k_is, by k_is, by k_is, by k_is⟩
    case fK => exact ⟨_, _, _, _, _, _, _, _, _, _, by k_is, by k_is, by k_is, by k_is⟩
    case fT => exact ⟨_, _, _, _, _, _, _, _, _, _, by k_is, by k_is, by k_is, by k_is⟩
    case fQ => exact ⟨_, _, _, _, _, _, _, _, _, _, by k_is, by k_is, by k_is, by k_is⟩
    case fE => exact ⟨_, _, _, _, _, _, _, _, _, _, by k_is, by k_is, by k_is, by k_is⟩
    case fX => exact ⟨_, _, _, _, _, _, _, _, _, _, by k_is, by k_is, by k_is, by k_is⟩
    case fS => exact ⟨_, _, _, _, _, _, _, _, _, _, by k_is, by k_is, by k_is, by k_is⟩
    case fH => exact ⟨_, _, _, _, _, _, _, _, _, _, by k_is, by k_is, by k_is, by k_is⟩
    case fN => exact ⟨_, _, _, _, _, _, _, _, _, _, by k_is, by k_is, by k_is, by k_is⟩
    case fR => exact ⟨_, _, _, _, _, _, _, _, _, _, by k_is, by k_is, by k_is, by k_is⟩
    case fL => exact ⟨_, _, _, _, _, _, _, _, _, _, by k_is, by k_is, by k_is, by k_is⟩
    case c0 => exact ⟨_, by k_is, by k_is, by k_is, by k_is, by rfl⟩
    case c1 => exact ⟨_, by k_is, by k_is, by k_is, by k_is, by rfl⟩
    case c2 => exact ⟨_, by k_is, by k_is, by k_is, by k_is, by rfl⟩
    case c3 => exact ⟨_, by k_is, by k_is, by k_is, by k_is, by rfl⟩
    case c4 => exact ⟨_, by k_is, by k_is, by k_is, by k_is, by rfl⟩
    case c5 => exact ⟨_, by k_is, by k_is, by k_is, by k_is, by rfl⟩
    case c6 => exact ⟨_, by k_is, by k_is, by k_is, by k_is, by rfl⟩
    case c7 => exact ⟨_, by k_is, by k_is, by k_is, by k_is, by rfl⟩
    case c8 => exact ⟨_, by k_is, by k_is, by k_is, by k_is, by rfl⟩
    case nF => exact ⟨by k_is, by k_is, by k_is, by k_is, by k_is, by k_is, by k_is, by k_is, by k_is, by k_is, by k_is, by k_is, by k_is, by k_is, by k_is⟩
    case m12 => exact ⟨_, by k_is⟩
    case mHt => exact ⟨_, by k_is⟩
    case lw => exact ⟨_, _, _, _, _, _, _, _, _, _, _, _, _, _, _, by k_is, by k_is, by k_is, by k_is, by k_is, by rfl, by kernel_rfl, by kernel_rfl⟩
