import PyProof.Rows.All
import Wide.All
import OpenK.AllK
import Wide.FinOn
import HandS.ForMost
import HandS.ForExc
import HandS.IsInst
import KE.KeyNested
import HandS.Lambda
import HandS.Deep
import HandS.Style
import HandS.TupAny
import HandS.Flow
import HandS.TupLe
import HandS.Conv
import HandS.SetFor
import HandS.Zip
import KE.GoesMore
import KE.GoesZip
import KE.SortData
import KE.DataMinMax
import KE.DataCmp
import HandS.Rev
import HandS.Dict
import KE.KDictSum
import KE.KDictCopyH
import HandS.New0
import KE.DataFind
import HandS.SortKw
import HandS.Ends
import HandS.Hot
import HandS.EndTab
import HandS.ExcIs
import KE.GoesComp
import KE.GoesEnum
import HandS.HotCalls
import HandS.SuiteRaise
import HandS.ExcInitHot
import HandS.EndOwn
import OpenK.KOps
import HandS.TupMul
import HandS.Iter
import HandS.DictComp
import PySem.Challenge.RW_roofsights_k03_whole_what_bars
section
set_option Elab.async false
set_option linter.all false
set_option maxRecDepth 100000
set_option maxHeartbeats 2000000
/-! A layer of values: what a piece of the program does, told as a plain function over data. -/
namespace VL
open PySem PySem.Spec PyProof.Rows L2
/-! ### heaps -/
theorem same_upd {H : Hp} {p : Addr} {o : HO} (h : H p = none) : Same H (upd H p o) := fun b x e => by
  rw [upd_ne (ne_of_none e h)]
  exact e
theorem seqT {K : PySem.W.Frag} {H H' : Hp} {a : Addr} {xs : List V} (e : Same H H') (h : SqT K H a xs) : SqT K H' a xs := by
  rcases h with (h | ⟨o, h⟩) | h
  · exact .inl (.inl (e _ _ h))
  · exact .inl (.inr ⟨o, e _ _ h⟩)
  · exact .inr h
/-! dicts: keys are numbers and tuples -/
mutual
def keyN : PyData → Option NestedKey
  | .int i => some (.num i)
  | .tuple ds => (match keyNs ds with | none => none | some ks => some (.tup ks))
  | .none => none
  | .bool _ => none
  | .str _ => none
  | .list _ => none
  | .dict _ => none
def keyNs : List PyData → Option (List NestedKey)
  | [] => some []
  | d :: ds => (match keyN d with | none => none | some k => (match keyNs ds with | none => none | some ks => some (k :: ks)))
end
mutual
/-- the hash of such a key, whatever the world -/
def hashN : NestedKey → Int
  | .none => 0
  | .num i => hashInt i
  | .text _ => 0
  | .tup ks => reduceHash (Builtin.Tuple.tupleHashOf (hashNs ks))
def hashNs : List NestedKey → List Int
  | [] => []
  | k :: ks => hashN k :: hashNs ks
end
def entN (x : NestedKey × Addr × Value) : DictEntry := ⟨hashN x.1, .ref x.2.1, x.2.2⟩
def dictP (xs : List (NestedKey × Addr × Value)) (ep : Nat) (a : Addr) (h : Heap) : Prop := ∃ o es, h.get? a = some o ∧ o.ExactDict ∧ o.data = .dict es ep ∧ es.toList = xs.map entN ∧ (xs.map (·.1)).Nodup
def IsDic (H : Hp) (p : Addr) (xs : List (NestedKey × Addr × Value)) : Prop := ∃ ep, H p = some (.ext (dictP xs ep p))
theorem IsDic.mono {H H' : Hp} {p : Addr} {xs : List (NestedKey × Addr × Value)} (h : IsDic H p xs) (e : Same H H') : IsDic H' p xs := by
  obtain ⟨ep, h⟩ := h
  exact ⟨ep, e _ _ h⟩
theorem IsDic.eq {H H' : Hp} {p : Addr} {xs : List (NestedKey × Addr × Value)} (h : IsDic H p xs) (e : H' p = H p) : IsDic H' p xs := by
  obtain ⟨ep, h⟩ := h
  exact ⟨ep, by rw [e]; exact h⟩
theorem IsDic.ne {H : Hp} {p : Addr} {xs : List (NestedKey × Addr × Value)} (h : IsDic H p xs) : H p ≠ none := by
  obtain ⟨ep, h⟩ := h
  rw [h]
  exact fun z => by cases z
theorem IsDic.nt {H : Hp} {p : Addr} {xs : List (NestedKey × Addr × Value)} (h : IsDic H p xs) (ps : Array Value) : H p ≠ some (.tbl ps) := by
  obtain ⟨ep, h⟩ := h
  rw [h]
  exact fun z => by cases z
/-! ### data: what is at a value; dicts too (they are kept and never changed) -/
mutual
inductive Dp (K : PySem.W.Frag) (B : Hp) : V → PyData → Prop
  | non : Dp K B .non .none
  | bl (b : Bool) : Dp K B (.bl b) (.bool b)
  | int (i : Int) : Dp K B (.int i) (.int i)
  | str (x : Str) : Dp K B (.str x) (.str x)
  | lst {a : Addr} {xs : List V} {ds : List PyData} : SqL K B a xs → DpAll K B xs ds → Dp K B (.ref a) (.list ds)
  | tup {a : Addr} {xs : List V} {ds : List PyData} : SqT K B a xs → DpAll K B xs ds → Dp K B (.ref a) (.tuple ds)
  | dct {a : Addr} {xs : List (NestedKey × Addr × Value)} {kvs : List (PyData × PyData)} : IsDic B a xs → (a == sysModules) = false → EntsOk K B xs kvs → Dp K B (.ref a) (.dict kvs)
inductive DpAll (K : PySem.W.Frag) (B : Hp) : List V → List PyData → Prop
  | nil : DpAll K B [] []
  | cons {v : V} {vs : List V} {d : PyData} {ds : List PyData} : Dp K B v d → DpAll K B vs ds → DpAll K B (v :: vs) (d :: ds)
inductive EntsOk (K : PySem.W.Frag) (B : Hp) : List (NestedKey × Addr × Value) → List (PyData × PyData) → Prop
  | nil : EntsOk K B [] []
  | cons {k : NestedKey} {a : Addr} {u : Value} {d dv : PyData} {v : V} {xs : List (NestedKey × Addr × Value)} {kvs : List (PyData × PyData)} : keyN d = some k → d.depth ≤ 8 → Dp K B (.ref a) d → RelV v u → Dp K B v dv → EntsOk K B xs kvs → EntsOk K B ((k, a, u) :: xs) ((d, dv) :: kvs)
end
mutual
theorem dp_mono {K : PySem.W.Frag} {H H' : Hp} (e : Same H H') : ∀ {v : V} {d : PyData}, Dp K H v d → Dp K H' v d
  | _, _, .non => .non
  | _, _, .bl b => .bl b
  | _, _, .int i => .int i
  | _, _, .str x => .str x
  | _, _, .lst hs ha => .lst (e.seq hs) (dpAll_mono e ha)
  | _, _, .tup hs ha => .tup (seqT e hs) (dpAll_mono e ha)
  | _, _, .dct h n es => .dct (h.mono e) n (EntsOk.mono e es)
theorem dpAll_mono {K : PySem.W.Frag} {H H' : Hp} (e : Same H H') : ∀ {vs : List V} {ds : List PyData}, DpAll K H vs ds → DpAll K H' vs ds
  | _, _, .nil => .nil
  | _, _, .cons h t => .cons (dp_mono e h) (dpAll_mono e t)
theorem EntsOk.mono {K : PySem.W.Frag} {H H' : Hp} (e : Same H H') : ∀ {xs : List (NestedKey × Addr × Value)} {kvs : List (PyData × PyData)}, EntsOk K H xs kvs → EntsOk K H' xs kvs
  | _, _, .nil => .nil
  | _, _, .cons a a' b c d t => .cons a a' (dp_mono e b) c (dp_mono e d) (EntsOk.mono e t)
end
theorem dpAll_len {K : PySem.W.Frag} {H : Hp} : ∀ {vs : List V} {ds : List PyData}, DpAll K H vs ds → vs.length = ds.length
  | _, _, .nil => rfl
  | _, _, .cons _ t => congrArg (· + 1) (dpAll_len t)
theorem dpAll_get {K : PySem.W.Frag} {H : Hp} : ∀ {vs : List V} {ds : List PyData} {i : Nat} {v : V}, DpAll K H vs ds → vs[i]? = some v → ∃ d, ds[i]? = some d ∧ Dp K H v d
  | _, _, _, _, .nil, h => by simp at h
  | _, _, 0, _, .cons h _, e => ⟨_, rfl, by cases Option.some.inj e; exact h⟩
  | _, _, i + 1, _, .cons _ t, e => dpAll_get (i := i) t e
theorem dpAll_getD {K : PySem.W.Frag} {H : Hp} : ∀ {vs : List V} {ds : List PyData} {i : Nat} {d : PyData}, DpAll K H vs ds → ds[i]? = some d → ∃ v, vs[i]? = some v ∧ Dp K H v d
  | _, _, _, _, .nil, h => by simp at h
  | _, _, 0, _, .cons h _, e => ⟨_, rfl, by cases Option.some.inj e; exact h⟩
  | _, _, i + 1, _, .cons _ t, e => dpAll_getD (i := i) t e
theorem dpAll_app {K : PySem.W.Frag} {H : Hp} : ∀ {vs us : List V} {ds es : List PyData}, DpAll K H vs ds → DpAll K H us es → DpAll K H (vs ++ us) (ds ++ es)
  | _, _, _, _, .nil, h => h
  | _, _, _, _, .cons a t, h => .cons a (dpAll_app t h)
theorem dpAll_snoc {K : PySem.W.Frag} {H : Hp} {vs : List V} {ds : List PyData} {v : V} {d : PyData} (a : DpAll K H vs ds) (h : Dp K H v d) : DpAll K H (vs ++ [v]) (ds ++ [d]) := dpAll_app a (.cons h .nil)
theorem dpAll_set {K : PySem.W.Frag} {H : Hp} {v : V} {d : PyData} (h : Dp K H v d) : ∀ {vs : List V} {ds : List PyData} (i : Nat), DpAll K H vs ds → DpAll K H (vs.set i v) (ds.set i d)
  | _, _, _, .nil => .nil
  | _, _, 0, .cons _ t => .cons h t
  | _, _, i + 1, .cons q t => .cons q (dpAll_set h i t)
theorem dpAll_take {K : PySem.W.Frag} {H : Hp} : ∀ {vs : List V} {ds : List PyData} (n : Nat), DpAll K H vs ds → DpAll K H (vs.take n) (ds.take n)
  | _, _, 0, _ => .nil
  | _, _, _ + 1, .nil => .nil
  | _, _, n + 1, .cons r t => .cons r (dpAll_take n t)
theorem dpAll_drop {K : PySem.W.Frag} {H : Hp} : ∀ {vs : List V} {ds : List PyData} (n : Nat), DpAll K H vs ds → DpAll K H (vs.drop n) (ds.drop n)
  | _, _, 0, r => r
  | _, _, _ + 1, .nil => .nil
  | _, _, n + 1, .cons _ t => dpAll_drop n t
theorem dpAll_ints {K : PySem.W.Frag} {H : Hp} : ∀ {vs : List V} {ns : List Int}, DpAll K H vs (ns.map PyData.int) → vs = ns.map V.int
  | _, [], .nil => rfl
  | _, n :: ns, .cons h t => by
    cases h
    rw [dpAll_ints t]
    rfl
theorem dpAll_bls {K : PySem.W.Frag} {H : Hp} : ∀ {vs : List V} {ns : List Bool}, DpAll K H vs (ns.map PyData.bool) → vs = ns.map V.bl
  | _, [], .nil => rfl
  | _, n :: ns, .cons h t => by
    cases h
    rw [dpAll_bls t]
    rfl
theorem dp_tup {K : PySem.W.Frag} {H : Hp} {v : V} {ds : List PyData} (h : Dp K H v (.tuple ds)) : ∃ a xs, v = .ref a ∧ SqT K H a xs ∧ DpAll K H xs ds := by
  cases h with
  | tup hs ha => exact ⟨_, _, rfl, hs, ha⟩
theorem dp_lst {K : PySem.W.Frag} {H : Hp} {v : V} {ds : List PyData} (h : Dp K H v (.list ds)) : ∃ a xs, v = .ref a ∧ SqL K H a xs ∧ DpAll K H xs ds := by
  cases h with
  | lst hs ha => exact ⟨_, _, rfl, hs, ha⟩
theorem dp_int {K : PySem.W.Frag} {H : Hp} {v : V} {i : Int} (h : Dp K H v (.int i)) : v = .int i := by cases h; rfl
theorem dp_bl {K : PySem.W.Frag} {H : Hp} {v : V} {i : Bool} (h : Dp K H v (.bool i)) : v = .bl i := by cases h; rfl
theorem dp_str {K : PySem.W.Frag} {H : Hp} {v : V} {i : Str} (h : Dp K H v (.str i)) : v = .str i := by cases h; rfl
theorem dp_non {K : PySem.W.Frag} {H : Hp} {v : V} (h : Dp K H v .none) : v = .non := by cases h; rfl
/-- heap and base have grown -/
structure Ext (H B H' B' : Hp) : Prop where
  h : Same H H'
  b : Same B B'
  bh : Same B' H'
  nn : ∀ b, H b ≠ none → B b = none → B' b = none
theorem Ext.refl {H B : Hp} (h : Same B H) : Ext H B H B := ⟨Same.refl H, Same.refl B, h, fun _ _ e => e⟩
theorem ne_none_of {H H' : Hp} (e : Same H H') {b : Addr} (h : H b ≠ none) : H' b ≠ none := by
  cases q : H b with
  | none => exact absurd q h
  | some o => rw [e b o q]; exact fun z => by cases z
theorem Ext.trans {H B H1 B1 H2 B2 : Hp} (x : Ext H B H1 B1) (y : Ext H1 B1 H2 B2) : Ext H B H2 B2 :=
  ⟨x.h.trans y.h, x.b.trans y.b, y.bh, fun b h e => y.nn b (ne_none_of x.h h) (x.nn b h e)⟩
/-- a new thing that is kept -/
theorem Ext.new {H B : Hp} {p : Addr} {o : HO} (bh : Same B H) (h : H p = none) : Ext H B (upd H p o) (upd B p o) := by
  have hb : B p = none := bh.free h
  refine ⟨same_upd h, same_upd hb, fun b x e => ?_, fun b hn e => ?_⟩
  · by_cases c : b = p
    · rw [c, upd_same] at e ⊢
      exact e
    · rw [upd_ne c] at e ⊢
      exact bh b x e
  · rw [upd_ne (fun c => hn (by rw [c]; exact h))]
    exact e
/-- a new thing that is not -/
theorem Ext.gone {H B : Hp} {p : Addr} {o : HO} (bh : Same B H) (h : H p = none) : Ext H B (upd H p o) B :=
  ⟨same_upd h, Same.refl B, bh.trans (same_upd h), fun _ _ e => e⟩
/-! ### what a slot holds -/
inductive Sl where
  /-- nothing that is known -/
  | un
  /-- data that nobody changes -/
  | sh (d : PyData)
  /-- a list that this slot alone has -/
  | ow (ds : List PyData)
  /-- a list that the caller has lent -/
  | bw (ds : List PyData)
  /-- an object without attributes of the class of that name -/
  | ob (c : Str)
  /-- a dict that this slot alone has; one that is only read -/
  | dc (kvs : List (PyData × PyData)) | dr (kvs : List (PyData × PyData))
  /-- a street that this slot alone has; one that the caller has lent -/
  | st (row : PyData) (er : List PyData) | sb (row : PyData) (er : List PyData)
  /-- a dict that this slot alone has: numbers, and dicts that are only read -/
  | dd (kvss : List (Int × List (PyData × PyData)))
  | di (kvs : List (Int × PyData))
  /-- a dict that the caller has lent -/
  | db (kvs : List (PyData × PyData))
abbrev Ev := List Sl
/-- the heap and the base at the entry, the place that is lent -/
structure Wd where
  H0 : Hp
  B0 : Hp
  bp : Option Addr
  /-- the tables of code objects, and the names of their code objects -/
  tb : List (Addr × Str)
/-- the tables are whole; what they tell is kept -/
def TbOk (T : List (Addr × Str)) (H0 H B : Hp) : Prop := ∀ x ∈ T, H0 x.1 = none ∧ B x.1 = none ∧ ∃ ps : Array Value, H x.1 = some (.tbl ps) ∧ TriplesOk ps.toList ∧ ∀ (pos : Pos) (cv : Value), codeAmong pos ps.toList = some cv → ∃ c, cv = .ref c ∧ B c = some (LamX.CodeO c x.2)
theorem TbOk.mono {T : List (Addr × Str)} {H0 H B H' B' : Hp} (t : TbOk T H0 H B) (h : ∀ b ps, H b = some (.tbl ps) → H' b = some (.tbl ps)) (sb : Same B B') (n : ∀ b ps, H b = some (.tbl ps) → B b = none → B' b = none) : TbOk T H0 H' B' := fun x hx => by
  obtain ⟨h1, h2, ps, h3, h4, h5⟩ := t x hx
  refine ⟨h1, n _ _ h3 h2, ps, h _ _ h3, h4, fun pos cv hc => ?_⟩
  obtain ⟨c, e1, e2⟩ := h5 pos cv hc
  exact ⟨c, e1, sb _ _ e2⟩
theorem TbOk.upd {T : List (Addr × Str)} {H0 H B : Hp} {p : Addr} {o o' : HO} (t : TbOk T H0 H B) (hp : H p = some o) (n : ∀ ps, o ≠ .tbl ps) : TbOk T H0 (L2.upd H p o') B := t.mono (fun b ps h => by
  rw [upd_ne (fun z => n ps (by rw [z, hp] at h; exact Option.some.inj h))]
  exact h) (Same.refl B) fun _ _ _ h => h
/-- a street: its object, its dict, its list -/
def StAt (K : PySem.W.Frag) (H B : Hp) (a dx q : Addr) (row : PyData) (er : List PyData) : Prop := ∃ C vr ws, PySem.W.nsIn K mainGlobals "Street" = some (some (.ref C)) ∧ H a = some (.ins C dx [("row", vr), ("earlier_rows", .ref q)]) ∧ H dx = some (.own a) ∧ H q = some (.lst ws) ∧ Dp K B vr row ∧ DpAll K B ws er
/-- the dicts in a dict -/
inductive InnOk (K : PySem.W.Frag) (B : Hp) : List (Int × Addr) → List (Int × List (PyData × PyData)) → Prop
  | nil : InnOk K B [] []
  | cons {k : Int} {q : Addr} {xs : List (NestedKey × Addr × Value)} {kvs : List (PyData × PyData)} {ks : List (Int × Addr)} {kvss : List (Int × List (PyData × PyData))} : IsDic B q xs → EntsOk K B xs kvs → (q == sysModules) = false → InnOk K B ks kvss → InnOk K B ((k, q) :: ks) ((k, kvs) :: kvss)
theorem InnOk.mono {K : PySem.W.Frag} {B B' : Hp} (e : Same B B') : ∀ {ks : List (Int × Addr)} {kvss : List (Int × List (PyData × PyData))}, InnOk K B ks kvss → InnOk K B' ks kvss
  | _, _, .nil => .nil
  | _, _, .cons a b c t => .cons (a.mono e) (b.mono e) c (InnOk.mono e t)
inductive NumOk (K : PySem.W.Frag) (B : Hp) : List (Int × V) → List (Int × PyData) → Prop
  | nil : NumOk K B [] []
  | cons {k : Int} {v : V} {d : PyData} {ks : List (Int × V)} {kvs : List (Int × PyData)} : Dp K B v d → NumOk K B ks kvs → NumOk K B ((k, v) :: ks) ((k, d) :: kvs)
theorem NumOk.mono {K : PySem.W.Frag} {B B' : Hp} (e : Same B B') : ∀ {ks : List (Int × V)} {kvs : List (Int × PyData)}, NumOk K B ks kvs → NumOk K B' ks kvs
  | _, _, .nil => .nil
  | _, _, .cons a b => .cons (dp_mono e a) (b.mono e)
def nsV (ks : List (Int × V)) : List (Key × V) := ks.map fun x => (.inl x.1, x.2)
def ksV (ks : List (Int × Addr)) : List (Key × V) := ks.map fun x => (.inl x.1, .ref x.2)
inductive SlOk (K : PySem.W.Frag) (bp : Option Addr) (H B : Hp) : Option V → Sl → List Addr → Prop
  | un {o : Option V} : SlOk K bp H B o .un []
  | sh {v : V} {d : PyData} : Dp K B v d → SlOk K bp H B (some v) (.sh d) []
  | ow {p : Addr} {xs : List V} {ds : List PyData} : H p = some (.lst xs) → DpAll K B xs ds → SlOk K bp H B (some (.ref p)) (.ow ds) [p]
  | bw {p : Addr} {xs : List V} {ds : List PyData} : bp = some p → H p = some (.lst xs) → DpAll K B xs ds → SlOk K bp H B (some (.ref p)) (.bw ds) [p]
  | ob {a C dx : Addr} {c : Str} : B a = some (.ins C dx []) → PySem.W.nsIn K mainGlobals c = some (some (.ref C)) → SlOk K bp H B (some (.ref a)) (.ob c) []
  | dc {p : Addr} {xs : List (NestedKey × Addr × Value)} {kvs : List (PyData × PyData)} : IsDic H p xs → EntsOk K B xs kvs → (p == sysModules) = false → SlOk K bp H B (some (.ref p)) (.dc kvs) [p]
  | dr {p : Addr} {xs : List (NestedKey × Addr × Value)} {kvs : List (PyData × PyData)} : IsDic B p xs → EntsOk K B xs kvs → (p == sysModules) = false → SlOk K bp H B (some (.ref p)) (.dr kvs) []
  | st {a dx q : Addr} {row : PyData} {er : List PyData} : StAt K H B a dx q row er → SlOk K bp H B (some (.ref a)) (.st row er) [a, dx, q]
  | dd {p : Addr} {ks : List (Int × Addr)} {kvss : List (Int × List (PyData × PyData))} : H p = some (.dK (ksV ks)) → InnOk K B ks kvss → SlOk K bp H B (some (.ref p)) (.dd kvss) [p]
  | di {p : Addr} {ks : List (Int × V)} {kvs : List (Int × PyData)} : H p = some (.dK (nsV ks)) → NumOk K B ks kvs → SlOk K bp H B (some (.ref p)) (.di kvs) [p]
  | db {p : Addr} {xs : List (NestedKey × Addr × Value)} {kvs : List (PyData × PyData)} : bp = some p → IsDic H p xs → EntsOk K B xs kvs → (p == sysModules) = false → SlOk K bp H B (some (.ref p)) (.db kvs) [p]
  | sb {a dx q : Addr} {row : PyData} {er : List PyData} : bp = some a → StAt K H B a dx q row er → SlOk K bp H B (some (.ref a)) (.sb row er) [a, dx, q]
theorem StAt.held {K : PySem.W.Frag} {H B : Hp} {a dx q : Addr} {row : PyData} {er : List PyData} (h : StAt K H B a dx q row er) : ∀ p ∈ [a, dx, q], H p ≠ none := by
  obtain ⟨C, vr, ws, _, h1, h2, h3, _⟩ := h
  intro p hp
  rcases List.mem_cons.mp hp with e | hp
  · rw [e, h1]; exact fun z => by cases z
  · rcases List.mem_cons.mp hp with e | hp
    · rw [e, h2]; exact fun z => by cases z
    · rw [List.mem_singleton.mp hp, h3]; exact fun z => by cases z
theorem StAt.mono {K : PySem.W.Frag} {H B H' B' : Hp} {a dx q : Addr} {row : PyData} {er : List PyData} (h : StAt K H B a dx q row er) (eh : ∀ p ∈ [a, dx, q], H' p = H p) (eb : Same B B') : StAt K H' B' a dx q row er := by
  obtain ⟨C, vr, ws, h0, h1, h2, h3, h4, h5⟩ := h
  exact ⟨C, vr, ws, h0, by rw [eh a (by simp)]; exact h1, by rw [eh dx (by simp)]; exact h2, by rw [eh q (by simp)]; exact h3, dp_mono eb h4, dpAll_mono eb h5⟩
inductive Sls (K : PySem.W.Frag) (bp : Option Addr) (H B : Hp) : L2.St → Ev → List Addr → Prop
  | nil : Sls K bp H B [] [] []
  | cons {o : Option V} {sl : Sl} {as bs : List Addr} {σ : L2.St} {e : Ev} : SlOk K bp H B o sl as → Sls K bp H B σ e bs → Sls K bp H B (o :: σ) (sl :: e) (as ++ bs)
theorem SlOk.held {K : PySem.W.Frag} {bp : Option Addr} {H B : Hp} {o : Option V} {sl : Sl} {as : List Addr} (h : SlOk K bp H B o sl as) : ∀ p ∈ as, H p ≠ none := by
  intro p hp
  cases h with
  | un => cases hp
  | sh _ => cases hp
  | ow a _ => rw [List.mem_singleton.mp hp, a]; exact fun z => by cases z
  | bw _ a _ => rw [List.mem_singleton.mp hp, a]; exact fun z => by cases z
  | ob _ _ => cases hp
  | dc a _ _ => rw [List.mem_singleton.mp hp]; first | exact a.ne | exact a.nt ps
  | dr _ _ _ => cases hp
  | dd a _ => rw [List.mem_singleton.mp hp, a]; exact fun z => by cases z
  | di a _ => rw [List.mem_singleton.mp hp, a]; exact fun z => by cases z
  | db _ a _ _ => rw [List.mem_singleton.mp hp]; first | exact a.ne | exact a.nt ps
  | st a => exact a.held p hp
  | sb _ a => exact a.held p hp
theorem SlOk.noTab {K : PySem.W.Frag} {bp : Option Addr} {H B : Hp} {o : Option V} {sl : Sl} {as : List Addr} (h : SlOk K bp H B o sl as) : ∀ p ∈ as, ∀ ps, H p ≠ some (.tbl ps) := by
  intro p hp ps
  have str : ∀ {a dx q : Addr} {row : PyData} {er : List PyData}, StAt K H B a dx q row er → p ∈ [a, dx, q] → H p ≠ some (.tbl ps) := fun {a dx q row er} sa hp => by
    obtain ⟨C, vr, ws, _, h1, h2, h3, _⟩ := sa
    rcases List.mem_cons.mp hp with e | hp
    · rw [e, h1]; exact fun z => by cases z
    · rcases List.mem_cons.mp hp with e | hp
      · rw [e, h2]; exact fun z => by cases z
      · rw [List.mem_singleton.mp hp, h3]; exact fun z => by cases z
  cases h with
  | un => cases hp
  | sh _ => cases hp
  | ow a _ => rw [List.mem_singleton.mp hp, a]; exact fun z => by cases z
  | bw _ a _ => rw [List.mem_singleton.mp hp, a]; exact fun z => by cases z
  | ob _ _ => cases hp
  | dc a _ _ => rw [List.mem_singleton.mp hp]; first | exact a.ne | exact a.nt ps
  | dr _ _ _ => cases hp
  | dd a _ => rw [List.mem_singleton.mp hp, a]; exact fun z => by cases z
  | di a _ => rw [List.mem_singleton.mp hp, a]; exact fun z => by cases z
  | db _ a _ _ => rw [List.mem_singleton.mp hp]; first | exact a.ne | exact a.nt ps
  | st a => exact str a hp
  | sb _ a => exact str a hp
theorem Sls.noTab {K : PySem.W.Frag} {bp : Option Addr} {H B : Hp} : ∀ {σ : L2.St} {e : Ev} {as : List Addr}, Sls K bp H B σ e as → ∀ p ∈ as, ∀ ps, H p ≠ some (.tbl ps)
  | _, _, _, .nil, _, hp => by cases hp
  | _, _, _, .cons h t, p, hp => (List.mem_append.mp hp).elim (h.noTab p) (t.noTab p)
theorem Sls.held {K : PySem.W.Frag} {bp : Option Addr} {H B : Hp} : ∀ {σ : L2.St} {e : Ev} {as : List Addr}, Sls K bp H B σ e as → ∀ p ∈ as, H p ≠ none
  | _, _, _, .nil, _, hp => by cases hp
  | _, _, _, .cons h t, p, hp => (List.mem_append.mp hp).elim (h.held p) (t.held p)
theorem SlOk.mono {K : PySem.W.Frag} {bp : Option Addr} {H B H' B' : Hp} {o : Option V} {sl : Sl} {as : List Addr} (h : SlOk K bp H B o sl as) (eh : ∀ p ∈ as, H' p = H p) (eb : Same B B') : SlOk K bp H' B' o sl as := by
  cases h with
  | un => exact .un
  | sh d => exact .sh (dp_mono eb d)
  | ow a d => exact .ow (by rw [eh _ List.mem_cons_self]; exact a) (dpAll_mono eb d)
  | bw e a d => exact .bw e (by rw [eh _ List.mem_cons_self]; exact a) (dpAll_mono eb d)
  | ob a b => exact .ob (eb _ _ a) b
  | dc a b c => exact .dc (a.eq (eh _ List.mem_cons_self)) (b.mono eb) c
  | dr a b c => exact .dr (a.mono eb) (b.mono eb) c
  | dd a b => exact .dd (by rw [eh _ List.mem_cons_self]; exact a) (b.mono eb)
  | di a b => exact .di (by rw [eh _ List.mem_cons_self]; exact a) (b.mono eb)
  | db e a b c => exact .db e (a.eq (eh _ List.mem_cons_self)) (b.mono eb) c
  | st a => exact .st (a.mono eh eb)
  | sb e a => exact .sb e (a.mono eh eb)
theorem Sls.mono {K : PySem.W.Frag} {bp : Option Addr} {H B H' B' : Hp} (eb : Same B B') : ∀ {σ : L2.St} {e : Ev} {as : List Addr}, Sls K bp H B σ e as → (∀ p ∈ as, H' p = H p) → Sls K bp H' B' σ e as
  | _, _, _, .nil, _ => .nil
  | _, _, _, .cons h t, eh => .cons (h.mono (fun p hp => eh p (List.mem_append_left _ hp)) eb) (t.mono eb fun p hp => eh p (List.mem_append_right _ hp))
theorem Sls.len {K : PySem.W.Frag} {bp : Option Addr} {H B : Hp} : ∀ {σ : L2.St} {e : Ev} {as : List Addr}, Sls K bp H B σ e as → σ.length = e.length
  | _, _, _, .nil => rfl
  | _, _, _, .cons _ t => congrArg (· + 1) t.len
/-- the slots, the heap, the base, the slots' values, the places that are owned -/
structure RelA (K : PySem.W.Frag) (W : Wd) (σ : L2.St) (H B : Hp) (e : Ev) (A : List Addr) : Prop where
  sls : Sls K W.bp H B σ e A
  nd : A.Nodup
  out : ∀ p ∈ A, B p = none ∧ W.H0 p = none
  bh : Same B H
  fr : Same W.H0 H
  new : ∀ b, W.H0 b ≠ none → W.B0 b = none → B b = none
  tb : TbOk W.tb W.H0 H B
def Rel (K : PySem.W.Frag) (W : Wd) (σ : L2.St) (H B : Hp) (e : Ev) : Prop := ∃ A, RelA K W σ H B e A
theorem same_at {H H' : Hp} (e : Same H H') {p : Addr} (h : H p ≠ none) : H' p = H p := by
  cases q : H p with
  | none => exact absurd q h
  | some o => rw [e p o q]
theorem RelA.ext {K : PySem.W.Frag} {W : Wd} {σ : L2.St} {H B H' B' : Hp} {e : Ev} {A : List Addr} (r : RelA K W σ H B e A) (x : Ext H B H' B') : RelA K W σ H' B' e A where
  sls := r.sls.mono x.b fun p hp => same_at x.h (r.sls.held p hp)
  nd := r.nd
  out := fun p hp => ⟨x.nn p (r.sls.held p hp) (r.out p hp).1, (r.out p hp).2⟩
  bh := x.bh
  fr := r.fr.trans x.h
  new := fun b h1 h2 => x.nn b (ne_none_of r.fr h1) (r.new b h1 h2)
  tb := r.tb.mono (fun b ps h => x.h b _ h) x.b fun b ps h n => x.nn b (by rw [h]; exact fun z => by cases z) n
theorem Rel.ext {K : PySem.W.Frag} {W : Wd} {σ : L2.St} {H B H' B' : Hp} {e : Ev} (r : Rel K W σ H B e) (x : Ext H B H' B') : Rel K W σ H' B' e := by
  obtain ⟨A, r⟩ := r
  exact ⟨A, r.ext x⟩
theorem Rel.bh {K : PySem.W.Frag} {W : Wd} {σ : L2.St} {H B : Hp} {e : Ev} (r : Rel K W σ H B e) : Same B H := by
  obtain ⟨A, r⟩ := r
  exact r.bh
/-- a slot that is read -/
theorem Sls.at {K : PySem.W.Frag} {bp : Option Addr} {H B : Hp} : ∀ {σ : L2.St} {e : Ev} {as : List Addr} {i : Nat} {sl : Sl}, Sls K bp H B σ e as → e[i]? = some sl → ∃ o bs, σ[i]? = some o ∧ SlOk K bp H B o sl bs ∧ ∀ p ∈ bs, p ∈ as
  | _, _, _, _, _, .nil, h => by simp at h
  | _, _, _, 0, _, .cons h _, e => ⟨_, _, rfl, by cases Option.some.inj e; exact h, fun p hp => List.mem_append_left _ hp⟩
  | _, _, _, i + 1, _, .cons _ t, e => by
    obtain ⟨o, bs, h1, h2, h3⟩ := Sls.at (i := i) t e
    exact ⟨o, bs, h1, h2, fun p hp => List.mem_append_right _ (h3 p hp)⟩
/-- a slot is put in a slot's place: what it owned is dropped, what the new one owns is taken -/
theorem Sls.set {K : PySem.W.Frag} {bp : Option Addr} {H B : Hp} {o : Option V} {sl : Sl} {cs : List Addr} (hn : SlOk K bp H B o sl cs) : ∀ {σ : L2.St} {e : Ev} {as : List Addr} (i : Nat), Sls K bp H B σ e as →
    ∃ bs, Sls K bp H B (σ.set i o) (e.set i sl) bs ∧ (as.Nodup → cs.Nodup → (∀ p ∈ cs, p ∉ as) → bs.Nodup) ∧ ∀ p ∈ bs, p ∈ as ∨ p ∈ cs
  | _, _, _, _, .nil => ⟨[], .nil, fun _ _ _ => List.nodup_nil, fun _ h => by cases h⟩
  | _, _, _, 0, .cons (as := a1) (bs := b1) h t => ⟨_, .cons hn t, fun n1 n2 n3 => by
      refine List.nodup_append.mpr ⟨n2, (List.nodup_append.mp n1).2.1, fun x hx y hy z => n3 x hx ?_⟩
      rw [z]
      exact List.mem_append_right _ hy, fun p hp => (List.mem_append.mp hp).elim .inr fun z => .inl (List.mem_append_right _ z)⟩
  | _, _, _, i + 1, .cons (as := a1) (bs := b1) h t => by
    obtain ⟨bs, h1, h2, h3⟩ := Sls.set hn i t
    refine ⟨_, .cons h h1, fun n1 n2 n3 => ?_, fun p hp => ?_⟩
    · obtain ⟨m1, m2, m3⟩ := List.nodup_append.mp n1
      refine List.nodup_append.mpr ⟨m1, h2 m2 n2 fun p hp z => n3 p hp (List.mem_append_right _ z), fun x hx y hy z => ?_⟩
      rcases h3 y hy with q | q
      · exact m3 x hx y q z
      · exact n3 y q (by rw [← z]; exact List.mem_append_left _ hx)
    · rcases List.mem_append.mp hp with q | q
      · exact .inl (List.mem_append_left _ q)
      · rcases h3 p q with z | z
        · exact .inl (List.mem_append_right _ z)
        · exact .inr z
/-- assign shared data to a slot -/
theorem Rel.put {K : PySem.W.Frag} {W : Wd} {σ : L2.St} {H B : Hp} {e : Ev} {v : V} {d : PyData} (r : Rel K W σ H B e) (i : Nat) (h : Dp K B v d) : Rel K W (σ.set i (some v)) H B (e.set i (.sh d)) := by
  obtain ⟨A, r⟩ := r
  obtain ⟨bs, h1, h2, h3⟩ := r.sls.set (SlOk.sh h) i
  exact ⟨bs, h1, h2 r.nd List.nodup_nil (fun p hp => by cases hp), fun p hp => r.out p ((h3 p hp).resolve_right fun z => by cases z), r.bh, r.fr, r.new, r.tb⟩
/-- forget a slot -/
theorem Rel.drop {K : PySem.W.Frag} {W : Wd} {σ : L2.St} {H B : Hp} {e : Ev} (r : Rel K W σ H B e) (i : Nat) (o : Option V) : Rel K W (σ.set i o) H B (e.set i .un) := by
  obtain ⟨A, r⟩ := r
  obtain ⟨bs, h1, h2, h3⟩ := r.sls.set (SlOk.un (o := o)) i
  exact ⟨bs, h1, h2 r.nd List.nodup_nil (fun p hp => by cases hp), fun p hp => r.out p ((h3 p hp).resolve_right fun z => by cases z), r.bh, r.fr, r.new, r.tb⟩
/-- the head slot is put in a slot's place -/
theorem Rel.take {K : PySem.W.Frag} {W : Wd} {σ : L2.St} {H B : Hp} {e : Ev} {o : Option V} {sl : Sl} (r : Rel K W (o :: σ) H B (sl :: e)) (i : Nat) : Rel K W (σ.set i o) H B (e.set i sl) := by
  obtain ⟨A, r⟩ := r
  cases hs : r.sls with
  | cons h t =>
    have hs' := hs
    obtain ⟨n1, n2, n3⟩ := List.nodup_append.mp r.nd
    obtain ⟨bs, h1, h2, h3⟩ := t.set h i
    exact ⟨bs, h1, h2 n2 n1 (fun p hp z => n3 p hp p z rfl), fun p hp => r.out p ((h3 p hp).elim (fun z => List.mem_append_right _ z) fun z => List.mem_append_left _ z), r.bh, r.fr, r.new, r.tb⟩
theorem Rel.tail {K : PySem.W.Frag} {W : Wd} {σ : L2.St} {H B : Hp} {e : Ev} {o : Option V} {sl : Sl} (r : Rel K W (o :: σ) H B (sl :: e)) : Rel K W σ H B e := by
  obtain ⟨A, r⟩ := r
  cases hs : r.sls with
  | cons h t => exact ⟨_, t, (List.nodup_append.mp r.nd).2.1, fun p hp => r.out p (List.mem_append_right _ hp), r.bh, r.fr, r.new, r.tb⟩
theorem Rel.head {K : PySem.W.Frag} {W : Wd} {σ : L2.St} {H B : Hp} {e : Ev} {v : V} {d : PyData} (r : Rel K W (some v :: σ) H B (.sh d :: e)) : Dp K B v d := by
  obtain ⟨A, r⟩ := r
  cases hs : r.sls with
  | cons h t =>
    cases h with
    | sh h => exact h
theorem Rel.cons {K : PySem.W.Frag} {W : Wd} {σ : L2.St} {H B : Hp} {e : Ev} {v : V} {d : PyData} (r : Rel K W σ H B e) (h : Dp K B v d) : Rel K W (some v :: σ) H B (.sh d :: e) := by
  obtain ⟨A, r⟩ := r
  exact ⟨A, .cons (as := []) (.sh h) r.sls, r.nd, r.out, r.bh, r.fr, r.new, r.tb⟩
/-- an own list is frozen: the base takes it up -/
theorem freeze {K : PySem.W.Frag} {W : Wd} {σ : L2.St} {H B : Hp} {e : Ev} {A : List Addr} {p : Addr} {xs : List V} (r : RelA K W σ H B e A) (hp : H p = some (.lst xs)) (hA : p ∉ A) (h0 : W.H0 p = none) (hB : B p = none) :
    RelA K W σ H (upd B p (.lst xs)) e A ∧ Same B (upd B p (.lst xs)) := by
  have sb : Same B (upd B p (.lst xs)) := same_upd hB
  refine ⟨⟨r.sls.mono sb fun _ _ => rfl, r.nd, fun q hq => ⟨?_, (r.out q hq).2⟩, fun b o h => ?_, r.fr, fun b h1 h2 => ?_, r.tb.mono (fun _ _ h => h) sb fun b ps h n => by rw [upd_ne (fun z => by rw [z, hp] at h; cases h)]; exact n⟩, sb⟩
  · rw [upd_ne (fun z => hA (by rw [← z]; exact hq))]
    exact (r.out q hq).1
  · by_cases c : b = p
    · rw [c, upd_same] at h
      rw [c, hp]
      exact h
    · rw [upd_ne c] at h
      exact r.bh b o h
  · rw [upd_ne (fun z => h1 (by rw [z]; exact h0))]
    exact r.new b h1 h2
/-- a new list at the head is frozen -/
theorem Rel.melt {K : PySem.W.Frag} {W : Wd} {σ : L2.St} {H B : Hp} {e : Ev} {v : V} {ds : List PyData} (r : Rel K W (some v :: σ) H B (.ow ds :: e)) : ∃ B', Same B B' ∧ Rel K W σ H B' e ∧ Dp K B' v (.list ds) := by
  obtain ⟨A, r⟩ := r
  cases hs : r.sls with
  | @cons _ _ _ bs _ _ h t =>
    cases h with
    | @ow p xs _ h1 h2 =>
      obtain ⟨n1, n2, n3⟩ := List.nodup_append.mp r.nd
      have hm : p ∈ [p] ++ bs := List.mem_append_left _ List.mem_cons_self
      have hA := fun z => n3 p List.mem_cons_self p z rfl
      have r' : RelA K W σ H B e bs := ⟨t, n2, fun p hp => r.out p (List.mem_append_right _ hp), r.bh, r.fr, r.new, r.tb⟩
      obtain ⟨q1, q2⟩ := freeze r' h1 hA (r.out p hm).2 (r.out p hm).1
      exact ⟨_, q2, ⟨_, q1⟩, .lst (SqL.of upd_same) (dpAll_mono q2 h2)⟩
/-- a new list that nobody has yet -/
theorem Rel.born {K : PySem.W.Frag} {W : Wd} {σ : L2.St} {H B : Hp} {e : Ev} {p : Addr} {xs : List V} {ds : List PyData} (r : Rel K W σ H B e) (hp : H p = none) (h : DpAll K B xs ds) : Rel K W (some (.ref p) :: σ) (upd H p (.lst xs)) B (.ow ds :: e) := by
  obtain ⟨A, r⟩ := r
  have r1 := r.ext (Ext.gone (o := .lst xs) r.bh hp)
  refine ⟨[p] ++ A, .cons (.ow upd_same h) r1.sls, List.nodup_append.mpr ⟨by simp, r.nd, fun x hx y hy z => ?_⟩, fun q hq => ?_, r1.bh, r1.fr, r1.new, r1.tb⟩
  · rw [List.mem_singleton.mp hx] at z
    exact r.sls.held y hy (by rw [← z]; exact hp)
  · rcases List.mem_append.mp hq with z | z
    · rw [List.mem_singleton.mp z]
      exact ⟨r.bh.free hp, r.fr.free hp⟩
    · exact r.out q z
theorem freezeG {K : PySem.W.Frag} {W : Wd} {σ : L2.St} {H B : Hp} {e : Ev} {A : List Addr} {p : Addr} {ho : HO} (hnt : ∀ ps, ho ≠ .tbl ps) (r : RelA K W σ H B e A) (hp : H p = some ho) (hA : p ∉ A) (h0 : W.H0 p = none) (hB : B p = none) :
    RelA K W σ H (upd B p ho) e A ∧ Same B (upd B p ho) := by
  have sb : Same B (upd B p ho) := same_upd hB
  refine ⟨⟨r.sls.mono sb fun _ _ => rfl, r.nd, fun q hq => ⟨?_, (r.out q hq).2⟩, fun b o h => ?_, r.fr, fun b h1 h2 => ?_, r.tb.mono (fun _ _ h => h) sb fun b ps h n => by rw [upd_ne (fun z => hnt ps (by rw [z, hp] at h; exact Option.some.inj h))]; exact n⟩, sb⟩
  · rw [upd_ne (fun z => hA (by rw [← z]; exact hq))]
    exact (r.out q hq).1
  · by_cases c : b = p
    · rw [c, upd_same] at h
      rw [c, hp]
      exact h
    · rw [upd_ne c] at h
      exact r.bh b o h
  · rw [upd_ne (fun z => h1 (by rw [z]; exact h0))]
    exact r.new b h1 h2
/-- a new dict at the head is frozen -/
theorem Rel.meltD {K : PySem.W.Frag} {W : Wd} {σ : L2.St} {H B : Hp} {e : Ev} {v : V} {kvs : List (PyData × PyData)} (r : Rel K W (some v :: σ) H B (.dc kvs :: e)) : ∃ B' p xs, v = .ref p ∧ Same B B' ∧ Rel K W σ H B' e ∧ IsDic B' p xs ∧ EntsOk K B' xs kvs ∧ (p == sysModules) = false := by
  obtain ⟨A, r⟩ := r
  cases hs : r.sls with
  | @cons _ _ _ bs _ _ h t =>
    cases h with
    | @dc p xs _ h1 h2 h3 =>
      obtain ⟨n1, n2, n3⟩ := List.nodup_append.mp r.nd
      have hm : p ∈ [p] ++ bs := List.mem_append_left _ List.mem_cons_self
      have hA := fun z => n3 p List.mem_cons_self p z rfl
      have r' : RelA K W σ H B e bs := ⟨t, n2, fun p hp => r.out p (List.mem_append_right _ hp), r.bh, r.fr, r.new, r.tb⟩
      obtain ⟨ep, h1⟩ := h1
      obtain ⟨q1, q2⟩ := freezeG (fun ps z => by cases z) r' h1 hA (r.out p hm).2 (r.out p hm).1
      exact ⟨_, p, xs, rfl, q2, ⟨_, q1⟩, ⟨ep, upd_same⟩, h2.mono q2, h3⟩
/-- a new dict at the head becomes data -/
theorem Rel.meltK {K : PySem.W.Frag} {W : Wd} {σ : L2.St} {H B : Hp} {e : Ev} {v : V} {kvs : List (PyData × PyData)} (r : Rel K W (some v :: σ) H B (.dc kvs :: e)) : ∃ B', Same B B' ∧ Rel K W σ H B' e ∧ Dp K B' v (.dict kvs) := by
  obtain ⟨B', p, xs, rfl, h1, h2, h3, h4, h5⟩ := r.meltD
  exact ⟨B', h1, h2, .dct h3 h5 h4⟩
theorem dp_dct {K : PySem.W.Frag} {H : Hp} {v : V} {kvs : List (PyData × PyData)} (h : Dp K H v (.dict kvs)) : ∃ a xs, v = .ref a ∧ IsDic H a xs ∧ (a == sysModules) = false ∧ EntsOk K H xs kvs := by
  cases h with
  | dct a b c => exact ⟨_, _, rfl, a, b, c⟩
/-! ### data is read -/
section
variable {X : Cx} {pins : List (Addr × Obj)} {σ : L2.St} {H : Hp} {s : Shared}
mutual
theorem Dp.rd (I : Inv X pins σ H s) : ∀ {v : V} {d : PyData}, Dp X.K H v d → ∀ u : Value, RelV v u → ∃ as, Reads s.heap u d as
  | _, _, .non, _, r => by
    cases r
    exact ⟨_, Reads.none⟩
  | _, _, .bl b, _, r => by
    cases r
    exact ⟨_, Reads.bool b⟩
  | _, _, .int i, _, r => by
    obtain ⟨t, rfl⟩ := r
    exact ⟨_, Reads.int i t⟩
  | _, _, .str x, _, r => by
    obtain ⟨t, rfl⟩ := r
    exact ⟨_, Reads.str x t⟩
  | _, _, .lst hs ha, _, r => by
    cases r
    obtain ⟨its, rv, ⟨o, n, ho, hc, _, hd⟩, _⟩ := I.list hs
    obtain ⟨as, hr⟩ := DpAll.rd I ha its rv
    exact ⟨_, Reads.list ho hc hd hr⟩
  | _, _, .tup hs ha, _, r => by
    cases r
    obtain ⟨its, rv, ⟨o, ho, hc, n, hd⟩, _⟩ := I.tuple hs
    obtain ⟨as, hr⟩ := DpAll.rd I ha its rv
    exact ⟨_, Reads.tuple ho hc hd hr⟩
  | _, _, .dct h _ es, _, r => by
    cases r
    obtain ⟨ep, h⟩ := h
    obtain ⟨⟨o, es', h1, h2, h3, h4, h5⟩, _, _⟩ := I.hok _ _ h
    obtain ⟨as, bs, r1, r2⟩ := EntsOk.rd I es
    refine ⟨_, Reads.dict (as := as) (bs := bs) h1 h2.1 h3 ?_ ?_⟩
    · rw [h4, List.map_map]
      exact r1
    · rw [h4, List.map_map]
      exact r2
theorem DpAll.rd (I : Inv X pins σ H s) : ∀ {vs : List V} {ds : List PyData}, DpAll X.K H vs ds → ∀ us : List Value, Vals vs us → ∃ as, ReadsAll s.heap us ds as
  | _, _, .nil, _, r => by
    cases r
    exact ⟨_, ReadsAll.nil⟩
  | _, _, .cons h1 h2, _, r => by
    cases r with
    | cons r1 r2 =>
      obtain ⟨as, q1⟩ := Dp.rd I h1 _ r1
      obtain ⟨bs, q2⟩ := DpAll.rd I h2 _ r2
      exact ⟨_, ReadsAll.cons q1 q2⟩
theorem EntsOk.rd (I : Inv X pins σ H s) : ∀ {xs : List (NestedKey × Addr × Value)} {kvs : List (PyData × PyData)}, EntsOk X.K H xs kvs → ∃ as bs, ReadsAll s.heap (xs.map fun x => Value.ref x.2.1) (kvs.map (·.1)) as ∧ ReadsAll s.heap (xs.map fun x => x.2.2) (kvs.map (·.2)) bs
  | _, _, .nil => ⟨_, _, ReadsAll.nil, ReadsAll.nil⟩
  | _, _, .cons _ _ hd ru hv t => by
    obtain ⟨a1, q1⟩ := Dp.rd I hd _ (rfl : RelV (.ref _) (.ref _))
    obtain ⟨a2, q2⟩ := Dp.rd I hv _ ru
    obtain ⟨as, bs, r1, r2⟩ := EntsOk.rd I t
    exact ⟨_, _, ReadsAll.cons q1 r1, ReadsAll.cons q2 r2⟩
end
theorem Dp.reads (I : Inv X pins σ H s) (d : PyData) (v : V) (u : Value) (h : Dp X.K H v d) (r : RelV v u) : ∃ as, Reads s.heap u d as := Dp.rd I h u r
theorem Dp.readsAll (I : Inv X pins σ H s) (ds : List PyData) (vs : List V) (us : List Value) (h : DpAll X.K H vs ds) (r : Vals vs us) : ∃ as, ReadsAll s.heap us ds as := DpAll.rd I h us r
end
section
variable {X : Cx}
def rEqD (K : PySem.W.Frag) : R2 := fun x y H Q => ∃ d e, Dp K H x d ∧ Dp K H y e ∧ SeqAt.shaped d = true ∧ SeqAt.shaped e = true ∧ Q (.bl (PyData.eqv d e)) H
def rNeD (K : PySem.W.Frag) : R2 := fun x y H Q => ∃ d e, Dp K H x d ∧ Dp K H y e ∧ SeqAt.shaped d = true ∧ SeqAt.shaped e = true ∧ Q (.bl (!PyData.eqv d e)) H
theorem op_eqD (hu : X.A.units + 64 < cLine) : OpR X (compareOp .Eq) (rEqD X.K) := by
  intro pins s σ H x y v u Q I rx ry h
  obtain ⟨d, e, hd, he, sd, se, q⟩ := h
  obtain ⟨as, r1⟩ := hd.rd I v rx
  obtain ⟨bs, r2⟩ := he.rd I u ry
  exact SeqAt.compareEq_shaped r1 r2 sd se hu ⟨.bl _, H, I, rfl, q⟩
theorem op_neD (hu : X.A.units + 64 < cLine) : OpR X (compareOp .NotEq) (rNeD X.K) := by
  intro pins s σ H x y v u Q I rx ry h
  obtain ⟨d, e, hd, he, sd, se, q⟩ := h
  obtain ⟨as, r1⟩ := hd.rd I v rx
  obtain ⟨bs, r2⟩ := he.rd I u ry
  exact SeqAt.compareNe_shaped r1 r2 sd se hu ⟨.bl _, H, I, rfl, q⟩
def rInD (K : PySem.W.Frag) : R2 := fun x y H Q => ∃ d ds, Dp K H x d ∧ Dp K H y (.list ds) ∧ SeqAt.shaped d = true ∧ SeqAt.shaped (.list ds) = true ∧ Q (.bl (ds.any fun z => PyData.eqv z d)) H
def rNotInD (K : PySem.W.Frag) : R2 := fun x y H Q => ∃ d ds, Dp K H x d ∧ Dp K H y (.list ds) ∧ SeqAt.shaped d = true ∧ SeqAt.shaped (.list ds) = true ∧ Q (.bl (!ds.any fun z => PyData.eqv z d)) H
theorem op_inD (hu : X.A.units + 65 < cLine) : OpR X (compareOp .In) (rInD X.K) := by
  intro pins s σ H x y v u Q I rx ry h
  obtain ⟨d, ds, hd, he, sd, se, q⟩ := h
  obtain ⟨as, r1⟩ := hd.rd I v rx
  obtain ⟨bs, r2⟩ := he.rd I u ry
  exact SeqAt.in_list_reads r2 r1 (SeqAt.canLay_of_shaped se) (SeqAt.canLay_of_shaped sd) (room_in_shaped sd hu) ⟨.bl _, H, I, rfl, q⟩
theorem op_notInD (hu : X.A.units + 65 < cLine) : OpR X (compareOp .NotIn) (rNotInD X.K) := by
  intro pins s σ H x y v u Q I rx ry h
  obtain ⟨d, ds, hd, he, sd, se, q⟩ := h
  obtain ⟨as, r1⟩ := hd.rd I v rx
  obtain ⟨bs, r2⟩ := he.rd I u ry
  exact SeqAt.notIn_list_reads r2 r1 (SeqAt.canLay_of_shaped se) (SeqAt.canLay_of_shaped sd) (room_in_shaped sd hu) ⟨.bl _, H, I, rfl, q⟩
end
end VL
end
section
set_option Elab.async false
set_option linter.all false
set_option maxRecDepth 100000
set_option maxHeartbeats 2000000
namespace VL
open PySem PySem.Spec PyProof.Rows L2
abbrev M (α : Type) := Ev → Option (α × Ev)
def bnd {α β : Type} (x : Option (α × Ev)) (k : α → Ev → Option β) : Option β := match x with
  | none => none
  | some (a, e) => k a e
theorem bnd_some {α β : Type} {x : Option (α × Ev)} {k : α → Ev → Option β} {y : β} (h : bnd x k = some y) : ∃ a e, x = some (a, e) ∧ k a e = some y := by
  cases x with
  | none => cases h
  | some p => exact ⟨p.1, p.2, rfl, h⟩
def put {α : Type} (o : Option α) (e : Ev) : Option (α × Ev) := match o with
  | none => none
  | some a => some (a, e)
theorem put_some {α : Type} {o : Option α} {e e' : Ev} {a : α} (h : put o e = some (a, e')) : o = some a ∧ e' = e := by
  cases o with
  | none => cases h
  | some b =>
    cases h
    exact ⟨rfl, rfl⟩
inductive Out where
  | nx (e : Ev)
  | rt (s : Sl) (e : Ev)
section
variable (K : PySem.W.Frag) (T : List (Addr × Str))
/-- an expression: its value is shared data -/
def SE (t : TE) (f : M PyData) : Prop := ∀ (W : Wd) (hT : W.tb = T) (σ : L2.St) (H B : Hp) (e : Ev) (d : PyData) (e' : Ev) (Q : VK), f e = some (d, e') → Rel K W σ H B e →
  (∀ v H' B', Same B B' → Rel K W σ H' B' e' → Dp K B' v d → Q v H') → t σ H Q
/-- an expression whose value may be a list of its own -/
def SX (t : TE) (f : M Sl) : Prop := ∀ (W : Wd) (hT : W.tb = T) (σ : L2.St) (H B : Hp) (e : Ev) (s : Sl) (e' : Ev) (Q : VK), f e = some (s, e') → Rel K W σ H B e →
  (∀ v H' B', Same B B' → Rel K W (some v :: σ) H' B' (s :: e') → Q v H') → t σ H Q
def ST (t : TT) (f : M Bool) : Prop := ∀ (W : Wd) (hT : W.tb = T) (σ : L2.St) (H B : Hp) (e : Ev) (b : Bool) (e' : Ev) (Q : Bool → Hp → Prop), f e = some (b, e') → Rel K W σ H B e →
  (∀ H' B', Same B B' → Rel K W σ H' B' e' → Q b H') → t σ H Q
def SA (t : TA) (f : M (List PyData)) : Prop := ∀ (W : Wd) (hT : W.tb = T) (σ : L2.St) (H B : Hp) (e : Ev) (ds : List PyData) (e' : Ev) (Q : List V → Hp → Prop), f e = some (ds, e') → Rel K W σ H B e →
  (∀ vs H' B', Same B B' → Rel K W σ H' B' e' → DpAll K B' vs ds → Q vs H') → t σ H Q
def SO (t : TO) (f : M (Option Int)) : Prop := ∀ (W : Wd) (hT : W.tb = T) (σ : L2.St) (H B : Hp) (e : Ev) (o : Option Int) (e' : Ev) (Q : Option Int → Hp → Prop), f e = some (o, e') → Rel K W σ H B e →
  (∀ H' B', Same B B' → Rel K W σ H' B' e' → Q o H') → t σ H Q
def SS (t : TS) (f : Ev → Option Out) : Prop := ∀ (W : Wd) (hT : W.tb = T) (D : Ends) (σ : L2.St) (H B : Hp) (e : Ev) (o : Out), f e = some o → Rel K W σ H B e →
  (∀ e' σ' H' B', o = .nx e' → Same B B' → Rel K W σ' H' B' e' → D.nx σ' H') → (∀ s e' v σ' H' B', o = .rt s e' → Same B B' → Rel K W (some v :: σ') H' B' (s :: e') → D.rt v H') → t D σ H
def SG (g : TG) (f : PyData → Ev → Option Ev) : Prop := ∀ (W : Wd) (hT : W.tb = T) (σ : L2.St) (H B : Hp) (e : Ev) (v : V) (d : PyData) (e' : Ev) (Q : L2.St → Hp → Prop), f d e = some e' → Rel K W σ H B e → Dp K B v d →
  (∀ σ', Rel K W σ' H B e' → Q σ' H) → g v σ H Q
def SGs (g : TGs) (f : List PyData → Ev → Option Ev) : Prop := ∀ (W : Wd) (hT : W.tb = T) (σ : L2.St) (H B : Hp) (e : Ev) (vs : List V) (ds : List PyData) (e' : Ev) (Q : L2.St → Hp → Prop), f ds e = some e' → Rel K W σ H B e → DpAll K B vs ds →
  (∀ σ', Rel K W σ' H B e' → Q σ' H) → g vs σ H Q
/-- an iterator that gives ds, one by one -/
def ItOk (B : Hp) (J : It) (ds : List PyData) : Prop := ∀ (i : Nat) (H1 B1 : Hp), Same B B1 → Same B1 H1 → (ds[i]? = none → i = ds.length → J.stop i H1) ∧
  ∀ d, ds[i]? = some d → J.go i H1 ∧ ∀ x H2, J.yld i H1 x H2 → ∃ B2, Ext H1 B1 H2 B2 ∧ Dp K B2 x d
def SI (wi : TI) (f : M (List PyData)) : Prop := ∀ (W : Wd) (hT : W.tb = T) (σ : L2.St) (H B : Hp) (e : Ev) (ds : List PyData) (e' : Ev) (R : It → Hp → Prop), f e = some (ds, e') → Rel K W σ H B e →
  (∀ J H' B', Same B B' → Rel K W σ H' B' e' → ItOk K B' J ds → R J H') → wi σ H R
/-- an operator's reading does on data what g says -/
def SR2 (r : R2) (g : PyData → PyData → Option PyData) : Prop := ∀ (H B : Hp) (x y : V) (a b d : PyData) (Q : VK), Same B H → Dp K B x a → Dp K B y b → g a b = some d → (∀ v H' B', Ext H B H' B' → Dp K B' v d → Q v H') → r x y H Q
def SR1 (r : V → Hp → VK → Prop) (g : PyData → Option PyData) : Prop := ∀ (H B : Hp) (x : V) (a d : PyData) (Q : VK), Same B H → Dp K B x a → g a = some d → (∀ v H' B', Ext H B H' B' → Dp K B' v d → Q v H') → r x H Q
def SRn (r : List V → Hp → VK → Prop) (g : List PyData → Option PyData) : Prop := ∀ (H B : Hp) (xs : List V) (as : List PyData) (d : PyData) (Q : VK), Same B H → DpAll K B xs as → g as = some d → (∀ v H' B', Ext H B H' B' → Dp K B' v d → Q v H') → r xs H Q
/-- .. a new list -/
def SRx (r : List V → Hp → VK → Prop) (g : List PyData → Option (List PyData)) : Prop := ∀ (H B : Hp) (xs : List V) (as : List PyData) (ds : List PyData) (Q : VK), Same B H → DpAll K B xs as → g as = some ds →
  (∀ p ys H1 B1, Ext H B H1 B1 → H1 p = none → DpAll K B1 ys ds → Q (.ref p) (upd H1 p (.lst ys))) → r xs H Q
def SRx2 (r : R2) (g : PyData → PyData → Option (List PyData)) : Prop := ∀ (H B : Hp) (x y : V) (a b : PyData) (ds : List PyData) (Q : VK), Same B H → Dp K B x a → Dp K B y b → g a b = some ds →
  (∀ p ys H1 B1, Ext H B H1 B1 → H1 p = none → DpAll K B1 ys ds → Q (.ref p) (upd H1 p (.lst ys))) → r x y H Q
end
variable {K : PySem.W.Frag} {T : List (Addr × Str)}
/-! ### names, constants -/
def eC (d : PyData) : M PyData := fun e => some (d, e)
theorem se_c {v : V} {d : PyData} (h : ∀ B, Dp K B v d) : SE K T (tC v) (eC d) := fun W hT σ H B e d' e' Q hf r q => by
  cases hf
  exact q v H B (Same.refl B) r (h B)
theorem se_int {i : Int} : SE K T (tC (.int i)) (eC (.int i)) := se_c fun _ => .int i
theorem se_bl {b : Bool} : SE K T (tC (.bl b)) (eC (.bool b)) := se_c fun _ => .bl b
theorem se_str {x : Str} : SE K T (tC (.str x)) (eC (.str x)) := se_c fun _ => .str x
theorem se_non : SE K T (tC .non) (eC .none) := se_c fun _ => .non
def eVar (i : Nat) : M PyData := fun e => match e[i]? with
  | some (.sh d) => some (d, e)
  | some (.ow ds) => some (.list ds, e.set i (.sh (.list ds)))
  | _ => none
theorem set_same {α : Type} : ∀ {l : List α} {i : Nat} {a : α}, l[i]? = some a → l.set i a = l
  | [], _, _, h => by simp at h
  | _ :: _, 0, _, h => by cases Option.some.inj h; rfl
  | b :: l, i + 1, a, h => by
    show b :: l.set i a = b :: l
    rw [set_same (l := l) (i := i) (a := a) h]
/-- a slot with an own list is frozen where it stands -/
theorem Sls.frz {K : PySem.W.Frag} {bp : Option Addr} {H B : Hp} : ∀ {σ : L2.St} {e : Ev} {as : List Addr} {i : Nat} {ds : List PyData}, Sls K bp H B σ e as → as.Nodup → (∀ p ∈ as, B p = none) → e[i]? = some (.ow ds) →
    ∃ p xs bs, σ[i]? = some (some (.ref p)) ∧ H p = some (.lst xs) ∧ DpAll K B xs ds ∧ p ∈ as ∧ p ∉ bs ∧ bs.Nodup ∧ (∀ q ∈ bs, q ∈ as) ∧ Sls K bp H B (σ.set i none) (e.set i .un) bs
  | _, _, _, _, _, .nil, _, _, h => by simp at h
  | _, _, _, 0, _, .cons (as := a1) (bs := b1) h t, n, o, e => by
    cases Option.some.inj e
    cases h with
    | @ow p xs _ h1 h2 =>
      obtain ⟨m1, m2, m3⟩ := List.nodup_append.mp n
      exact ⟨p, xs, b1, rfl, h1, h2, List.mem_append_left _ List.mem_cons_self, fun z => m3 p List.mem_cons_self p z rfl, m2, fun q hq => List.mem_append_right _ hq, .cons (as := []) .un t⟩
  | _, _, _, i + 1, _, .cons (as := a1) (bs := b1) h t, n, o, e => by
    obtain ⟨m1, m2, m3⟩ := List.nodup_append.mp n
    obtain ⟨p, xs, bs, h1, h2, h3, h4, h5, h6, h7, h8⟩ := Sls.frz (i := i) t m2 (fun p hp => o p (List.mem_append_right _ hp)) e
    refine ⟨p, xs, a1 ++ bs, h1, h2, h3, List.mem_append_right _ h4, fun z => ?_, List.nodup_append.mpr ⟨m1, h6, fun x hx y hy z => m3 x hx y (h7 y hy) z⟩, fun q hq => ?_, .cons h h8⟩
    · rcases List.mem_append.mp z with z | z
      · exact m3 p z p h4 rfl
      · exact h5 z
    · rcases List.mem_append.mp hq with z | z
      · exact List.mem_append_left _ z
      · exact List.mem_append_right _ (h7 q z)
/-- the list of a slot, taken out of it -/
theorem Rel.lift {W : Wd} {σ : L2.St} {H B : Hp} {e : Ev} {i : Nat} {ds : List PyData} (r : Rel K W σ H B e) (h : e[i]? = some (.ow ds)) : ∃ p, σ[i]? = some (some (.ref p)) ∧ Rel K W (some (.ref p) :: σ.set i none) H B (.ow ds :: e.set i .un) := by
  obtain ⟨A, r⟩ := r
  obtain ⟨p, xs, bs, h1, h2, h3, h4, h5, h6, h7, h8⟩ := r.sls.frz r.nd (fun p hp => (r.out p hp).1) h
  refine ⟨p, h1, [p] ++ bs, .cons (.ow h2 h3) h8, List.nodup_append.mpr ⟨by simp, h6, fun x hx y hy z => ?_⟩, fun q hq => ?_, r.bh, r.fr, r.new, r.tb⟩
  · rw [List.mem_singleton.mp hx] at z
    exact h5 (by rw [z]; exact hy)
  · rcases List.mem_append.mp hq with z | z
    · rw [List.mem_singleton.mp z]
      exact r.out p h4
    · exact r.out q (h7 q z)
theorem Rel.get {W : Wd} {σ : L2.St} {H B : Hp} {e : Ev} {i : Nat} {d : PyData} (r : Rel K W σ H B e) (h : e[i]? = some (.sh d)) : ∃ v, σ[i]? = some (some v) ∧ Dp K B v d := by
  obtain ⟨A, r⟩ := r
  obtain ⟨o, bs, h1, h2, h3⟩ := r.sls.at h
  cases h2 with
  | sh h2 => exact ⟨_, h1, h2⟩
theorem set_set' {α : Type} : ∀ (l : List α) (i : Nat) (a b : α), (l.set i a).set i b = l.set i b
  | [], _, _, _ => rfl
  | _ :: _, 0, _, _ => rfl
  | c :: l, i + 1, a, b => by
    show c :: (l.set i a).set i b = c :: l.set i b
    rw [set_set' l i a b]
theorem se_var {i : Nat} : SE K T (tVar i) (eVar i) := fun W hT σ H B e d e' Q hf r q => by
  unfold eVar at hf
  cases h : e[i]? with
  | none => rw [h] at hf; cases hf
  | some s =>
    rw [h] at hf
    cases s with
    | un => cases hf
    | bw _ => cases hf
    | ob _ => cases hf
    | dc _ => cases hf
    | dr _ => cases hf
    | dd _ => cases hf
    | di _ => cases hf
    | db _ => cases hf
    | st _ _ => cases hf
    | sb _ _ => cases hf
    | sh d' =>
      cases hf
      obtain ⟨v, h1, h2⟩ := r.get h
      exact ⟨v, h1, q v H B (Same.refl B) r h2⟩
    | ow ds =>
      cases hf
      obtain ⟨p, h1, r1⟩ := r.lift h
      obtain ⟨B', h2, r2, h3⟩ := r1.melt
      refine ⟨_, h1, q _ H B' h2 ?_ h3⟩
      have r3 := r2.put i h3
      rw [set_set', set_set', set_same h1] at r3
      exact r3
def xVar (i : Nat) : M Sl := fun e => match e[i]? with
  | some (.sh d) => some (.sh d, e)
  | some (.ow ds) => some (.ow ds, e.set i .un)
  | _ => none
theorem Rel.weak {W : Wd} {σ : L2.St} {H B : Hp} {e : Ev} {s : Sl} {o : Option V} {i : Nat} {x : Option V} (r : Rel K W (o :: σ.set i none) H B (s :: e.set i .un)) (h : σ[i]? = some x) : Rel K W (o :: σ) H B (s :: e.set i .un) := by
  have r1 := r.drop (i + 1) x
  have e1 : (o :: σ.set i none).set (i + 1) x = o :: σ := by
    show o :: (σ.set i none).set i x = o :: σ
    rw [set_set', set_same h]
  have e2 : (s :: e.set i .un).set (i + 1) .un = s :: e.set i .un := by
    show s :: (e.set i .un).set i .un = s :: e.set i .un
    rw [set_set']
  rw [e1, e2] at r1
  exact r1
theorem sx_var {i : Nat} : SX K T (tVar i) (xVar i) := fun W hT σ H B e s e' Q hf r q => by
  unfold xVar at hf
  cases h : e[i]? with
  | none => rw [h] at hf; cases hf
  | some s =>
    rw [h] at hf
    cases s with
    | un => cases hf
    | bw _ => cases hf
    | ob _ => cases hf
    | dc _ => cases hf
    | dr _ => cases hf
    | dd _ => cases hf
    | di _ => cases hf
    | db _ => cases hf
    | st _ _ => cases hf
    | sb _ _ => cases hf
    | sh d' =>
      cases hf
      obtain ⟨v, h1, h2⟩ := r.get h
      exact ⟨v, h1, q v H B (Same.refl B) (r.cons h2)⟩
    | ow ds =>
      cases hf
      obtain ⟨p, h1, r1⟩ := r.lift h
      exact ⟨_, h1, q _ H B (Same.refl B) (r1.weak h1)⟩
/-! ### from one kind to another -/
def eX (f : M Sl) : M PyData := fun e => bnd (f e) fun s e1 => match s with
  | .sh d => some (d, e1)
  | .ow ds => some (.list ds, e1)
  | .dc kvs => some (.dict kvs, e1)
  | _ => none
theorem se_x {t : TE} {f : M Sl} (h : SX K T t f) : SE K T t (eX f) := fun W hT σ H B e d e' Q hf r q => by
  obtain ⟨s, e1, h1, h2⟩ := bnd_some hf
  cases s with
  | un => cases h2
  | bw _ => cases h2
  | ob _ => cases h2
  | dc kvs =>
    cases h2
    refine h W hT σ H B e _ _ Q h1 r fun v H' B' sb r' => ?_
    obtain ⟨B2, h3, r2, h4⟩ := r'.meltK
    exact q v H' B2 (sb.trans h3) r2 h4
  | dr _ => cases h2
  | dd _ => cases h2
  | di _ => cases h2
  | db _ => cases h2
  | st _ _ => cases h2
  | sb _ _ => cases h2
  | sh d =>
    cases h2
    exact h W hT σ H B e _ _ Q h1 r fun v H' B' sb r' => q v H' B' sb r'.tail r'.head
  | ow ds =>
    cases h2
    refine h W hT σ H B e _ _ Q h1 r fun v H' B' sb r' => ?_
    obtain ⟨B2, h3, r2, h4⟩ := r'.melt
    exact q v H' B2 (sb.trans h3) r2 h4
def xE (f : M PyData) : M Sl := fun e => bnd (f e) fun d e1 => some (.sh d, e1)
theorem sx_e {t : TE} {f : M PyData} (h : SE K T t f) : SX K T t (xE f) := fun W hT σ H B e s e' Q hf r q => by
  obtain ⟨d, e1, h1, h2⟩ := bnd_some hf
  cases h2
  exact h W hT σ H B e d _ Q h1 r fun v H' B' sb r' hd => q v H' B' sb (r'.cons hd)
def isSc : PyData → Bool
  | .none => true
  | .bool _ => true
  | .int _ => true
  | .str _ => true
  | _ => false
theorem dp_sc {H H' : Hp} {v : V} {d : PyData} (h : Dp K H v d) (s : isSc d = true) : Dp K H' v d := by
  cases h with
  | non => exact .non
  | bl b => exact .bl b
  | int i => exact .int i
  | str x => exact .str x
  | lst _ _ => cases s
  | tup _ _ => cases s
  | dct _ _ _ => cases s
def frz1 : Sl → Sl
  | .ow ds => .sh (.list ds)
  | .bw ds => .sh (.list ds)
  | .dc kvs => .sh (.dict kvs)
  | .dd _ => .un
  | .di _ => .un
  | .db kvs => .sh (.dict kvs)
  | .st _ _ => .un
  | .sb _ _ => .un
  | s => s
def froz (e : Ev) : Ev := e.map frz1
theorem Sls.all {K : PySem.W.Frag} {bp : Option Addr} {H B : Hp} (bh : Same B H) : ∀ {σ : L2.St} {e : Ev} {as : List Addr}, Sls K bp H B σ e as → Sls K none H H σ (froz e) []
  | _, _, _, .nil => .nil
  | _, _, _, .cons h t => by
    have t' := Sls.all bh t
    refine .cons (as := []) ?_ t'
    cases h with
    | un => exact .un
    | sh d => exact .sh (dp_mono bh d)
    | ow a d => exact .sh (.lst (SqL.of a) (dpAll_mono bh d))
    | bw _ a d => exact .sh (.lst (SqL.of a) (dpAll_mono bh d))
    | ob a b => exact .ob (bh _ _ a) b
    | dc a b c => exact .sh (.dct a c (b.mono bh))
    | dr a b c => exact .dr (a.mono bh) (b.mono bh) c
    | dd _ _ => exact .un
    | di _ _ => exact .un
    | db _ a b c => exact .sh (.dct a c (b.mono bh))
    | st _ => exact .un
    | sb _ _ => exact .un
theorem Rel.all {W : Wd} {σ : L2.St} {H B : Hp} {e : Ev} (r : Rel K W σ H B e) : Rel K ⟨H, H, none, []⟩ σ H H (froz e) := by
  obtain ⟨A, r⟩ := r
  exact ⟨[], r.sls.all r.bh, List.nodup_nil, fun p hp => (by cases hp), Same.refl H, Same.refl H, fun b h1 h2 => absurd h2 h1, fun x hx => by cases hx⟩
theorem Rel.on {W : Wd} {σ σ' : L2.St} {H B H' B' B1 : Hp} {e e' : Ev} (r : Rel K W σ H B e) (r' : Rel K ⟨H, B1, none, []⟩ σ' H' B' e') : Rel K W σ H' B e := by
  obtain ⟨A', r'⟩ := r'
  exact r.ext ⟨r'.fr, Same.refl B, r.bh.trans r'.fr, fun _ _ h => h⟩
/-- what tells a number, a truth, a text, None, leaves the own lists as they are -/
def eScal (f : M PyData) : M PyData := fun e => bnd (f (froz e)) fun d _ => if isSc d = true then some (d, e) else none
theorem se_scal {t : TE} {f : M PyData} (h : SE K [] t f) : SE K T t (eScal f) := fun W hT σ H B e d e' Q hf r q => by
  obtain ⟨d1, e1, h1, h2⟩ := bnd_some hf
  by_cases c : isSc d1 = true
  · rw [if_pos c] at h2
    cases h2
    exact h _ rfl σ H H _ d e1 Q h1 r.all fun v H' B' sb r' hd => q v H' B (Same.refl B) (r.on r') (dp_sc hd c)
  · rw [if_neg c] at h2
    cases h2
def bScal (f : M Bool) : M Bool := fun e => bnd (f (froz e)) fun b _ => some (b, e)
theorem st_scal {t : TT} {f : M Bool} (h : ST K [] t f) : ST K T t (bScal f) := fun W hT σ H B e b e' Q hf r q => by
  obtain ⟨b1, e1, h1, h2⟩ := bnd_some hf
  cases h2
  exact h _ rfl σ H H _ b e1 Q h1 r.all fun H' B' sb r' => q H' B (Same.refl B) (r.on r')
/-! ### operators -/
def eOp (g : PyData → PyData → Option PyData) (fa fb : M PyData) : M PyData := fun e => bnd (fa e) fun a e1 => bnd (fb e1) fun b e2 => put (g a b) e2
theorem se_op {r : R2} {g : PyData → PyData → Option PyData} {ta tb : TE} {fa fb : M PyData} (hr : SR2 K r g) (ha : SE K T ta fa) (hb : SE K T tb fb) : SE K T (tOp r ta tb) (eOp g fa fb) := fun W hT σ H B e d e' Q hf rl q => by
  obtain ⟨a, e1, h1, hf⟩ := bnd_some hf
  obtain ⟨b, e2, h2, hf⟩ := bnd_some hf
  obtain ⟨h3, rfl⟩ := put_some hf
  refine ha W hT σ H B e a e1 _ h1 rl fun x H1 B1 s1 r1 dx => ?_
  refine hb W hT σ H1 B1 e1 b e' _ h2 r1 fun y H2 B2 s2 r2 dy => ?_
  exact hr H2 B2 x y a b d Q r2.bh (dp_mono s2 dx) dy h3 fun v H' B' x dv => q v H' B' ((s1.trans s2).trans x.b) (r2.ext x) dv
def xOp (g : PyData → PyData → Option (List PyData)) (fa fb : M PyData) : M Sl := fun e => bnd (fa e) fun a e1 => bnd (fb e1) fun b e2 => (put (g a b) e2).map fun p => (.ow p.1, p.2)
theorem sx_op {r : R2} {g : PyData → PyData → Option (List PyData)} {ta tb : TE} {fa fb : M PyData} (hr : SRx2 K r g) (ha : SE K T ta fa) (hb : SE K T tb fb) : SX K T (tOp r ta tb) (xOp g fa fb) := fun W hT σ H B e s e' Q hf rl q => by
  obtain ⟨a, e1, h1, hf⟩ := bnd_some hf
  obtain ⟨b, e2, h2, hf⟩ := bnd_some hf
  obtain ⟨⟨ds, e3⟩, hp3, hz⟩ := Option.map_eq_some_iff.mp hf
  obtain ⟨h3, rfl⟩ := put_some hp3
  cases hz
  refine ha W hT σ H B e a e1 _ h1 rl fun x H1 B1 s1 r1 dx => ?_
  refine hb W hT σ H1 B1 e1 b _ _ h2 r1 fun y H2 B2 s2 r2 dy => ?_
  exact hr H2 B2 x y a b ds Q r2.bh (dp_mono s2 dx) dy h3 fun p ys H' B' x hp dv => q _ _ B' ((s1.trans s2).trans x.b) ((r2.ext x).born hp dv)
def eUn (g : PyData → Option PyData) (fa : M PyData) : M PyData := fun e => bnd (fa e) fun a e1 => put (g a) e1
theorem se_un {r : V → Hp → VK → Prop} {g : PyData → Option PyData} {ta : TE} {fa : M PyData} (hr : SR1 K r g) (ha : SE K T ta fa) : SE K T (tUn r ta) (eUn g fa) := fun W hT σ H B e d e' Q hf rl q => by
  obtain ⟨a, e1, h1, hf⟩ := bnd_some hf
  obtain ⟨h3, rfl⟩ := put_some hf
  refine ha W hT σ H B e a e' _ h1 rl fun x H1 B1 s1 r1 dx => ?_
  exact hr H1 B1 x a d Q r1.bh dx h3 fun v H' B' x dv => q v H' B' (s1.trans x.b) (r1.ext x) dv
/-! ### arguments, displays -/
def aNil : M (List PyData) := fun e => some ([], e)
def aCons (fa : M PyData) (fr : M (List PyData)) : M (List PyData) := fun e => bnd (fa e) fun a e1 => bnd (fr e1) fun as e2 => some (a :: as, e2)
theorem sa_nil : SA K T tNil aNil := fun W hT σ H B e ds e' Q hf r q => by
  cases hf
  exact q [] H B (Same.refl B) r .nil
theorem sa_cons {ta : TE} {tr : TA} {fa : M PyData} {fr : M (List PyData)} (ha : SE K T ta fa) (hr : SA K T tr fr) : SA K T (tCons ta tr) (aCons fa fr) := fun W hT σ H B e ds e' Q hf rl q => by
  obtain ⟨a, e1, h1, hf⟩ := bnd_some hf
  obtain ⟨as, e2, h2, hf⟩ := bnd_some hf
  cases hf
  refine ha W hT σ H B e a e1 _ h1 rl fun x H1 B1 s1 r1 dx => ?_
  exact hr W hT σ H1 B1 e1 as _ _ h2 r1 fun xs H2 B2 s2 r2 dxs => q (x :: xs) H2 B2 (s1.trans s2) r2 (.cons (dp_mono s2 dx) dxs)
def sz (n : Nat) : Bool := Nat.ble n 10000000
theorem sz_le {n : Nat} (h : sz n = true) : n ≤ sizeLine := Nat.le_trans (Nat.le_of_ble_eq_true h) (by rw [sizeLine_eq]; decide)
theorem sz_lt {n : Nat} (h : sz n = true) : n < sizeLine := Nat.lt_of_le_of_lt (Nat.le_of_ble_eq_true h) (by rw [sizeLine_eq]; decide)
def eTup (fa : M (List PyData)) : M PyData := fun e => bnd (fa e) fun as e1 => if sz as.length = true then some (.tuple as, e1) else none
theorem se_tup {t : TA} {fa : M (List PyData)} (ha : SA K T t fa) : SE K T (tTup t) (eTup fa) := fun W hT σ H B e d e' Q hf rl q => by
  obtain ⟨as, e1, h1, hf⟩ := bnd_some hf
  by_cases c : sz as.length = true
  · rw [if_pos c] at hf
    cases hf
    refine ha W hT σ H B e as e' _ h1 rl fun xs H1 B1 s1 r1 dx => ?_
    refine ⟨by rw [dpAll_len dx]; exact sz_le c, fun p hp => ?_⟩
    have x := Ext.new (o := .tup xs) r1.bh hp
    exact q _ _ _ (s1.trans x.b) (r1.ext x) (.tup (SqT.of upd_same) (dpAll_mono x.b dx))
  · rw [if_neg c] at hf
    cases hf
def xLst (fa : M (List PyData)) : M Sl := fun e => bnd (fa e) fun as e1 => if sz as.length = true then some (.ow as, e1) else none
theorem sx_lst {t : TA} {fa : M (List PyData)} (ha : SA K T t fa) : SX K T (tLst t) (xLst fa) := fun W hT σ H B e s e' Q hf rl q => by
  obtain ⟨as, e1, h1, hf⟩ := bnd_some hf
  by_cases c : sz as.length = true
  · rw [if_pos c] at hf
    cases hf
    refine ha W hT σ H B e as e' _ h1 rl fun xs H1 B1 s1 r1 dx => ?_
    refine ⟨by rw [dpAll_len dx]; exact sz_le c, fun p hp => ?_⟩
    exact q _ _ B1 s1 (r1.born hp dx)
  · rw [if_neg c] at hf
    cases hf
/-! ### built-in calls by values -/
def eCall (g : List PyData → Option PyData) (fa : M (List PyData)) : M PyData := fun e => bnd (fa e) fun as e1 => put (g as) e1
theorem se_call {r : List V → Hp → VK → Prop} {g : List PyData → Option PyData} {t : TA} {fa : M (List PyData)} (hr : SRn K r g) (ha : SA K T t fa) : SE K T (fun σ H Q => t σ H fun xs H1 => r xs H1 Q) (eCall g fa) := fun W hT σ H B e d e' Q hf rl q => by
  obtain ⟨as, e1, h1, hf⟩ := bnd_some hf
  obtain ⟨h3, rfl⟩ := put_some hf
  refine ha W hT σ H B e as e' _ h1 rl fun xs H1 B1 s1 r1 dx => ?_
  exact hr H1 B1 xs as d Q r1.bh dx h3 fun v H' B' x dv => q v H' B' (s1.trans x.b) (r1.ext x) dv
def xCall (g : List PyData → Option (List PyData)) (fa : M (List PyData)) : M Sl := fun e => bnd (fa e) fun as e1 => (put (g as) e1).map fun p => (.ow p.1, p.2)
theorem sx_call {r : List V → Hp → VK → Prop} {g : List PyData → Option (List PyData)} {t : TA} {fa : M (List PyData)} (hr : SRx K r g) (ha : SA K T t fa) : SX K T (fun σ H Q => t σ H fun xs H1 => r xs H1 Q) (xCall g fa) := fun W hT σ H B e s e' Q hf rl q => by
  obtain ⟨as, e1, h1, hf⟩ := bnd_some hf
  obtain ⟨⟨ds, e2⟩, hp3, hz⟩ := Option.map_eq_some_iff.mp hf
  obtain ⟨h3, rfl⟩ := put_some hp3
  cases hz
  refine ha W hT σ H B e as _ _ h1 rl fun xs H1 B1 s1 r1 dx => ?_
  exact hr H1 B1 xs as ds Q r1.bh dx h3 fun p ys H' B' x hp dv => q _ _ B' (s1.trans x.b) ((r1.ext x).born hp dv)
/-! ### tests -/
def bB (f : M PyData) : M Bool := fun e => bnd (f e) fun d e1 => match d with
  | .bool b => some (b, e1)
  | _ => none
theorem st_b {t : TE} {f : M PyData} (h : SE K T t f) : ST K T (tB t) (bB f) := fun W hT σ H B e b e' Q hf r q => by
  obtain ⟨d, e1, h1, hf⟩ := bnd_some hf
  cases d with
  | bool c =>
    cases hf
    exact h W hT σ H B e _ e' _ h1 r fun v H' B' s r' dv => ⟨b, dp_bl dv, q H' B' s r'⟩
  | none => cases hf
  | int _ => cases hf
  | str _ => cases hf
  | list _ => cases hf
  | tuple _ => cases hf
  | dict _ => cases hf
theorem st_t {t : TE} {f : M PyData} (h : SE K T t f) : ST K T (tTest t) (bB f) := st_b h
def pTru : PyData → Option Bool
  | .none => some false
  | .bool b => some b
  | .int i => some (i != 0)
  | .list ds => some (!ds.isEmpty)
  | .tuple ds => some (!ds.isEmpty)
  | _ => none
def bTru (f : M PyData) : M Bool := fun e => bnd (f e) fun d e1 => put (pTru d) e1
def bNot (f : M Bool) : M Bool := fun e => bnd (f e) fun b e1 => some (!b, e1)
theorem st_not {t : TT} {f : M Bool} (h : ST K T t f) : ST K T (tNot t) (bNot f) := fun W hT σ H B e b e' Q hf r q => by
  obtain ⟨b1, e1, h1, hf⟩ := bnd_some hf
  cases hf
  exact h W hT σ H B e b1 e' _ h1 r fun H' B' s r' => q H' B' s r'
def bAnd (f g : M Bool) : M Bool := fun e => bnd (f e) fun b e1 => if b = true then g e1 else some (false, e1)
def bOr (f g : M Bool) : M Bool := fun e => bnd (f e) fun b e1 => if b = true then some (true, e1) else g e1
theorem st_and {t u : TT} {f g : M Bool} (h : ST K T t f) (h2 : ST K T u g) : ST K T (tAnd t u) (bAnd f g) := fun W hT σ H B e b e' Q hf r q => by
  obtain ⟨b1, e1, h1, hf⟩ := bnd_some hf
  refine h W hT σ H B e b1 e1 _ h1 r fun H' B' s r' => ?_
  cases b1 with
  | true => exact h2 W hT σ H' B' e1 b e' Q hf r' fun H2 B2 s2 r2 => q H2 B2 (s.trans s2) r2
  | false =>
    cases hf
    exact q H' B' s r'
theorem st_or {t u : TT} {f g : M Bool} (h : ST K T t f) (h2 : ST K T u g) : ST K T (tOr t u) (bOr f g) := fun W hT σ H B e b e' Q hf r q => by
  obtain ⟨b1, e1, h1, hf⟩ := bnd_some hf
  refine h W hT σ H B e b1 e1 _ h1 r fun H' B' s r' => ?_
  cases b1 with
  | false => exact h2 W hT σ H' B' e1 b e' Q hf r' fun H2 B2 s2 r2 => q H2 B2 (s.trans s2) r2
  | true =>
    cases hf
    exact q H' B' s r'
def bYes : M Bool := fun e => some (true, e)
theorem st_yes : ST K T tYes bYes := fun W hT σ H B e b e' Q hf r q => by
  cases hf
  exact q H B (Same.refl B) r
def eIf (c : M Bool) (fa fb : M PyData) : M PyData := fun e => bnd (c e) fun b e1 => if b = true then fa e1 else fb e1
theorem se_if {t : TT} {ta tb : TE} {c : M Bool} {fa fb : M PyData} (hc : ST K T t c) (ha : SE K T ta fa) (hb : SE K T tb fb) : SE K T (tIf t ta tb) (eIf c fa fb) := fun W hT σ H B e d e' Q hf r q => by
  obtain ⟨b1, e1, h1, hf⟩ := bnd_some hf
  refine hc W hT σ H B e b1 e1 _ h1 r fun H' B' s r' => ?_
  cases b1 with
  | true => exact ha W hT σ H' B' e1 d e' Q hf r' fun v H2 B2 s2 r2 => q v H2 B2 (s.trans s2) r2
  | false => exact hb W hT σ H' B' e1 d e' Q hf r' fun v H2 B2 s2 r2 => q v H2 B2 (s.trans s2) r2
def eAnd (fa fb : M PyData) : M PyData := fun e => bnd (bB fa e) fun b e1 => if b = true then fb e1 else some (.bool false, e1)
def eOr (fa fb : M PyData) : M PyData := fun e => bnd (bB fa e) fun b e1 => if b = true then some (.bool true, e1) else fb e1
theorem se_and {ta tb : TE} {fa fb : M PyData} (ha : SE K T ta fa) (hb : SE K T tb fb) : SE K T (tAndV ta tb) (eAnd fa fb) := fun W hT σ H B e d e' Q hf r q => by
  obtain ⟨b1, e1, h1, hf⟩ := bnd_some hf
  refine st_b ha W hT σ H B e b1 e1 (fun c H1 => if c = true then tb σ H1 Q else Q (.bl false) H1) h1 r fun H' B' s r' => ?_
  cases b1 with
  | true => exact hb W hT σ H' B' e1 d e' Q hf r' fun v H2 B2 s2 r2 => q v H2 B2 (s.trans s2) r2
  | false =>
    cases hf
    exact q _ H' B' s r' (.bl false)
theorem se_or {ta tb : TE} {fa fb : M PyData} (ha : SE K T ta fa) (hb : SE K T tb fb) : SE K T (tOrV ta tb) (eOr fa fb) := fun W hT σ H B e d e' Q hf r q => by
  obtain ⟨b1, e1, h1, hf⟩ := bnd_some hf
  refine st_b ha W hT σ H B e b1 e1 (fun c H1 => if c = true then Q (.bl true) H1 else tb σ H1 Q) h1 r fun H' B' s r' => ?_
  cases b1 with
  | false => exact hb W hT σ H' B' e1 d e' Q hf r' fun v H2 B2 s2 r2 => q v H2 B2 (s.trans s2) r2
  | true =>
    cases hf
    exact q _ H' B' s r' (.bl true)
def eNot (fa : M PyData) : M PyData := fun e => bnd (bB fa e) fun b e1 => some (.bool (!b), e1)
theorem se_not {ta : TE} {fa : M PyData} (ha : SE K T ta fa) : SE K T (tNotV ta) (eNot fa) := fun W hT σ H B e d e' Q hf r q => by
  obtain ⟨b1, e1, h1, hf⟩ := bnd_some hf
  cases hf
  exact st_b ha W hT σ H B e b1 e' (fun c H1 => Q (.bl (!c)) H1) h1 r fun H' B' s r' => q _ H' B' s r' (.bl _)
/-- a op b op' c -/
def eChain (g g' : PyData → PyData → Option PyData) (fa fb fc : M PyData) : M PyData := fun e => bnd (fa e) fun a e1 => bnd (fb e1) fun b e2 => match g a b with
  | some (.bool true) => bnd (fc e2) fun c e3 => put (g' b c) e3
  | some (.bool false) => some (.bool false, e2)
  | _ => none
theorem se_chain {r r' : R2} {g g' : PyData → PyData → Option PyData} {ta tb tc : TE} {fa fb fc : M PyData} (hr : SR2 K r g) (hr' : SR2 K r' g') (ha : SE K T ta fa) (hb : SE K T tb fb) (hc : SE K T tc fc) : SE K T (tChain r r' ta tb tc) (eChain g g' fa fb fc) := fun W hT σ H B e d e' Q hf rl q => by
  obtain ⟨a, e1, h1, hf⟩ := bnd_some hf
  obtain ⟨b, e2, h2, hf⟩ := bnd_some hf
  refine ha W hT σ H B e a e1 _ h1 rl fun x H1 B1 s1 r1 dx => ?_
  refine hb W hT σ H1 B1 e1 b e2 _ h2 r1 fun y H2 B2 s2 r2 dy => ?_
  have s12 := s1.trans s2
  cases h3 : g a b with
  | none => rw [h3] at hf; cases hf
  | some z =>
    rw [h3] at hf
    refine hr H2 B2 x y a b z _ r2.bh (dp_mono s2 dx) dy h3 fun v H3 B3 x3 dv => ?_
    have r3 := r2.ext x3
    have s123 := s12.trans x3.b
    cases z with
    | bool k =>
      refine ⟨k, dp_bl dv, ?_⟩
      cases k with
      | true =>
        obtain ⟨c, e3, h4, hf⟩ := bnd_some hf
        obtain ⟨h5, rfl⟩ := put_some hf
        rw [if_pos rfl]
        refine hc W hT σ H3 B3 e2 c e' _ h4 r3 fun w H4 B4 s4 r4 dw => ?_
        exact hr' H4 B4 y w b c d Q r4.bh (dp_mono (x3.b.trans s4) dy) dw h5 fun v H' B' x dv => q v H' B' ((s123.trans s4).trans x.b) (r4.ext x) dv
      | false =>
        cases hf
        rw [if_neg (by decide)]
        exact q _ H3 B3 s123 r3 (.bl false)
    | none => cases hf
    | int _ => cases hf
    | str _ => cases hf
    | list _ => cases hf
    | tuple _ => cases hf
    | dict _ => cases hf
end VL
end
section
set_option Elab.async false
set_option linter.all false
set_option maxRecDepth 100000
set_option maxHeartbeats 2000000
namespace VL
open PySem PySem.Spec PyProof.Rows L2
variable {K : PySem.W.Frag} {T : List (Addr × Str)}
/-! ### statements -/
def sNil : Ev → Option Out := fun e => some (.nx e)
theorem ss_nil : SS K T tNext sNil := fun W hT D σ H B e o hf r qn qr => by
  cases hf
  exact qn e σ H B rfl (Same.refl B) r
def sSeq (f g : Ev → Option Out) : Ev → Option Out := fun e => match f e with
  | none => none
  | some (.nx e1) => g e1
  | some (.rt s e1) => some (.rt s e1)
theorem ss_seq {t u : TS} {f g : Ev → Option Out} (h : SS K T t f) (h2 : SS K T u g) : SS K T (tSeq t u) (sSeq f g) := fun W hT D σ H B e o hf r qn qr => by
  unfold sSeq at hf
  cases h1 : f e with
  | none => rw [h1] at hf; cases hf
  | some o1 =>
    rw [h1] at hf
    refine h W hT _ σ H B e o1 h1 r (fun e' σ' H' B' he sb r' => ?_) (fun s e' v σ' H' B' he sb r' => ?_)
    · subst he
      exact h2 W hT D σ' H' B' e' o hf r' (fun e2 σ2 H2 B2 q1 q2 q3 => qn e2 σ2 H2 B2 q1 (sb.trans q2) q3) (fun s e2 v σ2 H2 B2 q1 q2 q3 => qr s e2 v σ2 H2 B2 q1 (sb.trans q2) q3)
    · subst he
      cases hf
      exact qr s e' v σ' H' B' rfl sb r'
def sExpr (f : M PyData) : Ev → Option Out := fun e => bnd (f e) fun _ e1 => some (.nx e1)
theorem ss_expr {t : TE} {f : M PyData} (h : SE K T t f) : SS K T (tDrop t) (sExpr f) := fun W hT D σ H B e o hf r qn qr => by
  obtain ⟨d, e1, h1, h2⟩ := bnd_some hf
  cases h2
  exact h W hT σ H B e d e1 _ h1 r fun v H' B' sb r' _ => qn e1 σ H' B' rfl sb r'
def sRet (f : M PyData) : Ev → Option Out := fun e => bnd (f e) fun d e1 => some (.rt (.sh d) e1)
theorem ss_ret {t : TE} {f : M PyData} (h : SE K T t f) : SS K T (tRet t) (sRet f) := fun W hT D σ H B e o hf r qn qr => by
  obtain ⟨d, e1, h1, h2⟩ := bnd_some hf
  cases h2
  exact h W hT σ H B e d e1 _ h1 r fun v H' B' sb r' hd => qr _ e1 v σ H' B' rfl sb (r'.cons hd)
def sRetX (f : M Sl) : Ev → Option Out := fun e => bnd (f e) fun s e1 => some (.rt s e1)
theorem ss_retX {t : TE} {f : M Sl} (h : SX K T t f) : SS K T (tRet t) (sRetX f) := fun W hT D σ H B e o hf r qn qr => by
  obtain ⟨d, e1, h1, h2⟩ := bnd_some hf
  cases h2
  exact h W hT σ H B e d e1 _ h1 r fun v H' B' sb r' => qr _ e1 v σ H' B' rfl sb r'
def sIf (c : M Bool) (f g : Ev → Option Out) : Ev → Option Out := fun e => bnd (c e) fun b e1 => if b = true then f e1 else g e1
theorem ss_if {t : TT} {u w : TS} {c : M Bool} {f g : Ev → Option Out} (hc : ST K T t c) (h : SS K T u f) (h2 : SS K T w g) : SS K T (tIfS t u w) (sIf c f g) := fun W hT D σ H B e o hf r qn qr => by
  obtain ⟨b, e1, h1, hf⟩ := bnd_some hf
  refine hc W hT σ H B e b e1 _ h1 r fun H' B' sb r' => ?_
  cases b with
  | true => exact h W hT D σ H' B' e1 o hf r' (fun e2 σ2 H2 B2 q1 q2 q3 => qn e2 σ2 H2 B2 q1 (sb.trans q2) q3) (fun s e2 v σ2 H2 B2 q1 q2 q3 => qr s e2 v σ2 H2 B2 q1 (sb.trans q2) q3)
  | false => exact h2 W hT D σ H' B' e1 o hf r' (fun e2 σ2 H2 B2 q1 q2 q3 => qn e2 σ2 H2 B2 q1 (sb.trans q2) q3) (fun s e2 v σ2 H2 B2 q1 q2 q3 => qr s e2 v σ2 H2 B2 q1 (sb.trans q2) q3)
def sNever : Ev → Option Out := fun _ => none
theorem ss_never : SS K T tNever sNever := fun W hT D σ H B e o hf => by cases hf
/-! ### targets -/
def gN (i : Nat) : PyData → Ev → Option Ev := fun d e => some (e.set i (.sh d))
theorem sg_name {i : Nat} : SG K T (gName i) (gN i) := fun W hT σ H B e v d e' Q hf r hd q => by
  cases hf
  exact q _ (r.put i hd)
def gsNil : List PyData → Ev → Option Ev := fun ds e => match ds with
  | [] => some e
  | _ => none
def gsCons (f : PyData → Ev → Option Ev) (g : List PyData → Ev → Option Ev) : List PyData → Ev → Option Ev := fun ds e => match ds with
  | [] => none
  | d :: ds => match f d e with
    | none => none
    | some e1 => g ds e1
theorem sgs_nil : SGs K T gNil gsNil := fun W hT σ H B e vs ds e' Q hf r hd q => by
  cases hd with
  | nil =>
    cases hf
    exact ⟨rfl, q _ r⟩
  | cons _ _ => cases hf
theorem sgs_cons {g : TG} {gs : TGs} {f : PyData → Ev → Option Ev} {fs : List PyData → Ev → Option Ev} (h : SG K T g f) (hs : SGs K T gs fs) : SGs K T (gCons g gs) (gsCons f fs) := fun W hT σ H B e vs ds e' Q hf r hd q => by
  cases hd with
  | nil => cases hf
  | @cons v vs d ds h1 h2 =>
    have hf : (match f d e with | none => none | some e1 => fs ds e1) = some e' := hf
    cases he : f d e with
    | none => rw [he] at hf; cases hf
    | some e1 =>
      rw [he] at hf
      exact ⟨v, vs, rfl, h W hT σ H B e v d e1 _ he r h1 fun σ' r' => hs W hT σ' H B e1 vs ds e' Q hf r' h2 q⟩
def gT (n : Nat) (f : List PyData → Ev → Option Ev) : PyData → Ev → Option Ev := fun d e => match d with
  | .tuple ds => if ds.length = n then f ds e else none
  | _ => none
theorem sg_tup {n : Nat} {gs : TGs} {f : List PyData → Ev → Option Ev} (h : SGs K T gs f) : SG K T (gTup K n gs) (gT n f) := fun W hT σ H B e v d e' Q hf r hd q => by
  cases hd with
  | @tup a xs ds hs ha =>
    have hf : (if ds.length = n then f ds e else none) = some e' := hf
    by_cases c : ds.length = n
    · rw [if_pos c] at hf
      exact ⟨a, xs, rfl, seqT r.bh hs, by rw [dpAll_len ha]; exact c, h W hT σ H B e xs ds e' Q hf r ha q⟩
    · rw [if_neg c] at hf
      cases hf
  | non => cases hf
  | bl _ => cases hf
  | int _ => cases hf
  | str _ => cases hf
  | dct _ _ _ => cases hf
  | lst _ _ => cases hf
def sAsg (f : M PyData) (g : PyData → Ev → Option Ev) : Ev → Option Out := fun e => bnd (f e) fun d e1 => match g d e1 with
  | none => none
  | some e2 => some (.nx e2)
theorem ss_asg {t : TE} {g : TG} {f : M PyData} {fg : PyData → Ev → Option Ev} (h : SE K T t f) (hg : SG K T g fg) : SS K T (tAsg t g) (sAsg f fg) := fun W hT D σ H B e o hf r qn qr => by
  obtain ⟨d, e1, h1, h2⟩ := bnd_some hf
  refine h W hT σ H B e d e1 _ h1 r fun v H' B' sb r' hd => ?_
  cases h3 : fg d e1 with
  | none => rw [h3] at h2; cases h2
  | some e2 =>
    rw [h3] at h2
    cases h2
    exact hg W hT σ H' B' e1 v d e2 _ h3 r' hd fun σ2 r2 => qn e2 σ2 H' B' rfl sb r2
def sSet (i : Nat) (f : M Sl) : Ev → Option Out := fun e => bnd (f e) fun s e1 => some (.nx (e1.set i s))
theorem ss_set {t : TE} {i : Nat} {f : M Sl} (h : SX K T t f) : SS K T (tAsg t (gName i)) (sSet i f) := fun W hT D σ H B e o hf r qn qr => by
  obtain ⟨s, e1, h1, h2⟩ := bnd_some hf
  cases h2
  exact h W hT σ H B e s e1 _ h1 r fun v H' B' sb r' => qn _ _ H' B' rfl sb (r'.take i)
/-! ### loops -/
def loop (fg : PyData → Ev → Option Ev) (fb : Ev → Option Out) : List PyData → Ev → Option Out
  | [], e => some (.nx e)
  | d :: ds, e => match fg d e with
    | none => none
    | some e1 => match fb e1 with
      | none => none
      | some (.nx e2) => loop fg fb ds e2
      | some (.rt s e2) => some (.rt s e2)
def sFor (fi : M (List PyData)) (fg : PyData → Ev → Option Ev) (fb : Ev → Option Out) : Ev → Option Out := fun e => bnd (fi e) fun ds e1 => loop fg fb ds e1
theorem drop_get {α : Type} {l : List α} {i : Nat} {a : α} (h : l[i]? = some a) : l.drop i = a :: l.drop (i + 1) := by
  obtain ⟨hi, e⟩ := List.getElem?_eq_some_iff.mp h
  rw [List.drop_eq_getElem_cons hi, e]
theorem ss_for {wi : TI} {g : TG} {tb : TS} {fi : M (List PyData)} {fg : PyData → Ev → Option Ev} {fb : Ev → Option Out} (hi : SI K T wi fi) (hg : SG K T g fg) (hb : SS K T tb fb) : SS K T (tFor wi g tb) (sFor fi fg fb) := fun W hT D σ H B e o hf r qn qr => by
  obtain ⟨ds, e1, h1, h2⟩ := bnd_some hf
  refine hi W hT σ H B e ds e1 _ h1 r fun J H1 B1 s1 r1 ok => ?_
  refine ⟨fun i m σ H => i ≤ ds.length ∧ m = ds.length - i ∧ ∃ B2 e2, Same B1 B2 ∧ Rel K W σ H B2 e2 ∧ loop fg fb (ds.drop i) e2 = some o, ⟨_, Nat.zero_le _, rfl, B1, e1, Same.refl B1, r1, h2⟩, ?_⟩
  rintro i m σ2 H2 ⟨hi, rfl, B2, e2, s2, r2, h3⟩
  have ok' := ok i H2 B2 s2 r2.bh
  cases hd : ds[i]? with
  | none =>
    have hl : i = ds.length := by
      have := List.getElem?_eq_none_iff.mp hd
      omega
    subst hl
    refine .inl ⟨ok'.1 hd rfl, ?_⟩
    rw [List.drop_length] at h3
    cases h3
    exact qn e2 σ2 H2 B2 rfl (s1.trans s2) r2
  | some d =>
    obtain ⟨hlt, _⟩ := List.getElem?_eq_some_iff.mp hd
    obtain ⟨go, yl⟩ := ok'.2 d hd
    refine .inr ⟨go, fun σ' H' => ∃ B3 e3, Same B1 B3 ∧ Rel K W σ' H' B3 e3 ∧ loop fg fb (ds.drop (i + 1)) e3 = some o, fun σ' H' ⟨B3, e3, q1, q2, q3⟩ => ⟨ds.length - (i + 1), by omega, hlt, rfl, B3, e3, q1, q2, q3⟩, fun x H3 hy => ?_⟩
    obtain ⟨B3, x3, dx⟩ := yl x H3 hy
    rw [drop_get hd] at h3
    have h3 : (match fg d e2 with | none => none | some e1 => match fb e1 with | none => none | some (.nx e2) => loop fg fb (ds.drop (i + 1)) e2 | some (.rt s e2) => some (.rt s e2)) = some o := h3
    cases h4 : fg d e2 with
    | none => rw [h4] at h3; cases h3
    | some e4 =>
      rw [h4] at h3
      refine hg W hT σ2 H3 B3 e2 x d e4 _ h4 (r2.ext x3) dx fun σ4 r4 => ?_
      cases h5 : fb e4 with
      | none => simp only [h5] at h3; cases h3
      | some o5 =>
        refine hb W hT _ σ4 H3 B3 e4 o5 h5 r4 (fun e5 σ5 H5 B5 he s5 r5 => ?_) (fun s e5 v σ5 H5 B5 he s5 r5 => ?_)
        · subst he
          simp only [h5] at h3
          exact ⟨B5, e5, (s2.trans x3.b).trans s5, r5, h3⟩
        · subst he
          simp only [h5] at h3
          cases h3
          exact qr s e5 v σ5 H5 B5 rfl (((s1.trans s2).trans x3.b).trans s5) r5
def wloop (fc : M Bool) (fb : Ev → Option Out) : Nat → Ev → Option Out
  | 0, e => match fc e with
    | some (false, e1) => some (.nx e1)
    | _ => none
  | n + 1, e => match fc e with
    | none => none
    | some (false, e1) => some (.nx e1)
    | some (true, e1) => match fb e1 with
      | none => none
      | some (.nx e2) => wloop fc fb n e2
      | some (.rt s e2) => some (.rt s e2)
theorem ss_while {t : TT} {tb : TS} {fc : M Bool} {fb : Ev → Option Out} (n : Nat) (hc : ST K T t fc) (hb : SS K T tb fb) : SS K T (tWhile t tb) (wloop fc fb n) := fun W hT D σ H B e o hf r qn qr => by
  refine ⟨fun m σ H => ∃ B2 e2, Same B B2 ∧ Rel K W σ H B2 e2 ∧ wloop fc fb m e2 = some o, ⟨n, B, e, Same.refl B, r, hf⟩, ?_⟩
  rintro m σ2 H2 ⟨B2, e2, s2, r2, h2⟩
  cases h3 : fc e2 with
  | none => cases m <;> (unfold wloop at h2; rw [h3] at h2; cases h2)
  | some p =>
    obtain ⟨b, e3⟩ := p
    refine hc W hT σ2 H2 B2 e2 b e3 _ h3 r2 fun H3 B3 s3 r3 => ?_
    cases b with
    | false =>
      rw [if_neg (by decide)]
      have h4 : some (Out.nx e3) = some o := by cases m <;> (unfold wloop at h2; rw [h3] at h2; exact h2)
      cases h4
      exact qn e3 σ2 H3 B3 rfl (s2.trans s3) r3
    | true =>
      rw [if_pos rfl]
      cases m with
      | zero => unfold wloop at h2; rw [h3] at h2; cases h2
      | succ m =>
        unfold wloop at h2
        rw [h3] at h2
        refine ⟨fun σ' H' => ∃ B4 e4, Same B B4 ∧ Rel K W σ' H' B4 e4 ∧ wloop fc fb m e4 = some o, fun σ' H' h => ⟨m, Nat.lt_succ_self m, h⟩, ?_⟩
        cases h5 : fb e3 with
        | none => simp only [h5] at h2; cases h2
        | some o5 =>
          refine hb W hT _ σ2 H3 B3 e3 o5 h5 r3 (fun e5 σ5 H5 B5 he s5 r5 => ?_) (fun s e5 v σ5 H5 B5 he s5 r5 => ?_)
          · subst he
            simp only [h5] at h2
            exact ⟨B5, e5, (s2.trans s3).trans s5, r5, h2⟩
          · subst he
            simp only [h5] at h2
            cases h2
            exact qr s e5 v σ5 H5 B5 rfl ((s2.trans s3).trans s5) r5
/-! ### what is walked -/
theorem ItOk.list {B : Hp} {a : Addr} {xs : List V} {ds : List PyData} (hs : SqL K B a xs) (ha : DpAll K B xs ds) : ItOk K B (Itl K a) ds := fun i H1 B1 sb bh => by
  have hq := (sb.trans bh).seq hs
  refine ⟨fun _ e => ⟨xs, hq, by rw [dpAll_len ha]; exact Nat.le_of_eq e.symm⟩, fun d hd => ?_⟩
  obtain ⟨v, h1, h2⟩ := dpAll_getD ha hd
  refine ⟨⟨xs, v, hq, h1⟩, fun x H2 ⟨e, hy⟩ => ?_⟩
  subst e
  have := hy xs hq
  rw [h1] at this
  cases this
  exact ⟨B1, Ext.refl bh, dp_mono sb h2⟩
theorem ItOk.tup {B : Hp} {a : Addr} {xs : List V} {ds : List PyData} (hs : SqT K B a xs) (ha : DpAll K B xs ds) : ItOk K B (Itt K a) ds := fun i H1 B1 sb bh => by
  have hq := seqT (sb.trans bh) hs
  refine ⟨fun _ e => ⟨xs, hq, by rw [dpAll_len ha]; exact Nat.le_of_eq e.symm⟩, fun d hd => ?_⟩
  obtain ⟨v, h1, h2⟩ := dpAll_getD ha hd
  refine ⟨⟨xs, v, hq, h1⟩, fun x H2 ⟨e, hy⟩ => ?_⟩
  subst e
  have := hy xs hq
  rw [h1] at this
  cases this
  exact ⟨B1, Ext.refl bh, dp_mono sb h2⟩
def iL (f : M PyData) : M (List PyData) := fun e => bnd (f e) fun d e1 => match d with
  | .list ds => some (ds, e1)
  | _ => none
def iT (f : M PyData) : M (List PyData) := fun e => bnd (f e) fun d e1 => match d with
  | .tuple ds => some (ds, e1)
  | _ => none
theorem si_list {t : TE} {f : M PyData} (h : SE K T t f) : SI K T (iList K t) (iL f) := fun W hT σ H B e ds e' R hf r q => by
  obtain ⟨d, e1, h1, h2⟩ := bnd_some hf
  refine h W hT σ H B e d e1 _ h1 r fun v H' B' sb r' hd => ?_
  cases hd with
  | @lst a xs ds hs ha =>
    cases h2
    exact ⟨a, rfl, ⟨xs, r'.bh.seq hs⟩, q _ H' B' sb r' (ItOk.list hs ha)⟩
  | non => cases h2
  | bl _ => cases h2
  | int _ => cases h2
  | str _ => cases h2
  | dct _ _ _ => cases h2
  | tup _ _ => cases h2
theorem si_tup {t : TE} {f : M PyData} (h : SE K T t f) : SI K T (iTup K t) (iT f) := fun W hT σ H B e ds e' R hf r q => by
  obtain ⟨d, e1, h1, h2⟩ := bnd_some hf
  refine h W hT σ H B e d e1 _ h1 r fun v H' B' sb r' hd => ?_
  cases hd with
  | @tup a xs ds hs ha =>
    cases h2
    exact ⟨a, rfl, ⟨xs, seqT r'.bh hs⟩, q _ H' B' sb r' (ItOk.tup hs ha)⟩
  | non => cases h2
  | bl _ => cases h2
  | int _ => cases h2
  | str _ => cases h2
  | dct _ _ _ => cases h2
  | lst _ _ => cases h2
/-- lo, lo + 1, .., n of them -/
def upto (lo : Int) : Nat → List PyData
  | 0 => []
  | n + 1 => .int lo :: upto (lo + 1) n
theorem upto_len : ∀ (n : Nat) (lo : Int), (upto lo n).length = n
  | 0, _ => rfl
  | n + 1, lo => congrArg (· + 1) (upto_len n (lo + 1))
theorem upto_get : ∀ {n : Nat} {lo : Int} {i : Nat} {d : PyData}, (upto lo n)[i]? = some d → i < n ∧ d = .int (lo + i)
  | 0, _, _, _, h => by simp [upto] at h
  | n + 1, lo, 0, d, h => by
    have h : some (PyData.int lo) = some d := h
    cases h
    exact ⟨Nat.succ_pos n, by simp⟩
  | n + 1, lo, i + 1, d, h => by
    have h : (upto (lo + 1) n)[i]? = some d := h
    obtain ⟨h1, h2⟩ := upto_get h
    refine ⟨Nat.succ_lt_succ h1, ?_⟩
    rw [h2]
    congr 1
    omega
theorem ItOk.rng {B : Hp} {lo : Int} {n : Nat} : ItOk K B (Itr lo n) (upto lo n) := fun i H1 B1 sb bh => by
  refine ⟨fun _ e => ?_, fun d hd => ?_⟩
  · rw [upto_len] at e
    exact Nat.le_of_eq e.symm
  · obtain ⟨h1, h2⟩ := upto_get hd
    refine ⟨h1, fun x H2 ⟨e, hy⟩ => ?_⟩
    subst e
    rw [hy, h2]
    exact ⟨B1, Ext.refl bh, .int _⟩
def inR (i : Int) : Bool := decide (-(2 ^ 62) ≤ i) && decide (i < 2 ^ 62)
theorem inR_of {i : Int} (h : inR i = true) : -(2 ^ 62) ≤ i ∧ i < 2 ^ 62 := by
  unfold inR at h
  rw [Bool.and_eq_true, decide_eq_true_eq, decide_eq_true_eq] at h
  exact h
def iR1 (fa : M (List PyData)) : M (List PyData) := fun e => bnd (fa e) fun as e1 => match as with
  | [.int j] => if inR j = true then some (upto 0 j.toNat, e1) else none
  | _ => none
def iR2 (fa : M (List PyData)) : M (List PyData) := fun e => bnd (fa e) fun as e1 => match as with
  | [.int i, .int j] => if inR i = true ∧ inR j = true then some (upto i (j - i).toNat, e1) else none
  | _ => none
theorem si_rng1 {t : TA} {fa : M (List PyData)} (h : SA K T t fa) : SI K T (iRng1 t) (iR1 fa) := fun W hT σ H B e ds e' R hf r q => by
  obtain ⟨as, e1, h1, h2⟩ := bnd_some hf
  refine h W hT σ H B e as e1 _ h1 r fun vs H' B' sb r' hd => ?_
  cases hd with
  | nil => cases h2
  | cons a b =>
    cases b with
    | cons _ _ => cases a <;> cases h2
    | nil =>
      cases a with
      | int j =>
        have h2 : (if inR j = true then some (upto 0 j.toNat, e1) else none) = some (ds, e') := h2
        by_cases c : inR j = true
        · rw [if_pos c] at h2
          cases h2
          obtain ⟨q1, q2⟩ := inR_of c
          exact ⟨j, rfl, q1, q2, q _ H' B' sb r' ItOk.rng⟩
        · rw [if_neg c] at h2
          cases h2
      | non => cases h2
      | bl _ => cases h2
      | str _ => cases h2
      | dct _ _ _ => cases h2
      | lst _ _ => cases h2
      | tup _ _ => cases h2
theorem si_rng2 {t : TA} {fa : M (List PyData)} (h : SA K T t fa) : SI K T (iRng2 t) (iR2 fa) := fun W hT σ H B e ds e' R hf r q => by
  obtain ⟨as, e1, h1, h2⟩ := bnd_some hf
  refine h W hT σ H B e as e1 _ h1 r fun vs H' B' sb r' hd => ?_
  match as, vs, hd, h2 with
  | [.int i, .int j], _, .cons a (.cons b .nil), h2 =>
    have h2 : (if inR i = true ∧ inR j = true then some (upto i (j - i).toNat, e1) else none) = some (ds, e') := h2
    by_cases c : inR i = true ∧ inR j = true
    · rw [if_pos c] at h2
      cases h2
      obtain ⟨q1, q2⟩ := inR_of c.1
      obtain ⟨q3, q4⟩ := inR_of c.2
      rw [dp_int a, dp_int b]
      exact ⟨i, j, rfl, ⟨q1, q2, q3, q4⟩, q _ H' B' sb r' ItOk.rng⟩
    · rw [if_neg c] at h2
      cases h2
end VL
end
section
set_option Elab.async false
set_option linter.all false
set_option maxRecDepth 100000
set_option maxHeartbeats 2000000
namespace VL
open PySem PySem.Spec PyProof.Rows L2
variable {K : PySem.W.Frag} {T : List (Addr × Str)}
/-! ### a list at the head is put aside, and written -/
def Wd.hold (W : Wd) (p : Addr) (o : HO) : Wd := ⟨upd W.H0 p o, fun b => if b = p then none else W.B0 b, W.bp, W.tb⟩
theorem Rel.park {W : Wd} {σ : L2.St} {H B : Hp} {e : Ev} {v : V} {ds : List PyData} (r : Rel K W (some v :: σ) H B (.ow ds :: e)) : ∃ p xs, v = .ref p ∧ H p = some (.lst xs) ∧ DpAll K B xs ds ∧ Rel K (W.hold p (.lst xs)) σ H B e ∧
    ∀ σ' H' B' e', Same B B' → Rel K (W.hold p (.lst xs)) σ' H' B' e' → Rel K W (some v :: σ') H' B' (.ow ds :: e') ∧ H' p = some (.lst xs) := by
  obtain ⟨A, r⟩ := r
  cases hs : r.sls with
  | @cons _ _ _ bs _ _ h t =>
    cases h with
    | @ow p xs _ h1 h2 =>
      obtain ⟨n1, n2, n3⟩ := List.nodup_append.mp r.nd
      have hm : p ∈ [p] ++ bs := List.mem_append_left _ List.mem_cons_self
      have hA : ∀ q ∈ bs, q ≠ p := fun q hq z => n3 p List.mem_cons_self q hq z.symm
      refine ⟨p, xs, rfl, h1, h2, ⟨bs, t, n2, fun q hq => ⟨(r.out q (List.mem_append_right _ hq)).1, ?_⟩, r.bh, fun b o hb => ?_, fun b hb1 hb2 => ?_, fun x hx => ?_⟩, fun σ' H' B' e' sb r' => ?_⟩
      · show upd W.H0 p (.lst xs) q = none
        rw [upd_ne (hA q hq)]
        exact (r.out q (List.mem_append_right _ hq)).2
      · have hb : upd W.H0 p (.lst xs) b = some o := hb
        by_cases c : b = p
        · rw [c, upd_same] at hb
          rw [c, h1]
          exact hb
        · rw [upd_ne c] at hb
          exact r.fr b o hb
      · by_cases c : b = p
        · rw [c]
          exact (r.out p hm).1
        · have hb1 : upd W.H0 p (.lst xs) b ≠ none := hb1
          have hb2 : (if b = p then none else W.B0 b) = none := hb2
          rw [upd_ne c] at hb1
          rw [if_neg c] at hb2
          exact r.new b hb1 hb2
      · obtain ⟨q1, q2, ps, q3, q4⟩ := r.tb x hx
        refine ⟨?_, q2, ps, q3, q4⟩
        show upd W.H0 p (.lst xs) x.1 = none
        rw [upd_ne (fun z => by rw [z, h1] at q3; cases q3)]
        exact q1
      · obtain ⟨A', r'⟩ := r'
        have hp' : H' p = some (.lst xs) := r'.fr p _ upd_same
        have nb : B' p = none := r'.new p (by show upd W.H0 p (.lst xs) p ≠ none; rw [upd_same]; exact fun z => by cases z) (if_pos rfl)
        have nA : ∀ q ∈ A', q ≠ p := fun q hq z => by
          have := (r'.out q hq).2
          rw [z] at this
          have this : upd W.H0 p (.lst xs) p = none := this
          rw [upd_same] at this
          cases this
        refine ⟨⟨[p] ++ A', .cons (.ow hp' (dpAll_mono sb h2)) r'.sls, List.nodup_append.mpr ⟨by simp, r'.nd, fun x hx y hy z => nA y hy (by rw [← z]; exact List.mem_singleton.mp hx)⟩, fun q hq => ?_, r'.bh, fun b o hb => ?_, fun b hb1 hb2 => ?_, fun x hx => ?_⟩, hp'⟩
        · rcases List.mem_append.mp hq with z | z
          · rw [List.mem_singleton.mp z]
            exact ⟨nb, (r.out p hm).2⟩
          · refine ⟨(r'.out q z).1, ?_⟩
            have := (r'.out q z).2
            have this : upd W.H0 p (.lst xs) q = none := this
            rw [upd_ne (nA q z)] at this
            exact this
        · refine r'.fr b o ?_
          show upd W.H0 p (.lst xs) b = some o
          rw [upd_ne (ne_of_none hb (r.out p hm).2)]
          exact hb
        · have c : b ≠ p := fun z => hb1 (by rw [z]; exact (r.out p hm).2)
          refine r'.new b ?_ ?_
          · show upd W.H0 p (.lst xs) b ≠ none
            rw [upd_ne c]
            exact hb1
          · show (if b = p then none else W.B0 b) = none
            rw [if_neg c]
            exact hb2
        · obtain ⟨q1, q2, ps, q3, q4⟩ := r'.tb x hx
          refine ⟨?_, q2, ps, q3, q4⟩
          have q1 : upd W.H0 p (.lst xs) x.1 = none := q1
          rw [upd_ne (fun z => by rw [z, hp'] at q3; cases q3)] at q1
          exact q1
/-- the list at the head is changed -/
theorem Rel.write {W : Wd} {σ : L2.St} {H B : Hp} {e : Ev} {p : Addr} {ds es : List PyData} {ys : List V} (r : Rel K W (some (.ref p) :: σ) H B (.ow ds :: e)) (h : DpAll K B ys es) : Rel K W (some (.ref p) :: σ) (upd H p (.lst ys)) B (.ow es :: e) := by
  obtain ⟨A, r⟩ := r
  cases hs : r.sls with
  | @cons _ _ _ bs _ _ h' t =>
    cases h' with
    | @ow p xs _ h1 h2 =>
      obtain ⟨n1, n2, n3⟩ := List.nodup_append.mp r.nd
      have hm : p ∈ [p] ++ bs := List.mem_append_left _ List.mem_cons_self
      have hA : ∀ q ∈ bs, q ≠ p := fun q hq z => n3 p List.mem_cons_self q hq z.symm
      refine ⟨[p] ++ bs, .cons (.ow upd_same h) (t.mono (Same.refl B) fun q hq => upd_ne (hA q hq)), r.nd, r.out, fun b o hb => ?_, fun b o hb => ?_, r.new, r.tb.upd h1 (fun ps z => by cases z)⟩
      · rw [upd_ne (ne_of_none hb (r.out p hm).1)]
        exact r.bh b o hb
      · rw [upd_ne (ne_of_none hb (r.out p hm).2)]
        exact r.fr b o hb
/-! ### slots that are wiped -/
theorem wipe_get (σ : L2.St) (i : Nat) : ∀ vs : List Nat, (wipe σ vs)[i]? = if i ∈ vs then (σ[i]?).map (fun _ => none) else σ[i]?
  | [] => by simp [wipe]
  | v :: vs => by
    unfold wipe
    by_cases c : v = i
    · subst c
      rw [if_pos List.mem_cons_self, List.getElem?_set_self', wipe_get σ v vs]
      by_cases m : v ∈ vs
      · rw [if_pos m]
        cases σ[v]? <;> rfl
      · rw [if_neg m]
        cases σ[v]? <;> rfl
    · rw [List.getElem?_set_ne c, wipe_get σ i vs]
      by_cases m : i ∈ vs
      · rw [if_pos m, if_pos (List.mem_cons_of_mem _ m)]
      · rw [if_neg m, if_neg (fun z => (List.mem_cons.mp z).elim (fun z => c z.symm) m)]
theorem wipe_eq {σ τ : L2.St} {vs : List Nat} (h : ∀ i, i ∉ vs → σ[i]? = τ[i]?) (hl : σ.length = τ.length) : wipe σ vs = wipe τ vs := by
  refine List.ext_getElem? fun i => ?_
  rw [wipe_get, wipe_get]
  by_cases m : i ∈ vs
  · rw [if_pos m, if_pos m]
    by_cases c : i < σ.length
    · rw [List.getElem?_eq_getElem c, List.getElem?_eq_getElem (by omega)]
      rfl
    · rw [List.getElem?_eq_none (by omega), List.getElem?_eq_none (by omega)]
  · rw [if_neg m, if_neg m]
    exact h i m
theorem wipe_set {σ : L2.St} {vs : List Nat} {i : Nat} {o : Option V} (h : i ∈ vs) : wipe (σ.set i o) vs = wipe σ vs := wipe_eq (fun j hj => List.getElem?_set_ne fun z => hj (by rw [← z]; exact h)) (by simp)
theorem wipe_wipe {σ : L2.St} {us vs : List Nat} (h : ∀ i ∈ us, i ∈ vs) : wipe (wipe σ us) vs = wipe σ vs := wipe_eq (fun j hj => by rw [wipe_get, if_neg fun z => hj (h j z)]) (wipe_length σ us)
/-- a target that stores into vs alone -/
def Lcl (vs : List Nat) (g : TG) : Prop := ∀ v σ H Q, g v σ H Q → g v σ H fun σ2 H2 => wipe σ2 vs = wipe σ vs ∧ Q σ2 H2
def Lcls (vs : List Nat) (g : TGs) : Prop := ∀ us σ H Q, g us σ H Q → g us σ H fun σ2 H2 => wipe σ2 vs = wipe σ vs ∧ Q σ2 H2
theorem lcl_name {vs : List Nat} {i : Nat} (h : i ∈ vs) : Lcl vs (gName i) := fun v σ H Q q => ⟨wipe_set h, q⟩
theorem lcls_nil {vs : List Nat} : Lcls vs gNil := fun us σ H Q q => ⟨q.1, rfl, q.2⟩
/-- targets ask no more than what is wanted -/
def Mn (g : TG) : Prop := ∀ v σ H Q Q', (∀ σ2 H2, Q σ2 H2 → Q' σ2 H2) → g v σ H Q → g v σ H Q'
def Mns (g : TGs) : Prop := ∀ us σ H Q Q', (∀ σ2 H2, Q σ2 H2 → Q' σ2 H2) → g us σ H Q → g us σ H Q'
theorem mn_name {i : Nat} : Mn (gName i) := fun v σ H Q Q' h q => h _ _ q
theorem mns_nil : Mns gNil := fun us σ H Q Q' h q => ⟨q.1, h _ _ q.2⟩
theorem mns_cons {g : TG} {gs : TGs} (h1 : Mn g) (h2 : Mns gs) : Mns (gCons g gs) := fun us σ H Q Q' h q => by
  obtain ⟨v, r, e, q⟩ := q
  exact ⟨v, r, e, h1 _ _ _ _ _ (fun σ2 H2 q => h2 _ _ _ _ _ h q) q⟩
theorem lcls_cons {vs : List Nat} {g : TG} {gs : TGs} (m1 : Mn g) (m2 : Mns gs) (h1 : Lcl vs g) (h2 : Lcls vs gs) : Lcls vs (gCons g gs) := fun us σ H Q q => by
  obtain ⟨v, r, e, q⟩ := q
  refine ⟨v, r, e, m1 _ _ _ _ _ (fun σ2 H2 ⟨e2, q2⟩ => ?_) (h1 _ _ _ _ q)⟩
  exact m2 _ _ _ _ _ (fun σ3 H3 ⟨e3, q3⟩ => ⟨e3.trans e2, q3⟩) (h2 _ _ _ _ q2)
theorem lcl_tup {vs : List Nat} {n : Nat} {gs : TGs} (h : Lcls vs gs) : Lcl vs (gTup K n gs) := fun v σ H Q q => by
  obtain ⟨a, xs, e, h1, h2, q⟩ := q
  exact ⟨a, xs, e, h1, h2, h _ _ _ _ q⟩
def wipeE (vs : List Nat) (e : Ev) : Ev := match vs with
  | [] => e
  | v :: vs => (wipeE vs e).set v .un
theorem Rel.wipe {W : Wd} {σ : L2.St} {H B : Hp} {e : Ev} (r : Rel K W σ H B e) : ∀ vs : List Nat, Rel K W (L2.wipe σ vs) H B (wipeE vs e)
  | [] => r
  | v :: vs => (r.wipe vs).drop v none
theorem Rel.wipe1 {W : Wd} {σ : L2.St} {H B : Hp} {e : Ev} {o : Option V} {s : Sl} (r : Rel K W (o :: σ) H B (s :: e)) : ∀ vs : List Nat, Rel K W (o :: L2.wipe σ vs) H B (s :: wipeE vs e)
  | [] => r
  | v :: vs => (r.wipe1 vs).drop (v + 1) none
/-- the slots that were wiped come back -/
def rest (e0 : Ev) : List Nat → Ev → Option Ev
  | [], e => some e
  | v :: vs, e => match e0[v]? with
    | some (.sh d) => rest e0 vs (e.set v (.sh d))
    | some .un => rest e0 vs (e.set v .un)
    | _ => none
theorem Rel.rest {W W0 : Wd} {σ : L2.St} {H1 B1 H B : Hp} {e0 : Ev} (r0 : Rel K W0 σ H1 B1 e0) (sb : Same B1 B) : ∀ (vs : List Nat) {e e' : Ev}, vs.Nodup → Rel K W (L2.wipe σ vs) H B e → VL.rest e0 vs e = some e' → Rel K W σ H B e'
  | [], e, e', _, r, h => by
    cases h
    exact r
  | v :: vs, e, e', nd, r, h => by
    obtain ⟨nv, nd⟩ := List.nodup_cons.mp nd
    have hw : (L2.wipe σ vs)[v]? = σ[v]? := by rw [wipe_get, if_neg nv]
    unfold VL.rest at h
    cases h0 : e0[v]? with
    | none => rw [h0] at h; cases h
    | some s =>
      rw [h0] at h
      cases s with
      | ow _ => cases h
      | bw _ => cases h
      | ob _ => cases h
      | dc _ => cases h
      | dr _ => cases h
      | dd _ => cases h
      | di _ => cases h
      | db _ => cases h
      | st _ _ => cases h
      | sb _ _ => cases h
      | sh d =>
        obtain ⟨x, h1, h2⟩ := r0.get h0
        refine Rel.rest r0 sb vs nd ?_ h
        have r2 := r.put v (dp_mono sb h2)
        have e2 : (L2.wipe σ (v :: vs)).set v (some x) = L2.wipe σ vs := by
          show ((L2.wipe σ vs).set v none).set v (some x) = _
          rw [set_set', set_same (hw.trans h1)]
        rw [e2] at r2
        exact r2
      | un =>
        refine Rel.rest r0 sb vs nd ?_ h
        obtain ⟨A0, r0'⟩ := r0
        obtain ⟨o, _, h1, _, _⟩ := r0'.sls.at h0
        have r2 := r.drop v o
        have e2 : (L2.wipe σ (v :: vs)).set v o = L2.wipe σ vs := by
          show ((L2.wipe σ vs).set v none).set v o = _
          rw [set_set', set_same (hw.trans h1)]
        rw [e2] at r2
        exact r2
/-! ### comprehensions -/
def cloop (fg : PyData → Ev → Option Ev) (ft : M Bool) (fe : M PyData) (vs : List Nat) : List PyData → Ev → Option (List PyData × Ev)
  | [], e => some ([], e)
  | d :: ds, e => match fg d e with
    | none => none
    | some e1 => bnd (ft e1) fun b e2 => if b = true then bnd (fe e2) fun y e3 => bnd (cloop fg ft fe vs ds (wipeE vs e3)) fun ys e4 => some (y :: ys, e4) else cloop fg ft fe vs ds (wipeE vs e2)
/-- one turn, the list at D put aside -/
theorem lc_turn {g : TG} {tt : TT} {te : TE} {fg : PyData → Ev → Option Ev} {ft : M Bool} {fe : M PyData} {vs : List Nat} (hg : SG K T g fg) (lc : Lcl vs g) (mn : Mn g) (ht : ST K T tt ft) (he : SE K T te fe) {W : Wd} {σ : L2.St} {H B : Hp} {e e1 e2 : Ev} {D : Addr} {acc : List PyData} {x : V} {d : PyData} {b : Bool} {Nx : Hp → Prop}
    (hT : W.tb = T)
    (r : Rel K W (some (.ref D) :: σ) H B (.ow acc :: e)) (dx : Dp K B x d) (h1 : fg d e = some e1) (h2 : ft e1 = some (b, e2)) (hz : b = true → sz acc.length = true)
    (hno : b = false → ∀ H' B', Same B B' → Rel K W (some (.ref D) :: L2.wipe σ vs) H' B' (.ow acc :: wipeE vs e2) → Nx H')
    (hyes : b = true → ∃ y e3, fe e2 = some (y, e3) ∧ ∀ H' B', Same B B' → Rel K W (some (.ref D) :: L2.wipe σ vs) H' B' (.ow (acc ++ [y]) :: wipeE vs e3) → Nx H') :
    g x σ H fun σ2 H2 => L2.wipe σ2 vs = L2.wipe σ vs ∧ tt σ2 H2 fun b H3 => if b = true then te σ2 H3 fun y H4 => ∃ acc, H4 D = some (.lst acc) ∧ acc.length < sizeLine ∧ Nx (upd H4 D (.lst (acc ++ [y]))) else Nx H3 := by
  obtain ⟨p, xs, ep, hp, ha, rp, back⟩ := r.park
  cases ep
  have key : g x σ H fun σ2 H2 => L2.wipe σ2 vs = L2.wipe σ vs ∧ ∃ B2, H2 = H ∧ B2 = B ∧ Rel K (W.hold D (.lst xs)) σ2 H2 B2 e1 := lc _ _ _ _ (hg (W.hold D (.lst xs)) hT σ H B e x d e1 _ h1 rp dx fun σ' r' => ⟨B, rfl, rfl, r'⟩)
  refine mn _ _ _ _ _ (fun σ2 H2 ⟨ew, B2, eH, eB, r2⟩ => ⟨ew, ?_⟩) key
  subst eH eB
  refine ht (W.hold D (.lst xs)) hT σ2 H2 B2 e1 b e2 _ h2 r2 fun H3 B3 s3 r3 => ?_
  cases b with
  | false =>
    rw [if_neg (by decide)]
    have r4 := (back σ2 H3 B3 e2 s3 r3).1.wipe1 vs
    rw [ew] at r4
    exact hno rfl H3 B3 s3 r4
  | true =>
    rw [if_pos rfl]
    obtain ⟨y, e3, h3, nx⟩ := hyes rfl
    refine he (W.hold D (.lst xs)) hT σ2 H3 B3 e2 y e3 _ h3 r3 fun v H4 B4 s4 r4 dv => ?_
    obtain ⟨r5, hD⟩ := back σ2 H4 B4 e3 (s3.trans s4) r4
    refine ⟨xs, hD, by rw [dpAll_len ha]; exact sz_lt (hz rfl), ?_⟩
    have r6 := (r5.write (dpAll_snoc (dpAll_mono (s3.trans s4) ha) dv)).wipe1 vs
    rw [ew] at r6
    exact nx _ B4 (s3.trans s4) r6
def xLc (fi : M (List PyData)) (fg : PyData → Ev → Option Ev) (ft : M Bool) (fe : M PyData) (vs : List Nat) : M Sl := fun e => bnd (fi e) fun ds e1 => bnd (cloop fg ft fe vs ds (wipeE vs e1)) fun ys e2 => if sz ys.length = true then match rest e1 vs e2 with
  | none => none
  | some e3 => some (.ow ys, e3) else none
theorem sz_mono {m n : Nat} (h : sz n = true) (l : m ≤ n) : sz m = true := Nat.ble_eq_true_of_le (Nat.le_trans l (Nat.le_of_ble_eq_true h))
theorem sx_lc {wi : TI} {g : TG} {tt : TT} {te : TE} {fi : M (List PyData)} {fg : PyData → Ev → Option Ev} {ft : M Bool} {fe : M PyData} {vs : List Nat} (nd : vs.Nodup) (hi : SI K T wi fi) (hg : SG K T g fg) (lc : Lcl vs g) (mn : Mn g) (ht : ST K T tt ft) (he : SE K T te fe) :
    SX K T (tLc wi g tt te vs) (xLc fi fg ft fe vs) := fun W hT σ H B e s e' Q hf r q => by
  obtain ⟨ds, e1, h1, h2⟩ := bnd_some hf
  obtain ⟨zs, e2, h3, h4⟩ := bnd_some h2
  by_cases c : sz zs.length = true
  · rw [if_pos c] at h4
    cases h5 : rest e1 vs e2 with
    | none => rw [h5] at h4; cases h4
    | some e3 =>
      rw [h5] at h4
      cases h4
      refine hi W hT σ H B e ds e1 _ h1 r fun J H1 B1 s1 r1 ok D hD => ?_
      refine ⟨fun i m H => i ≤ ds.length ∧ m = ds.length - i ∧ ∃ B2 e4 acc ys, Same B1 B2 ∧ Rel K W (some (.ref D) :: L2.wipe σ vs) H B2 (.ow acc :: e4) ∧ cloop fg ft fe vs (ds.drop i) e4 = some (ys, e2) ∧ acc ++ ys = zs,
        ⟨_, Nat.zero_le _, rfl, B1, wipeE vs e1, [], zs, Same.refl B1, (r1.wipe vs).born hD .nil, h3, rfl⟩, ?_⟩
      rintro i m H2 ⟨hil, rfl, B2, e4, acc, ys, s2, r2, h6, h7⟩
      have ok' := ok i H2 B2 s2 r2.bh
      cases hd : ds[i]? with
      | none =>
        have hl : i = ds.length := by
          have := List.getElem?_eq_none_iff.mp hd
          omega
        subst hl
        refine .inl ⟨ok'.1 hd rfl, ?_⟩
        rw [List.drop_length] at h6
        cases h6
        rw [List.append_nil] at h7
        subst h7
        obtain ⟨p, xs, ep, hp, ha, rp, back⟩ := r2.park
        cases ep
        have r3 := Rel.rest r1 s2 vs nd rp h5
        exact q _ H2 B2 (s1.trans s2) (back σ H2 B2 _ (Same.refl B2) r3).1
      | some d =>
        obtain ⟨hlt, _⟩ := List.getElem?_eq_some_iff.mp hd
        obtain ⟨go, yl⟩ := ok'.2 d hd
        refine .inr ⟨go, fun H' => ∃ B3 e5 acc ys, Same B1 B3 ∧ Rel K W (some (.ref D) :: L2.wipe σ vs) H' B3 (.ow acc :: e5) ∧ cloop fg ft fe vs (ds.drop (i + 1)) e5 = some (ys, e2) ∧ acc ++ ys = zs, fun H' ⟨B3, e5, acc, ys, q1, q2, q3, q4⟩ => ⟨ds.length - (i + 1), by omega, hlt, rfl, B3, e5, acc, ys, q1, q2, q3, q4⟩, fun x H3 hy => ?_⟩
        obtain ⟨B3, x3, dx⟩ := yl x H3 hy
        rw [drop_get hd] at h6
        unfold cloop at h6
        cases h8 : fg d e4 with
        | none => rw [h8] at h6; cases h6
        | some e5 =>
          rw [h8] at h6
          obtain ⟨b, e6, h9, h10⟩ := bnd_some h6
          have s13 := s2.trans x3.b
          have wz : L2.wipe (L2.wipe σ vs) vs = L2.wipe σ vs := wipe_wipe fun i hi => hi
          have t := lc_turn hg lc mn ht he hT (Nx := fun H' => ∃ B3 e5 acc ys, Same B1 B3 ∧ Rel K W (some (.ref D) :: L2.wipe σ vs) H' B3 (.ow acc :: e5) ∧ cloop fg ft fe vs (ds.drop (i + 1)) e5 = some (ys, e2) ∧ acc ++ ys = zs) (r2.ext x3) dx h8 h9 (fun _ => sz_mono c (by rw [← h7, List.length_append]; omega)) (fun hb H' B' sb r' => ?_) (fun hb => ?_)
          · rw [wz] at t
            exact t
          · subst hb
            rw [if_neg (by decide)] at h10
            rw [wz] at r'
            exact ⟨B', _, acc, ys, s13.trans sb, r', h10, h7⟩
          · subst hb
            rw [if_pos rfl] at h10
            obtain ⟨y, e7, h11, h12⟩ := bnd_some h10
            obtain ⟨ys', e8, h13, h14⟩ := bnd_some h12
            cases h14
            refine ⟨y, e7, h11, fun H' B' sb r' => ?_⟩
            rw [wz] at r'
            exact ⟨B', _, acc ++ [y], ys', s13.trans sb, r', h13, by rw [List.append_assoc]; exact h7⟩
  · rw [if_neg c] at h4
    cases h4
end VL
end
section
set_option Elab.async false
set_option linter.all false
set_option maxRecDepth 100000
set_option maxHeartbeats 2000000
namespace VL
open PySem PySem.Spec PyProof.Rows L2
variable {K : PySem.W.Frag} {T : List (Addr × Str)}
/-! ### comprehensions of two clauses -/
def cloop2 (fg : PyData → Ev → Option Ev) (ft : M Bool) (fi1 : M (List PyData)) (fg1 : PyData → Ev → Option Ev) (ft1 : M Bool) (fe : M PyData) (vs vs1 : List Nat) : List PyData → Ev → Option (List PyData × Ev)
  | [], e => some ([], e)
  | d :: ds, e => match fg d e with
    | none => none
    | some e1 => bnd (ft e1) fun b e2 => if b = true then bnd (fi1 e2) fun is e3 => bnd (cloop fg1 ft1 fe vs1 is (wipeE vs1 e3)) fun ys e4 => bnd (cloop2 fg ft fi1 fg1 ft1 fe vs vs1 ds (wipeE vs e4)) fun zs e5 => some (ys ++ zs, e5)
      else cloop2 fg ft fi1 fg1 ft1 fe vs vs1 ds (wipeE vs e2)
def xLc2 (fi : M (List PyData)) (fg : PyData → Ev → Option Ev) (ft : M Bool) (fi1 : M (List PyData)) (fg1 : PyData → Ev → Option Ev) (ft1 : M Bool) (fe : M PyData) (vs vs1 : List Nat) : M Sl := fun e => bnd (fi e) fun ds e1 => bnd (cloop2 fg ft fi1 fg1 ft1 fe vs vs1 ds (wipeE vs e1)) fun ys e2 => if sz ys.length = true then match rest e1 vs e2 with
  | none => none
  | some e3 => some (.ow ys, e3) else none
/-- the inner loop -/
theorem lc_inner {J : It} {g : TG} {tt : TT} {te : TE} {fg : PyData → Ev → Option Ev} {ft : M Bool} {fe : M PyData} {vs : List Nat} (hg : SG K T g fg) (lc : Lcl vs g) (mn : Mn g) (ht : ST K T tt ft) (he : SE K T te fe) {W : Wd} {σ : L2.St} {H1 B1 : Hp} {D : Addr} {ds : List PyData} {acc0 zs : List PyData} {e1 e2 : Ev} {Nx : Hp → Prop}
    (hT : W.tb = T)
    (ok : ItOk K B1 J ds) (r1 : Rel K W (some (.ref D) :: L2.wipe σ vs) H1 B1 (.ow acc0 :: e1)) (h3 : cloop fg ft fe vs ds e1 = some (zs, e2)) (c : sz (acc0.length + zs.length) = true)
    (fin : ∀ H' B', Same B1 B' → Rel K W (some (.ref D) :: L2.wipe σ vs) H' B' (.ow (acc0 ++ zs) :: e2) → Nx H') :
    ∃ W1 : Nat → Nat → Hp → Prop, (∃ m, W1 0 m H1) ∧ ∀ j k H, W1 j k H → (J.stop j H ∧ Nx H) ∨ (J.go j H ∧ ∃ Nx1 : Hp → Prop, (∀ H', Nx1 H' → ∃ k', k' < k ∧ W1 (j + 1) k' H') ∧ ∀ x H', J.yld j H x H' → g x (L2.wipe σ vs) H' fun σ3 H5 => L2.wipe σ3 vs = L2.wipe σ vs ∧ tt σ3 H5 fun b H6 =>
        if b = true then te σ3 H6 fun y H7 => ∃ acc, H7 D = some (.lst acc) ∧ acc.length < sizeLine ∧ Nx1 (upd H7 D (.lst (acc ++ [y]))) else Nx1 H6) := by
  refine ⟨fun i m H => i ≤ ds.length ∧ m = ds.length - i ∧ ∃ B2 e4 acc ys, Same B1 B2 ∧ Rel K W (some (.ref D) :: L2.wipe σ vs) H B2 (.ow acc :: e4) ∧ cloop fg ft fe vs (ds.drop i) e4 = some (ys, e2) ∧ acc ++ ys = acc0 ++ zs,
    ⟨_, Nat.zero_le _, rfl, B1, e1, acc0, zs, Same.refl B1, r1, h3, rfl⟩, ?_⟩
  rintro i m H2 ⟨hil, rfl, B2, e4, acc, ys, s2, r2, h6, h7⟩
  have ok' := ok i H2 B2 s2 r2.bh
  cases hd : ds[i]? with
  | none =>
    have hl : i = ds.length := by
      have := List.getElem?_eq_none_iff.mp hd
      omega
    subst hl
    refine .inl ⟨ok'.1 hd rfl, ?_⟩
    rw [List.drop_length] at h6
    cases h6
    rw [List.append_nil] at h7
    subst h7
    exact fin H2 B2 s2 r2
  | some d =>
    obtain ⟨hlt, _⟩ := List.getElem?_eq_some_iff.mp hd
    obtain ⟨go, yl⟩ := ok'.2 d hd
    refine .inr ⟨go, fun H' => ∃ B3 e5 acc ys, Same B1 B3 ∧ Rel K W (some (.ref D) :: L2.wipe σ vs) H' B3 (.ow acc :: e5) ∧ cloop fg ft fe vs (ds.drop (i + 1)) e5 = some (ys, e2) ∧ acc ++ ys = acc0 ++ zs, fun H' ⟨B3, e5, acc, ys, q1, q2, q3, q4⟩ => ⟨ds.length - (i + 1), by omega, hlt, rfl, B3, e5, acc, ys, q1, q2, q3, q4⟩, fun x H3 hy => ?_⟩
    obtain ⟨B3, x3, dx⟩ := yl x H3 hy
    rw [drop_get hd] at h6
    unfold cloop at h6
    cases h8 : fg d e4 with
    | none => rw [h8] at h6; cases h6
    | some e5 =>
      rw [h8] at h6
      obtain ⟨b, e6, h9, h10⟩ := bnd_some h6
      have s13 := s2.trans x3.b
      have wz : L2.wipe (L2.wipe σ vs) vs = L2.wipe σ vs := wipe_wipe fun i hi => hi
      have hlen := congrArg List.length h7
      rw [List.length_append, List.length_append] at hlen
      have t := lc_turn hg lc mn ht he hT (Nx := fun H' => ∃ B3 e5 acc ys, Same B1 B3 ∧ Rel K W (some (.ref D) :: L2.wipe σ vs) H' B3 (.ow acc :: e5) ∧ cloop fg ft fe vs (ds.drop (i + 1)) e5 = some (ys, e2) ∧ acc ++ ys = acc0 ++ zs) (r2.ext x3) dx h8 h9 (fun _ => sz_mono c (by omega)) (fun hb H' B' sb r' => ?_) (fun hb => ?_)
      · rw [wz] at t
        exact t
      · subst hb
        rw [if_neg (by decide)] at h10
        rw [wz] at r'
        exact ⟨B', _, acc, ys, s13.trans sb, r', h10, h7⟩
      · subst hb
        rw [if_pos rfl] at h10
        obtain ⟨y, e7, h11, h12⟩ := bnd_some h10
        obtain ⟨ys', e8, h13, h14⟩ := bnd_some h12
        cases h14
        refine ⟨y, e7, h11, fun H' B' sb r' => ?_⟩
        rw [wz] at r'
        exact ⟨B', _, acc ++ [y], ys', s13.trans sb, r', h13, by rw [List.append_assoc]; exact h7⟩
theorem sx_lc2 {wi wi1 : TI} {g g1 : TG} {tt tt1 : TT} {te : TE} {fi fi1 : M (List PyData)} {fg fg1 : PyData → Ev → Option Ev} {ft ft1 : M Bool} {fe : M PyData} {vs vs1 : List Nat} (nd : vs.Nodup) (sub : ∀ i ∈ vs1, i ∈ vs) (hi : SI K T wi fi) (hg : SG K T g fg) (lc : Lcl vs g) (mn : Mn g) (ht : ST K T tt ft)
    (hi1 : SI K T wi1 fi1) (hg1 : SG K T g1 fg1) (lc1 : Lcl vs1 g1) (mn1 : Mn g1) (ht1 : ST K T tt1 ft1) (he : SE K T te fe) :
    SX K T (tLc2 wi g tt wi1 g1 tt1 te vs vs1) (xLc2 fi fg ft fi1 fg1 ft1 fe vs vs1) := fun W hT σ H B e s e' Q hf r q => by
  obtain ⟨ds, e1, h1, h2⟩ := bnd_some hf
  obtain ⟨zs, e2, h3, h4⟩ := bnd_some h2
  by_cases c : sz zs.length = true
  · rw [if_pos c] at h4
    cases h5 : rest e1 vs e2 with
    | none => rw [h5] at h4; cases h4
    | some e3 =>
      rw [h5] at h4
      cases h4
      refine hi W hT σ H B e ds e1 _ h1 r fun J H1 B1 s1 r1 ok D hD => ?_
      refine ⟨fun i m H => i ≤ ds.length ∧ m = ds.length - i ∧ ∃ B2 e4 acc ys, Same B1 B2 ∧ Rel K W (some (.ref D) :: L2.wipe σ vs) H B2 (.ow acc :: e4) ∧ cloop2 fg ft fi1 fg1 ft1 fe vs vs1 (ds.drop i) e4 = some (ys, e2) ∧ acc ++ ys = zs,
        ⟨_, Nat.zero_le _, rfl, B1, wipeE vs e1, [], zs, Same.refl B1, (r1.wipe vs).born hD .nil, h3, rfl⟩, ?_⟩
      rintro i m H2 ⟨hil, rfl, B2, e4, acc, ys, s2, r2, h6, h7⟩
      have ok' := ok i H2 B2 s2 r2.bh
      cases hd : ds[i]? with
      | none =>
        have hl : i = ds.length := by
          have := List.getElem?_eq_none_iff.mp hd
          omega
        subst hl
        refine .inl ⟨ok'.1 hd rfl, ?_⟩
        rw [List.drop_length] at h6
        cases h6
        rw [List.append_nil] at h7
        subst h7
        obtain ⟨p, xs, ep, hp, ha, rp, back⟩ := r2.park
        cases ep
        have r3 := Rel.rest r1 s2 vs nd rp h5
        exact q _ H2 B2 (s1.trans s2) (back σ H2 B2 _ (Same.refl B2) r3).1
      | some d =>
        obtain ⟨hlt, _⟩ := List.getElem?_eq_some_iff.mp hd
        obtain ⟨go, yl⟩ := ok'.2 d hd
        refine .inr ⟨go, fun H' => ∃ B3 e5 acc ys, Same B1 B3 ∧ Rel K W (some (.ref D) :: L2.wipe σ vs) H' B3 (.ow acc :: e5) ∧ cloop2 fg ft fi1 fg1 ft1 fe vs vs1 (ds.drop (i + 1)) e5 = some (ys, e2) ∧ acc ++ ys = zs, fun H' ⟨B3, e5, acc, ys, q1, q2, q3, q4⟩ => ⟨ds.length - (i + 1), by omega, hlt, rfl, B3, e5, acc, ys, q1, q2, q3, q4⟩, fun x H3 hy => ?_⟩
        obtain ⟨B3, x3, dx⟩ := yl x H3 hy
        rw [drop_get hd] at h6
        unfold cloop2 at h6
        cases h8 : fg d e4 with
        | none => rw [h8] at h6; cases h6
        | some e5 =>
          rw [h8] at h6
          obtain ⟨b, e6, h9, h10⟩ := bnd_some h6
          have s13 := s2.trans x3.b
          have wz : L2.wipe (L2.wipe σ vs) vs = L2.wipe σ vs := wipe_wipe fun i hi => hi
          obtain ⟨p, xs, ep, hp, ha, rp, back⟩ := (r2.ext x3).park
          cases ep
          have key : g x (L2.wipe σ vs) H3 fun σ2 H2 => L2.wipe σ2 vs = L2.wipe (L2.wipe σ vs) vs ∧ ∃ B2, H2 = H3 ∧ B2 = B3 ∧ Rel K (W.hold D (.lst xs)) σ2 H2 B2 e5 := lc _ _ _ _ (hg (W.hold D (.lst xs)) hT (L2.wipe σ vs) H3 B3 e4 x d e5 _ h8 rp dx fun σ' r' => ⟨B3, rfl, rfl, r'⟩)
          refine mn _ _ _ _ _ (fun σ4 H4 ⟨ew, B4, eH, eB, r4⟩ => ⟨ew.trans wz, ?_⟩) key
          subst eH eB
          refine ht (W.hold D (.lst xs)) hT σ4 H4 B4 e5 b e6 _ h9 r4 fun H5 B5 s5 r5 => ?_
          cases b with
          | false =>
            rw [if_neg (by decide)] at h10 ⊢
            have r6 := (back σ4 H5 B5 e6 s5 r5).1.wipe1 vs
            rw [ew, wz] at r6
            exact ⟨B5, _, acc, ys, s13.trans s5, r6, h10, h7⟩
          | true =>
            rw [if_pos rfl] at h10 ⊢
            obtain ⟨is, e7, h11, h12⟩ := bnd_some h10
            obtain ⟨us, e8, h13, h14⟩ := bnd_some h12
            obtain ⟨ws, e9, h15, h16⟩ := bnd_some h14
            cases h16
            refine hi1 (W.hold D (.lst xs)) hT σ4 H5 B5 e6 is e7 _ h11 r5 fun J1 H6 B6 s6 r6 ok1 => ?_
            have r7 := (back σ4 H6 B6 e7 (s5.trans s6) r6).1.wipe1 vs1
            refine lc_inner hg1 lc1 mn1 ht1 he hT ok1 r7 h13 (sz_mono c (by rw [← h7, List.length_append, List.length_append]; omega)) fun H7 B7 s7 r8 => ?_
            have r9 := r8.wipe1 vs
            rw [wipe_wipe sub, ew, wz] at r9
            exact ⟨B7, _, acc ++ us, ws, ((s13.trans s5).trans s6).trans s7, r9, h15, by rw [List.append_assoc]; exact h7⟩
  · rw [if_neg c] at h4
    cases h4
/-! ### lists that a slot has: read, changed -/
theorem Sls.out {K : PySem.W.Frag} {bp : Option Addr} {H B : Hp} : ∀ {σ : L2.St} {e : Ev} {as : List Addr} {i : Nat} {s : Sl}, Sls K bp H B σ e as → as.Nodup → e[i]? = some s →
    ∃ o bs cs, σ[i]? = some o ∧ SlOk K bp H B o s bs ∧ Sls K bp H B (σ.set i none) (e.set i .un) cs ∧ (bs ++ cs).Nodup ∧ ∀ q ∈ bs ++ cs, q ∈ as
  | _, _, _, _, _, .nil, _, h => by simp at h
  | _, _, _, 0, _, .cons (as := a1) (bs := b1) h t, n, e => by
    cases Option.some.inj e
    exact ⟨_, a1, [] ++ b1, rfl, h, .cons (as := []) .un t, n, fun q hq => hq⟩
  | _, _, _, i + 1, _, .cons (as := a1) (bs := b1) h t, n, e => by
    obtain ⟨m1, m2, m3⟩ := List.nodup_append.mp n
    obtain ⟨o, bs, cs, h1, h2, h3, h4, h5⟩ := Sls.out (i := i) t m2 e
    obtain ⟨k1, k2, k3⟩ := List.nodup_append.mp h4
    refine ⟨o, bs, a1 ++ cs, h1, h2, .cons h h3, List.nodup_append.mpr ⟨k1, List.nodup_append.mpr ⟨m1, k2, fun x hx y hy z => m3 x hx y (h5 y (List.mem_append_right _ hy)) z⟩, fun x hx y hy z => ?_⟩, fun q hq => ?_⟩
    · rcases List.mem_append.mp hy with w | w
      · exact m3 y w x (h5 x (List.mem_append_left _ hx)) z.symm
      · exact k3 x hx y w z
    · rcases List.mem_append.mp hq with w | w
      · exact List.mem_append_right _ (h5 q (List.mem_append_left _ w))
      · rcases List.mem_append.mp w with w | w
        · exact List.mem_append_left _ w
        · exact List.mem_append_right _ (h5 q (List.mem_append_right _ w))
/-- which list a slot has, that may be changed -/
def ownOf : Option Sl → Option (List PyData)
  | some (.ow ds) => some ds
  | some (.bw ds) => some ds
  | _ => none
def setOwn (e : Ev) (i : Nat) (ds : List PyData) : Ev := match e[i]? with
  | some (.bw _) => e.set i (.bw ds)
  | _ => e.set i (.ow ds)
theorem Rel.own {W : Wd} {σ : L2.St} {H B : Hp} {e : Ev} {i : Nat} {ds : List PyData} (r : Rel K W σ H B e) (h : ownOf e[i]? = some ds) : ∃ p xs, σ[i]? = some (some (.ref p)) ∧ H p = some (.lst xs) ∧ DpAll K B xs ds ∧
    ∀ ys es, DpAll K B ys es → Rel K W σ (upd H p (.lst ys)) B (setOwn e i es) := by
  obtain ⟨A, r⟩ := r
  cases h0 : e[i]? with
  | none => rw [h0] at h; cases h
  | some s =>
    rw [h0] at h
    obtain ⟨o, bs, cs, h1, h2, h3, h4, h5⟩ := r.sls.out r.nd h0
    cases s with
    | un => cases h
    | sh _ => cases h
    | ob _ => cases h
    | dc _ => cases h
    | dr _ => cases h
    | dd _ => cases h
    | di _ => cases h
    | db _ => cases h
    | st _ _ => cases h
    | sb _ _ => cases h
    | ow d =>
      cases h
      cases h2 with
      | @ow p xs _ a b =>
        obtain ⟨k1, k2, k3⟩ := List.nodup_append.mp h4
        have hp : p ∈ A := h5 p (List.mem_append_left _ List.mem_cons_self)
        have ne : ∀ q ∈ cs, q ≠ p := fun q hq z => k3 p List.mem_cons_self q hq z.symm
        refine ⟨p, xs, h1, a, b, fun ys es hy => ?_⟩
        have t : Sls K W.bp (upd H p (.lst ys)) B (σ.set i none) (e.set i .un) cs := h3.mono (Same.refl B) fun q hq => upd_ne (ne q hq)
        have n : SlOk K W.bp (upd H p (.lst ys)) B (some (.ref p)) (.ow es) [p] := .ow upd_same hy
        obtain ⟨fs, f1, f2, f3⟩ := t.set n i
        rw [set_set', set_set', set_same h1] at f1
        unfold setOwn
        rw [h0]
        refine ⟨fs, f1, f2 k2 (by simp) (fun q hq z => ne q z (List.mem_singleton.mp hq)), fun q hq => ?_, fun b o hb => ?_, fun b o hb => ?_, r.new, r.tb.upd a (fun ps z => by cases z)⟩
        · rcases f3 q hq with z | z
          · exact r.out q (h5 q (List.mem_append_right _ z))
          · rw [List.mem_singleton.mp z]
            exact r.out p hp
        · rw [upd_ne (ne_of_none hb (r.out p hp).1)]
          exact r.bh b o hb
        · rw [upd_ne (ne_of_none hb (r.out p hp).2)]
          exact r.fr b o hb
    | bw d =>
      cases h
      cases h2 with
      | @bw p xs _ eb a b =>
        obtain ⟨k1, k2, k3⟩ := List.nodup_append.mp h4
        have hp : p ∈ A := h5 p (List.mem_append_left _ List.mem_cons_self)
        have ne : ∀ q ∈ cs, q ≠ p := fun q hq z => k3 p List.mem_cons_self q hq z.symm
        refine ⟨p, xs, h1, a, b, fun ys es hy => ?_⟩
        have t : Sls K W.bp (upd H p (.lst ys)) B (σ.set i none) (e.set i .un) cs := h3.mono (Same.refl B) fun q hq => upd_ne (ne q hq)
        have n : SlOk K W.bp (upd H p (.lst ys)) B (some (.ref p)) (.bw es) [p] := .bw eb upd_same hy
        obtain ⟨fs, f1, f2, f3⟩ := t.set n i
        rw [set_set', set_set', set_same h1] at f1
        unfold setOwn
        rw [h0]
        refine ⟨fs, f1, f2 k2 (by simp) (fun q hq z => ne q z (List.mem_singleton.mp hq)), fun q hq => ?_, fun b o hb => ?_, fun b o hb => ?_, r.new, r.tb.upd a (fun ps z => by cases z)⟩
        · rcases f3 q hq with z | z
          · exact r.out q (h5 q (List.mem_append_right _ z))
          · rw [List.mem_singleton.mp z]
            exact r.out p hp
        · rw [upd_ne (ne_of_none hb (r.out p hp).1)]
          exact r.bh b o hb
        · rw [upd_ne (ne_of_none hb (r.out p hp).2)]
          exact r.fr b o hb
/-- the value of a slot does not change while an expression is reckoned: xs.append(e) -/
def sApp (i : Nat) (f : M PyData) : Ev → Option Out := fun e => match ownOf e[i]? with
  | none => none
  | some _ => bnd (f e) fun d e1 => match ownOf e1[i]? with
    | none => none
    | some ds => if sz ds.length = true then some (.nx (setOwn e1 i (ds ++ [d]))) else none
theorem ss_app {i : Nat} {t : TE} {f : M PyData} (h : SE K T t f) : SS K T (tDrop (tBM K "list" rAppend (tVar i) (tCons t tNil))) (sApp i f) := fun W hT D σ H B e o hf r qn qr => by
  unfold sApp at hf
  cases h0 : ownOf e[i]? with
  | none => rw [h0] at hf; cases hf
  | some ds0 =>
    rw [h0] at hf
    obtain ⟨d, e1, h1, h2⟩ := bnd_some hf
    obtain ⟨p, xs, a1, a2, a3, _⟩ := r.own h0
    refine ⟨_, a1, .inl ⟨rfl, _, SqL.of a2⟩, ?_⟩
    refine h W hT σ H B e d e1 _ h1 r fun v H1 B1 s1 r1 dv => ?_
    cases h3 : ownOf e1[i]? with
    | none => rw [h3] at h2; cases h2
    | some ds =>
      rw [h3] at h2
      by_cases c : sz ds.length = true
      · have h2 : (if sz ds.length = true then some (Out.nx (setOwn e1 i (ds ++ [d]))) else none) = some o := h2
        rw [if_pos c] at h2
        cases h2
        obtain ⟨p', ys, b1, b2, b3, b4⟩ := r1.own h3
        rw [a1] at b1
        cases b1
        exact ⟨p, ys, v, rfl, rfl, b2, by rw [dpAll_len b3]; exact sz_lt c, qn _ σ _ B1 rfl s1 (b4 _ _ (dpAll_snoc b3 dv))⟩
      · have h2 : (if sz ds.length = true then some (Out.nx (setOwn e1 i (ds ++ [d]))) else none) = some o := h2
        rw [if_neg c] at h2
        cases h2
/-- xs[k] = e: e first, then k -/
def sSetI (i : Nat) (f fk : M PyData) : Ev → Option Out := fun e => bnd (f e) fun d e1 => match ownOf e1[i]? with
  | none => none
  | some _ => bnd (fk e1) fun k e2 => match ownOf e2[i]? with
    | none => none
    | some ds => match k with
      | .int n => match ixN ds.length n with
        | none => none
        | some j => some (.nx (setOwn e2 i (ds.set j d)))
      | _ => none
theorem ss_setI {i : Nat} {t tk : TE} {f fk : M PyData} (h : SE K T t f) (hk : SE K T tk fk) : SS K T (tAsg t (gSub (tVar i) tk rSetL)) (sSetI i f fk) := fun W hT D σ H B e o hf r qn qr => by
  obtain ⟨d, e1, h1, h2⟩ := bnd_some hf
  refine h W hT σ H B e d e1 _ h1 r fun v H1 B1 s1 r1 dv => ?_
  cases h0 : ownOf e1[i]? with
  | none => rw [h0] at h2; cases h2
  | some ds0 =>
    rw [h0] at h2
    obtain ⟨p, xs, a1, a2, a3, _⟩ := r1.own h0
    obtain ⟨k, e2, h3, h4⟩ := bnd_some h2
    refine ⟨_, a1, hk W hT σ H1 B1 e1 k e2 _ h3 r1 fun w H2 B2 s2 r2 dw => ?_⟩
    cases h5 : ownOf e2[i]? with
    | none => rw [h5] at h4; cases h4
    | some ds =>
      rw [h5] at h4
      obtain ⟨p', ys, b1, b2, b3, b4⟩ := r2.own h5
      rw [a1] at b1
      cases b1
      cases k with
      | int n =>
        have h4 : (match ixN ds.length n with | none => none | some j => some (Out.nx (setOwn e2 i (ds.set j d)))) = some o := h4
        cases h6 : ixN ds.length n with
        | none => rw [h6] at h4; cases h4
        | some j =>
          rw [h6] at h4
          cases h4
          rw [dp_int dw]
          exact ⟨p, ys, n, j, rfl, rfl, b2, by rw [dpAll_len b3]; exact h6, qn _ σ _ B2 rfl (s1.trans s2) (b4 _ _ (dpAll_set (dp_mono s2 dv) j b3))⟩
      | none => cases h4
      | bool _ => cases h4
      | str _ => cases h4
      | list _ => cases h4
      | tuple _ => cases h4
      | dict _ => cases h4
/-- xs.pop() -/
def ePop (i : Nat) : M PyData := fun e => match ownOf e[i]? with
  | none => none
  | some ds => match ds[ds.length - 1]? with
    | none => none
    | some d => some (d, setOwn e i ds.dropLast)
theorem dpAll_dropLast {H : Hp} : ∀ {vs : List V} {ds : List PyData}, DpAll K H vs ds → DpAll K H vs.dropLast ds.dropLast
  | _, _, .nil => .nil
  | _, _, .cons _ .nil => .nil
  | _, _, .cons a (.cons b t) => .cons a (dpAll_dropLast (.cons b t))
theorem se_pop {i : Nat} : SE K T (tBM0 K "list" rPop (tVar i)) (ePop i) := fun W hT σ H B e d e' Q hf r q => by
  unfold ePop at hf
  cases h0 : ownOf e[i]? with
  | none => rw [h0] at hf; cases hf
  | some ds =>
    rw [h0] at hf
    obtain ⟨p, xs, a1, a2, a3, a4⟩ := r.own h0
    cases h1 : ds[ds.length - 1]? with
    | none => simp only [h1] at hf; cases hf
    | some y =>
      simp only [h1] at hf
      cases hf
      obtain ⟨v, h2, h3⟩ := dpAll_getD a3 h1
      refine ⟨_, a1, .inl ⟨rfl, _, SqL.of a2⟩, p, xs, v, rfl, rfl, a2, by rw [dpAll_len a3]; exact h2, q v _ B (Same.refl B) (a4 _ _ (dpAll_dropLast a3)) h3⟩
/-- xs[k] of a list or a tuple that a slot holds: the list stays its own -/
def seqOf : Option Sl → Option (List PyData)
  | some (.ow ds) => some ds
  | some (.bw ds) => some ds
  | some (.sh (.list ds)) => some ds
  | some (.sh (.tuple ds)) => some ds
  | _ => none
def eIxV (i : Nat) (fk : M PyData) : M PyData := fun e => match seqOf e[i]? with
  | none => none
  | some _ => bnd (fk e) fun k e1 => match seqOf e1[i]? with
    | none => none
    | some ds => match k with
      | .int n => put (atI ds n) e1
      | _ => none
theorem dpAll_atI {H : Hp} {vs : List V} {ds : List PyData} {n : Int} {d : PyData} (h : DpAll K H vs ds) (e : atI ds n = some d) : ∃ v, atI vs n = some v ∧ Dp K H v d := by
  unfold atI at e ⊢
  rw [dpAll_len h]
  cases hx : ixN ds.length n with
  | none => rw [hx] at e; cases e
  | some j =>
    rw [hx] at e
    exact dpAll_getD h e
theorem Rel.seq {W : Wd} {σ : L2.St} {H B : Hp} {e : Ev} {i : Nat} {ds : List PyData} (r : Rel K W σ H B e) (h : seqOf e[i]? = some ds) : ∃ p xs, σ[i]? = some (some (.ref p)) ∧ (SqL K H p xs ∨ SqT K H p xs) ∧ DpAll K B xs ds := by
  cases h0 : e[i]? with
  | none => rw [h0] at h; cases h
  | some s =>
    cases s with
    | un => rw [h0] at h; cases h
    | ob _ => rw [h0] at h; cases h
    | dc _ => rw [h0] at h; cases h
    | dr _ => rw [h0] at h; cases h
    | dd _ => rw [h0] at h; cases h
    | di _ => rw [h0] at h; cases h
    | db _ => rw [h0] at h; cases h
    | st _ _ => rw [h0] at h; cases h
    | sb _ _ => rw [h0] at h; cases h
    | ow d =>
      obtain ⟨p, xs, a1, a2, a3, _⟩ := r.own (i := i) (ds := d) (by rw [h0]; rfl)
      rw [h0] at h
      cases h
      exact ⟨p, xs, a1, .inl (SqL.of a2), a3⟩
    | bw d =>
      obtain ⟨p, xs, a1, a2, a3, _⟩ := r.own (i := i) (ds := d) (by rw [h0]; rfl)
      rw [h0] at h
      cases h
      exact ⟨p, xs, a1, .inl (SqL.of a2), a3⟩
    | sh d =>
      obtain ⟨v, a1, a2⟩ := r.get h0
      rw [h0] at h
      cases d with
      | list d =>
        cases h
        obtain ⟨a, xs, rfl, b1, b2⟩ := dp_lst a2
        exact ⟨a, xs, a1, .inl (r.bh.seq b1), b2⟩
      | tuple d =>
        cases h
        obtain ⟨a, xs, rfl, b1, b2⟩ := dp_tup a2
        exact ⟨a, xs, a1, .inr (seqT r.bh b1), b2⟩
      | none => cases h
      | bool _ => cases h
      | int _ => cases h
      | str _ => cases h
      | dict _ => cases h
theorem se_ixv {i : Nat} {tk : TE} {fk : M PyData} (hk : SE K T tk fk) : SE K T (tOp (rIx K) (tVar i) tk) (eIxV i fk) := fun W hT σ H B e d e' Q hf r q => by
  unfold eIxV at hf
  cases h0 : seqOf e[i]? with
  | none => rw [h0] at hf; cases hf
  | some ds0 =>
    rw [h0] at hf
    obtain ⟨k, e1, h1, h2⟩ := bnd_some hf
    obtain ⟨p, xs, a1, _, _⟩ := r.seq h0
    refine ⟨_, a1, hk W hT σ H B e k e1 _ h1 r fun w H1 B1 s1 r1 dw => ?_⟩
    cases h3 : seqOf e1[i]? with
    | none => rw [h3] at h2; cases h2
    | some ds =>
      rw [h3] at h2
      obtain ⟨p', ys, b1, b2, b3⟩ := r1.seq h3
      rw [a1] at b1
      cases b1
      cases k with
      | int n =>
        obtain ⟨h4, rfl⟩ := put_some h2
        obtain ⟨v, c1, c2⟩ := dpAll_atI b3 h4
        rw [dp_int dw]
        rcases b2 with b2 | b2
        · exact .inl ⟨p, ys, n, v, rfl, rfl, b2, c1, q v H1 B1 s1 r1 c2⟩
        · exact .inr (.inl ⟨p, ys, n, v, rfl, rfl, b2, c1, q v H1 B1 s1 r1 c2⟩)
      | none => cases h2
      | bool _ => cases h2
      | str _ => cases h2
      | list _ => cases h2
      | tuple _ => cases h2
      | dict _ => cases h2
end VL
end
section
set_option Elab.async false
set_option linter.all false
set_option maxRecDepth 100000
set_option maxHeartbeats 2000000
namespace VL
open PySem PySem.Spec PyProof.Rows L2
variable {K : PySem.W.Frag} {T : List (Addr × Str)}
/-! ### what a def promises, as a function over data -/
def hide (p : Addr) (H : Hp) : Hp := fun b => if b = p then none else H b
theorem hide_at {p : Addr} {H : Hp} : hide p H p = none := if_pos rfl
theorem hide_ne {p b : Addr} {H : Hp} (h : b ≠ p) : hide p H b = H b := if_neg h
def spS (K : PySem.W.Frag) (F : List PyData → Option Sl) : Sp := fun vs H Q _ => ∃ (B : Hp) (ds : List PyData) (s : Sl), Same B H ∧ DpAll K B vs ds ∧ F ds = some s ∧ ∀ v H' B', Same B B' → Rel K ⟨H, B, none, []⟩ [some v] H' B' [s] → Q v H'
def fnS (n m : Nat) (f : Ev → Option Out) : List PyData → Option Sl := fun ds => if ds.length = n then (match f (ds.map Sl.sh ++ List.replicate m .un) with
  | none => none
  | some (.nx _) => some (.sh .none)
  | some (.rt s _) => some s) else none
theorem sls_un {bp : Option Addr} {H B : Hp} : ∀ m : Nat, Sls K bp H B (List.replicate m none) (List.replicate m .un) []
  | 0 => .nil
  | m + 1 => .cons (as := []) .un (sls_un m)
theorem sls_sh {bp : Option Addr} {H B : Hp} {σ : L2.St} {e : Ev} {A : List Addr} (h : Sls K bp H B σ e A) : ∀ {vs : List V} {ds : List PyData}, DpAll K B vs ds → Sls K bp H B (vs.map some ++ σ) (ds.map Sl.sh ++ e) A
  | _, _, .nil => h
  | _, _, .cons a t => .cons (as := []) (.sh a) (sls_sh h t)
theorem Rel.nil {W : Wd} {σ : L2.St} {H B : Hp} {e : Ev} (r : Rel K W σ H B e) : Rel K W [] H B [] := by
  obtain ⟨A, r⟩ := r
  exact ⟨[], .nil, List.nodup_nil, fun p hp => (by cases hp), r.bh, r.fr, r.new, r.tb⟩
theorem Rel.one {W : Wd} {σ : L2.St} {H B : Hp} {e : Ev} {o : Option V} {s : Sl} (r : Rel K W (o :: σ) H B (s :: e)) : Rel K W [o] H B [s] := by
  obtain ⟨A, r⟩ := r
  cases hs : r.sls with
  | @cons _ _ as bs _ _ h t =>
    refine ⟨as ++ [], .cons h .nil, ?_, fun p hp => r.out p ?_, r.bh, r.fr, r.new, r.tb⟩
    · rw [List.append_nil]
      exact (List.nodup_append.mp r.nd).1
    · rw [List.append_nil] at hp
      exact List.mem_append_left _ hp
theorem start_eq {N : List Str} {vs : List V} {n m : Nat} (hN : N.length = n + m) (hl : vs.length = n) : L2.start N vs = vs.map some ++ List.replicate m none := by
  unfold L2.start
  rw [hN, hl, Nat.add_sub_cancel_left]
section
variable {P : Program} {w : World} {mg : Str → Option Value} {base : Heap}
theorem okS {x qual : Str} {st : Stmt} {f : Addr} {fd : FuncData} {N ps : List Str} {k n m : Nat} {t : TS} {fb : Ev → Option Out} (hs : SS K [] t fb) (F : Fun K x qual st f fd) (S : FnScope N ps (defScope st)) (hN : N.length = n + m) (hp : ps.length = n)
    (hb : ∀ (cdv : Value) (A : Around) (outer : List Env) (s : Shared) (H : Hp) (E : XK), Room k (A.deeper (envOfC qual (defScope st) s.heap.objs.size f cdv)) → PSs (cxOf CX0 P w K mg base N qual (defScope st) f cdv A outer s H E).nox (defBody st) t) :
    FnOk P w K mg base CX0 (k + 1) f fd ps (spS K (fnS n m fb)) := by
  refine F.ok S (fun vs H Q E h => ?_) (fun cdv A outer s H vs Q E hr h => ?_)
  · obtain ⟨B, ds, sl, _, h2, h3, _⟩ := h
    unfold fnS at h3
    by_cases c : ds.length = n
    · rw [dpAll_len h2, hp, c]
    · rw [if_neg c] at h3
      cases h3
  · refine ⟨t, hb cdv A outer s H E hr, ?_⟩
    obtain ⟨B, ds, sl, bh, h2, h3, q⟩ := h
    unfold fnS at h3
    by_cases c : ds.length = n
    · rw [if_pos c] at h3
      rw [start_eq hN (by rw [dpAll_len h2]; exact c)]
      cases h4 : fb (ds.map Sl.sh ++ List.replicate m .un) with
      | none => rw [h4] at h3; cases h3
      | some o =>
        rw [h4] at h3
        refine hs ⟨H, B, none, []⟩ rfl _ _ H B _ o h4 ⟨[], sls_sh (sls_un m) h2, List.nodup_nil, fun p hp => (by cases hp), bh, Same.refl H, fun b _ h => h, fun x hx => by cases hx⟩ (fun e' σ' H' B' he sb r => ?_) (fun s' e' v σ' H' B' he sb r => ?_)
        · subst he
          cases h3
          exact q _ H' B' sb (r.nil.cons .non)
        · subst he
          cases h3
          exact q v H' B' sb r.one
    · rw [if_neg c] at h3
      cases h3
end
/-! ### a call -/
theorem Rel.join {W : Wd} {σ : L2.St} {H B H' B' : Hp} {e : Ev} {v : V} {s : Sl} (r : Rel K W σ H B e) (sb : Same B B') (r' : Rel K ⟨H, B, none, []⟩ [some v] H' B' [s]) : Rel K W (some v :: σ) H' B' (s :: e) := by
  obtain ⟨A, r⟩ := r
  obtain ⟨A', r'⟩ := r'
  have x : Ext H B H' B' := ⟨r'.fr, sb, r'.bh, r'.new⟩
  have r1 := r.ext x
  cases hs : r'.sls with
  | @cons _ _ as bs _ _ h t =>
    cases t with
    | nil =>
      have nA : ∀ p ∈ as, p ∉ A := fun p hp z => r.sls.held p z (r'.out p (List.mem_append_left _ hp)).2
      have h' : SlOk K W.bp H' B' (some v) s as := by
        cases h with
        | un => exact .un
        | sh d => exact .sh d
        | ow a b => exact .ow a b
        | bw a _ _ => cases a
        | ob a b => exact .ob a b
        | dc a b c => exact .dc a b c
        | dr a b c => exact .dr a b c
        | dd a b => exact .dd a b
        | di a b => exact .di a b
        | db a _ _ _ => cases a
        | st a => exact .st a
        | sb a _ => cases a
      refine ⟨as ++ A, .cons h' r1.sls, List.nodup_append.mpr ⟨(List.nodup_append.mp r'.nd).1, r.nd, fun x hx y hy z => nA x hx (by rw [z]; exact hy)⟩, fun p hp => ?_, r1.bh, r1.fr, r1.new, r1.tb⟩
      rcases List.mem_append.mp hp with z | z
      · have o := r'.out p (List.mem_append_left _ z)
        exact ⟨o.1, r.fr.free o.2⟩
      · exact r1.out p z
def xFn (F : List PyData → Option Sl) (fa : M (List PyData)) : M Sl := fun e => bnd (fa e) fun ds e1 => put (F ds) e1
theorem sx_fn {F : List PyData → Option Sl} {t : TA} {fa : M (List PyData)} (ha : SA K T t fa) : SX K T (tCall (spS K F) [] E0 t) (xFn F fa) := fun W hT σ H B e s e' Q hf r q => by
  obtain ⟨ds, e1, h1, h2⟩ := bnd_some hf
  obtain ⟨h3, rfl⟩ := put_some h2
  refine ha W hT σ H B e ds e' _ h1 r fun vs H1 B1 s1 r1 dv => ?_
  rw [List.append_nil]
  exact ⟨B1, ds, s, r1.bh, dv, h3, fun v H' B' sb r' => q v H' B' (s1.trans sb) (r1.join sb r')⟩
/-! ### a def that changes the list it is lent -/
def spB (K : PySem.W.Frag) (F : List PyData → List PyData → Option (Sl × List PyData)) : Sp := fun vs H Q _ => ∃ (B : Hp) (p : Addr) (xs : List V) (ds0 : List PyData) (vr : List V) (ds : List PyData) (s : Sl) (ds1 : List PyData), vs = .ref p :: vr ∧ H p = some (.lst xs) ∧ B p = none ∧ Same B H ∧
  DpAll K B xs ds0 ∧ DpAll K B vr ds ∧ F ds0 ds = some (s, ds1) ∧ ∀ v H' B', Same B B' → Rel K ⟨hide p H, B, some p, []⟩ [some v, some (.ref p)] H' B' [s, .bw ds1] → Q v H'
def lentOf (s : Sl) : Option Sl → Option (Sl × List PyData)
  | some (.bw d) => some (s, d)
  | _ => none
def fnB (n m : Nat) (f : Ev → Option Out) : List PyData → List PyData → Option (Sl × List PyData) := fun ds0 ds => if ds.length = n then (match f (.bw ds0 :: (ds.map Sl.sh ++ List.replicate m .un)) with
  | none => none
  | some (.nx e) => lentOf (.sh .none) e[0]?
  | some (.rt s e) => lentOf s e[0]?) else none
theorem Rel.two {W : Wd} {σ : L2.St} {H B : Hp} {e : Ev} {o : Option V} {s : Sl} {d : List PyData} {p : Addr} (r : Rel K W (o :: σ) H B (s :: e)) (hp : W.bp = some p) (h : e[0]? = some (.bw d)) : Rel K W [o, some (.ref p)] H B [s, .bw d] := by
  obtain ⟨A, r⟩ := r
  cases hs : r.sls with
  | @cons _ _ as bs _ _ h1 t =>
    cases t with
    | nil => cases h
    | @cons _ _ cs fs _ _ h2 t2 =>
      cases h
      cases h2 with
      | @bw p' xs _ eb a b =>
        rw [hp] at eb
        cases eb
        obtain ⟨n1, n2, n3⟩ := List.nodup_append.mp r.nd
        refine ⟨as ++ ([p] ++ []), .cons h1 (.cons (.bw hp a b) .nil), List.nodup_append.mpr ⟨n1, by simp, fun x hx y hy z => ?_⟩, fun q hq => r.out q ?_, r.bh, r.fr, r.new, r.tb⟩
        · exact n3 x hx y (List.mem_append_left _ hy) z
        · rcases List.mem_append.mp hq with z | z
          · exact List.mem_append_left _ z
          · exact List.mem_append_right _ (List.mem_append_left _ z)
section
variable {P : Program} {w : World} {mg : Str → Option Value} {base : Heap}
theorem okB {x qual : Str} {st : Stmt} {f : Addr} {fd : FuncData} {N ps : List Str} {k n m : Nat} {t : TS} {fb : Ev → Option Out} (hs : SS K [] t fb) (F : Fun K x qual st f fd) (S : FnScope N ps (defScope st)) (hN : N.length = n + 1 + m) (hp : ps.length = n + 1)
    (hb : ∀ (cdv : Value) (A : Around) (outer : List Env) (s : Shared) (H : Hp) (E : XK), Room k (A.deeper (envOfC qual (defScope st) s.heap.objs.size f cdv)) → PSs (cxOf CX0 P w K mg base N qual (defScope st) f cdv A outer s H E).nox (defBody st) t) :
    FnOk P w K mg base CX0 (k + 1) f fd ps (spB K (fnB n m fb)) := by
  have cut : ∀ {ds0 ds : List PyData} {r : Sl × List PyData}, fnB n m fb ds0 ds = some r → ds.length = n := fun {ds0 ds r} h => by
    unfold fnB at h
    by_cases c : ds.length = n
    · exact c
    · rw [if_neg c] at h
      cases h
  refine F.ok S (fun vs H Q E h => ?_) (fun cdv A outer s H vs Q E hr h => ?_)
  · obtain ⟨B, p, xs, ds0, vr, ds, sl, ds1, rfl, h1, h2, h3, h4, h5, h6, _⟩ := h
    rw [List.length_cons, dpAll_len h5, hp, cut h6]
  · refine ⟨t, hb cdv A outer s H E hr, ?_⟩
    obtain ⟨B, p, xs, ds0, vr, ds, sl, ds1, rfl, h1, h2, bh, h4, h5, h6, q⟩ := h
    have c := cut h6
    have hv : vr.length = n := by rw [dpAll_len h5]; exact c
    unfold fnB at h6
    rw [if_pos c] at h6
    have es : L2.start N (.ref p :: vr) = some (.ref p) :: (vr.map some ++ List.replicate m none) := by
      rw [start_eq hN (by rw [List.length_cons, hv])]
      rfl
    rw [es]
    have r0 : Rel K ⟨hide p H, B, some p, []⟩ (some (.ref p) :: (vr.map some ++ List.replicate m none)) H B (.bw ds0 :: (ds.map Sl.sh ++ List.replicate m .un)) := by
      refine ⟨[p] ++ [], .cons (.bw rfl h1 h4) (sls_sh (sls_un m) h5), by simp, fun q hq => ?_, bh, fun b o hb => ?_, fun b _ h => h, fun x hx => by cases hx⟩
      · have : q = p := by simpa using hq
        rw [this]
        exact ⟨h2, hide_at⟩
      · by_cases c : b = p
        · have hb : hide p H b = some o := hb
          rw [c, hide_at] at hb
          cases hb
        · have hb : hide p H b = some o := hb
          rw [hide_ne c] at hb
          exact hb
    cases h7 : fb (.bw ds0 :: (ds.map Sl.sh ++ List.replicate m .un)) with
    | none => rw [h7] at h6; cases h6
    | some o =>
      rw [h7] at h6
      refine hs ⟨hide p H, B, some p, []⟩ rfl _ _ H B _ o h7 r0 (fun e' σ' H' B' he sb r => ?_) (fun s' e' v σ' H' B' he sb r => ?_)
      · subst he
        have h6 : lentOf (.sh .none) e'[0]? = some (sl, ds1) := h6
        cases h8 : e'[0]? with
        | none => rw [h8] at h6; cases h6
        | some s8 =>
          rw [h8] at h6
          cases s8 with
          | bw d =>
            cases h6
            exact q _ H' B' sb ((r.cons (d := .none) .non).two rfl h8)
          | un => cases h6
          | sh _ => cases h6
          | ow _ => cases h6
          | ob _ => cases h6
          | dc _ => cases h6
          | dr _ => cases h6
          | dd _ => cases h6
          | di _ => cases h6
          | db _ => cases h6
          | st _ _ => cases h6
          | sb _ _ => cases h6
      · subst he
        have h6 : lentOf s' e'[0]? = some (sl, ds1) := h6
        cases h8 : e'[0]? with
        | none => rw [h8] at h6; cases h6
        | some s8 =>
          rw [h8] at h6
          cases s8 with
          | bw d =>
            cases h6
            exact q v H' B' sb (r.two rfl h8)
          | un => cases h6
          | sh _ => cases h6
          | ow _ => cases h6
          | ob _ => cases h6
          | dc _ => cases h6
          | dr _ => cases h6
          | dd _ => cases h6
          | di _ => cases h6
          | db _ => cases h6
          | st _ _ => cases h6
          | sb _ _ => cases h6
end
theorem Rel.ownB {W : Wd} {σ : L2.St} {H B : Hp} {e : Ev} {i : Nat} {ds : List PyData} (r : Rel K W σ H B e) (h : ownOf e[i]? = some ds) : ∃ p xs, σ[i]? = some (some (.ref p)) ∧ H p = some (.lst xs) ∧ DpAll K B xs ds ∧ B p = none ∧
    ∀ v s ds' H' B', Same B B' → Rel K ⟨hide p H, B, some p, []⟩ [some v, some (.ref p)] H' B' [s, .bw ds'] → Rel K W (some v :: σ) H' B' (s :: setOwn e i ds') := by
  obtain ⟨A, r⟩ := r
  cases h0 : e[i]? with
  | none => rw [h0] at h; cases h
  | some s0 =>
    rw [h0] at h
    obtain ⟨o, bs, cs, h1, h2, h3, h4, h5⟩ := r.sls.out r.nd h0
    -- the place, and what the slot is put back as
    have main : ∀ (p : Addr) (xs : List V) (mk : List PyData → Sl), bs = [p] → o = some (.ref p) → H p = some (.lst xs) → DpAll K B xs ds → (∀ ds', setOwn e i ds' = e.set i (mk ds')) → (∀ H' B' ys ds', H' p = some (.lst ys) → DpAll K B' ys ds' → SlOk K W.bp H' B' (some (.ref p)) (mk ds') [p]) →
        ∃ p xs, σ[i]? = some (some (.ref p)) ∧ H p = some (.lst xs) ∧ DpAll K B xs ds ∧ B p = none ∧ ∀ v s ds' H' B', Same B B' → Rel K ⟨hide p H, B, some p, []⟩ [some v, some (.ref p)] H' B' [s, .bw ds'] → Rel K W (some v :: σ) H' B' (s :: setOwn e i ds') := by
      intro p xs mk eb eo a b hm hmk
      subst eb eo
      obtain ⟨k1, k2, k3⟩ := List.nodup_append.mp h4
      have hp : p ∈ A := h5 p (List.mem_append_left _ List.mem_cons_self)
      have ne : ∀ q ∈ cs, q ≠ p := fun q hq z => k3 p List.mem_cons_self q hq z.symm
      refine ⟨p, xs, h1, a, b, (r.out p hp).1, fun v s ds' H' B' sb r' => ?_⟩
      obtain ⟨A', r'⟩ := r'
      cases hs : r'.sls with
      | @cons _ _ as _ _ _ g1 t =>
        cases t with
        | @cons _ _ cs2 _ _ _ g2 t2 =>
          cases t2 with
          | nil =>
            cases g2 with
            | @bw p' ys _ eb2 ga gb =>
              obtain ⟨n1, n2, n3⟩ := List.nodup_append.mp r'.nd
              have hm0 : p ∈ as ++ ([p] ++ []) := List.mem_append_right _ List.mem_cons_self
              have keep : ∀ q, q ≠ p → H q ≠ none → H' q = H q := fun q hq hn => by
                have := same_at r'.fr (p := q) (by show hide p H q ≠ none; rw [hide_ne hq]; exact hn)
                rw [this]
                exact hide_ne hq
              have nas : ∀ q ∈ as, q ≠ p := fun q hq z => n3 q hq p List.mem_cons_self z
              have fresh : ∀ q ∈ as, H q = none := fun q hq => by
                have o := (r'.out q (List.mem_append_left _ hq)).2
                have o : hide p H q = none := o
                rw [hide_ne (nas q hq)] at o
                exact o
              have g1' : SlOk K W.bp H' B' (some v) s as := by
                cases g1 with
                | un => exact .un
                | sh d => exact .sh d
                | ow a b => exact .ow a b
                | ob a b => exact .ob a b
                | dc a b c => exact .dc a b c
                | dr a b c => exact .dr a b c
                | dd a b => exact .dd a b
                | di a b => exact .di a b
                | db e1 _ _ _ =>
                  cases eb2
                  cases e1
                  exact absurd rfl (nas _ List.mem_cons_self)
                | st a => exact .st a
                | sb e1 _ =>
                  cases eb2
                  cases e1
                  exact absurd rfl (nas _ List.mem_cons_self)
                | bw e1 _ _ =>
                  cases eb2
                  cases e1
                  exact absurd rfl (nas _ List.mem_cons_self)
              have t0 : Sls K W.bp H' B' (σ.set i none) (e.set i .un) cs := h3.mono sb fun q hq => keep q (ne q hq) (h3.held q hq)
              obtain ⟨fs, f1, f2, f3⟩ := t0.set (hmk H' B' ys ds' ga gb) i
              rw [set_set', set_set', set_same h1] at f1
              rw [hm]
              have nfs : ∀ q ∈ fs, q ∈ A := fun q hq => by
                rcases f3 q hq with z | z
                · exact h5 q (List.mem_append_right _ z)
                · rw [List.mem_singleton.mp z]
                  exact hp
              refine ⟨as ++ fs, .cons g1' f1, List.nodup_append.mpr ⟨n1, f2 k2 (by simp) (fun q hq z => ne q z (List.mem_singleton.mp hq)), fun x hx y hy z => ?_⟩, fun q hq => ?_, r'.bh, fun b o hb => ?_, fun b hb1 hb2 => ?_, r.tb.mono (fun b ps hb => r'.fr b _ (by show hide p H b = _; rw [hide_ne (fun z => by rw [z, a] at hb; cases hb)]; exact hb)) sb fun b ps hb n => r'.new b (by show hide p H b ≠ none; rw [hide_ne (fun z => by rw [z, a] at hb; cases hb), hb]; exact fun z => by cases z) n⟩
              · exact r.sls.held y (nfs y hy) (by rw [← z]; exact fresh x hx)
              · rcases List.mem_append.mp hq with z | z
                · exact ⟨(r'.out q (List.mem_append_left _ z)).1, r.fr.free (fresh q z)⟩
                · refine ⟨?_, (r.out q (nfs q z)).2⟩
                  by_cases c : q = p
                  · rw [c]
                    exact (r'.out p hm0).1
                  · refine r'.new q ?_ (r.out q (nfs q z)).1
                    show hide p H q ≠ none
                    rw [hide_ne c]
                    exact r.sls.held q (nfs q z)
              · have c : b ≠ p := ne_of_none hb (r.out p hp).2
                refine r'.fr b o ?_
                show hide p H b = some o
                rw [hide_ne c]
                exact r.fr b o hb
              · have c : b ≠ p := fun z => hb1 (by rw [z]; exact (r.out p hp).2)
                refine r'.new b ?_ (r.new b hb1 hb2)
                show hide p H b ≠ none
                rw [hide_ne c]
                exact ne_none_of r.fr hb1
    cases s0 with
    | un => cases h
    | sh _ => cases h
    | ob _ => cases h
    | dc _ => cases h
    | dr _ => cases h
    | dd _ => cases h
    | di _ => cases h
    | db _ => cases h
    | st _ _ => cases h
    | sb _ _ => cases h
    | ow d =>
      cases h
      cases h2 with
      | @ow p xs _ a b => exact main p xs .ow rfl rfl a b (fun ds' => by unfold setOwn; rw [h0]) fun H' B' ys ds' q1 q2 => .ow q1 q2
    | bw d =>
      cases h
      cases h2 with
      | @bw p xs _ eb a b => exact main p xs .bw rfl rfl a b (fun ds' => by unfold setOwn; rw [h0]) fun H' B' ys ds' q1 q2 => .bw eb q1 q2
/-- f(xs, ..) where f changes xs, which slot i has -/
def xFnB (i : Nat) (F : List PyData → List PyData → Option (Sl × List PyData)) (fa : M (List PyData)) : M Sl := fun e => match ownOf e[i]? with
  | none => none
  | some _ => bnd (fa e) fun ds e1 => match ownOf e1[i]? with
    | none => none
    | some ds0 => match F ds0 ds with
      | none => none
      | some (s, ds1) => some (s, setOwn e1 i ds1)
theorem sx_fnB {i : Nat} {F : List PyData → List PyData → Option (Sl × List PyData)} {t : TA} {fa : M (List PyData)} (ha : SA K T t fa) : SX K T (tCall (spB K F) [] E0 (tCons (tVar i) t)) (xFnB i F fa) := fun W hT σ H B e s e' Q hf r q => by
  unfold xFnB at hf
  cases h0 : ownOf e[i]? with
  | none => rw [h0] at hf; cases hf
  | some ds00 =>
    rw [h0] at hf
    obtain ⟨ds, e1, h1, h2⟩ := bnd_some hf
    obtain ⟨p, xs, a1, a2, a3, _⟩ := r.own h0
    refine ⟨_, a1, ha W hT σ H B e ds e1 _ h1 r fun vs H1 B1 s1 r1 dv => ?_⟩
    cases h3 : ownOf e1[i]? with
    | none => rw [h3] at h2; cases h2
    | some ds0 =>
      rw [h3] at h2
      obtain ⟨p', ys, b1, b2, b3, b4, b5⟩ := r1.ownB h3
      rw [a1] at b1
      cases b1
      have h2 : (match F ds0 ds with | none => none | some (s, ds1) => some (s, setOwn e1 i ds1)) = some (s, e') := h2
      cases h4 : F ds0 ds with
      | none => rw [h4] at h2; cases h2
      | some z =>
        obtain ⟨s', ds1⟩ := z
        rw [h4] at h2
        cases h2
        rw [List.append_nil]
        exact ⟨B1, p, ys, ds0, vs, ds, s, ds1, rfl, b2, b4, r1.bh, b3, dv, h4, fun v H' B' sb r' => q v H' B' (s1.trans sb) (b5 v s ds1 H' B' sb r')⟩
end VL
end
section
set_option Elab.async false
set_option linter.all false
set_option maxRecDepth 100000
set_option maxHeartbeats 2000000
namespace VL
open PySem PySem.Spec PyProof.Rows L2 HT
variable {K : PySem.W.Frag} {T : List (Addr × Str)} {X : Cx}
/-! ### rules of values that the library has not -/
def rCatS (K : PySem.W.Frag) : R2 := fun x y H Q => ∃ l b xs zs, x = .ref l ∧ y = .ref b ∧ SqL K H l xs ∧ SqL K H b zs ∧ xs.length + zs.length ≤ sizeLine ∧ ∀ p, H p = none → Q (.ref p) (upd H p (.lst (xs ++ zs)))
theorem op_catS : OpR X (binaryOp .Add) (rCatS X.K) := by
  intro pins s σ H x y v u Q I rx ry h
  obtain ⟨l, b, xs, zs, rfl, rfl, hx, hz, hsz, q⟩ := h
  cases rx
  cases ry
  obtain ⟨its, r, ⟨⟨c1, d1, t1, s1⟩, n, e, ec, ed, et⟩, _⟩ := I.list hx
  obtain ⟨its2, r2, ⟨⟨c2, d2, t2, s2⟩, n2, e2, ec2, ed2, et2⟩, _⟩ := I.list hz
  simp only at ec ed et ec2 ed2 et2
  subst ec ed et ec2 ed2 et2
  have l1 := r.length
  have l2 := r2.length
  refine concat_meets ⟨_, e, rfl⟩ ⟨_, e2, rfl⟩ noFill_list_add seq_list_add PySem.F.slot_list_add PySem.F.entry_list_add (PySem.F.args_list_add_2 _ _) (list_addW l b its.toArray its2.toArray n n2 none none s1 s2 (by rw [List.size_toArray, List.size_toArray]; omega)) ⟨e, e2, ?_⟩
  rw [show its.toArray ++ its2.toArray = (its ++ its2).toArray by simp]
  exact ⟨.ref _, _, I.lnew (t' := s.toks) (r.append r2) (by rw [List.length_append]; omega), rfl, q _ I.fresh⟩
/-- x in a tuple of data -/
def rInT (K : PySem.W.Frag) (neg : Bool) : R2 := fun x y H Q => ∃ d ds, Dp K H x d ∧ Dp K H y (.tuple ds) ∧ SeqAt.shaped d = true ∧ SeqAt.shaped (.tuple ds) = true ∧ Q (.bl (xor neg (ds.any fun z => PyData.eqv z d))) H
theorem op_inTD (hu : X.A.units + 65 < cLine) : OpR X (compareOp .In) (rInT X.K false) := by
  intro pins s σ H x y v u Q I rx ry h
  obtain ⟨d, ds, hd, he, sd, se, q⟩ := h
  obtain ⟨as, r1⟩ := Dp.reads I d x v hd rx
  obtain ⟨bs, r2⟩ := Dp.reads I (.tuple ds) y u he ry
  exact SeqAt.in_tuple_reads r2 r1 (SeqAt.canLay_of_shaped se) (SeqAt.canLay_of_shaped sd) (room_in_shaped sd hu) ⟨.bl _, H, I, rfl, by rw [Bool.false_xor] at q; exact q⟩
theorem op_notInTD (hu : X.A.units + 65 < cLine) : OpR X (compareOp .NotIn) (rInT X.K true) := by
  intro pins s σ H x y v u Q I rx ry h
  obtain ⟨d, ds, hd, he, sd, se, q⟩ := h
  obtain ⟨as, r1⟩ := Dp.reads I d x v hd rx
  obtain ⟨bs, r2⟩ := Dp.reads I (.tuple ds) y u he ry
  exact SeqAt.notIn_tuple_reads r2 r1 (SeqAt.canLay_of_shaped se) (SeqAt.canLay_of_shaped sd) (room_in_shaped sd hu) ⟨.bl _, H, I, rfl, by rw [Bool.true_xor] at q; exact q⟩
/-! ### == and its like -/
def pEq (a b : PyData) : Option PyData := if SeqAt.shaped a = true ∧ SeqAt.shaped b = true then some (.bool (PyData.eqv a b)) else none
def pNe (a b : PyData) : Option PyData := if SeqAt.shaped a = true ∧ SeqAt.shaped b = true then some (.bool (!PyData.eqv a b)) else none
theorem sr_eq : SR2 K (rEqD K) pEq := fun H B x y a b d Q bh ha hb h q => by
  unfold pEq at h
  by_cases c : SeqAt.shaped a = true ∧ SeqAt.shaped b = true
  · rw [if_pos c] at h
    cases h
    exact ⟨a, b, dp_mono bh ha, dp_mono bh hb, c.1, c.2, q _ H B (Ext.refl bh) (.bl _)⟩
  · rw [if_neg c] at h
    cases h
theorem sr_ne : SR2 K (rNeD K) pNe := fun H B x y a b d Q bh ha hb h q => by
  unfold pNe at h
  by_cases c : SeqAt.shaped a = true ∧ SeqAt.shaped b = true
  · rw [if_pos c] at h
    cases h
    exact ⟨a, b, dp_mono bh ha, dp_mono bh hb, c.1, c.2, q _ H B (Ext.refl bh) (.bl _)⟩
  · rw [if_neg c] at h
    cases h
/-! ### whole numbers -/
def pInt (C : Int → Int → Bool) (g : Int → Int → PyData) (a b : PyData) : Option PyData := match a, b with
  | .int i, .int j => if C i j = true then some (g i j) else none
  | _, _ => none
theorem pInt_some {C : Int → Int → Bool} {g : Int → Int → PyData} {a b d : PyData} (h : pInt C g a b = some d) : ∃ i j, a = .int i ∧ b = .int j ∧ C i j = true ∧ d = g i j := by
  unfold pInt at h
  split at h
  · rename_i i j
    by_cases c : C i j = true
    · rw [if_pos c] at h
      cases h
      exact ⟨_, _, rfl, rfl, c, rfl⟩
    · rw [if_neg c] at h
      cases h
  · cases h
def yes2 (_ _ : Int) : Bool := true
theorem sr_I0 {g : Int → Int → V} {g' : Int → Int → PyData} (hg : ∀ i j B, Dp K B (g i j) (g' i j)) : SR2 K (rI0 g) (pInt yes2 g') := fun H B x y a b d Q bh ha hb h q => by
  obtain ⟨i, j, rfl, rfl, _, rfl⟩ := pInt_some h
  exact ⟨i, j, dp_int ha, dp_int hb, q _ H B (Ext.refl bh) (hg i j B)⟩
theorem sr_I {C : Int → Int → Prop} {Cb : Int → Int → Bool} {g : Int → Int → V} {g' : Int → Int → PyData} (hC : ∀ i j, Cb i j = true → C i j) (hg : ∀ i j B, Dp K B (g i j) (g' i j)) : SR2 K (rI C g) (pInt Cb g') := fun H B x y a b d Q bh ha hb h q => by
  obtain ⟨i, j, rfl, rfl, c, rfl⟩ := pInt_some h
  exact ⟨i, j, dp_int ha, dp_int hb, hC i j c, q _ H B (Ext.refl bh) (hg i j B)⟩
def pSub := pInt yes2 fun i j => .int (i - j)
theorem sr_sub : SR2 K (rI0 fun i j => .int (i - j)) pSub := sr_I0 fun i j B => .int _
def pLe := pInt yes2 fun i j => .bool (decide (i ≤ j))
theorem sr_le : SR2 K (rI0 fun i j => .bl (decide (i ≤ j))) pLe := sr_I0 fun i j B => .bl _
def pGt := pInt yes2 fun i j => .bool (decide (j < i))
theorem sr_gt : SR2 K (rI0 fun i j => .bl (decide (j < i))) pGt := sr_I0 fun i j B => .bl _
def pGe := pInt yes2 fun i j => .bool (decide (j ≤ i))
theorem sr_ge : SR2 K (rI0 fun i j => .bl (decide (j ≤ i))) pGe := sr_I0 fun i j B => .bl _
def bMul (i j : Int) : Bool := Nat.blt i.natAbs 18446744073709551616 || Nat.blt j.natAbs 18446744073709551616
theorem bMul_ok {i j : Int} (h : bMul i j = true) : CMul i j := by
  unfold bMul at h
  rcases Bool.or_eq_true _ _ |>.mp h with h | h
  · have := Nat.blt_eq.mp h
    exact .inl ⟨by omega, by omega⟩
  · have := Nat.blt_eq.mp h
    exact .inr ⟨by omega, by omega⟩
def pMul := pInt bMul fun i j => .int (i * j)
theorem sr_mul : SR2 K (rI CMul fun i j => .int (i * j)) pMul := sr_I (fun i j => bMul_ok) fun i j B => .int _
def bDiv (i j : Int) : Bool := decide (0 < j) && decide (j < 1073741824)
theorem bDiv_ok {i j : Int} (h : bDiv i j = true) : CDiv i j := by
  unfold bDiv at h
  rw [Bool.and_eq_true, decide_eq_true_eq, decide_eq_true_eq] at h
  exact h
def pFdiv := pInt bDiv fun i j => .int (i / j)
theorem sr_fdiv : SR2 K (rI CDiv fun i j => .int (i / j)) pFdiv := sr_I (fun i j => bDiv_ok) fun i j B => .int _
def bMod (i j : Int) : Bool := decide (0 < j)
def pMod := pInt bMod fun i j => .int (i % j)
theorem sr_mod : SR2 K (rI (fun _ j => 0 < j) fun i j => .int (i % j)) pMod := sr_I (fun i j h => of_decide_eq_true h) fun i j B => .int _
def bPow (i j : Int) : Bool := decide (0 ≤ j) && decide (j ≤ 1000000) && Nat.blt i.natAbs 18446744073709551616
theorem bPow_ok {i j : Int} (h : bPow i j = true) : CPow i j := by
  unfold bPow at h
  rw [Bool.and_eq_true, Bool.and_eq_true, decide_eq_true_eq, decide_eq_true_eq] at h
  exact ⟨h.1.1, h.1.2, Nat.blt_eq.mp h.2⟩
def pPow := pInt bPow fun i j => .int (i ^ j.toNat)
theorem sr_pow : SR2 K (rI CPow fun i j => .int (i ^ j.toNat)) pPow := sr_I (fun i j => bPow_ok) fun i j B => .int _
def pNeg : PyData → Option PyData
  | .int i => some (.int (-i))
  | _ => none
theorem sr_neg : SR1 K (rU fun i => .int (-i)) pNeg := fun H B x a d Q bh ha h q => by
  cases a with
  | int i =>
    cases h
    exact ⟨i, dp_int ha, q _ H B (Ext.refl bh) (.int _)⟩
  | none => cases h
  | bool _ => cases h
  | str _ => cases h
  | list _ => cases h
  | tuple _ => cases h
  | dict _ => cases h
/-! ### order of whole numbers, and of tuples of them -/
def intsOf : List PyData → Option (List Int)
  | [] => some []
  | .int i :: r => match intsOf r with
    | none => none
    | some ns => some (i :: ns)
  | _ :: _ => none
theorem intsOf_some : ∀ {ds : List PyData} {ns : List Int}, intsOf ds = some ns → ds = ns.map PyData.int
  | [], ns, h => by
    cases Option.some.inj h
    rfl
  | .int i :: r, ns, h => by
    unfold intsOf at h
    cases e : intsOf r with
    | none => rw [e] at h; cases h
    | some m =>
      rw [e] at h
      cases h
      rw [intsOf_some e]
      rfl
  | .none :: _, _, h => by cases h
  | .bool _ :: _, _, h => by cases h
  | .str _ :: _, _, h => by cases h
  | .list _ :: _, _, h => by cases h
  | .tuple _ :: _, _, h => by cases h
  | .dict _ :: _, _, h => by cases h
def pLt (a b : PyData) : Option PyData := match a, b with
  | .int i, .int j => some (.bool (decide (i < j)))
  | .tuple xs, .tuple ys => match intsOf xs, intsOf ys with
    | some ns, some ms => some (.bool (lexLt ns ms))
    | _, _ => none
  | _, _ => none
def rLtA (K : PySem.W.Frag) : R2 := fun x y H Q => rI0 (fun i j => .bl (decide (i < j))) x y H Q ∨ rLtT K x y H Q
theorem op_ltA (hu : X.A.units < cLine) : OpR X (compareOp .Lt) (rLtA X.K) := op_lt.or (op_ltT hu)
theorem sr_lt : SR2 K (rLtA K) pLt := fun H B x y a b d Q bh ha hb h q => by
  unfold pLt at h
  split at h
  · cases h
    exact .inl ⟨_, _, dp_int ha, dp_int hb, q _ H B (Ext.refl bh) (.bl _)⟩
  · rename_i xs ys
    cases e1 : intsOf xs with
    | none => simp only [e1] at h; cases h
    | some ns =>
      cases e2 : intsOf ys with
      | none => simp only [e1, e2] at h; cases h
      | some ms =>
        simp only [e1, e2] at h
        cases h
        rw [intsOf_some e1] at ha
        rw [intsOf_some e2] at hb
        obtain ⟨p, us, rfl, h1, h2⟩ := dp_tup ha
        obtain ⟨p', ws, rfl, h3, h4⟩ := dp_tup hb
        rw [dpAll_ints h2] at h1
        rw [dpAll_ints h4] at h3
        exact .inr ⟨p, p', ns, ms, rfl, rfl, seqT bh h1, seqT bh h3, q _ H B (Ext.refl bh) (.bl _)⟩
  · cases h
/-! ### in -/
def pIn (neg : Bool) (a b : PyData) : Option PyData := match b with
  | .list ds => if SeqAt.shaped a = true ∧ SeqAt.shaped (.list ds) = true then some (.bool (xor neg (ds.any fun z => PyData.eqv z a))) else none
  | .tuple ds => if SeqAt.shaped a = true ∧ SeqAt.shaped (.tuple ds) = true then some (.bool (xor neg (ds.any fun z => PyData.eqv z a))) else none
  | _ => none
def rInA (K : PySem.W.Frag) : R2 := fun x y H Q => rInD K x y H Q ∨ rInT K false x y H Q
def rNotInA (K : PySem.W.Frag) : R2 := fun x y H Q => rNotInD K x y H Q ∨ rInT K true x y H Q
theorem op_inA (hu : X.A.units + 65 < cLine) : OpR X (compareOp .In) (rInA X.K) := (op_inD hu).or (op_inTD hu)
theorem op_notInA (hu : X.A.units + 65 < cLine) : OpR X (compareOp .NotIn) (rNotInA X.K) := (op_notInD hu).or (op_notInTD hu)
theorem pIn_some {neg : Bool} {a b d : PyData} (h : pIn neg a b = some d) : ∃ ds, (b = .list ds ∧ SeqAt.shaped (.list ds) = true ∨ b = .tuple ds ∧ SeqAt.shaped (.tuple ds) = true) ∧ SeqAt.shaped a = true ∧ d = .bool (xor neg (ds.any fun z => PyData.eqv z a)) := by
  cases b with
  | list ds =>
    unfold pIn at h
    by_cases c : SeqAt.shaped a = true ∧ SeqAt.shaped (.list ds) = true
    · simp only [if_pos c] at h
      cases h
      exact ⟨ds, .inl ⟨rfl, c.2⟩, c.1, rfl⟩
    · simp only [if_neg c] at h
      cases h
  | tuple ds =>
    unfold pIn at h
    by_cases c : SeqAt.shaped a = true ∧ SeqAt.shaped (.tuple ds) = true
    · simp only [if_pos c] at h
      cases h
      exact ⟨ds, .inr ⟨rfl, c.2⟩, c.1, rfl⟩
    · simp only [if_neg c] at h
      cases h
  | none => cases h
  | bool _ => cases h
  | int _ => cases h
  | str _ => cases h
  | dict _ => cases h
theorem sr_in : SR2 K (rInA K) (pIn false) := fun H B x y a b d Q bh ha hb h q => by
  obtain ⟨ds, hb', sa, rfl⟩ := pIn_some h
  have q' := q _ H B (Ext.refl bh) (.bl _)
  rcases hb' with ⟨rfl, sb⟩ | ⟨rfl, sb⟩
  · refine .inl ⟨a, ds, dp_mono bh ha, dp_mono bh hb, sa, sb, ?_⟩
    rw [Bool.false_xor] at q'
    exact q'
  · exact .inr ⟨a, ds, dp_mono bh ha, dp_mono bh hb, sa, sb, q'⟩
theorem sr_notIn : SR2 K (rNotInA K) (pIn true) := fun H B x y a b d Q bh ha hb h q => by
  obtain ⟨ds, hb', sa, rfl⟩ := pIn_some h
  have q' := q _ H B (Ext.refl bh) (.bl _)
  rcases hb' with ⟨rfl, sb⟩ | ⟨rfl, sb⟩
  · refine .inl ⟨a, ds, dp_mono bh ha, dp_mono bh hb, sa, sb, ?_⟩
    rw [Bool.true_xor] at q'
    exact q'
  · exact .inr ⟨a, ds, dp_mono bh ha, dp_mono bh hb, sa, sb, q'⟩
/-! ### is None, is True -/
def isN : PyData → Bool
  | .none => true
  | _ => false
def pIs (neg : Bool) (a b : PyData) : Option PyData := match b with
  | .none => some (.bool (xor neg (isN a)))
  | .bool c => match a with
    | .bool k => some (.bool (xor neg (decide (k = c))))
    | _ => none
  | _ => none
def rIsA : R2 := fun x y H Q => (y = .non ∧ Q (.bl (decide (x = .non))) H) ∨ rIsB x y H Q
def rNotA : R2 := fun x y H Q => (y = .non ∧ Q (.bl (!decide (x = .non))) H) ∨ rNotB x y H Q
theorem op_isA : OpR X (compareOp .Is) rIsA := op_isN.or op_isBl
theorem op_isnotA : OpR X (compareOp .IsNot) rNotA := op_notN.or op_notBl
theorem dp_isN {H : Hp} {v : V} {d : PyData} (h : Dp K H v d) : decide (v = .non) = isN d := by
  cases h with
  | non => rfl
  | bl _ => rfl
  | int _ => rfl
  | str _ => rfl
  | lst _ _ => rfl
  | tup _ _ => rfl
  | dct _ _ _ => rfl
theorem sr_is : SR2 K rIsA (pIs false) := fun H B x y a b d Q bh ha hb h q => by
  cases b with
  | none =>
    cases h
    have q' := q _ H B (Ext.refl bh) (.bl _)
    rw [Bool.false_xor, ← dp_isN ha] at q'
    exact .inl ⟨dp_non hb, q'⟩
  | bool c =>
    cases a with
    | bool k =>
      cases h
      have q' := q _ H B (Ext.refl bh) (.bl _)
      rw [Bool.false_xor] at q'
      exact .inr ⟨k, c, dp_bl ha, dp_bl hb, q'⟩
    | none => cases h
    | int _ => cases h
    | str _ => cases h
    | list _ => cases h
    | tuple _ => cases h
    | dict _ => cases h
  | int _ => cases h
  | str _ => cases h
  | list _ => cases h
  | tuple _ => cases h
  | dict _ => cases h
theorem sr_isnot : SR2 K rNotA (pIs true) := fun H B x y a b d Q bh ha hb h q => by
  cases b with
  | none =>
    cases h
    have q' := q _ H B (Ext.refl bh) (.bl _)
    rw [Bool.true_xor, ← dp_isN ha] at q'
    exact .inl ⟨dp_non hb, q'⟩
  | bool c =>
    cases a with
    | bool k =>
      cases h
      have q' := q _ H B (Ext.refl bh) (.bl _)
      rw [Bool.true_xor] at q'
      exact .inr ⟨k, c, dp_bl ha, dp_bl hb, q'⟩
    | none => cases h
    | int _ => cases h
    | str _ => cases h
    | list _ => cases h
    | tuple _ => cases h
    | dict _ => cases h
  | int _ => cases h
  | str _ => cases h
  | list _ => cases h
  | tuple _ => cases h
  | dict _ => cases h
/-! ### subscripts -/
def pIx (a b : PyData) : Option PyData := match a, b with
  | .list ds, .int i => atI ds i
  | .tuple ds, .int i => atI ds i
  | _, _ => none
theorem sr_ix : SR2 K (rIx K) pIx := fun H B x y a b d Q bh ha hb h q => by
  unfold pIx at h
  split at h
  · obtain ⟨p, xs, rfl, h1, h2⟩ := dp_lst ha
    obtain ⟨v, e, dv⟩ := dpAll_atI h2 h
    exact .inl ⟨p, xs, _, v, rfl, dp_int hb, bh.seq h1, e, q v H B (Ext.refl bh) dv⟩
  · obtain ⟨p, xs, rfl, h1, h2⟩ := dp_tup ha
    obtain ⟨v, e, dv⟩ := dpAll_atI h2 h
    exact .inr (.inl ⟨p, xs, _, v, rfl, dp_int hb, seqT bh h1, e, q v H B (Ext.refl bh) dv⟩)
  · cases h
/-! ### what may be a list of its own -/
/-- an operator whose value is shared data or a new list -/
def SRs2 (K : PySem.W.Frag) (r : R2) (g : PyData → PyData → Option Sl) : Prop := ∀ (H B : Hp) (x y : V) (a b : PyData) (s : Sl) (Q : VK), Same B H → Dp K B x a → Dp K B y b → g a b = some s →
  (∀ d v H' B', s = .sh d → Ext H B H' B' → Dp K B' v d → Q v H') → (∀ ds p ys H1 B1, s = .ow ds → Ext H B H1 B1 → H1 p = none → DpAll K B1 ys ds → Q (.ref p) (upd H1 p (.lst ys))) → r x y H Q
def xOps (g : PyData → PyData → Option Sl) (fa fb : M PyData) : M Sl := fun e => bnd (fa e) fun a e1 => bnd (fb e1) fun b e2 => put (g a b) e2
theorem sx_ops {r : R2} {g : PyData → PyData → Option Sl} {ta tb : TE} {fa fb : M PyData} (hr : SRs2 K r g) (ha : SE K T ta fa) (hb : SE K T tb fb) : SX K T (tOp r ta tb) (xOps g fa fb) := fun W hT σ H B e s e' Q hf rl q => by
  obtain ⟨a, e1, h1, hf⟩ := bnd_some hf
  obtain ⟨b, e2, h2, hf⟩ := bnd_some hf
  obtain ⟨h3, rfl⟩ := put_some hf
  refine ha W hT σ H B e a e1 _ h1 rl fun x H1 B1 s1 r1 dx => ?_
  refine hb W hT σ H1 B1 e1 b e' _ h2 r1 fun y H2 B2 s2 r2 dy => ?_
  refine hr H2 B2 x y a b s Q r2.bh (dp_mono s2 dx) dy h3 (fun d v H' B' es x dv => ?_) (fun ds p ys H' B' es x hp dv => ?_)
  · subst es
    exact q v H' B' ((s1.trans s2).trans x.b) ((r2.ext x).cons dv)
  · subst es
    exact q _ _ B' ((s1.trans s2).trans x.b) ((r2.ext x).born hp dv)
def pAdd (a b : PyData) : Option Sl := match a, b with
  | .int i, .int j => some (.sh (.int (i + j)))
  | .tuple xs, .tuple ys => if sz (xs.length + ys.length) = true then some (.sh (.tuple (xs ++ ys))) else none
  | .list xs, .list ys => if sz (xs.length + ys.length) = true then some (.ow (xs ++ ys)) else none
  | _, _ => none
def rAddA (K : PySem.W.Frag) : R2 := fun x y H Q => rI0 (fun i j => .int (i + j)) x y H Q ∨ rCatA K x y H Q ∨ rCatS K x y H Q
theorem op_addA : OpR X (binaryOp .Add) (rAddA X.K) := op_add.or (op_catA.or op_catS)
theorem sr_add : SRs2 K (rAddA K) pAdd := fun H B x y a b s Q bh ha hb h q1 q2 => by
  unfold pAdd at h
  split at h
  · cases h
    exact .inl ⟨_, _, dp_int ha, dp_int hb, q1 _ _ H B rfl (Ext.refl bh) (.int _)⟩
  · rename_i xs ys
    by_cases c : sz (xs.length + ys.length) = true
    · rw [if_pos c] at h
      cases h
      obtain ⟨p, us, rfl, h1, h2⟩ := dp_tup ha
      obtain ⟨p', ws, rfl, h3, h4⟩ := dp_tup hb
      refine .inr (.inl ⟨p, p', us, ws, rfl, rfl, seqT bh h1, seqT bh h3, by rw [dpAll_len h2, dpAll_len h4]; exact sz_le c, fun e => ?_, fun _ e => ?_, fun _ _ r hr => ?_⟩)
      · subst e
        cases h2
        exact q1 _ _ H B rfl (Ext.refl bh) (.tup h3 h4)
      · subst e
        cases h4
        exact q1 _ _ H B rfl (Ext.refl bh) (.tup h1 (by rw [List.append_nil]; exact h2))
      · have x := Ext.new (o := .tup (us ++ ws)) bh hr
        exact q1 _ _ _ _ rfl x (.tup (SqT.of upd_same) (dpAll_mono x.b (dpAll_app h2 h4)))
    · rw [if_neg c] at h
      cases h
  · rename_i xs ys
    by_cases c : sz (xs.length + ys.length) = true
    · rw [if_pos c] at h
      cases h
      obtain ⟨p, us, rfl, h1, h2⟩ := dp_lst ha
      obtain ⟨p', ws, rfl, h3, h4⟩ := dp_lst hb
      exact .inr (.inr ⟨p, p', us, ws, rfl, rfl, bh.seq h1, bh.seq h3, by rw [dpAll_len h2, dpAll_len h4]; exact sz_le c, fun r hr => q2 _ r _ H B rfl (Ext.refl bh) hr (dpAll_app h2 h4)⟩)
    · rw [if_neg c] at h
      cases h
  · cases h
/-- [a, ..] * n -/
def xRep (fa : M (List PyData)) (fb : M PyData) : M Sl := fun e => bnd (xLst fa e) fun s e1 => bnd (fb e1) fun b e2 => match s, b with
  | .ow ds, .int n => if inR n = true ∧ sz (ds.length * n.toNat) = true then some (.ow (List.replicate n.toNat ds).flatten, e2) else none
  | _, _ => none
theorem dpAll_rep {H : Hp} {vs : List V} {ds : List PyData} (h : DpAll K H vs ds) : ∀ k : Nat, DpAll K H (List.replicate k vs).flatten (List.replicate k ds).flatten
  | 0 => .nil
  | k + 1 => by
    rw [List.replicate_succ, List.replicate_succ, List.flatten_cons, List.flatten_cons]
    exact dpAll_app h (dpAll_rep h k)
theorem sx_rep {ta : TA} {tb : TE} {fa : M (List PyData)} {fb : M PyData} (ha : SA K T ta fa) (hb : SE K T tb fb) : SX K T (tOp rRep (tLst ta) tb) (xRep fa fb) := fun W hT σ H B e s e' Q hf r q => by
  obtain ⟨s1, e1, h1, hf⟩ := bnd_some hf
  obtain ⟨b, e2, h2, hf⟩ := bnd_some hf
  refine sx_lst ha W hT σ H B e s1 e1 _ h1 r fun v H1 B1 sb1 r1 => ?_
  cases s1 with
  | ow ds =>
    cases b with
    | int n =>
      have hf : (if inR n = true ∧ sz (ds.length * n.toNat) = true then some (Sl.ow (List.replicate n.toNat ds).flatten, e2) else none) = some (s, e') := hf
      by_cases c : inR n = true ∧ sz (ds.length * n.toNat) = true
      · rw [if_pos c] at hf
        cases hf
        obtain ⟨p, xs, rfl, hp, hd, rp, back⟩ := r1.park
        refine hb (W.hold p (.lst xs)) hT σ H1 B1 e1 (.int n) _ _ h2 rp fun w H2 B2 sb2 r2 dw => ?_
        obtain ⟨r3, hp2⟩ := back σ H2 B2 _ sb2 r2
        obtain ⟨q1, q2⟩ := inR_of c.1
        refine ⟨p, n, xs, rfl, dp_int dw, hp2, by omega, by omega, by rw [dpAll_len hd]; exact sz_le c.2, fun l hl => ?_⟩
        exact q _ _ B2 (sb1.trans sb2) (r3.tail.born hl (dpAll_rep (dpAll_mono sb2 hd) _))
      · rw [if_neg c] at hf
        cases hf
    | none => cases hf
    | bool _ => cases hf
    | str _ => cases hf
    | list _ => cases hf
    | tuple _ => cases hf
    | dict _ => cases hf
  | un => cases b <;> cases hf
  | sh _ => cases b <;> cases hf
  | bw _ => cases b <;> cases hf
  | ob _ => cases b <;> cases hf
  | dc _ => cases b <;> cases hf
  | dr _ => cases b <;> cases hf
  | dd _ => cases b <;> cases hf
  | di _ => cases b <;> cases hf
  | db _ => cases b <;> cases hf
  | st _ _ => cases b <;> cases hf
  | sb _ _ => cases b <;> cases hf
/-! ### slices -/
def oNo : M (Option Int) := fun e => some (none, e)
def oSome (f : M PyData) : M (Option Int) := fun e => bnd (f e) fun d e1 => match d with
  | .int i => some (some i, e1)
  | _ => none
theorem so_no : SO K T tNoPart oNo := fun W hT σ H B e o e' Q hf r q => by
  cases hf
  exact q H B (Same.refl B) r
theorem so_some {t : TE} {f : M PyData} (h : SE K T t f) : SO K T (tPart t) (oSome f) := fun W hT σ H B e o e' Q hf r q => by
  obtain ⟨d, e1, h1, h2⟩ := bnd_some hf
  refine h W hT σ H B e d e1 _ h1 r fun v H' B' sb r' dv => ?_
  cases d with
  | int i =>
    cases h2
    exact ⟨i, dp_int dv, q H' B' sb r'⟩
  | none => cases h2
  | bool _ => cases h2
  | str _ => cases h2
  | list _ => cases h2
  | tuple _ => cases h2
  | dict _ => cases h2
def cutD (ds : List PyData) (lo hi : Option Int) : List PyData := (ds.drop (sIx ds.length 0 lo)).take (sIx ds.length ds.length hi - sIx ds.length 0 lo)
theorem dpAll_cut {H : Hp} {vs : List V} {ds : List PyData} {lo hi : Option Int} (h : DpAll K H vs ds) : DpAll K H (cutV vs lo hi) (cutD ds lo hi) := by
  unfold cutV cutD
  rw [dpAll_len h]
  exact dpAll_take _ (dpAll_drop _ h)
def pSl (d : PyData) (lo hi : Option Int) : Option Sl := match d with
  | .list ds => some (.ow (cutD ds lo hi))
  | .tuple ds => some (.sh (.tuple (cutD ds lo hi)))
  | _ => none
def rSlX (K : PySem.W.Frag) : V → Option Int → Option Int → Hp → VK → Prop := fun x lo hi H Q => rSlL K x lo hi H Q ∨ rSlA K x lo hi H Q
theorem sl_X : SlR X (rSlX X.K) := sl_list.or sl_tupA
def xSl (f : M PyData) (fl fh : M (Option Int)) : M Sl := fun e => bnd (f e) fun d e1 => bnd (fl e1) fun lo e2 => bnd (fh e2) fun hi e3 => put (pSl d lo hi) e3
theorem cutD_all {ds : List PyData} {lo hi : Option Int} (h : sIx ds.length 0 lo = 0 ∧ sIx ds.length ds.length hi = ds.length) : cutD ds lo hi = ds := by
  unfold cutD
  rw [h.1, h.2, List.drop_zero, Nat.sub_zero, List.take_length]
theorem sx_slice {t : TE} {tl th : TO} {f : M PyData} {fl fh : M (Option Int)} (h : SE K T t f) (hl : SO K T tl fl) (hh : SO K T th fh) : SX K T (tSl (rSlX K) t tl th) (xSl f fl fh) := fun W hT σ H B e s e' Q hf r q => by
  obtain ⟨d, e1, h1, hf⟩ := bnd_some hf
  obtain ⟨lo, e2, h2, hf⟩ := bnd_some hf
  obtain ⟨hi, e3, h3, hf⟩ := bnd_some hf
  obtain ⟨h4, rfl⟩ := put_some hf
  refine h W hT σ H B e d e1 _ h1 r fun v H1 B1 s1 r1 dv => ?_
  refine hl W hT σ H1 B1 e1 lo e2 _ h2 r1 fun H2 B2 s2 r2 => ?_
  refine hh W hT σ H2 B2 e2 hi e' _ h3 r2 fun H3 B3 s3 r3 => ?_
  have sb := (s1.trans s2).trans s3
  have dv := dp_mono (s2.trans s3) dv
  cases d with
  | list ds =>
    cases h4
    obtain ⟨a, xs, rfl, b1, b2⟩ := dp_lst dv
    exact .inl ⟨a, xs, rfl, r3.bh.seq b1, fun p hp => q _ _ B3 sb (r3.born hp (dpAll_cut b2))⟩
  | tuple ds =>
    cases h4
    obtain ⟨a, xs, rfl, b1, b2⟩ := dp_tup dv
    have hl := dpAll_len b2
    refine .inr ⟨a, xs, rfl, seqT r3.bh b1, fun c => ?_, fun _ p hp => ?_⟩
    · rw [hl] at c
      rw [cutD_all c] at q
      exact q _ H3 B3 sb (r3.cons (.tup b1 b2))
    · have x := Ext.new (o := .tup (cutV xs lo hi)) r3.bh hp
      exact q _ _ _ (sb.trans x.b) ((r3.ext x).cons (.tup (SqT.of upd_same) (dpAll_mono x.b (dpAll_cut b2))))
  | none => cases h4
  | bool _ => cases h4
  | int _ => cases h4
  | str _ => cases h4
  | dict _ => cases h4
/-! ### truth -/
theorem st_tru {t : TE} {f : M PyData} (h : SE K T t f) : ST K T (fun σ H Q => t σ H fun x H' => ∃ k, TruV K x H' k ∧ Q k H') (bTru f) := fun W hT σ H B e b e' Q hf r q => by
  obtain ⟨d, e1, h1, hf⟩ := bnd_some hf
  obtain ⟨h2, rfl⟩ := put_some hf
  refine h W hT σ H B e d e' _ h1 r fun v H' B' sb r' dv => ⟨b, ?_, q H' B' sb r'⟩
  cases dv with
  | non => cases h2; rfl
  | bl b => cases h2; rfl
  | int i => cases h2; rfl
  | str _ => cases h2
  | dct _ _ _ => cases h2
  | lst hs ha =>
    cases h2
    refine .inl ⟨_, r'.bh.seq hs, ?_⟩
    cases ha <;> rfl
  | tup hs ha =>
    cases h2
    refine .inr (.inl ⟨_, seqT r'.bh hs, ?_⟩)
    cases ha <;> rfl
def eOrT (fa fb : M PyData) : M PyData := fun e => bnd (fa e) fun a e1 => match pTru a with
  | none => none
  | some true => some (a, e1)
  | some false => fb e1
theorem truV {H B : Hp} {v : V} {d : PyData} {b : Bool} (dv : Dp K B v d) (bh : Same B H) (h2 : pTru d = some b) : TruV K v H b := by
  cases dv with
  | non => cases h2; rfl
  | bl b => cases h2; rfl
  | int i => cases h2; rfl
  | str _ => cases h2
  | dct _ _ _ => cases h2
  | lst hs ha =>
    cases h2
    refine .inl ⟨_, bh.seq hs, ?_⟩
    cases ha <;> rfl
  | tup hs ha =>
    cases h2
    refine .inr (.inl ⟨_, seqT bh hs, ?_⟩)
    cases ha <;> rfl
theorem se_orT {ta tb : TE} {fa fb : M PyData} (ha : SE K T ta fa) (hb : SE K T tb fb) : SE K T (tOrT K ta tb) (eOrT fa fb) := fun W hT σ H B e d e' Q hf r q => by
  obtain ⟨a, e1, h1, hf⟩ := bnd_some hf
  refine ha W hT σ H B e a e1 _ h1 r fun v H1 B1 s1 r1 dv => ?_
  cases h2 : pTru a with
  | none => rw [h2] at hf; cases hf
  | some k =>
    rw [h2] at hf
    refine ⟨k, truV dv r1.bh h2, ?_⟩
    cases k with
    | true =>
      cases hf
      exact q v H1 B1 s1 r1 dv
    | false => exact hb W hT σ H1 B1 e1 d e' Q hf r1 fun w H2 B2 s2 r2 => q w H2 B2 (s1.trans s2) r2
end VL
end
section
set_option Elab.async false
set_option linter.all false
set_option maxRecDepth 100000
set_option maxHeartbeats 2000000
namespace VL
open PySem PySem.Spec PyProof.Rows L2 HT RZ
open AutoSeq1 (wpAny_loadPart')
/-! ### enumerate(t), t a tuple -/
abbrev tupIt (t : Addr) : Obj := { cls := .type "tuple_iterator", data := .fields #[.ref t, .int 0 0] }
abbrev enumO (it : Addr) : Obj := { cls := .type "enumerate", data := .fields #[.none, .bool false, .ref it, rawInt 0, .none, .none] }
theorem enum_meets (t : Addr) (items : Array Value) (n : Nat) (dct : Option Addr) (sl : Array (Option Value)) : Meets (Builtin.«enumerate.__new__» ⟨[.type "enumerate", .ref t], []⟩) fun _ R s =>
    s.heap.get? t = some { cls := .type "tuple", dict := dct, data := .seq items n, slots := sl } ∧ R (.ok (.ret (.ref (s.heap.push (tupIt t)).objs.size))) { s with heap := (s.heap.push (tupIt t)).push (enumO s.heap.objs.size) } :=
  .of_wp fun prog w A R s h => by
    obtain ⟨hp, g, d, tk, os⟩ := s
    obtain ⟨hl, h⟩ := h
    have sub := sub_enumerate
    have hT : Heap.IsTuple (Shared.heap ⟨hp, g, d, tk, os⟩) t items := ⟨_, hl, rfl, n, rfl⟩
    wp_walk using wpAny_loadPart' hl
    refine wpAny_stack_any fun st => wpAny_pure ?_
    split
    · rename_i c _ _ _ _ _
      cases c == Value.type "enumerate" <;> (wp_walk using wpAny_loadPart' hl, wpAny_pyIter_tuple hT; exact ⟨_, rfl, h⟩)
    · wp_walk using wpAny_loadPart' hl, wpAny_pyIter_tuple hT
      exact ⟨_, rfl, h⟩
theorem call_enum {prog : Program} {w : World} {A : Around} {E : Value → Shared → Prop} {s : Shared} {t : Addr} {items : Array Value} {Q : Value → Shared → Prop} (ht : IsTup s.heap t items)
    (h : ∀ h', IsEnum h' (s.heap.objs.size + 1) s.heap.objs.size 0 .none → h'.IsTupleIter s.heap.objs.size t 0 → (∀ b o, s.heap.get? b = some o → h'.get? b = some o) → Q (.ref (s.heap.objs.size + 1)) { s with heap := h' }) :
    wpAny (model prog w) A (call (.type "enumerate") [.ref t]) Q E s := by
  obtain ⟨⟨c, dct, dt, sl⟩, hl, hc, n, hd⟩ := ht
  simp only at hc hd
  subst hc hd
  refine callType_new PySem.F.called_enumerate (by decide) (PySem.F.typeCall_enumerate_1 _) (PySem.F.newCall_enumerate_1 _) (fun obj => PySem.F.args_object_init_2 obj _) PySem.F.entry_enumerate_new (enum_meets t items n dct sl) ⟨hl, ?_⟩
  have hz : (s.heap.push (tupIt t)).objs.size = s.heap.objs.size + 1 := Heap.size_push ..
  have he : IsEnum ((s.heap.push (tupIt t)).push (enumO s.heap.objs.size)) (s.heap.objs.size + 1) s.heap.objs.size 0 .none := by
    have z := Heap.get?_push_size (s.heap.push (tupIt t)) (o := enumO s.heap.objs.size) rfl
    rw [hz] at z
    exact z
  show _ ∧ _
  rw [hz]
  exact ⟨⟨_, he, rfl⟩, h _ he ⟨_, Heap.get?_push_of_some _ (Heap.get?_push_size _ rfl), rfl, rfl⟩ fun b o x => Heap.get?_push_of_some _ (Heap.get?_push_of_some _ x)⟩
/-- the tuple at a, each item in a new pair with its place -/
def IteT (K : PySem.W.Frag) (a : Addr) : It where
  go := fun i H => ∃ (xs : List V) (x : V), SqT K H a xs ∧ xs[i]? = some x
  yld := fun i H v H' => ∃ T x, v = .ref T ∧ H T = none ∧ H' = upd H T (.tup [.int (i : Nat), x]) ∧ ∀ xs, SqT K H a xs → xs[i]? = some x
  stop := fun i H => ∃ xs : List V, SqT K H a xs ∧ xs.length = i
theorem turn_enumT {P : Program} {w : World} {K : PySem.W.Frag} {elts : List Expr} {kk : Nat} {tpos : Pos} (a e it : Addr) :
    Turn P w K (.Tuple elts kk tpos) (IteT K a) [e, it] e (fun i h => (∃ old, IsEnum h e it ((i : Nat) : Int) old) ∧ h.IsTupleIter it a i ∧ e ≠ it) where
  mem := List.mem_cons_self
  obj := fun i h st b hb => by
    obtain ⟨⟨old, he⟩, ⟨o, ho, hc, hd⟩, _⟩ := st
    rcases List.mem_cons.mp hb with z | z
    · rw [z]
      exact ⟨_, he, fun v q => nomatch q⟩
    · rw [List.mem_singleton.mp z]
      exact ⟨o, ho, fun v q => by rw [hd] at q; cases q⟩
  keep := fun i h h' st k => by
    obtain ⟨⟨old, he⟩, hi, hne⟩ := st
    exact ⟨⟨old, k e (by simp) _ he⟩, hi.at fun o q => k it (by simp) o q, hne⟩
  item := by
    intro X hP hw hK hc i pins s σ H E I hf st hg
    subst hP hw hK
    obtain ⟨⟨old, he⟩, hit, hne⟩ := st
    obtain ⟨xs, x, hq, hx⟩ := hg
    obtain ⟨its, rv, pt, hz⟩ := I.tuple hq
    obtain ⟨u, hu, ru⟩ := rv.get hx
    have hel := Heap.lt_size he
    obtain ⟨oi, hoi, hci, hdi⟩ := id hit
    have hil := Heap.lt_size hoi
    obtain ⟨ot, hot, hct, nt, hdt⟩ := id pt
    have nai : a ≠ it := fun z => by
      rw [z, hoi] at hot
      cases hot
      rw [hdi] at hdt
      cases hdt
    have nae : e ≠ a := fun z => by
      have he' : s.heap.get? a = some _ := z ▸ he
      rw [hot] at he'
      cases he'
      cases hdt
    have D := Draws.tuple (prog := X.prog) (w := X.w) (A := X.A.in1) (I.ok.hd hc) it a nai its.toArray
    have hlt : i < its.toArray.size := by
      have := (List.getElem?_eq_some_iff.mp hu).1
      simpa using this
    refine wpAny_pyNext_enum_itemD D he ⟨hit, pt⟩ hlt hne (by simp [hne, nae]) fun x' h' tk hP ho hst hT hsz hk => ?_
    have ex : x' = u := by
      have z : its.toArray[i]? = some x' := hP
      have z2 : its.toArray[i]? = some u := by simpa using hu
      exact Option.some.inj (z.symm.trans z2)
    subst ex
    refine ⟨_, rfl, wpAny_letOwnedTupleGo_enum (s := { s with heap := h', toks := tk + 1 }) ho fun h'' he' sb => ?_⟩
    have hT2 : h''.get? s.heap.objs.size = some { cls := .type "tuple", data := .seq #[.int i tk, x'] } := (sb.2 _ (Nat.ne_of_gt hel)).trans hT
    have new : ObjOk X.prog X.w (upd H s.heap.objs.size (.tup [.int (i : Nat), x])) h'' s.heap.objs.size (.tup [.int (i : Nat), x]) := ⟨by show 2 ≤ sizeLine; decide, [.int i tk, x'], .cons ⟨_, rfl⟩ (.cons ru .nil), _, hT2, rfl, _, rfl⟩
    have kp : ∀ b ob, b ∉ [e, it] → s.heap.get? b = some ob → h''.get? b = some ob := fun b ob hb q => by
      have n1 : b ≠ e := fun z => hb (by simp [z])
      have n2 : b ≠ it := fun z => hb (by simp [z])
      exact (sb.2 b n1).trans (hk b ob n1 n2 q)
    have J := I.turnedNew (ch := [e, it]) (t' := tk + 1) kp hf (Nat.le_refl _) new
    refine ⟨.ref s.heap.objs.size, _, J, rfl, ⟨_, x, rfl, I.hok.fresh (Nat.le_refl _), rfl, fun ys hy => by rw [I.tuple_inj hy hq]; exact hx⟩, ⟨⟨x', ?_⟩, hst.1.at fun o q => (sb.2 it (Ne.symm hne)).trans q, hne⟩, fun b hb => ?_⟩
    · rw [show ((i + 1 : Nat) : Int) = (i : Int) + 1 by omega]
      exact he'
    · have hb' : b < s.heap.objs.size := by
        rcases List.mem_cons.mp hb with z | z
        · rw [z]; exact hel
        · rw [List.mem_singleton.mp z]; exact hil
      rw [upd_ne (Nat.ne_of_lt hb')]
      exact (hf b hb).1
  done := by
    intro X hP hw hK hc i pins s σ H E I hf st hg
    subst hP hw hK
    obtain ⟨⟨old, he⟩, hit, hne⟩ := st
    obtain ⟨xs, hq, hx⟩ := hg
    obtain ⟨its, rv, pt, hz⟩ := I.tuple hq
    obtain ⟨f0, f1, f2, f3, f4, f5⟩ := hf it (by simp)
    obtain ⟨oi, hoi, hci, hdi⟩ := id hit
    obtain ⟨ot, hot, hct, nt, hdt⟩ := id pt
    have nai : a ≠ it := fun z => by
      rw [z, hoi] at hot
      cases hot
      rw [hdi] at hdt
      cases hdt
    have D := Draws.tuple (prog := X.prog) (w := X.w) (A := X.A.in1) (I.ok.hd hc) it a nai its.toArray
    have hi : i = its.toArray.size := by
      have := rv.length
      rw [List.size_toArray]
      omega
    subst hi
    exact wpAny_pyNext_enum_endD D he ⟨hit, pt⟩ fun h' eb => ⟨rfl, I.turned (t' := s.toks) (fun b o hb q => eb b o hb q) f0 f1 f3 f4 f5⟩
  self := fun A i s Q E st h => wpAny_pyIter_enum st.1.choose_spec h
def iEnumT (K : PySem.W.Frag) (ta : TA) : TI := fun σ H R => ta σ H fun vs H1 => ∃ a xs, vs = [.ref a] ∧ SqT K H1 a xs ∧ R (IteT K a) H1
theorem pi_enumT {X : Cx} {e : Expr} {ta : TA} {p pos tpos : Pos} {elts : List Expr} {kk : Nat} (hg : Gl X "enumerate") (hm : X.mg "enumerate" = none) (ha : PA X [e] ta) (hs : starEach [e] X.env = [(false, eval e X.env)] := by rfl) :
    PI X (.Tuple elts kk tpos) (.Call (.Name "enumerate" p) [e] [] pos) (iEnumT X.K ta) := by
  refine ⟨fun pins s σ H R I h => Call_ (ld_blt I hg hm boot_enumerate (PyProof.Rows.callWith_type1 (thn (ha.run pos pins s σ H _ I h) fun us s1 ⟨vs, H1, I1, r1, q1⟩ => ?_) hs rfl))⟩
  obtain ⟨a, xs, ex, hq, q⟩ := q1
  subst ex
  rw [Vals.ref1 r1]
  obtain ⟨its, rv, pt, hz⟩ := I1.tuple hq
  refine call_enum pt fun h' he hit hk => wpAny_pyIter_enum he ?_
  refine ⟨s1.heap.objs.size + 1, [s1.heap.objs.size + 1, s1.heap.objs.size], _, _, H1, rfl, I1.kept (t' := s1.toks) hk, turn_enumT a (s1.heap.objs.size + 1) s1.heap.objs.size, ⟨⟨.none, he⟩, hit, Nat.succ_ne_self _⟩, fun b hb => ?_, q⟩
  have hle : s1.heap.objs.size ≤ b := by
    rcases List.mem_cons.mp hb with z | z
    · rw [z]; exact Nat.le_add_right _ _
    · rw [List.mem_singleton.mp z]; exact Nat.le_refl _
  exact I1.fpOk hle (I1.hok.fresh hle)
/-! ### t[::-1] -/
section
variable {prog : Program} {w : World} {A : Around} {E : Value → Shared → Prop} {s : Shared}
theorem places_rev (n : Nat) : Builtin.Slice.slicePlaces ((n : Int) - 1) (-1) (-1) = n := by
  unfold Builtin.Slice.slicePlaces
  rw [if_neg (by decide)]
  by_cases h : (n : Int) - 1 > -1
  · rw [if_pos h, show -(-1 : Int) = 1 by decide, Int.ediv_one]
    omega
  · rw [if_neg h]
    omega
theorem fm_congr {α β : Type} {f g : α → Option β} : ∀ {l : List α}, (∀ x ∈ l, f x = g x) → l.filterMap f = l.filterMap g
  | [], _ => rfl
  | a :: r, h => by
    rw [List.filterMap_cons, List.filterMap_cons, h a List.mem_cons_self, fm_congr fun x hx => h x (List.mem_cons_of_mem _ hx)]
theorem pick_rev (items : Array Value) : ((List.range items.size).filterMap fun (k : Nat) => items[(((items.size : Int) - 1) + (k : Int) * (-1)).toNat]?) = items.toList.reverse := by
  have e : ∀ k ∈ List.range items.size, items[(((items.size : Int) - 1) + (k : Int) * (-1)).toNat]? = items.toList.reverse[k]? := fun k hk => by
    have hk := List.mem_range.mp hk
    rw [show (((items.size : Int) - 1) + (k : Int) * (-1)).toNat = items.size - 1 - k by omega, List.getElem?_reverse (by simpa using hk), Array.length_toList, Array.getElem?_toList]
  rw [fm_congr e]
  have hl : items.size = items.toList.reverse.length := by simp
  rw [hl]
  generalize items.toList.reverse = l
  refine List.ext_getElem? fun i => ?_
  induction l generalizing i with
  | nil => rfl
  | cons a r ih =>
    rw [List.length_cons, List.range_succ_eq_map, List.filterMap_cons]
    simp only [List.getElem?_cons_zero, List.filterMap_map]
    cases i with
    | zero => rfl
    | succ i =>
      rw [List.getElem?_cons_succ, List.getElem?_cons_succ]
      exact ih i
theorem getItem_tup_rev {t sl : Addr} {items : Array Value} {u : Tok} {Q : Value → Shared → Prop} (ht : IsTup s.heap t items) (hs : s.heap.IsSliceOf sl .none .none (.int (-1) u)) (hz : items.size ≤ sizeLine)
    (h : Q (.ref s.heap.objs.size) { s with heap := s.heap.push { cls := .type "tuple", data := .seq items.toList.reverse.toArray } }) : wpAny (model prog w) A (getItem (.ref t) (.ref sl)) Q E s := by
  obtain ⟨os, hos, hcs, hds⟩ := id hs
  have hTs : s.TypeIs (.ref sl) "slice" := ⟨os, hos, hcs⟩
  have fit : sizeOk (.seq items.toList.reverse.toArray) := by
    show items.toList.reverse.toArray.size ≤ sizeLine
    simpa using hz
  unfold getItem
  try with_reducible refine wpAny_holding ?_
  first | refine wpAny_bind (wpAny_pure ?_) | skip
  refine wpAny_bind (wpAny_sequenceKey ht.typeIs (by decide) (wpAny_bind (wpAny_callSpecial?_slot (name := Str.ofString "__getitem__") ht.typeIs PyProof.Rows.slot_tuple_getitem (wpAny_call_entry PyProof.Rows.slot_tuple_getitem ht.typeIs entry_tuple_getitem ?_ (args_tuple_getitem _ _)))))
  show wpAny _ _ (Builtin.Tuple.tupleItemsOf (.ref t) >>= _) _ _ s
  refine wpAny_bind (tupleItemsOf_ ht (wpAny_bind (wpAny_typeOf hTs ?_)))
  rw [if_pos (by decide)]
  have app : ∀ (Q' : Int × Int × Nat → Shared → Prop) (E' : Value → Shared → Prop) (A' : Around), Q' (((items.size : Nat) : Int) - 1, -1, items.size) s → wpAny (model prog w) A' (Builtin.Slice.sliceApplied (.ref sl) (pure (items.size : Int))) Q' E' s := fun Q' E' A' q => by
    unfold Builtin.Slice.sliceApplied Builtin.Slice.sliceFields
    refine wpAny_bind (wpAny_bind (wpAny_field hos hds (x := .none) rfl (wpAny_bind (wpAny_field hos hds (x := .none) rfl (wpAny_bind (wpAny_field hos hds (x := .int (-1) u) rfl (wpAny_pure ?_)))))))
    refine wpAny_bind (slicePart_ (IsPart.int (-1) u) ?_)
    show wpAny _ _ (if ((-1 : Int) == 0) = true then _ else _) _ _ s
    rw [if_neg (by decide)]
    refine wpAny_bind (slicePart_none (wpAny_bind (slicePart_none (wpAny_bind (wpAny_pure ?_)))))
    show wpAny _ _ (pure (((items.size : Nat) : Int) - 1, (-1 : Int), Builtin.Slice.slicePlaces (((items.size : Nat) : Int) - 1) (-1) (-1))) _ _ s
    rw [places_rev]
    exact wpAny_pure q
  refine wpAny_bind (app _ _ _ ?_)
  show wpAny _ _ (if ((((items.size : Nat) : Int) - 1) == 0 && (-1 : Int) == 1 && items.size == items.size) = true then _ else _) _ _ s
  rw [if_neg (by rw [show ((-1 : Int) == 1) = false from rfl, Bool.and_false, Bool.false_and]; exact Bool.false_ne_true), pick_rev]
  first
    | exact wpAny_bind (m := Builtin.Tuple.tupleExact _) (wpAny_newObj_type (wpAny_pure ⟨_, rfl, wpAny_pure h⟩) fit)
    | exact wpAny_bind (m := Builtin.Tuple.tupleExact _) (wpAny_newObj_type (wpAny_bind (wpAny_pure (wpAny_pure ⟨_, rfl, wpAny_pure h⟩))) fit)
    | exact wpAny_bind (wpAny_bind (m := Builtin.Tuple.tupleExact _) (wpAny_newObj_type (wpAny_pure (wpAny_pure ⟨_, rfl, wpAny_pure h⟩)) fit))
end
/-- x[::-1], a list or a tuple -/
def rRevS (K : PySem.W.Frag) (x : V) (H1 : Hp) (Q : VK) : Prop := ∃ a xs, x = .ref a ∧ ((SqL K H1 a xs ∧ ∀ p, H1 p = none → Q (.ref p) (upd H1 p (.lst xs.reverse))) ∨ (SqT K H1 a xs ∧ ∀ p, H1 p = none → Q (.ref p) (upd H1 p (.tup xs.reverse))))
def tRevS (K : PySem.W.Frag) (te : TE) : TE := fun σ H Q => te σ H fun x H1 => rRevS K x H1 Q
theorem pe_revS {X : Cx} {e : Expr} {te : TE} {k : Nat} {p1 p2 p3 pos : Pos} (he : PE X e te) : PE X (.Subscript e (.Slice none none (some (.UnaryOp .USub (.Constant (.int 1) k p1) p2)) p3) pos) (tRevS X.K te) := by
  refine ⟨fun pins s σ H Q I h => Subscript_ (thn (he.run pins s σ H _ I h) fun v s1 hq => ?_)⟩
  obtain ⟨x, H1, I1, r1, a, xs, ex, q⟩ := hq
  subst ex
  cases r1
  have step : PO X (some (.UnaryOp .USub (.Constant (.int 1) k p1) p2)) (tPart (tUn (rU fun i => .int (-i)) (tC (.int 1)))) := po_some (pe_un un_neg pe_int)
  refine wpAny_Slice (thn (po_none.run pins s1 σ H1 (fun o H2 => o = none ∧ H2 = H1) I1 ⟨rfl, rfl⟩) fun vl s2 hl => ?_)
  obtain ⟨l, H2, I2, pl, rfl, rfl⟩ := hl
  refine thn (po_none.run pins s2 σ H2 (fun o H3 => o = none ∧ H3 = H2) I2 ⟨rfl, rfl⟩) fun vu s3 hu => ?_
  obtain ⟨u, H3, I3, pu, rfl, rfl⟩ := hu
  refine thn (step.run pins s3 σ H3 (fun o H4 => o = some (-1) ∧ H4 = H3) I3 ⟨1, rfl, -1, rfl, rfl, rfl⟩) fun vs s4 hv => ?_
  obtain ⟨o, H4, I4, ps, rfl, rfl⟩ := hv
  cases pl
  cases pu
  cases ps
  rename_i u
  have I5 : Inv X pins σ H4 { s4 with heap := s4.heap.push { cls := .type "slice", data := .fields #[.none, .none, .int (-1) u] } } := I4.kept (t' := s4.toks) fun b ob z => Heap.get?_push_of_some _ z
  show wpAny (model X.prog X.w) X.A (subscriptTail e (.Slice none none (some (.UnaryOp .USub (.Constant (.int 1) k p1) p2)) p3) (.ref a) (.ref s4.heap.objs.size)) (EP X pins σ Q) X.xe ⟨s4.heap.push { cls := .type "slice", data := .fields #[.none, .none, .int (-1) u] }, s4.gens, s4.drawn, s4.toks, s4.os⟩
  rcases q with ⟨hx, q⟩ | ⟨hx, q⟩
  · obtain ⟨its, r, ht, hz⟩ := I5.list hx
    have hlen := r.length
    refine tail_any (ops := [.ref a, .ref s4.heap.objs.size]) ht.isList.typeIs (PySem.slot_list_getitem.lookup) ?_ (by with_unfolding_all rfl)
    refine wpAny_getItem_list_slice ht.isList (Heap.IsSliceOf.new _ .none .none (.int (-1) u)) .none .none (.int _ _) (by decide) ?_ (by rw [List.size_toArray]; omega)
    rw [PySem.W.krv_pick]
    have J := I5.laid (t' := s4.toks) (o := .lst xs.reverse) (fun b ob z => Heap.get?_push_of_some { cls := .type "list", data := .seq its.toArray.toList.reverse.toArray } z) (Nat.le_refl _) ⟨by rw [List.length_reverse]; exact hz, _, 0, r.reverse, Heap.get?_push_size _ rfl⟩
    exact ⟨.ref _, _, J, rfl, q _ (I5.hok.fresh (Nat.le_refl _))⟩
  · obtain ⟨its, r, ht, hz⟩ := I5.tuple hx
    have hlen := r.length
    refine tail_any (ops := [.ref a, .ref s4.heap.objs.size]) ht.typeIs (PyProof.Rows.slot_tuple_getitem.lookup) ?_ (by with_unfolding_all rfl)
    refine getItem_tup_rev ht (Heap.IsSliceOf.new _ .none .none (.int (-1) u)) (by rw [List.size_toArray]; omega) ?_
    have J := I5.laid (t' := s4.toks) (o := .tup xs.reverse) (fun b ob z => Heap.get?_push_of_some { cls := .type "tuple", data := .seq its.toArray.toList.reverse.toArray } z) (Nat.le_refl _) ⟨by rw [List.length_reverse]; exact hz, its.toArray.toList.reverse, r.reverse, _, Heap.get?_push_size _ rfl, rfl, _, rfl⟩
    exact ⟨.ref _, _, J, rfl, q _ (I5.hok.fresh (Nat.le_refl _))⟩

section
variable {K : PySem.W.Frag} {T : List (Addr × Str)} {X : Cx}
/-! ### walks over a list or a tuple -/
theorem PI.or {tg l : Expr} {wi wi' : TI} (h : PI X tg l wi) (h' : PI X tg l wi') : PI X tg l (fun σ H R => wi σ H R ∨ wi' σ H R) := ⟨fun pins s σ H R I q => q.elim (h.run pins s σ H R I) (h'.run pins s σ H R I)⟩
def iAnyT (K : PySem.W.Frag) (t : TE) : TI := fun σ H R => iList K t σ H R ∨ iTup K t σ H R
theorem pi_any {tg l : Expr} {t : TE} (h : PE X l t) : PI X tg l (iAnyT X.K t) := PI.or (pi_list h) (pi_tup h)
def seqD : PyData → Option (List PyData)
  | .list ds => some ds
  | .tuple ds => some ds
  | _ => none
def iAny (f : M PyData) : M (List PyData) := fun e => bnd (f e) fun d e1 => put (seqD d) e1
theorem seqD_some {d : PyData} {ds : List PyData} (h : seqD d = some ds) : d = .list ds ∨ d = .tuple ds := by
  cases d with
  | list _ => cases h; exact .inl rfl
  | tuple _ => cases h; exact .inr rfl
  | none => cases h
  | bool _ => cases h
  | int _ => cases h
  | str _ => cases h
  | dict _ => cases h
theorem si_any {t : TE} {f : M PyData} (h : SE K T t f) : SI K T (iAnyT K t) (iAny f) := fun W hT σ H B e ds e' R hf r q => by
  obtain ⟨d, e1, h1, h2⟩ := bnd_some hf
  obtain ⟨h3, rfl⟩ := put_some h2
  rcases seqD_some h3 with rfl | rfl
  · exact .inl (si_list h W hT σ H B e ds e' R (by unfold iL; rw [h1]; rfl) r q)
  · exact .inr (si_tup h W hT σ H B e ds e' R (by unfold iT; rw [h1]; rfl) r q)
/-- (0, x), (1, y), .. -/
def enumD : Nat → List PyData → List PyData
  | _, [] => []
  | n, d :: ds => .tuple [.int (n : Int), d] :: enumD (n + 1) ds
theorem enumD_get : ∀ {ds : List PyData} {n i : Nat} {d : PyData}, (enumD n ds)[i]? = some d → ∃ x, ds[i]? = some x ∧ d = .tuple [.int ((n + i : Nat) : Int), x]
  | [], _, _, _, h => by simp [enumD] at h
  | x :: ds, n, 0, d, h => by
    cases h
    exact ⟨x, rfl, rfl⟩
  | x :: ds, n, i + 1, d, h => by
    obtain ⟨y, h1, h2⟩ := enumD_get (ds := ds) (n := n + 1) (i := i) (d := d) h
    exact ⟨y, h1, by rw [h2, show n + 1 + i = n + (i + 1) by omega]⟩
theorem enumD_len : ∀ (ds : List PyData) (n : Nat), (enumD n ds).length = ds.length
  | [], _ => rfl
  | _ :: ds, n => congrArg (· + 1) (enumD_len ds (n + 1))
theorem ItOk.enumL {B : Hp} {a : Addr} {xs : List V} {ds : List PyData} (hs : SqL K B a xs) (ha : DpAll K B xs ds) : ItOk K B (Ite K a) (enumD 0 ds) := fun i H1 B1 sb bh => by
  have hq := (sb.trans bh).seq hs
  refine ⟨fun _ e => ⟨xs, hq, ?_⟩, fun d hd => ?_⟩
  · rw [enumD_len] at e
    rw [dpAll_len ha]
    exact Nat.le_of_eq e.symm
  · obtain ⟨x, h1, rfl⟩ := enumD_get hd
    obtain ⟨v, h2, h3⟩ := dpAll_getD ha h1
    refine ⟨⟨xs, v, hq, h2⟩, fun y H2 hy => ?_⟩
    obtain ⟨T, z, rfl, hT, rfl, hz⟩ := hy
    have := hz xs hq
    rw [h2] at this
    cases this
    have x := Ext.new (o := .tup [.int (i : Nat), v]) bh hT
    rw [Nat.zero_add]
    exact ⟨_, x, .tup (SqT.of upd_same) (.cons (.int _) (.cons (dp_mono (sb.trans x.b) h3) .nil))⟩
theorem ItOk.enumT {B : Hp} {a : Addr} {xs : List V} {ds : List PyData} (hs : SqT K B a xs) (ha : DpAll K B xs ds) : ItOk K B (IteT K a) (enumD 0 ds) := fun i H1 B1 sb bh => by
  have hq := seqT (sb.trans bh) hs
  refine ⟨fun _ e => ⟨xs, hq, ?_⟩, fun d hd => ?_⟩
  · rw [enumD_len] at e
    rw [dpAll_len ha]
    exact e.symm
  · obtain ⟨x, h1, rfl⟩ := enumD_get hd
    obtain ⟨v, h2, h3⟩ := dpAll_getD ha h1
    refine ⟨⟨xs, v, hq, h2⟩, fun y H2 hy => ?_⟩
    obtain ⟨T, z, rfl, hT, rfl, hz⟩ := hy
    have := hz xs hq
    rw [h2] at this
    cases this
    have x := Ext.new (o := .tup [.int (i : Nat), v]) bh hT
    rw [Nat.zero_add]
    exact ⟨_, x, .tup (SqT.of upd_same) (.cons (.int _) (.cons (dp_mono (sb.trans x.b) h3) .nil))⟩
def iEnumA (K : PySem.W.Frag) (ta : TA) : TI := fun σ H R => iEnum K ta σ H R ∨ iEnumT K ta σ H R
theorem pi_enumA {e : Expr} {ta : TA} {p pos tpos : Pos} {elts : List Expr} {kk : Nat} (hg : Gl X "enumerate") (hm : X.mg "enumerate" = none) (ha : PA X [e] ta) (hs : starEach [e] X.env = [(false, eval e X.env)] := by rfl) :
    PI X (.Tuple elts kk tpos) (.Call (.Name "enumerate" p) [e] [] pos) (iEnumA X.K ta) := PI.or (pi_enum hg hm ha hs) (pi_enumT hg hm ha hs)
def iEn (f : M PyData) : M (List PyData) := fun e => bnd (f e) fun d e1 => bnd (put (seqD d) e1) fun ds e2 => some (enumD 0 ds, e2)
theorem si_enum {t : TE} {f : M PyData} (h : SE K T t f) : SI K T (iEnumA K (tCons t tNil)) (iEn f) := fun W hT σ H B e ds e' R hf r q => by
  obtain ⟨d, e1, h1, h2⟩ := bnd_some hf
  obtain ⟨es, e2, h3, h4⟩ := bnd_some h2
  cases h4
  obtain ⟨h5, rfl⟩ := put_some h3
  rcases seqD_some h5 with rfl | rfl
  · refine .inl (h W hT σ H B e _ _ _ h1 r fun v H' B' sb r' dv => ?_)
    obtain ⟨a, xs, rfl, b1, b2⟩ := dp_lst dv
    exact ⟨a, xs, rfl, r'.bh.seq b1, q _ H' B' sb r' (ItOk.enumL b1 b2)⟩
  · refine .inr (h W hT σ H B e _ _ _ h1 r fun v H' B' sb r' dv => ?_)
    obtain ⟨a, xs, rfl, b1, b2⟩ := dp_tup dv
    exact ⟨a, xs, rfl, seqT r'.bh b1, q _ H' B' sb r' (ItOk.enumT b1 b2)⟩
/-- zip -/
def zipD : List PyData → List PyData → List PyData
  | x :: xs, y :: ys => .tuple [x, y] :: zipD xs ys
  | _, _ => []
theorem zipD_get : ∀ {xs ys : List PyData} {i : Nat} {d : PyData}, (zipD xs ys)[i]? = some d → ∃ x y, xs[i]? = some x ∧ ys[i]? = some y ∧ d = .tuple [x, y]
  | [], _, _, _, h => by simp [zipD] at h
  | _ :: _, [], _, _, h => by simp [zipD] at h
  | x :: xs, y :: ys, 0, d, h => by
    cases h
    exact ⟨x, y, rfl, rfl, rfl⟩
  | x :: xs, y :: ys, i + 1, d, h => zipD_get (xs := xs) (ys := ys) (i := i) (d := d) h
theorem zipD_len : ∀ (xs ys : List PyData), (zipD xs ys).length = min xs.length ys.length
  | [], _ => by simp [zipD]
  | _ :: _, [] => by simp [zipD]
  | _ :: xs, _ :: ys => by
    show (zipD xs ys).length + 1 = _
    rw [zipD_len xs ys, List.length_cons, List.length_cons]
    omega
theorem ItOk.zipL {B : Hp} {a b : Addr} {xs ys : List V} {ds es : List PyData} (hs : SqL K B a xs) (ha : DpAll K B xs ds) (hs2 : SqL K B b ys) (ha2 : DpAll K B ys es) : ItOk K B (Itz K a b) (zipD ds es) := fun i H1 B1 sb bh => by
  have hq := (sb.trans bh).seq hs
  have hq2 := (sb.trans bh).seq hs2
  refine ⟨fun _ e => ⟨xs, ys, hq, hq2, ?_⟩, fun d hd => ?_⟩
  · rw [zipD_len] at e
    rw [dpAll_len ha, dpAll_len ha2]
    omega
  · obtain ⟨x, y, h1, h2, rfl⟩ := zipD_get hd
    obtain ⟨v, h3, h4⟩ := dpAll_getD ha h1
    obtain ⟨w, h5, h6⟩ := dpAll_getD ha2 h2
    refine ⟨⟨xs, ys, v, w, hq, hq2, h3, h5⟩, fun y H2 hy => ?_⟩
    obtain ⟨T, z1, z2, rfl, hT, rfl, k1, k2⟩ := hy
    have c1 := k1 xs hq
    have c2 := k2 ys hq2
    rw [h3] at c1
    rw [h5] at c2
    cases c1
    cases c2
    have x := Ext.new (o := .tup [v, w]) bh hT
    exact ⟨_, x, .tup (SqT.of upd_same) (.cons (dp_mono (sb.trans x.b) h4) (.cons (dp_mono (sb.trans x.b) h6) .nil))⟩
theorem ItOk.zipT {B : Hp} {a b : Addr} {xs ys : List V} {ds es : List PyData} (hs : SqT K B a xs) (ha : DpAll K B xs ds) (hs2 : SqT K B b ys) (ha2 : DpAll K B ys es) : ItOk K B (ItzT K a b) (zipD ds es) := fun i H1 B1 sb bh => by
  have hq := seqT (sb.trans bh) hs
  have hq2 := seqT (sb.trans bh) hs2
  refine ⟨fun _ e => ⟨xs, ys, hq, hq2, ?_⟩, fun d hd => ?_⟩
  · rw [zipD_len] at e
    rw [dpAll_len ha, dpAll_len ha2]
    omega
  · obtain ⟨x, y, h1, h2, rfl⟩ := zipD_get hd
    obtain ⟨v, h3, h4⟩ := dpAll_getD ha h1
    obtain ⟨w, h5, h6⟩ := dpAll_getD ha2 h2
    refine ⟨⟨xs, ys, v, w, hq, hq2, h3, h5⟩, fun y H2 hy => ?_⟩
    obtain ⟨T, z1, z2, rfl, hT, rfl, k1, k2⟩ := hy
    have c1 := k1 xs hq
    have c2 := k2 ys hq2
    rw [h3] at c1
    rw [h5] at c2
    cases c1
    cases c2
    have x := Ext.new (o := .tup [v, w]) bh hT
    exact ⟨_, x, .tup (SqT.of upd_same) (.cons (dp_mono (sb.trans x.b) h4) (.cons (dp_mono (sb.trans x.b) h6) .nil))⟩
def iZp (fa fb : M PyData) : M (List PyData) := fun e => bnd (fa e) fun a e1 => bnd (fb e1) fun b e2 => match a, b with
  | .list xs, .list ys => some (zipD xs ys, e2)
  | .tuple xs, .tuple ys => some (zipD xs ys, e2)
  | _, _ => none
theorem si_zip {ta tb : TE} {fa fb : M PyData} (ha : SE K T ta fa) (hb : SE K T tb fb) : SI K T (iZipA K (tCons ta (tCons tb tNil))) (iZp fa fb) := fun W hT σ H B e ds e' R hf r q => by
  obtain ⟨a, e1, h1, hf⟩ := bnd_some hf
  obtain ⟨b, e2, h2, hf⟩ := bnd_some hf
  refine ha W hT σ H B e a e1 _ h1 r fun v H1 B1 s1 r1 dv => ?_
  refine hb W hT σ H1 B1 e1 b e2 _ h2 r1 fun w H2 B2 s2 r2 dw => ?_
  split at hf
  · cases hf
    obtain ⟨p, xs, rfl, b1, b2⟩ := dp_lst (dp_mono s2 dv)
    obtain ⟨p', ys, rfl, b3, b4⟩ := dp_lst dw
    exact ⟨p, p', xs, ys, rfl, .inl ⟨r2.bh.seq b1, r2.bh.seq b3, q _ H2 B2 (s1.trans s2) r2 (ItOk.zipL b1 b2 b3 b4)⟩⟩
  · cases hf
    obtain ⟨p, xs, rfl, b1, b2⟩ := dp_tup (dp_mono s2 dv)
    obtain ⟨p', ys, rfl, b3, b4⟩ := dp_tup dw
    exact ⟨p, p', xs, ys, rfl, .inr ⟨seqT r2.bh b1, seqT r2.bh b3, q _ H2 B2 (s1.trans s2) r2 (ItOk.zipT b1 b2 b3 b4)⟩⟩
  · cases hf
/-- range(i, j, -1) -/
def downto (lo : Int) : Nat → List PyData
  | 0 => []
  | n + 1 => .int lo :: downto (lo - 1) n
theorem downto_len : ∀ (n : Nat) (lo : Int), (downto lo n).length = n
  | 0, _ => rfl
  | n + 1, lo => congrArg (· + 1) (downto_len n (lo - 1))
theorem downto_get : ∀ {n : Nat} {lo : Int} {i : Nat} {d : PyData}, (downto lo n)[i]? = some d → i < n ∧ d = .int (lo + (i : Int) * (-1))
  | 0, _, _, _, h => by simp [downto] at h
  | n + 1, lo, 0, d, h => by
    have h : some (PyData.int lo) = some d := h
    cases h
    exact ⟨Nat.succ_pos n, by simp⟩
  | n + 1, lo, i + 1, d, h => by
    have h : (downto (lo - 1) n)[i]? = some d := h
    obtain ⟨h1, h2⟩ := downto_get h
    refine ⟨Nat.succ_lt_succ h1, ?_⟩
    rw [h2]
    congr 1
    omega
theorem ItOk.down {B : Hp} {lo : Int} {n : Nat} : ItOk K B (Itc lo (-1) n) (downto lo n) := fun i H1 B1 sb bh => by
  refine ⟨fun _ e => ?_, fun d hd => ?_⟩
  · rw [downto_len] at e
    exact Nat.le_of_eq e.symm
  · obtain ⟨h1, h2⟩ := downto_get hd
    refine ⟨h1, fun x H2 ⟨e, hy⟩ => ?_⟩
    subst e
    rw [hy, h2]
    exact ⟨B1, Ext.refl bh, .int _⟩
def iR3 (fa : M (List PyData)) : M (List PyData) := fun e => bnd (fa e) fun as e1 => match as with
  | [.int i, .int j, .int (.negSucc 0)] => if inR i = true ∧ inR j = true then some (downto i (i - j).toNat, e1) else none
  | _ => none
theorem si_rng3 {t : TA} {fa : M (List PyData)} (h : SA K T t fa) : SI K T (iRng3 t) (iR3 fa) := fun W hT σ H B e ds e' R hf r q => by
  obtain ⟨as, e1, h1, h2⟩ := bnd_some hf
  refine h W hT σ H B e as e1 _ h1 r fun vs H' B' sb r' hd => ?_
  split at h2
  · rename_i i j
    by_cases c : inR i = true ∧ inR j = true
    · rw [if_pos c] at h2
      cases h2
      obtain ⟨q1, q2⟩ := inR_of c.1
      obtain ⟨q3, q4⟩ := inR_of c.2
      cases hd with
      | cons a hd =>
        cases hd with
        | cons b hd =>
          cases hd with
          | cons c hd =>
            cases hd
            rw [dp_int a, dp_int b, dp_int c]
            exact ⟨i, j, -1, _, rfl, RgC.neg q1 q2 q3 q4, q _ H' B' sb r' ItOk.down⟩
    · rw [if_neg c] at h2
      cases h2
  · cases h2
/-! ### built-ins -/
def pLen : List PyData → Option PyData
  | [.list ds] => some (.int (ds.length : Nat))
  | [.tuple ds] => some (.int (ds.length : Nat))
  | _ => none
def rLen (K : PySem.W.Frag) : List V → Hp → VK → Prop := fun xs H Q => ∃ p ys, xs = [.ref p] ∧ (SqL K H p ys ∨ SqT K H p ys) ∧ Q (.int ys.length) H
theorem c_len : CallR X (.builtin "len") (rLen X.K) := call_len_seq
theorem dpAll_one {H : Hp} {xs : List V} {d : PyData} (h : DpAll K H xs [d]) : ∃ v, xs = [v] ∧ Dp K H v d := by
  cases h with
  | cons a b =>
    cases b
    exact ⟨_, rfl, a⟩
theorem dpAll_two {H : Hp} {xs : List V} {d d' : PyData} (h : DpAll K H xs [d, d']) : ∃ v w, xs = [v, w] ∧ Dp K H v d ∧ Dp K H w d' := by
  cases h with
  | cons a b =>
    cases b with
    | cons b c =>
      cases c
      exact ⟨_, _, rfl, a, b⟩
theorem sr_len : SRn K (rLen K) pLen := fun H B xs as d Q bh ha h q => by
  unfold pLen at h
  split at h
  · cases h
    obtain ⟨v, rfl, dv⟩ := dpAll_one ha
    obtain ⟨p, ys, rfl, b1, b2⟩ := dp_lst dv
    refine ⟨p, ys, rfl, .inl (bh.seq b1), ?_⟩
    rw [dpAll_len b2]
    exact q _ H B (Ext.refl bh) (.int _)
  · cases h
    obtain ⟨v, rfl, dv⟩ := dpAll_one ha
    obtain ⟨p, ys, rfl, b1, b2⟩ := dp_tup dv
    refine ⟨p, ys, rfl, .inr (seqT bh b1), ?_⟩
    rw [dpAll_len b2]
    exact q _ H B (Ext.refl bh) (.int _)
  · cases h
def pTuple : List PyData → Option PyData
  | [.list ds] => some (.tuple ds)
  | [.tuple ds] => some (.tuple ds)
  | _ => none
def rTupleC (K : PySem.W.Frag) : List V → Hp → VK → Prop := fun xs H Q => ∃ p ys, xs = [.ref p] ∧ ((SqL K H p ys ∧ ∀ l, H l = none → Q (.ref l) (upd H l (.tup ys))) ∨ (SqT K H p ys ∧ Q (.ref p) H))
theorem c_tuple : CallR X (.type "tuple") (rTupleC X.K) := call_tuple_of
theorem sr_tuple : SRn K (rTupleC K) pTuple := fun H B xs as d Q bh ha h q => by
  unfold pTuple at h
  split at h
  · cases h
    obtain ⟨v, rfl, dv⟩ := dpAll_one ha
    obtain ⟨p, ys, rfl, b1, b2⟩ := dp_lst dv
    refine ⟨p, ys, rfl, .inl ⟨bh.seq b1, fun l hl => ?_⟩⟩
    have x := Ext.new (o := .tup ys) bh hl
    exact q _ _ _ x (.tup (SqT.of upd_same) (dpAll_mono x.b b2))
  · cases h
    obtain ⟨v, rfl, dv⟩ := dpAll_one ha
    obtain ⟨p, ys, rfl, b1, b2⟩ := dp_tup dv
    exact ⟨p, ys, rfl, .inr ⟨seqT bh b1, q _ H B (Ext.refl bh) (.tup b1 b2)⟩⟩
  · cases h
def pList : List PyData → Option (List PyData)
  | [.list ds] => some ds
  | [.tuple ds] => some ds
  | _ => none
def rListC (K : PySem.W.Frag) : List V → Hp → VK → Prop := fun xs H Q => ∃ p ys, xs = [.ref p] ∧ (SqL K H p ys ∨ SqT K H p ys) ∧ ∀ l, H l = none → Q (.ref l) (upd H l (.lst ys))
theorem c_list : CallR X (.type "list") (rListC X.K) := call_list_of
theorem sr_list : SRx K (rListC K) pList := fun H B xs as ds Q bh ha h q => by
  unfold pList at h
  split at h
  · cases h
    obtain ⟨v, rfl, dv⟩ := dpAll_one ha
    obtain ⟨p, ys, rfl, b1, b2⟩ := dp_lst dv
    exact ⟨p, ys, rfl, .inl (bh.seq b1), fun l hl => q l ys H B (Ext.refl bh) hl b2⟩
  · cases h
    obtain ⟨v, rfl, dv⟩ := dpAll_one ha
    obtain ⟨p, ys, rfl, b1, b2⟩ := dp_tup dv
    exact ⟨p, ys, rfl, .inr (seqT bh b1), fun l hl => q l ys H B (Ext.refl bh) hl b2⟩
  · cases h
def blsOf : List PyData → Option (List Bool)
  | [] => some []
  | .bool i :: r => match blsOf r with
    | none => none
    | some ns => some (i :: ns)
  | _ :: _ => none
theorem blsOf_some : ∀ {ds : List PyData} {ns : List Bool}, blsOf ds = some ns → ds = ns.map PyData.bool
  | [], ns, h => by
    cases Option.some.inj h
    rfl
  | .bool i :: r, ns, h => by
    unfold blsOf at h
    cases e : blsOf r with
    | none => rw [e] at h; cases h
    | some m =>
      rw [e] at h
      cases h
      rw [blsOf_some e]
      rfl
  | .none :: _, _, h => by cases h
  | .int _ :: _, _, h => by cases h
  | .str _ :: _, _, h => by cases h
  | .list _ :: _, _, h => by cases h
  | .tuple _ :: _, _, h => by cases h
  | .dict _ :: _, _, h => by cases h
def pBls (g : List Bool → Bool) : List PyData → Option PyData
  | [.list ds] => match blsOf ds with
    | none => none
    | some bs => some (.bool (g bs))
  | _ => none
theorem pBls_some {g : List Bool → Bool} {as : List PyData} {d : PyData} (h : pBls g as = some d) : ∃ bs : List Bool, as = [.list (bs.map PyData.bool)] ∧ d = .bool (g bs) := by
  unfold pBls at h
  split at h
  · rename_i ds
    cases e : blsOf ds with
    | none => rw [e] at h; cases h
    | some bs =>
      rw [e] at h
      cases h
      exact ⟨bs, by rw [blsOf_some e], rfl⟩
  · cases h
def pAll := pBls fun bs => bs.all id
def pAny := pBls fun bs => bs.any id
theorem sr_all : SRn K (rAll K) pAll := fun H B xs as d Q bh ha h q => by
  obtain ⟨bs, rfl, rfl⟩ := pBls_some h
  obtain ⟨v, rfl, dv⟩ := dpAll_one ha
  obtain ⟨p, ys, rfl, b1, b2⟩ := dp_lst dv
  rw [dpAll_bls b2] at b1
  exact ⟨p, bs, rfl, bh.seq b1, q _ H B (Ext.refl bh) (.bl _)⟩
theorem sr_any : SRn K (rAny K) pAny := fun H B xs as d Q bh ha h q => by
  obtain ⟨bs, rfl, rfl⟩ := pBls_some h
  obtain ⟨v, rfl, dv⟩ := dpAll_one ha
  obtain ⟨p, ys, rfl, b1, b2⟩ := dp_lst dv
  rw [dpAll_bls b2] at b1
  exact ⟨p, bs, rfl, bh.seq b1, q _ H B (Ext.refl bh) (.bl _)⟩
def pInts (g : List Int → Option PyData) : List PyData → Option PyData
  | [.list ds] => match intsOf ds with
    | none => none
    | some ns => g ns
  | _ => none
theorem pInts_some {g : List Int → Option PyData} {as : List PyData} {d : PyData} (h : pInts g as = some d) : ∃ ns : List Int, as = [.list (ns.map PyData.int)] ∧ g ns = some d := by
  unfold pInts at h
  split at h
  · rename_i ds
    cases e : intsOf ds with
    | none => rw [e] at h; cases h
    | some ns =>
      rw [e] at h
      exact ⟨ns, by rw [intsOf_some e], h⟩
  · cases h
def pSum := pInts fun ns => some (.int ns.sum)
theorem sr_sum : SRn K (rSum K) pSum := fun H B xs as d Q bh ha h q => by
  obtain ⟨ns, rfl, hg⟩ := pInts_some h
  cases hg
  obtain ⟨v, rfl, dv⟩ := dpAll_one ha
  obtain ⟨p, ys, rfl, b1, b2⟩ := dp_lst dv
  rw [dpAll_ints b2] at b1
  exact ⟨p, ns, rfl, bh.seq b1, q _ H B (Ext.refl bh) (.int _)⟩
def bestI (f : Int → Int → Bool) : List Int → Option Int
  | [] => none
  | a :: r => some (r.foldl (fun m x => if f x m = true then x else m) a)
theorem best_max : ∀ (r : List Int) (a : Int), (r.foldl (fun m x => if decide (m < x) = true then x else m) a) ∈ a :: r ∧ ∀ y ∈ a :: r, y ≤ r.foldl (fun m x => if decide (m < x) = true then x else m) a
  | [], a => ⟨List.mem_cons_self, fun y hy => by rw [List.mem_singleton.mp hy]; exact Int.le_refl _⟩
  | b :: r, a => by
    rw [List.foldl_cons]
    by_cases c : decide (a < b) = true
    · rw [if_pos c]
      have c' := of_decide_eq_true c
      obtain ⟨h1, h2⟩ := best_max r b
      refine ⟨List.mem_cons_of_mem _ h1, fun y hy => ?_⟩
      rcases List.mem_cons.mp hy with e | e
      · have := h2 b List.mem_cons_self
        omega
      · exact h2 y e
    · rw [if_neg c]
      have c' : ¬ a < b := fun z => c (decide_eq_true z)
      obtain ⟨h1, h2⟩ := best_max r a
      refine ⟨(List.mem_cons.mp h1).elim (fun e => by rw [e]; exact List.mem_cons_self) fun e => List.mem_cons_of_mem _ (List.mem_cons_of_mem _ e), fun y hy => ?_⟩
      rcases List.mem_cons.mp hy with e | e
      · rw [e]
        exact h2 a List.mem_cons_self
      · rcases List.mem_cons.mp e with e | e
        · have := h2 a List.mem_cons_self
          omega
        · exact h2 y (List.mem_cons_of_mem _ e)
def maxI : List Int → Option PyData
  | [] => none
  | a :: r => some (.int (r.foldl (fun m x => if decide (m < x) = true then x else m) a))
def pMax := pInts maxI
theorem sr_max : SRn K (rMax K) pMax := fun H B xs as d Q bh ha h q => by
  obtain ⟨ns, rfl, hg⟩ := pInts_some h
  cases ns with
  | nil => cases hg
  | cons a r =>
    cases hg
    obtain ⟨v, rfl, dv⟩ := dpAll_one ha
    obtain ⟨p, ys, rfl, b1, b2⟩ := dp_lst dv
    rw [dpAll_ints b2] at b1
    refine ⟨p, a :: r, rfl, bh.seq b1, Nat.succ_pos _, fun m h1 h2 => ?_⟩
    obtain ⟨h3, h4⟩ := best_max r a
    have e : m = r.foldl (fun m x => if decide (m < x) = true then x else m) a := Int.le_antisymm (h4 m h1) (h2 _ h3)
    rw [e]
    exact q _ H B (Ext.refl bh) (.int _)
def pMin2 : List PyData → Option PyData
  | [.int i, .int j] => some (.int (if j < i then j else i))
  | _ => none
def rMin2 : List V → Hp → VK → Prop := fun xs H Q => ∃ i j, xs = [.int i, .int j] ∧ Q (.int (if j < i then j else i)) H
theorem c_min2 (hc : X.calm = true) : CallR X (.builtin "min") rMin2 := call_min2 hc
theorem sr_min2 : SRn K rMin2 pMin2 := fun H B xs as d Q bh ha h q => by
  unfold pMin2 at h
  split at h
  · cases h
    obtain ⟨v, w, rfl, dv, dw⟩ := dpAll_two ha
    rw [dp_int dv, dp_int dw]
    exact ⟨_, _, rfl, q _ H B (Ext.refl bh) (.int _)⟩
  · cases h
/-! ### isinstance -/
def tyN : PyData → String
  | .none => "NoneType"
  | .bool _ => "bool"
  | .int _ => "int"
  | .str _ => "str"
  | .list _ => "list"
  | .tuple _ => "tuple"
  | .dict _ => "dict"
def isDct : PyData → Bool
  | .dict _ => true
  | _ => false
theorem tyX_of {H : Hp} {v : V} {d : PyData} (h : Dp K H v d) (nd : isDct d = false) : TyX K H v (.type (tyN d)) := by
  cases h with
  | dct _ _ _ => cases nd
  | non => exact .base .non
  | bl b => exact .base (.bl b)
  | int i => exact .base (.int i)
  | str x => exact .base (.str x)
  | lst hs _ =>
    rcases hs with (h | ⟨o, h⟩) | ⟨o, its, n, hk, hc, _⟩
    · exact .base (.lst h)
    · exact .base (.frz h)
    · exact .kList hk hc
  | tup hs _ =>
    rcases hs with (h | ⟨o, h⟩) | ⟨o, its, n, hk, hc, _⟩
    · exact .base (.tup h)
    · exact .fTuple h
    · exact .kTuple hk hc
inductive Ty5 where
  | int | bool | str | list | tuple
def Ty5.nm : Ty5 → String
  | .int => "int"
  | .bool => "bool"
  | .str => "str"
  | .list => "list"
  | .tuple => "tuple"
def isT : Ty5 → PyData → Bool
  | .int, .int _ => true
  | .int, .bool _ => true
  | .bool, .bool _ => true
  | .str, .str _ => true
  | .list, .list _ => true
  | .tuple, .tuple _ => true
  | _, _ => false
theorem kit_of (T : Ty5) {H : Hp} {v : V} {d : PyData} (h : Dp K H v d) (nd : isDct d = false) : PySem.W.kitOne K (.type (tyN d)) (.type T.nm) = some (isT T d) := by
  have q : ∀ T ∈ ["int", "bool", "str", "list", "tuple"], kitB "NoneType" T = some false ∧ kitB "bool" T = some (T == "bool" || T == "int") ∧ kitB "int" T = some (T == "int") ∧ kitB "str" T = some (T == "str") ∧ kitB "list" T = some (T == "list") ∧ kitB "tuple" T = some (T == "tuple") := by decide +kernel
  obtain ⟨a0, a1, a2, a3, a4, a5⟩ := q T.nm (by cases T <;> decide)
  cases h <;> first | cases nd; done | skip
  all_goals (refine kit_ty ?_) <;> cases T <;> first | exact a0 | exact a1 | exact a2 | exact a3 | exact a4 | exact a5
def pIsi (T : Ty5) (d : PyData) : Option PyData := match isDct d with
  | true => none
  | false => some (.bool (isT T d))
theorem se_isi {t : TE} {f : M PyData} (Y : Ty5) (h : SE K T t f) : SE K T (tCB (rIsi K) (tCons t (tCons (tC (.ty Y.nm)) tNil))) (eUn (pIsi Y) f) := fun W hT σ H B e d e' Q hf r q => by
  obtain ⟨a, e1, h1, hf⟩ := bnd_some hf
  obtain ⟨h3, rfl⟩ := put_some hf
  unfold pIsi at h3
  split at h3
  · cases h3
  rename_i nd
  cases h3
  refine h W hT σ H B e a e' _ h1 r fun v H1 B1 s1 r1 dv => ?_
  have dv' := dp_mono r1.bh dv
  exact ⟨v, _, _, _, _, rfl, .ty _, tyX_of dv' nd, kit_of Y dv' nd, q _ H1 B1 s1 r1 (.bl _)⟩
/-! ### x op= e of a whole number -/
def sAug (i : Nat) (g : PyData → PyData → Option PyData) (f : M PyData) : Ev → Option Out := fun e => match e[i]? with
  | some (.sh a) => bnd (f e) fun b e1 => match g a b with
    | none => none
    | some d => some (.nx (e1.set i (.sh d)))
  | _ => none
theorem ss_aug {i : Nat} {r : TIp} {g : PyData → PyData → Option PyData} {t : TE} {f : M PyData} (hr : SR2 K r g) (h : SE K T t f) : SS K T (tAug i t r) (sAug i g f) := fun W hT D σ H B e o hf rl qn qr => by
  unfold sAug at hf
  cases h0 : e[i]? with
  | none => rw [h0] at hf; cases hf
  | some s =>
    rw [h0] at hf
    cases s with
    | sh a =>
      obtain ⟨b, e1, h1, h2⟩ := bnd_some hf
      obtain ⟨v, a1, a2⟩ := rl.get h0
      refine ⟨v, a1, h W hT σ H B e b e1 _ h1 rl fun w H1 B1 s1 r1 dw => ?_⟩
      cases h3 : g a b with
      | none => simp only [h3] at h2; cases h2
      | some d =>
        simp only [h3] at h2
        cases h2
        exact hr H1 B1 v w a b d _ r1.bh (dp_mono s1 a2) dw h3 fun z H2 B2 x dz => qn _ _ H2 B2 rfl (s1.trans x.b) ((r1.ext x).put i dz)
    | un => cases hf
    | ow _ => cases hf
    | bw _ => cases hf
    | ob _ => cases hf
    | dc _ => cases hf
    | dr _ => cases hf
    | dd _ => cases hf
    | di _ => cases hf
    | db _ => cases hf
    | st _ _ => cases hf
    | sb _ _ => cases hf
/-! ### x[::-1] -/
def pRev : PyData → Option Sl
  | .list ds => some (.ow ds.reverse)
  | .tuple ds => some (.sh (.tuple ds.reverse))
  | _ => none
theorem dpAll_rev {H : Hp} : ∀ {vs : List V} {ds : List PyData}, DpAll K H vs ds → DpAll K H vs.reverse ds.reverse
  | _, _, .nil => .nil
  | _, _, .cons a t => by
    rw [List.reverse_cons, List.reverse_cons]
    exact dpAll_snoc (dpAll_rev t) a
def xRev (f : M PyData) : M Sl := fun e => bnd (f e) fun d e1 => put (pRev d) e1
theorem sx_rev {t : TE} {f : M PyData} (h : SE K T t f) : SX K T (tRevS K t) (xRev f) := fun W hT σ H B e s e' Q hf r q => by
  obtain ⟨d, e1, h1, hf⟩ := bnd_some hf
  obtain ⟨h2, rfl⟩ := put_some hf
  refine h W hT σ H B e d e' _ h1 r fun v H1 B1 s1 r1 dv => ?_
  cases d with
  | list ds =>
    cases h2
    obtain ⟨a, xs, rfl, b1, b2⟩ := dp_lst dv
    exact ⟨a, xs, rfl, .inl ⟨r1.bh.seq b1, fun p hp => q _ _ B1 s1 (r1.born hp (dpAll_rev b2))⟩⟩
  | tuple ds =>
    cases h2
    obtain ⟨a, xs, rfl, b1, b2⟩ := dp_tup dv
    refine ⟨a, xs, rfl, .inr ⟨seqT r1.bh b1, fun p hp => ?_⟩⟩
    have x := Ext.new (o := .tup xs.reverse) r1.bh hp
    exact q _ _ _ (s1.trans x.b) ((r1.ext x).cons (.tup (SqT.of upd_same) (dpAll_mono x.b (dpAll_rev b2))))
  | none => cases h2
  | bool _ => cases h2
  | int _ => cases h2
  | str _ => cases h2
  | dict _ => cases h2
end
end VL
end
section
set_option Elab.async false
set_option linter.all false
set_option maxRecDepth 100000
set_option maxHeartbeats 2000000
namespace VL
open PySem PySem.Spec PyProof.Rows L2 HT
section
variable {K : PySem.W.Frag} {T : List (Addr × Str)} {X : Cx}
theorem se_callB {r : List V → Hp → VK → Prop} {g : List PyData → Option PyData} {t : TA} {fa : M (List PyData)} (hr : SRn K r g) (ha : SA K T t fa) : SE K T (tCB r t) (eCall g fa) := se_call hr ha
theorem sx_callB {r : List V → Hp → VK → Prop} {g : List PyData → Option (List PyData)} {t : TA} {fa : M (List PyData)} (hr : SRx K r g) (ha : SA K T t fa) : SX K T (tCB r t) (xCall g fa) := sx_call hr ha
def eAndT (fa fb : M PyData) : M PyData := fun e => bnd (fa e) fun a e1 => match pTru a with
  | none => none
  | some true => fb e1
  | some false => some (a, e1)
theorem se_andT {ta tb : TE} {fa fb : M PyData} (ha : SE K T ta fa) (hb : SE K T tb fb) : SE K T (tAndT K ta tb) (eAndT fa fb) := fun W hT σ H B e d e' Q hf r q => by
  obtain ⟨a, e1, h1, hf⟩ := bnd_some hf
  refine ha W hT σ H B e a e1 _ h1 r fun v H1 B1 s1 r1 dv => ?_
  cases h2 : pTru a with
  | none => rw [h2] at hf; cases hf
  | some k =>
    rw [h2] at hf
    refine ⟨k, truV dv r1.bh h2, ?_⟩
    cases k with
    | false =>
      cases hf
      exact q v H1 B1 s1 r1 dv
    | true => exact hb W hT σ H1 B1 e1 d e' Q hf r1 fun w H2 B2 s2 r2 => q w H2 B2 (s1.trans s2) r2
theorem pt_tru {a : Expr} {ta : TE} (ha : PE X a ta) (he : ∀ whole, isTrue a X.env whole = (do let v ← whole; standAt a.pos; holding [v] (truthy v)) := by intro _; rfl) : PT X a (fun σ H Q => ta σ H fun x H' => ∃ k, TruV X.K x H' k ∧ Q k H') := pt_truth ha he
/-! ### a op b op c op d, as a test -/
def tThree (r1 r2 r3 : R2) (ta tb tc td : TE) : TT := fun σ H Q => ta σ H fun x H1 => tb σ H1 fun y H2 => r1 x y H2 fun z H3 => ∃ k, z = .bl k ∧
  if k = true then tc σ H3 fun u H4 => r2 y u H4 fun z2 H5 => ∃ k2, z2 = .bl k2 ∧ (if k2 = true then td σ H5 fun v H6 => r3 u v H6 fun z3 H7 => ∃ k3, z3 = .bl k3 ∧ Q k3 H7 else Q false H5) else Q false H3
theorem pt_three {a b c d : Expr} {ta tb tc td : TE} {pos : Pos} {o1 o2 o3 : CmpOp} {r1 r2 r3 : R2} (h1 : OpR X (compareOp o1) r1) (h2 : OpR X (compareOp o2) r2) (h3 : OpR X (compareOp o3) r3) (ha : PE X a ta) (hb : PE X b tb) (hc : PE X c tc) (hd : PE X d td)
    (hm : lastMarks [o1, o2, o3] [b, c, d] = false := by with_unfolding_all rfl) : PT X (.Compare a [o1, o2, o3] [b, c, d] pos) (tThree r1 r2 r3 ta tb tc td) := by
  refine ⟨fun pins s σ H Q I h => ?_⟩
  refine isTrue_chain (thn (ha.run pins s σ H _ I h) fun va s1 ⟨x, H1, I1, e1, q1⟩ => test_link (thn (hb.run pins s1 σ H1 _ I1 q1) fun vb s2 ⟨y, H2, I2, e2, q2⟩ =>
    thn (h1 pins s2 σ H2 x y va vb _ I2 e1 e2 q2) fun g s3 ⟨z, H3, I3, e3, k, ez, q3⟩ => ?_)) hm
  subst ez
  cases e3
  refine wpAny_truthy_bool ?_
  cases k with
  | false => exact ite_ff ⟨H3, I3, q3⟩
  | true =>
    refine ite_tt (test_link (thn (hc.run pins s3 σ H3 _ I3 q3) fun vc s4 ⟨u, H4, I4, e4, q4⟩ => thn (h2 pins s4 σ H4 y u vb vc _ I4 e2 e4 q4) fun g2 s5 ⟨z2, H5, I5, e5, k2, ez2, q5⟩ => ?_))
    subst ez2
    cases e5
    refine wpAny_truthy_bool ?_
    cases k2 with
    | false => exact ite_ff ⟨H5, I5, q5⟩
    | true =>
      refine ite_tt (test_last (thn (hd.run pins s5 σ H5 _ I5 q5) fun vd s6 ⟨v, H6, I6, e6, q6⟩ => thn (h3 pins s6 σ H6 u v vc vd _ I6 e4 e6 q6) fun g3 s7 ⟨z3, H7, I7, e7, k3, ez3, q7⟩ => ?_))
      subst ez3
      cases e7
      exact wpAny_truthy_bool ⟨H7, I7, q7⟩
def bThree (g1 g2 g3 : PyData → PyData → Option PyData) (fa fb fc fd : M PyData) : M Bool := fun e => bnd (fa e) fun a e1 => bnd (fb e1) fun b e2 => match g1 a b with
  | some (.bool true) => bnd (fc e2) fun c e3 => match g2 b c with
    | some (.bool true) => bnd (fd e3) fun d e4 => match g3 c d with
      | some (.bool k) => some (k, e4)
      | _ => none
    | some (.bool false) => some (false, e3)
    | _ => none
  | some (.bool false) => some (false, e2)
  | _ => none
theorem st_three {r1 r2 r3 : R2} {g1 g2 g3 : PyData → PyData → Option PyData} {ta tb tc td : TE} {fa fb fc fd : M PyData} (h1 : SR2 K r1 g1) (h2 : SR2 K r2 g2) (h3 : SR2 K r3 g3) (ha : SE K T ta fa) (hb : SE K T tb fb) (hc : SE K T tc fc) (hd : SE K T td fd) :
    ST K T (tThree r1 r2 r3 ta tb tc td) (bThree g1 g2 g3 fa fb fc fd) := fun W hT σ H B e k e' Q hf rl q => by
  obtain ⟨a, e1, p1, hf⟩ := bnd_some hf
  obtain ⟨b, e2, p2, hf⟩ := bnd_some hf
  refine ha W hT σ H B e a e1 _ p1 rl fun x H1 B1 s1 r1 dx => ?_
  refine hb W hT σ H1 B1 e1 b e2 _ p2 r1 fun y H2 B2 s2 r2 dy => ?_
  have s12 := s1.trans s2
  cases p3 : g1 a b with
  | none => rw [p3] at hf; cases hf
  | some z =>
    rw [p3] at hf
    refine h1 H2 B2 x y a b z _ r2.bh (dp_mono s2 dx) dy p3 fun v H3 B3 x3 dv => ?_
    have r3 := r2.ext x3
    have s123 := s12.trans x3.b
    cases z with
    | bool k1 =>
      refine ⟨k1, dp_bl dv, ?_⟩
      cases k1 with
      | false =>
        cases hf
        rw [if_neg (by decide)]
        exact q H3 B3 s123 r3
      | true =>
        rw [if_pos rfl]
        obtain ⟨c, e3, p4, hf⟩ := bnd_some hf
        refine hc W hT σ H3 B3 e2 c e3 _ p4 r3 fun u H4 B4 s4 r4 du => ?_
        cases p5 : g2 b c with
        | none => rw [p5] at hf; cases hf
        | some z2 =>
          rw [p5] at hf
          refine h2 H4 B4 y u b c z2 _ r4.bh (dp_mono (x3.b.trans s4) dy) du p5 fun v2 H5 B5 x5 dv2 => ?_
          have r5 := r4.ext x5
          have s5 := (s123.trans s4).trans x5.b
          cases z2 with
          | bool k2 =>
            refine ⟨k2, dp_bl dv2, ?_⟩
            cases k2 with
            | false =>
              cases hf
              rw [if_neg (by decide)]
              exact q H5 B5 s5 r5
            | true =>
              rw [if_pos rfl]
              obtain ⟨d, e4, p6, hf⟩ := bnd_some hf
              refine hd W hT σ H5 B5 e3 d e4 _ p6 r5 fun v3 H6 B6 s6 r6 dv3 => ?_
              cases p7 : g3 c d with
              | none => rw [p7] at hf; cases hf
              | some z3 =>
                rw [p7] at hf
                refine h3 H6 B6 u v3 c d z3 _ r6.bh (dp_mono (x5.b.trans s6) du) dv3 p7 fun v4 H7 B7 x7 dv4 => ?_
                cases z3 with
                | bool k3 =>
                  cases hf
                  exact ⟨k, dp_bl dv4, q H7 B7 ((s5.trans s6).trans x7.b) (r6.ext x7)⟩
                | none => cases hf
                | int _ => cases hf
                | str _ => cases hf
                | list _ => cases hf
                | tuple _ => cases hf
                | dict _ => cases hf
          | none => cases hf
          | int _ => cases hf
          | str _ => cases hf
          | list _ => cases hf
          | tuple _ => cases hf
          | dict _ => cases hf
    | none => cases hf
    | int _ => cases hf
    | str _ => cases hf
    | list _ => cases hf
    | tuple _ => cases hf
    | dict _ => cases hf
end
/-! ### defs where the top has left them -/
section
variable (P : Program) (w : World) (K : PySem.W.Frag) (mg : Str → Option Value) (base : Heap)
def DefAt (x : Str) (st : Stmt) (ps : List Str) : Prop := ∃ (f : Addr) (fd : FuncData), Fun K x x st f fd ∧ Binds K fd ps [] ∧ mg x = some (.ref f)
def OkAt (L : Nat) (x : Str) (st : Stmt) (ps : List Str) (sp : Sp) : Prop := ∃ (f : Addr) (fd : FuncData), Fun K x x st f fd ∧ Binds K fd ps [] ∧ mg x = some (.ref f) ∧ FnOk P w K mg base CX0 L f fd ps sp
end
theorem hu65 {k : Nat} {A : Around} (r : Room k A) : A.units + 65 < cLine := by have := r.un; omega
end VL
namespace VL
open PySem L2
theorem mn_tup {K : PySem.W.Frag} {n : Nat} {gs : TGs} (h : Mns gs) : Mn (gTup K n gs) := fun v σ H Q Q' hq q => by
  obtain ⟨a, xs, e, h1, h2, q⟩ := q
  exact ⟨a, xs, e, h1, h2, h _ _ _ _ _ hq q⟩
end VL
end
section
set_option Elab.async false
set_option linter.all false
set_option maxRecDepth 100000
set_option maxHeartbeats 2000000
namespace VL
open PySem PySem.Spec PyProof.Rows L2 HT
section
variable {K : PySem.W.Frag} {T : List (Addr × Str)} {X : Cx}
theorem blk_of {N : List Str} {sc scope0 scope : Scope} {own : List (Str × Nat)} (h : blkC N (relS scope0 sc) scope own = true) : BlkOk N (relS scope0 sc) scope own := blkOk_by h
def pAddI := pInt yes2 fun i j => .int (i + j)
theorem sr_addI : SR2 K (rI0 fun i j => .int (i + j)) pAddI := sr_I0 fun i j B => .int _
/-! ### as many unlike ones as there are -/
theorem len_le_sub : ∀ {l m : List Int}, l.Nodup → (∀ x ∈ l, x ∈ m) → l.length ≤ m.length
  | [], _, _, _ => Nat.zero_le _
  | a :: r, m, h, s => by
    have hm : a ∈ m := s a List.mem_cons_self
    obtain ⟨h1, h2⟩ := List.nodup_cons.mp h
    have := len_le_sub (l := r) (m := m.erase a) h2 fun x hx => (List.mem_erase_of_ne (fun (e : x = a) => h1 (by rw [← e]; exact hx))).mpr (s x (List.mem_cons_of_mem _ hx))
    rw [List.length_erase_of_mem hm] at this
    have pos : 0 < m.length := List.length_pos_of_mem hm
    show r.length + 1 ≤ m.length
    omega
/-- each once -/
def once : List Int → List Int
  | [] => []
  | a :: r => if (once r).contains a = true then once r else a :: once r
theorem once_mem : ∀ {l : List Int} {x : Int}, x ∈ once l ↔ x ∈ l
  | [], x => by simp [once]
  | a :: r, x => by
    unfold once
    by_cases c : (once r).contains a = true
    · rw [if_pos c, once_mem (l := r)]
      have ha : a ∈ r := once_mem.mp (List.contains_iff_mem.mp c)
      refine ⟨fun h => List.mem_cons_of_mem _ h, fun h => (List.mem_cons.mp h).elim (fun e => by rw [e]; exact ha) id⟩
    · rw [if_neg c, List.mem_cons, List.mem_cons, once_mem (l := r)]
theorem once_nodup : ∀ l : List Int, (once l).Nodup
  | [] => List.nodup_nil
  | a :: r => by
    unfold once
    by_cases c : (once r).contains a = true
    · rw [if_pos c]
      exact once_nodup r
    · rw [if_neg c]
      exact List.nodup_cons.mpr ⟨fun h => c (List.contains_iff_mem.mpr h), once_nodup r⟩
theorem once_len {l m : List Int} (hl : l.Nodup) (hm : ∀ x, x ∈ l ↔ x ∈ m) : l.length = (once m).length :=
  Nat.le_antisymm (len_le_sub hl fun x hx => once_mem.mpr ((hm x).mp hx)) (len_le_sub (once_nodup m) fun x hx => (hm x).mpr (once_mem.mp hx))
/-- len(set(t)), t a tuple of whole numbers -/
def tLenSetT (K : PySem.W.Frag) (ta : TE) : TE := fun σ H Q => ta σ H fun x H1 => ∃ (l : Addr) (ns : List Int), x = .ref l ∧ SqT K H1 l (ns.map V.int) ∧ ns.length ≤ 1000 ∧ Q (.int (once ns).length) H1
theorem ints_of_vals : ∀ {ns : List Int} {us : List Value}, Vals (ns.map V.int) us → PyProof.Rows.IntsAre us ns
  | [], _, .nil => .nil
  | n :: ns, _, .cons r t => by
    obtain ⟨k, rfl⟩ := r
    exact .cons n k (ints_of_vals t)
theorem pe_lenSetT {a : Expr} {ta : TE} {p p2 q pos : Pos} (hg : Gl X "len") (hm : X.mg "len" = none) (hg2 : Gl X "set") (hm2 : X.mg "set" = none) (ha : PE X a ta) (hc : X.calm = true := by rfl)
    (na : starEach [a] X.env = (false, eval a X.env) :: starEach [] X.env := by rfl) : PE X (.Call (.Name "len" p) [.Call (.Name "set" p2) [a] [] q] [] pos) (tLenSetT X.K ta) := by
  refine ⟨fun pins s σ H Q I h => ?_⟩
  refine Call_ (ld_blt I hg hm boot_len ?_)
  refine PyProof.Rows.callWith_builtin1 (PyProof.Rows.args_cons ?_ rfl) rfl rfl
  refine Call_ (ld_blt I hg2 hm2 boot_set ?_)
  refine PyProof.Rows.callWith_type1 (PyProof.Rows.args_cons (thn (ha.run pins s σ H _ I h) fun v s1 ⟨x, H1, I1, r1, q1⟩ => PyProof.Rows.args_nil ?_) na) na rfl
  obtain ⟨l, ns, rfl, hq, hl, q1⟩ := q1
  cases r1
  obtain ⟨its, r, pt, hz⟩ := I1.tuple hq
  refine call_set_tupI ns (I1.ok.hd hc) (show s1.heap.IsTuple l its.toArray from pt) (by simpa using ints_of_vals r) (by unfold scanBound; omega) fun h' tk c R1 hcn k => ?_
  refine PyProof.Rows.args_nil ?_
  obtain ⟨o, es, ep, t, ho, hex, hd, hgood, hnd, hS, hsz, hf, hn, _⟩ := R1
  have I2 : Inv X pins σ H1 { s1 with heap := h', toks := tk } := I1.kept fun b o e => k b o e
  have hu : c = (once ns).length := by
    rw [← hn]
    have := once_len (l := es.toList.map keyOf) (m := ns) hnd fun x => by
      rw [← hS x]
      exact decide_eq_true_iff
    rw [List.length_map, Array.length_toList] at this
    exact this
  rw [← hu] at q1
  exact call_len_set ho hex hd hf (by rw [hn] <;> omega) ⟨.int c, H1, I2.tok _, ⟨_, by rw [hn]⟩, q1⟩
def pLenSet : PyData → Option PyData
  | .tuple ds => match intsOf ds with
    | none => none
    | some ns => if Nat.ble ns.length 1000 = true then some (.int ((once ns).length : Nat)) else none
  | _ => none
theorem se_lenSet {t : TE} {f : M PyData} (h : SE K T t f) : SE K T (tLenSetT K t) (eUn pLenSet f) := fun W hT σ H B e d e' Q hf r q => by
  obtain ⟨a, e1, h1, hf⟩ := bnd_some hf
  obtain ⟨h3, rfl⟩ := put_some hf
  refine h W hT σ H B e a e' _ h1 r fun v H1 B1 s1 r1 dv => ?_
  unfold pLenSet at h3
  split at h3
  · rename_i ds
    cases e2 : intsOf ds with
    | none => rw [e2] at h3; cases h3
    | some ns =>
      rw [e2] at h3
      by_cases c : Nat.ble ns.length 1000 = true
      · simp only [if_pos c] at h3
        cases h3
        rw [intsOf_some e2] at dv
        obtain ⟨p, xs, rfl, b1, b2⟩ := dp_tup dv
        rw [dpAll_ints b2] at b1
        exact ⟨p, ns, rfl, seqT r1.bh b1, Nat.le_of_ble_eq_true c, q _ H1 B1 s1 r1 (.int _)⟩
      · simp only [if_neg c] at h3
        cases h3
  · cases h3
/-! ### tuple(range(..)), list(range(..)) -/
def SRg (K : PySem.W.Frag) (T : List (Addr × Str)) (te : L2.St → Hp → (Int → Int → Hp → Prop) → Prop) (f : M (Int × Int)) : Prop := ∀ (W : Wd) (hT : W.tb = T) (σ : L2.St) (H B : Hp) (e : Ev) (p : Int × Int) (e' : Ev) (Q : Int → Int → Hp → Prop), f e = some (p, e') → Rel K W σ H B e →
  (∀ H' B', Same B B' → Rel K W σ H' B' e' → Q p.1 p.2 H') → te σ H Q
def intD : PyData → Option Int
  | .int i => some i
  | _ => none
theorem intD_some {d : PyData} {i : Int} (h : intD d = some i) : d = .int i := by
  cases d with
  | int _ => cases h; rfl
  | none => cases h
  | bool _ => cases h
  | str _ => cases h
  | list _ => cases h
  | tuple _ => cases h
  | dict _ => cases h
def rg1 (f : M PyData) : M (Int × Int) := fun e => bnd (f e) fun d e1 => bnd (put (intD d) e1) fun n e2 => some ((0, n), e2)
def rg2 (f g : M PyData) : M (Int × Int) := fun e => bnd (f e) fun d e1 => bnd (g e1) fun d2 e2 => bnd (put (intD d) e2) fun n e3 => bnd (put (intD d2) e3) fun m e4 => some ((n, m), e4)
theorem srg1 {t : TE} {f : M PyData} (h : SE K T t f) : SRg K T (tRg1 t) (rg1 f) := fun W hT σ H B e p e' Q hf r q => by
  obtain ⟨d, e1, h1, hf⟩ := bnd_some hf
  obtain ⟨n, e2, h2, h3⟩ := bnd_some hf
  cases h3
  obtain ⟨h4, rfl⟩ := put_some h2
  have h5 := intD_some h4
  subst h5
  exact h W hT σ H B e _ _ _ h1 r fun v H' B' sb r' dv => ⟨n, dp_int dv, q H' B' sb r'⟩
theorem srg2 {t u : TE} {f g : M PyData} (h : SE K T t f) (h' : SE K T u g) : SRg K T (tRg2 t u) (rg2 f g) := fun W hT σ H B e p e' Q hf r q => by
  obtain ⟨d, e1, h1, hf⟩ := bnd_some hf
  obtain ⟨d2, e2, h2, hf⟩ := bnd_some hf
  obtain ⟨n, e3, h3, hf⟩ := bnd_some hf
  obtain ⟨m, e4, h4, h5⟩ := bnd_some hf
  cases h5
  obtain ⟨a1, rfl⟩ := put_some h3
  obtain ⟨a2, rfl⟩ := put_some h4
  have b1 := intD_some a1
  have b2 := intD_some a2
  subst b1 b2
  exact h W hT σ H B e _ _ _ h1 r fun v H1 B1 s1 r1 dv => h' W hT σ H1 B1 _ _ _ _ h2 r1 fun w H2 B2 s2 r2 dw => ⟨n, m, dp_int dv, dp_int dw, q H2 B2 (s1.trans s2) r2⟩
def rgB (p : Int × Int) : Bool := inR p.1 && inR p.2 && Nat.ble (p.2 - p.1).toNat 16777216
theorem rgB_ok {p : Int × Int} (h : rgB p = true) : RgOk p.1 p.2 := by
  unfold rgB at h
  rw [Bool.and_eq_true, Bool.and_eq_true] at h
  obtain ⟨⟨h1, h2⟩, h3⟩ := h
  obtain ⟨a1, a2⟩ := inR_of h1
  obtain ⟨a3, a4⟩ := inR_of h2
  exact ⟨a1, a2, a3, a4, Nat.le_of_ble_eq_true h3⟩
theorem dpAll_rg {H : Hp} : ∀ (n : Nat) (a : Int), DpAll K H ((List.range n).map fun i => V.int (a + (i : Nat))) (upto a n)
  | 0, _ => .nil
  | n + 1, a => by
    rw [List.range_succ_eq_map, List.map_cons, List.map_map]
    refine .cons ?_ ?_
    · have e : a + ((0 : Nat) : Int) = a := by omega
      rw [e]
      exact .int a
    · have := dpAll_rg (H := H) n (a + 1)
      have e : (fun i : Nat => V.int (a + 1 + (i : Nat))) = (fun i : Nat => V.int (a + (i : Nat))) ∘ Nat.succ := by
        funext i
        show V.int _ = V.int (a + ((i + 1 : Nat) : Int))
        congr 1
        omega
      rw [← e]
      exact this
def eTupRg (f : M (Int × Int)) : M PyData := fun e => bnd (f e) fun p e1 => if rgB p = true then some (.tuple (upto p.1 (p.2 - p.1).toNat), e1) else none
theorem se_tupRg {te : L2.St → Hp → (Int → Int → Hp → Prop) → Prop} {f : M (Int × Int)} (h : SRg K T te f) : SE K T (tTupRg te) (eTupRg f) := fun W hT σ H B e d e' Q hf r q => by
  obtain ⟨p, e1, h1, hf⟩ := bnd_some hf
  by_cases c : rgB p = true
  · rw [if_pos c] at hf
    cases hf
    refine h W hT σ H B e p _ _ h1 r fun H1 B1 s1 r1 => ⟨rgB_ok c, fun l hl => ?_⟩
    have x := Ext.new (o := .tup (rgV p.1 p.2)) r1.bh hl
    exact q _ _ _ (s1.trans x.b) (r1.ext x) (.tup (SqT.of upd_same) (dpAll_rg _ _))
  · rw [if_neg c] at hf
    cases hf
def xListRg (f : M (Int × Int)) : M Sl := fun e => bnd (f e) fun p e1 => if rgB p = true then some (.ow (upto p.1 (p.2 - p.1).toNat), e1) else none
theorem sx_listRg {te : L2.St → Hp → (Int → Int → Hp → Prop) → Prop} {f : M (Int × Int)} (h : SRg K T te f) : SX K T (tLstRg te) (xListRg f) := fun W hT σ H B e s e' Q hf r q => by
  obtain ⟨p, e1, h1, hf⟩ := bnd_some hf
  by_cases c : rgB p = true
  · rw [if_pos c] at hf
    cases hf
    exact h W hT σ H B e p _ _ h1 r fun H1 B1 s1 r1 => ⟨rgB_ok c, fun l hl => q _ _ B1 s1 (r1.born hl (dpAll_rg _ _))⟩
  · rw [if_neg c] at hf
    cases hf
end
end VL
end
section
set_option Elab.async false
set_option linter.all false
set_option maxRecDepth 100000
set_option maxHeartbeats 2000000
namespace VL
open PySem PySem.Spec PyProof.Rows L2 HT PySem.W
/-! ### numbers, tuples of numbers, tuples of these ..: their order -/
mutual
def ltT : PyData → PyData → Bool
  | .int i, b => (match b with | .int j => decide (i < j) | _ => false)
  | .tuple xs, b => (match b with | .tuple ys => ltTA xs ys | _ => false)
  | .none, _ => false
  | .bool _, _ => false
  | .str _, _ => false
  | .list _, _ => false
  | .dict _, _ => false
def ltTA : List PyData → List PyData → Bool
  | [], ys => !ys.isEmpty
  | x :: xs, ys => (match ys with | [] => false | y :: ys => (match PyData.eqv x y with | true => ltTA xs ys | false => ltT x y))
end
/-- n within one another, each a number at the bottom -/
def od : Nat → PyData → Bool
  | 0, .int _ => true
  | n + 1, .tuple xs => xs.all (od n)
  | _, _ => false
theorem od_succ {n : Nat} {d : PyData} (h : od (n + 1) d = true) : ∃ xs, d = .tuple xs ∧ ∀ x ∈ xs, od n x = true := by
  cases d with
  | tuple xs => exact ⟨xs, rfl, List.all_eq_true.mp h⟩
  | none => cases h
  | bool _ => cases h
  | int _ => cases h
  | str _ => cases h
  | list _ => cases h
  | dict _ => cases h
theorem od_zero {d : PyData} (h : od 0 d = true) : ∃ i, d = .int i := by
  cases d with
  | int i => exact ⟨i, rfl⟩
  | none => cases h
  | bool _ => cases h
  | tuple _ => cases h
  | str _ => cases h
  | list _ => cases h
  | dict _ => cases h
theorem od_eqv : ∀ (n : Nat) {a b : PyData}, od n a = true → od n b = true → PyData.eqv a b = true → a = b
  | 0, a, b, ha, hb, h => by
    obtain ⟨i, rfl⟩ := od_zero ha
    obtain ⟨j, rfl⟩ := od_zero hb
    rw [PyData.eqv] at h
    rw [eq_of_beq h]
  | n + 1, a, b, ha, hb, h => by
    obtain ⟨xs, rfl, hx⟩ := od_succ ha
    obtain ⟨ys, rfl, hy⟩ := od_succ hb
    clear ha hb
    have ha := hx
    have hb := hy
    clear hx hy
    rw [PyData.eqv] at h
    congr 1
    induction xs generalizing ys with
    | nil =>
      cases ys with
      | nil => rfl
      | cons y ys => rw [PyData.eqvAll] at h; cases h
    | cons x xs ih =>
      cases ys with
      | nil => rw [PyData.eqvAll] at h; cases h
      | cons y ys =>
        rw [PyData.eqvAll, Bool.and_eq_true] at h
        rw [od_eqv n (ha x List.mem_cons_self) (hb y List.mem_cons_self) h.1, ih ys h.2 (fun z hz => ha z (List.mem_cons_of_mem _ hz)) (fun z hz => hb z (List.mem_cons_of_mem _ hz))]
theorem od_refl : ∀ (n : Nat) {a : PyData}, od n a = true → PyData.eqv a a = true
  | 0, a, ha => by
    obtain ⟨i, rfl⟩ := od_zero ha
    rw [PyData.eqv]
    exact beq_self_eq_true i
  | n + 1, a, ha => by
    obtain ⟨xs, rfl, hx⟩ := od_succ ha
    clear ha
    have ha := hx
    clear hx
    rw [PyData.eqv]
    induction xs with
    | nil => rw [PyData.eqvAll]
    | cons x xs ih =>
      rw [PyData.eqvAll, od_refl n (ha x List.mem_cons_self), ih fun z hz => ha z (List.mem_cons_of_mem _ hz)]
      rfl
theorem od_alike : ∀ (n : Nat) {a b : PyData}, od n a = true → od n b = true → alike a b = true
  | 0, a, b, ha, hb => by
    obtain ⟨i, rfl⟩ := od_zero ha
    obtain ⟨j, rfl⟩ := od_zero hb
    rw [alike]
  | n + 1, a, b, ha, hb => by
    obtain ⟨xs, rfl, hx⟩ := od_succ ha
    obtain ⟨ys, rfl, hy⟩ := od_succ hb
    clear ha hb
    have ha := hx
    have hb := hy
    clear hx hy
    rw [alike]
    induction xs generalizing ys with
    | nil => cases ys <;> rw [alikeAll]
    | cons x xs ih =>
      cases ys with
      | nil => rw [alikeAll]
      | cons y ys =>
        rw [alikeAll, od_alike n (ha x List.mem_cons_self) (hb y List.mem_cons_self), ih ys (fun z hz => ha z (List.mem_cons_of_mem _ hz)) (fun z hz => hb z (List.mem_cons_of_mem _ hz))]
        rfl
theorem od_depth : ∀ (n : Nat) {a : PyData}, od n a = true → a.depth ≤ n ∧ a.canLay0 = true
  | 0, a, ha => by
    obtain ⟨i, rfl⟩ := od_zero ha
    exact ⟨by simp [PyData.depth], by simp [PyData.canLay0]⟩
  | n + 1, a, ha => by
    obtain ⟨xs, rfl, hx⟩ := od_succ ha
    clear ha
    have ha := hx
    clear hx
    have key : PyData.depthAll xs ≤ n ∧ PyData.canLayAll0 xs = true := by
      induction xs with
      | nil => exact ⟨by simp [PyData.depthAll], by simp [PyData.canLayAll0]⟩
      | cons x xs ih =>
        obtain ⟨h1, h2⟩ := ih fun z hz => ha z (List.mem_cons_of_mem _ hz)
        obtain ⟨h3, h4⟩ := od_depth n (ha x List.mem_cons_self)
        refine ⟨?_, ?_⟩
        · rw [PyData.depthAll]
          exact Nat.max_le.mpr ⟨h3, h1⟩
        · rw [PyData.canLayAll0, h4, h2]
          rfl
    refine ⟨?_, ?_⟩
    · rw [PyData.depth]
      exact Nat.succ_le_succ key.1
    · rw [PyData.canLay0]
      exact key.2
theorem od_lt : ∀ (n : Nat) {a b : PyData}, od n a = true → od n b = true → dataLt a b = ltT a b
  | 0, a, b, ha, hb => by
    obtain ⟨i, rfl⟩ := od_zero ha
    obtain ⟨j, rfl⟩ := od_zero hb
    rw [dataLt_int]
    rfl
  | n + 1, a, b, ha, hb => by
    obtain ⟨xs, rfl, hx⟩ := od_succ ha
    obtain ⟨ys, rfl, hy⟩ := od_succ hb
    clear ha hb
    have ha := hx
    have hb := hy
    clear hx hy
    rw [dataLt_tuple]
    show _ = ltTA xs ys
    induction xs generalizing ys with
    | nil =>
      cases ys with
      | nil => exact lex_irrefl _
      | cons y ys =>
        rw [keyToksAll, keyToksAll, lex_diff (O := itemOrd) (by intro z; cases z)]
        rfl
    | cons x xs ih =>
      cases ys with
      | nil =>
        rw [keyToksAll, keyToksAll, lex_diff (O := itemOrd) (by intro z; cases z)]
        rfl
      | cons y ys =>
        rw [dataLt_cons (od_alike n (ha x List.mem_cons_self) (hb y List.mem_cons_self))]
        show _ = (match PyData.eqv x y with | true => ltTA xs ys | false => ltT x y)
        cases e : PyData.eqv x y with
        | true => exact ih ys (fun z hz => ha z (List.mem_cons_of_mem _ hz)) (fun z hz => hb z (List.mem_cons_of_mem _ hz))
        | false => exact od_lt n (ha x List.mem_cons_self) (hb y List.mem_cons_self)
theorem od_tri : ∀ (n : Nat) {a b : PyData}, od n a = true → od n b = true → ltT a b = false → ltT b a = false → a = b
  | 0, a, b, ha, hb, h1, h2 => by
    obtain ⟨i, rfl⟩ := od_zero ha
    obtain ⟨j, rfl⟩ := od_zero hb
    have h1 : decide (i < j) = false := h1
    have h2 : decide (j < i) = false := h2
    have := of_decide_eq_false h1
    have := of_decide_eq_false h2
    congr 1
    omega
  | n + 1, a, b, ha, hb, h1, h2 => by
    obtain ⟨xs, rfl, hx⟩ := od_succ ha
    obtain ⟨ys, rfl, hy⟩ := od_succ hb
    clear ha hb
    have ha := hx
    have hb := hy
    clear hx hy
    have h1' : ltTA xs ys = false := h1
    have h2' : ltTA ys xs = false := h2
    clear h1 h2
    congr 1
    induction xs generalizing ys with
    | nil =>
      cases ys with
      | nil => rfl
      | cons y ys => cases h1'
    | cons x xs ih =>
      cases ys with
      | nil => cases h2'
      | cons y ys =>
        have ox := ha x List.mem_cons_self
        have oy := hb y List.mem_cons_self
        have h1 : (match PyData.eqv x y with | true => ltTA xs ys | false => ltT x y) = false := h1'
        have h2 : (match PyData.eqv y x with | true => ltTA ys xs | false => ltT y x) = false := h2'
        cases e : PyData.eqv x y with
        | true =>
          have exy := od_eqv n ox oy e
          subst exy
          rw [e] at h1 h2
          rw [ih ys (fun z hz => ha z (List.mem_cons_of_mem _ hz)) (fun z hz => hb z (List.mem_cons_of_mem _ hz)) h1 h2]
        | false =>
          have e' : PyData.eqv y x = false := by
            cases e2 : PyData.eqv y x with
            | false => rfl
            | true =>
              have := od_eqv n oy ox e2
              subst this
              rw [e2] at e
              cases e
          rw [e] at h1
          rw [e'] at h2
          have := od_tri n ox oy h1 h2
          subst this
          rw [od_refl n ox] at e
          cases e
/-! ### sorted, one by one -/
def insD (a : PyData) : List PyData → List PyData
  | [] => [a]
  | b :: r => match ltT b a with
    | true => b :: insD a r
    | false => a :: b :: r
def sortD : List PyData → List PyData
  | [] => []
  | a :: r => insD a (sortD r)
theorem ins_perm (a : PyData) : ∀ l : List PyData, (insD a l).Perm (a :: l)
  | [] => List.Perm.refl _
  | b :: r => by
    unfold insD
    cases ltT b a with
    | true => exact ((ins_perm a r).cons b).trans (List.Perm.swap a b r)
    | false => exact List.Perm.refl _
theorem sort_perm : ∀ l : List PyData, (sortD l).Perm l
  | [] => List.Perm.refl _
  | a :: r => (ins_perm a (sortD r)).trans ((sort_perm r).cons a)
abbrev leD (a b : PyData) : Prop := ltT b a = false
theorem le_trans' {n : Nat} {a b c : PyData} (ha : od n a = true) (hb : od n b = true) (hc : od n c = true) (h1 : leD a b) (h2 : leD b c) : leD a c := by
  unfold leD at *
  rw [← od_lt n hb ha] at h1
  rw [← od_lt n hc hb] at h2
  rw [← od_lt n hc ha]
  have t := (sortLe_total (listOrd itemOrd) false (fun (d : PyData) => keyToks d)).trans a b c
  have e1 : sortLe (listOrd itemOrd) false (fun (d : PyData) => keyToks d) a b = true := by
    show (!dataLt b a) = true
    rw [h1]
    rfl
  have e2 : sortLe (listOrd itemOrd) false (fun (d : PyData) => keyToks d) b c = true := by
    show (!dataLt c b) = true
    rw [h2]
    rfl
  have e3 : (!dataLt c a) = true := t e1 e2
  cases q : dataLt c a with
  | false => rfl
  | true => rw [q] at e3; cases e3
theorem le_total' {n : Nat} {a b : PyData} (ha : od n a = true) (hb : od n b = true) : ltT a b = true → leD a b := fun h => by
  unfold leD
  rw [← od_lt n ha hb] at h
  rw [← od_lt n hb ha]
  cases q : dataLt b a with
  | false => rfl
  | true =>
    have z := lex_trans (O := itemOrd) _ _ _ h q
    rw [lex_irrefl] at z
    cases z
theorem ins_sorted {n : Nat} {a : PyData} (ha : od n a = true) : ∀ {l : List PyData}, (∀ x ∈ l, od n x = true) → l.Pairwise leD → (insD a l).Pairwise leD
  | [], _, _ => List.pairwise_singleton _ _
  | b :: r, ho, h => by
    obtain ⟨h1, h2⟩ := List.pairwise_cons.mp h
    have ob := ho b List.mem_cons_self
    unfold insD
    cases e : ltT b a with
    | true =>
      refine List.pairwise_cons.mpr ⟨fun x hx => ?_, ins_sorted ha (fun x hx => ho x (List.mem_cons_of_mem _ hx)) h2⟩
      rcases List.mem_cons.mp ((ins_perm a r).mem_iff.mp hx) with z | z
      · rw [z]
        exact le_total' ob ha e
      · exact h1 x z
    | false =>
      refine List.pairwise_cons.mpr ⟨fun x hx => ?_, h⟩
      rcases List.mem_cons.mp hx with z | z
      · rw [z]
        exact e
      · exact le_trans' ha ob (ho x (List.mem_cons_of_mem _ z)) e (h1 x z)
theorem sort_sorted {n : Nat} : ∀ {l : List PyData}, (∀ x ∈ l, od n x = true) → (sortD l).Pairwise leD
  | [], _ => List.Pairwise.nil
  | a :: r, ho => ins_sorted (ho a List.mem_cons_self) (fun x hx => ho x (List.mem_cons_of_mem _ ((sort_perm r).mem_iff.mp hx))) (sort_sorted fun x hx => ho x (List.mem_cons_of_mem _ hx))
theorem sorted_uniq {n : Nat} : ∀ {l m : List PyData}, (∀ x ∈ l, od n x = true) → l.Pairwise leD → m.Pairwise leD → l.Perm m → l = m
  | [], m, _, _, _, p => (List.Perm.eq_nil p.symm).symm
  | a :: l, [], _, _, _, p => absurd p.length_eq (by simp)
  | a :: l, b :: m, ho, h1, h2, p => by
    obtain ⟨k1, k2⟩ := List.pairwise_cons.mp h1
    obtain ⟨k3, k4⟩ := List.pairwise_cons.mp h2
    have oa := ho a List.mem_cons_self
    have ob : od n b = true := ho b (p.mem_iff.mpr List.mem_cons_self)
    have e : a = b := by
      rcases List.mem_cons.mp (p.mem_iff.mp List.mem_cons_self) with z | z
      · exact z
      · rcases List.mem_cons.mp (p.mem_iff.mpr List.mem_cons_self) with w | w
        · exact w.symm
        · exact od_tri n oa ob (k3 a z) (k1 b w)
    subst e
    rw [sorted_uniq (fun x hx => ho x (List.mem_cons_of_mem _ hx)) k2 k4 p.cons_inv]
/-! ### the rules -/
section
variable {K : PySem.W.Frag} {T : List (Addr × Str)} {X : Cx}
theorem readsAll {H : Hp} {pins : List (Addr × Obj)} {σ : L2.St} {s : Shared} (I : Inv X pins σ H s) {vs : List V} {ds : List PyData} {us : List Value} (h : DpAll X.K H vs ds) (r : Vals vs us) : ∃ as, ReadsAll s.heap us ds as := Dp.readsAll I ds vs us h r
/-- which depth a list's items have -/
def odAll (n : Nat) (ds : List PyData) : Bool := ds.all (od n)
def odOf (ds : List PyData) : Option Nat := if odAll 0 ds = true then some 0 else if odAll 1 ds = true then some 1 else if odAll 2 ds = true then some 2 else if odAll 3 ds = true then some 3 else none
theorem odOf_some {ds : List PyData} {n : Nat} (h : odOf ds = some n) : n ≤ 3 ∧ ∀ x ∈ ds, od n x = true := by
  unfold odOf at h
  split at h
  · cases h
    rename_i c
    exact ⟨by decide, List.all_eq_true.mp c⟩
  · split at h
    · cases h
      rename_i c
      exact ⟨by decide, List.all_eq_true.mp c⟩
    · split at h
      · cases h
        rename_i c
        exact ⟨by decide, List.all_eq_true.mp c⟩
      · split at h
        · cases h
          rename_i c
          exact ⟨by decide, List.all_eq_true.mp c⟩
        · cases h
theorem depthAll_od {n : Nat} : ∀ {ds : List PyData}, (∀ x ∈ ds, od n x = true) → PyData.depthAll ds ≤ n
  | [], _ => by simp [PyData.depthAll]
  | d :: ds, h => by
    rw [PyData.depthAll]
    exact Nat.max_le.mpr ⟨(od_depth n (h d List.mem_cons_self)).1, depthAll_od fun x hx => h x (List.mem_cons_of_mem _ hx)⟩
def minT (x : PyData) (xs : List PyData) : PyData := xs.foldl (fun a y => match ltT y a with | true => y | false => a) x
theorem minT_eq {n : Nat} : ∀ {xs : List PyData} {x : PyData}, (∀ y ∈ x :: xs, od n y = true) → minD x xs = minT x xs
  | [], _, _ => rfl
  | y :: ys, x, h => by
    have oy := h y (List.mem_cons_of_mem _ List.mem_cons_self)
    have ox := h x List.mem_cons_self
    unfold minD minT
    rw [List.foldl_cons, List.foldl_cons, od_lt n oy ox]
    have step : ∀ z, od n z = true → List.foldl (fun a y => if dataLt y a = true then y else a) z ys = List.foldl (fun a y => match ltT y a with | true => y | false => a) z ys := fun z hz => minT_eq (x := z) fun w hw => (List.mem_cons.mp hw).elim (fun e => by rw [e]; exact hz) fun e => h w (List.mem_cons_of_mem _ (List.mem_cons_of_mem _ e))
    cases e : ltT y x with
    | true => exact step y oy
    | false => exact step x ox
def rMinD (K : PySem.W.Frag) : List V → Hp → VK → Prop := fun vs H Q => ∃ (p : Addr) (ys : List V) (x : PyData) (xs : List PyData) (n : Nat), vs = [.ref p] ∧ SqL K H p ys ∧ DpAll K H ys (x :: xs) ∧ n ≤ 3 ∧ (∀ y ∈ x :: xs, od n y = true) ∧ ∀ (i : Nat) (v : V), ys[i]? = some v → (x :: xs)[i]? = some (minT x xs) → Q v H
theorem od_none {n : Nat} {d : PyData} (h : od n d = true) : d ≠ .none := fun e => by
  subst e
  cases n <;> cases h
theorem cr_minD (hc : X.calm = true) (hu : X.A.units + 65 < cLine) : CallR X (.builtin "min") (rMinD X.K) := by
  intro pins s σ H vs us Q I r h
  obtain ⟨p, ys, x, xs, n, rfl, hs, hd, hn, ho, q⟩ := h
  obtain ⟨its, rv, hl, _⟩ := I.list hs
  rw [Vals.ref1 r]
  obtain ⟨as, hr⟩ := readsAll I hd rv
  refine min_list_data (vs := its.toArray) (I.ok.hd hc) hl.isList hr ⟨fun a ha b hb => od_alike n (ho a ha) (ho b hb), fun a ha => od_none (ho a ha)⟩ (by have := depthAll_od ho; omega) fun i v h' tk bs hv hr' hk => ?_
  have hv' : its[i]? = some v := by simpa using hv
  have il : i < ys.length := by
    rw [rv.length]
    exact (List.getElem?_eq_some_iff.mp hv').1
  obtain ⟨u, hu1, hu2⟩ := rv.get (List.getElem?_eq_getElem il)
  rw [hv'] at hu1
  cases hu1
  obtain ⟨d, hd1, hd2⟩ := dpAll_get hd (List.getElem?_eq_getElem il)
  have od_d : od n d = true := ho d (List.mem_of_getElem? hd1)
  obtain ⟨cs, hr2⟩ := Dp.reads I d _ v hd2 hu2
  have om : od n (minD x xs) = true := by
    have : minD x xs ∈ x :: xs := by
      unfold minD
      clear hr' hr q ho hd1 hd
      induction xs generalizing x with
      | nil => exact List.mem_cons_self
      | cons y ys ih =>
        rw [List.foldl_cons]
        split
        · exact List.mem_cons_of_mem _ (ih y)
        · rcases List.mem_cons.mp (ih x) with z | z
          · rw [z]
            exact List.mem_cons_self
          · exact List.mem_cons_of_mem _ (List.mem_cons_of_mem _ z)
    exact ho _ this
  have e : d = minD x xs := alike_unique d _ v _ _ (od_alike n od_d om) (reads_keeps hk hr2) hr'
  rw [minT_eq ho] at e
  rw [e] at hd1
  exact ⟨_, H, I.kept hk, hu2, q i _ (List.getElem?_eq_getElem il) hd1⟩
def pMinD : List PyData → Option PyData
  | [.list (x :: xs)] => match odOf (x :: xs) with
    | none => none
    | some _ => some (minT x xs)
  | _ => none
theorem sr_minD : SRn K (rMinD K) pMinD := fun H B xs as d Q bh ha h q => by
  unfold pMinD at h
  split at h
  · rename_i x xs
    cases e : odOf (x :: xs) with
    | none => rw [e] at h; cases h
    | some n =>
      rw [e] at h
      cases h
      obtain ⟨h1, h2⟩ := odOf_some e
      obtain ⟨v, rfl, dv⟩ := dpAll_one ha
      obtain ⟨p, ys, rfl, b1, b2⟩ := dp_lst dv
      refine ⟨p, ys, x, xs, n, rfl, bh.seq b1, dpAll_mono bh b2, h1, h2, fun i v hv hd => ?_⟩
      obtain ⟨d, k1, k2⟩ := dpAll_get b2 hv
      rw [hd] at k1
      cases k1
      exact q v H B (Ext.refl bh) k2
  · cases h
end
end VL
end
section
set_option Elab.async false
set_option linter.all false
set_option maxRecDepth 100000
set_option maxHeartbeats 2000000
namespace VL
open PySem PySem.Spec PyProof.Rows L2 HT PySem.W PySem.Calls
section
variable {prog : Program} {w : World} {A : Around} {E : Value → Shared → Prop} {s : Shared}
/-- all items of a tuple, in a new list of the machine's own -/
theorem collect_tup {l : Addr} {vs : List Value} {Q : List Value → Shared → Prop} (ht : IsTup s.heap l vs.toArray) (hz : vs.length ≤ sizeLine)
    (h : Q vs { s with heap := (s.heap.push (seqObj "list" #[] 0)).update s.heap.objs.size (Obj.mapSeq (· ++ vs.toArray)) }) : wpAny (model prog w) A (collect (.ref l)) Q E s := by
  obtain ⟨o, ho, hc, n, hd⟩ := ht
  have new : (s.heap.push (seqObj "list" #[] 0)).get? s.heap.objs.size = some (seqObj "list" #[] 0) := Heap.get?_push_size _ rfl
  have old := Heap.get?_push_of_some (seqObj "list" #[] 0) ho
  unfold collect
  refine wpAny_bind (wpAny_runValue (codeAny_builtin entry_proto_collect' ?_))
  show wpAny _ _ (newList [] >>= fun v => again (.builtin "list.__iadd__" ⟨[v, .ref l], []⟩)) _ _ s
  refine wpAny_bind (wpAny_newList (wpAny_pure ⟨Code.quiet_builtin _ (by decide +kernel), codeAny_builtin entry_list_iadd' ?_⟩))
  show wpAny _ _ (Builtin.List.listExtendWith (.ref s.heap.objs.size) (.ref l) (.ref s.heap.objs.size)) _ _ ⟨s.heap.push (seqObj "list" #[] 0), s.gens, s.drawn, s.toks, s.os⟩
  unfold Builtin.List.listExtendWith
  refine wpAny_bind (wpAny_typeOf (T := "tuple") ⟨o, old, hc⟩ ?_)
  rw [if_pos (by rw [show (Value.type "tuple" == Value.type "tuple") = true from rfl]; simp)]
  refine wpAny_bind (listItems_at old hd (wpAny_bind (listItems_at new rfl ?_)))
  rw [if_neg (by simp)]
  refine wpAny_bind (listUpdate_at new rfl (wpAny_pure ?_) (Nat.zero_le _) (by show (#[] ++ vs.toArray).size ≤ sizeLine + 1; simp only [Array.size_append, List.size_toArray, List.length_nil]; omega))
  refine wpAny_bind (wpAny_load (get?_update_seq new _) ?_)
  show wpAny _ _ (pure ((#[] : Array Value) ++ vs.toArray).toList) Q E _
  rw [show ((#[] : Array Value) ++ vs.toArray).toList = vs by simp]
  exact wpAny_pure h
/-- sorted of what is walked as vs -/
def Col (s : Shared) (l : Addr) (vs : List Value) : Prop := ∀ (prog : Program) (w : World) (A : Around) (E : Value → Shared → Prop) (Q : List Value → Shared → Prop),
  Q vs { s with heap := (s.heap.push (seqObj "list" #[] 0)).update s.heap.objs.size (Obj.mapSeq (· ++ vs.toArray)) } → wpAny (model prog w) A (collect (.ref l)) Q E s
theorem sorted_col {l : Addr} {vs : List Value} {Q : Value → Shared → Prop} (hc : Col s l vs) (hL : vs.length ≤ sizeLine)
    (body : ∀ E' : Value → Shared → Prop, wpAny (model prog w) A.in1.in1 (Builtin.«list.sort» ⟨[.ref (s.heap.objs.size + 1)], []⟩) (fun f s' => f = .done (.ret .none) ∧ Q (.ref (s.heap.objs.size + 1)) s') E' { s with heap := copyHeap s.heap vs }) :
    wpAny (model prog w) A (call (.builtin "sorted") [.ref l]) Q E s := by
  refine call_function_entry_kw kind_sorted plain_sorted entry_sorted (args_sorted1 _) ?_
  unfold Builtin.«sorted»
  refine wpAny_bind (m := checkCount "sorted" 1 1 _) (wpAny_pure ?_)
  refine wpAny_bind (hc _ _ _ _ _ ?_)
  refine wpAny_bind (wpAny_newList ?_ hL)
  have hsz : ((s.heap.push (seqObj "list" #[] 0)).update s.heap.objs.size (Obj.mapSeq (· ++ vs.toArray))).objs.size = s.heap.objs.size + 1 := by
    rw [Heap.size_update, size_push']
  show wpAny _ _ _ _ _ { s with heap := copyHeap s.heap vs }
  rw [hsz]
  refine wpAny_bind (wpAny_holding (wpAny_call_entry_kw slot_list_sort ⟨_, copyHeap_at s.heap vs, rfl⟩ entry_list_sort ?body (args_list_sort _)))
  case body =>
    show wpAny (model prog w) A.in1.in1 (Builtin.«list.sort» ⟨[.ref (s.heap.objs.size + 1)], []⟩) _ _ _
    refine wpAny_mono (body _) (fun f s' hf => ?_) fun _ _ e => e
    obtain ⟨rfl, hq⟩ := hf
    exact ⟨_, rfl, wpAny_pure ⟨_, rfl, hq⟩⟩
variable {β : Type} {vs : List Value} {bs : List β} {enc : β → PyData} {R : Value → β → Prop}
theorem sorted_dataC {l : Addr} {Q : Value → Shared → Prop} (hc : Col s l vs) (e : EachIs R vs bs) (er : EachIs (fun v b => ∃ as, Reads s.heap v (enc b) as) vs bs) (hal : AllAlike (bs.map enc)) (hk : Sortable (bs.map enc)) (hL : bs.length ≤ sizeLine)
    (hu : ∀ b, b ∈ bs → A.units + 2 + (enc b).depth < cLine) (h : ∀ out, out.length = bs.length → EachIs R out (bs.mergeSort (dataLe false enc)) → Q (.ref (s.heap.objs.size + 1)) { s with heap := sortedAll s.heap vs (List.toArray out) }) :
    wpAny (model prog w) A (call (.builtin "sorted") [.ref l]) Q E s := by
  have er' : EachIs (fun v b => ∃ as, Reads (sortingHeap (copyHeap s.heap vs) (s.heap.objs.size + 1) vs) v (enc b) as) vs bs := er.mono fun _ _ ⟨as, r⟩ => ⟨as, PyProof.Rows.Reads.keeps (fun _ _ => sorting_copy_old) r⟩
  have hL' : vs.length ≤ sizeLine := by rw [e.length]; exact hL
  refine sorted_col hc hL' fun E' => list_sort_vals (s := { s with heap := copyHeap s.heap vs }) (copyHeap_at s.heap vs) (SortsAt.data (s := { s with heap := sortingHeap (copyHeap s.heap vs) (s.heap.objs.size + 1) vs }) (each_map (R := fun v d => ∃ as, Reads (sortingHeap (copyHeap s.heap vs) (s.heap.objs.size + 1) vs) v d as) enc er') hal hk (bound_map hu)) hL' ⟨rfl, ?_⟩
  exact h _ (by rw [sortVals_length false rfl]; exact e.length) (sortVals_data false e er' hal)
end
section
variable {K : PySem.W.Frag} {T : List (Addr × Str)} {X : Cx}
theorem each_zip {H : Hp} {pins : List (Addr × Obj)} {σ : L2.St} {s : Shared} (I : Inv X pins σ H s) : ∀ {ys : List V} {ds : List PyData} {its : List Value}, DpAll X.K H ys ds → Vals ys its → EachIs (fun v (b : V × PyData) => RelV b.1 v) its (ys.zip ds) ∧ EachIs (fun v (b : V × PyData) => ∃ as, Reads s.heap v b.2 as) its (ys.zip ds)
  | _, _, _, .nil, .nil => ⟨.nil, .nil⟩
  | _, _, _, .cons h t, .cons r rs => by
    obtain ⟨a, b⟩ := each_zip I t rs
    exact ⟨.cons r a, .cons (Dp.reads I _ _ _ h r) b⟩
theorem zip_snd {H : Hp} : ∀ {ys : List V} {ds : List PyData}, DpAll K H ys ds → (ys.zip ds).map Prod.snd = ds
  | _, _, .nil => rfl
  | _, _, .cons _ t => congrArg (_ :: ·) (zip_snd t)
theorem zip_fst {H : Hp} : ∀ {ys : List V} {ds : List PyData}, DpAll K H ys ds → (ys.zip ds).map Prod.fst = ys
  | _, _, .nil => rfl
  | _, _, .cons _ t => congrArg (_ :: ·) (zip_fst t)
theorem zip_mem {H : Hp} : ∀ {ys : List V} {ds : List PyData}, DpAll K H ys ds → ∀ p ∈ ys.zip ds, Dp K H p.1 p.2
  | _, _, .nil, p, hp => by cases hp
  | _, _, .cons h t, p, hp => by
    rcases List.mem_cons.mp hp with e | e
    · rw [e]
      exact h
    · exact zip_mem t p e
theorem dpAll_pairs {H : Hp} : ∀ {l : List (V × PyData)}, (∀ p ∈ l, Dp K H p.1 p.2) → DpAll K H (l.map Prod.fst) (l.map Prod.snd)
  | [], _ => .nil
  | p :: l, h => .cons (h p List.mem_cons_self) (dpAll_pairs fun q hq => h q (List.mem_cons_of_mem _ hq))
theorem vals_each : ∀ {out : List Value} {l : List (V × PyData)}, EachIs (fun v (b : V × PyData) => RelV b.1 v) out l → Vals (l.map Prod.fst) out
  | _, _, .nil => .nil
  | _, _, .cons r t => .cons r (vals_each t)
/-- a list or a tuple, its items told -/
def rSortA (K : PySem.W.Frag) : List V → Hp → VK → Prop := fun vs H Q => ∃ (p : Addr) (ys : List V) (ds : List PyData) (n : Nat), vs = [.ref p] ∧ (SqL K H p ys ∨ SqT K H p ys) ∧ DpAll K H ys ds ∧ n ≤ 3 ∧ (∀ y ∈ ds, od n y = true) ∧ Sortable ds ∧
  ∀ (q : Addr) (zs : List V), H q = none → (∀ (B : Hp), DpAll K B ys ds → DpAll K B zs (sortD ds)) → Q (.ref q) (upd H q (.lst zs))
theorem cr_sortedA (hu : X.A.units + 65 < cLine) : CallR X (.builtin "sorted") (rSortA X.K) := by
  intro pins s σ H vs us Q I r h
  obtain ⟨p, ys, ds, n, rfl, hs, hd, hn, ho, hk, q⟩ := h
  rw [Vals.ref1 r]
  have main : ∀ its : List Value, Vals ys its → ys.length ≤ sizeLine → Col s p its → wpAny (model X.prog X.w) X.A (call (.builtin "sorted") [.ref p]) (EP X pins σ Q) X.xe s := by
    intro its rv hz hc
    obtain ⟨e1, e2⟩ := each_zip I hd rv
    have hsnd := zip_snd hd
    have hL : (ys.zip ds).length ≤ sizeLine := by rw [List.length_zip, dpAll_len hd, Nat.min_self, ← dpAll_len hd]; exact hz
    refine sorted_dataC (enc := fun b : V × PyData => b.2) hc e1 e2 (by rw [hsnd]; exact fun a ha b hb => od_alike n (ho a ha) (ho b hb)) (by rw [hsnd]; exact hk) hL (fun b hb => ?_) fun out hl eo => ?_
    · have hb2 : b.2 ∈ ds := by
        rw [← hsnd]
        exact List.mem_map.mpr ⟨b, hb, rfl⟩
      have := (od_depth n (ho _ hb2)).1
      omega
    · obtain ⟨ep, he⟩ := sortedAll_at s.heap its out.toArray
      have pm : ((ys.zip ds).mergeSort (dataLe false fun b : V × PyData => b.2)).Perm (ys.zip ds) := List.mergeSort_perm _ _
      have srt : ((ys.zip ds).mergeSort (dataLe false fun b : V × PyData => b.2)).Pairwise (fun a b => dataLe false (fun b : V × PyData => b.2) a b = true) :=
        List.pairwise_mergeSort (le := dataLe false fun b : V × PyData => b.2) (fun a b c => (sortLe_total (listOrd itemOrd) false fun b : V × PyData => keyToks b.2).trans a b c) (fun a b => by
          have t := (sortLe_total (listOrd itemOrd) false fun b : V × PyData => keyToks b.2).total a b
          exact (Bool.or_eq_true _ _).mpr t) _
      have eD : ((ys.zip ds).mergeSort (dataLe false fun b : V × PyData => b.2)).map Prod.snd = sortD ds := by
        have p2 : (((ys.zip ds).mergeSort (dataLe false fun b : V × PyData => b.2)).map Prod.snd).Perm ds := by
          have := pm.map Prod.snd
          rw [hsnd] at this
          exact this
        refine sorted_uniq (n := n) (fun x hx => ho x (p2.mem_iff.mp hx)) ?_ (sort_sorted ho) (p2.trans (sort_perm ds).symm)
        refine List.pairwise_map.mpr (List.pairwise_iff_forall_sublist.mpr fun {a b} hab => ?_)
        have q1 := List.pairwise_iff_forall_sublist.mp srt hab
        have m1 : a.2 ∈ ds := p2.mem_iff.mp (List.mem_map.mpr ⟨a, hab.subset List.mem_cons_self, rfl⟩)
        have m2 : b.2 ∈ ds := p2.mem_iff.mp (List.mem_map.mpr ⟨b, hab.subset (List.mem_cons_of_mem _ List.mem_cons_self), rfl⟩)
        show ltT b.2 a.2 = false
        rw [← od_lt n (ho _ m2) (ho _ m1)]
        have q2 : (!dataLt b.2 a.2) = true := q1
        cases q3 : dataLt b.2 a.2 with
        | false => rfl
        | true => rw [q3] at q2; cases q2
      have hl2 : (((ys.zip ds).mergeSort (dataLe false fun b : V × PyData => b.2)).map Prod.fst).length ≤ sizeLine := by rw [List.length_map, pm.length_eq]; exact hL
      have J := I.laid (t' := s.toks) (o := .lst (((ys.zip ds).mergeSort (dataLe false fun b : V × PyData => b.2)).map Prod.fst)) (fun _ _ => sortedAll_old (vs := its) (out := out.toArray)) (Nat.le_succ _) ⟨hl2, out, ep, vals_each eo, he⟩
      refine ⟨.ref _, _, J, rfl, q _ _ (I.hok.fresh (Nat.le_succ _)) fun B hB => ?_⟩
      rw [← eD]
      exact dpAll_pairs fun p hp => zip_mem hB p (pm.mem_iff.mp hp)
  rcases hs with hs | hs
  · obtain ⟨its, rv, hl, hz⟩ := I.list hs
    exact main its rv hz fun prog w A E Q hq => collect_list hl.isList hq (by rw [← rv.length]; exact hz)
  · obtain ⟨its, rv, hl, hz⟩ := I.tuple hs
    exact main its rv hz fun prog w A E Q hq => collect_tup hl (by rw [← rv.length]; exact hz) hq
def isTup1 : PyData → Bool
  | .tuple (_ :: _) => true
  | _ => false
def pSorted : List PyData → Option (List PyData)
  | [d] => match seqD d with
    | none => none
    | some ds => match odOf ds with
      | none => none
      | some 0 => some (sortD ds)
      | some (_ + 1) => if ds.all isTup1 = true then some (sortD ds) else none
  | _ => none
theorem isTup1_some {d : PyData} (h : isTup1 d = true) : ∃ x r, d = .tuple (x :: r) := by
  unfold isTup1 at h
  split at h
  · exact ⟨_, _, rfl⟩
  · cases h
theorem sr_sorted : SRx K (rSortA K) pSorted := fun H B xs as ds Q bh ha h q => by
  unfold pSorted at h
  split at h
  · rename_i d
    cases e : seqD d with
    | none => rw [e] at h; cases h
    | some es =>
      rw [e] at h
      obtain ⟨v, rfl, dv⟩ := dpAll_one ha
      cases e2 : odOf es with
      | none => simp only [e2] at h; cases h
      | some n =>
        obtain ⟨h1, h2⟩ := odOf_some e2
        have key : sortD es = ds ∧ Sortable es := by
          cases n with
          | zero =>
            simp only [e2] at h
            cases h
            refine ⟨rfl, .inr fun d hd => ?_⟩
            obtain ⟨i, rfl⟩ := od_zero (h2 d hd)
            exact ⟨fun z => (by cases z), fun xs z => (by cases z)⟩
          | succ m =>
            simp only [e2] at h
            by_cases c : es.all isTup1 = true
            · rw [if_pos c] at h
              cases h
              exact ⟨rfl, .inl fun d hd => isTup1_some (List.all_eq_true.mp c d hd)⟩
            · rw [if_neg c] at h
              cases h
        obtain ⟨rfl, hk⟩ := key
        rcases seqD_some e with rfl | rfl
        · obtain ⟨p, ys, rfl, b1, b2⟩ := dp_lst dv
          exact ⟨p, ys, es, n, rfl, .inl (bh.seq b1), dpAll_mono bh b2, h1, h2, hk, fun l zs hl hz => q l zs H B (Ext.refl bh) hl (hz B b2)⟩
        · obtain ⟨p, ys, rfl, b1, b2⟩ := dp_tup dv
          exact ⟨p, ys, es, n, rfl, .inr (seqT bh b1), dpAll_mono bh b2, h1, h2, hk, fun l zs hl hz => q l zs H B (Ext.refl bh) hl (hz B b2)⟩
  · cases h
end
end VL
end
section
set_option Elab.async false
set_option linter.all false
set_option maxRecDepth 100000
set_option maxHeartbeats 2000000
namespace VL
open PySem PySem.Spec PyProof.Rows L2 HT
/-! ### keys -/
mutual
theorem reads_nested {h : Heap} : ∀ {d : PyData} {u : Value} {as : List Addr} {k : NestedKey}, Reads h u d as → keyN d = some k → NestedIs h k u
  | .int i, _, _, _, r, e => by
    cases r
    cases e
    exact .int _ _
  | .tuple ds, _, _, _, r, e => by
    cases r with
    | tuple h1 h2 h3 h4 =>
      unfold keyN at e
      cases e2 : keyNs ds with
      | none => rw [e2] at e; cases e
      | some ks =>
        rw [e2] at e
        cases e
        exact .tup h1 h2 h3 (reads_nesteds h4 e2)
  | .none, _, _, _, _, e => by cases e
  | .bool _, _, _, _, _, e => by cases e
  | .str _, _, _, _, _, e => by cases e
  | .list _, _, _, _, _, e => by cases e
  | .dict _, _, _, _, _, e => by cases e
theorem reads_nesteds {h : Heap} : ∀ {ds : List PyData} {us : List Value} {as : List Addr} {ks : List NestedKey}, ReadsAll h us ds as → keyNs ds = some ks → NestedAll h ks us
  | [], _, _, _, r, e => by
    cases r
    cases e
    exact .nil
  | d :: ds, _, _, _, r, e => by
    cases r with
    | cons r1 r2 =>
      unfold keyNs at e
      cases e1 : keyN d with
      | none => rw [e1] at e; cases e
      | some k =>
        cases e2 : keyNs ds with
        | none => simp only [e1, e2] at e; cases e
        | some ks =>
          simp only [e1, e2] at e
          cases e
          exact .cons (reads_nested r1 e1) (reads_nesteds r2 e2)
end
mutual
theorem key_depth : ∀ {d : PyData} {k : NestedKey}, keyN d = some k → k.depth ≤ d.depth
  | .int i, _, e => by
    cases e
    exact Nat.zero_le _
  | .tuple ds, _, e => by
    unfold keyN at e
    cases e2 : keyNs ds with
    | none => rw [e2] at e; cases e
    | some ks =>
      rw [e2] at e
      cases e
      rw [NestedKey.depth, PyData.depth]
      exact Nat.succ_le_succ (keys_depth e2)
  | .none, _, e => by cases e
  | .bool _, _, e => by cases e
  | .str _, _, e => by cases e
  | .list _, _, e => by cases e
  | .dict _, _, e => by cases e
theorem keys_depth : ∀ {ds : List PyData} {ks : List NestedKey}, keyNs ds = some ks → NestedKey.depthAll ks ≤ PyData.depthAll ds
  | [], _, e => by
    cases e
    exact Nat.zero_le _
  | d :: ds, _, e => by
    unfold keyNs at e
    cases e1 : keyN d with
    | none => rw [e1] at e; cases e
    | some k =>
      cases e2 : keyNs ds with
      | none => simp only [e1, e2] at e; cases e
      | some ks =>
        simp only [e1, e2] at e
        cases e
        rw [NestedKey.depthAll, PyData.depthAll]
        have a := key_depth e1
        have b := keys_depth e2
        omega
end
mutual
theorem key_hash (w : World) : ∀ {d : PyData} {k : NestedKey}, keyN d = some k → k.hash w = hashN k
  | .int i, _, e => by
    cases e
    rw [NestedKey.hash, hashN]
  | .tuple ds, _, e => by
    unfold keyN at e
    cases e2 : keyNs ds with
    | none => rw [e2] at e; cases e
    | some ks =>
      rw [e2] at e
      cases e
      rw [NestedKey.hash, hashN, keys_hash w e2]
  | .none, _, e => by cases e
  | .bool _, _, e => by cases e
  | .str _, _, e => by cases e
  | .list _, _, e => by cases e
  | .dict _, _, e => by cases e
theorem keys_hash (w : World) : ∀ {ds : List PyData} {ks : List NestedKey}, keyNs ds = some ks → NestedKey.hashes w ks = hashNs ks
  | [], _, e => by
    cases e
    rw [NestedKey.hashes, hashNs]
  | d :: ds, _, e => by
    unfold keyNs at e
    cases e1 : keyN d with
    | none => rw [e1] at e; cases e
    | some k =>
      cases e2 : keyNs ds with
      | none => simp only [e1, e2] at e; cases e
      | some ks =>
        simp only [e1, e2] at e
        cases e
        rw [NestedKey.hashes, hashNs, key_hash w e1, keys_hash w e2]
end
mutual
theorem key_eqv : ∀ {a b : PyData} {k k' : NestedKey}, keyN a = some k → keyN b = some k' → (PyData.eqv a b = true ↔ k = k')
  | .int i, b, _, k', e, e' => by
    cases e
    cases b with
    | int j =>
      cases e'
      rw [PyData.eqv]
      exact ⟨fun h => (by rw [eq_of_beq h]), fun h => (by cases h; exact beq_self_eq_true _)⟩
    | tuple ds =>
      unfold keyN at e'
      cases e2 : keyNs ds with
      | none => rw [e2] at e'; cases e'
      | some ks =>
        rw [e2] at e'
        cases e'
        rw [PyData.eqv]
        exact ⟨fun h => (by cases h), fun h => (by cases h)⟩
    | none => cases e'
    | bool _ => cases e'
    | str _ => cases e'
    | list _ => cases e'
    | dict _ => cases e'
  | .tuple xs, b, _, k', e, e' => by
    unfold keyN at e
    cases e2 : keyNs xs with
    | none => rw [e2] at e; cases e
    | some ks =>
      rw [e2] at e
      cases e
      cases b with
      | int j =>
        cases e'
        rw [PyData.eqv]
        exact ⟨fun h => (by cases h), fun h => (by cases h)⟩
      | tuple ys =>
        unfold keyN at e'
        cases e3 : keyNs ys with
        | none => rw [e3] at e'; cases e'
        | some ks' =>
          rw [e3] at e'
          cases e'
          rw [PyData.eqv]
          have := keys_eqv e2 e3
          exact ⟨fun h => (by rw [this.mp h]), fun h => this.mpr (by cases h; rfl)⟩
      | none => cases e'
      | bool _ => cases e'
      | str _ => cases e'
      | list _ => cases e'
      | dict _ => cases e'
  | .none, _, _, _, e, _ => by cases e
  | .bool _, _, _, _, e, _ => by cases e
  | .str _, _, _, _, e, _ => by cases e
  | .list _, _, _, _, e, _ => by cases e
  | .dict _, _, _, _, e, _ => by cases e
theorem keys_eqv : ∀ {as bs : List PyData} {ks ks' : List NestedKey}, keyNs as = some ks → keyNs bs = some ks' → (PyData.eqvAll as bs = true ↔ ks = ks')
  | [], bs, _, ks', e, e' => by
    cases e
    cases bs with
    | nil =>
      cases e'
      rw [PyData.eqvAll]
      exact ⟨fun _ => rfl, fun _ => rfl⟩
    | cons b bs =>
      rw [PyData.eqvAll]
      unfold keyNs at e'
      cases e1 : keyN b with
      | none => rw [e1] at e'; cases e'
      | some k =>
        cases e2 : keyNs bs with
        | none => simp only [e1, e2] at e'; cases e'
        | some ks =>
          simp only [e1, e2] at e'
          cases e'
          exact ⟨fun h => (by cases h), fun h => (by cases h)⟩
  | a :: as, bs, _, ks', e, e' => by
    unfold keyNs at e
    cases e1 : keyN a with
    | none => rw [e1] at e; cases e
    | some k =>
      cases e2 : keyNs as with
      | none => simp only [e1, e2] at e; cases e
      | some ks =>
        simp only [e1, e2] at e
        cases e
        cases bs with
        | nil =>
          cases e'
          rw [PyData.eqvAll]
          exact ⟨fun h => (by cases h), fun h => (by cases h)⟩
        | cons b bs =>
          unfold keyNs at e'
          cases e3 : keyN b with
          | none => rw [e3] at e'; cases e'
          | some k' =>
            cases e4 : keyNs bs with
            | none => simp only [e3, e4] at e'; cases e'
            | some ks' =>
              simp only [e3, e4] at e'
              cases e'
              rw [PyData.eqvAll, Bool.and_eq_true, key_eqv e1 e3, keys_eqv e2 e4]
              exact ⟨fun h => (by rw [h.1, h.2]), fun h => (by cases h; exact ⟨rfl, rfl⟩)⟩
end
mutual
theorem key_inj : ∀ {a b : PyData} {k : NestedKey}, keyN a = some k → keyN b = some k → a = b
  | .int i, b, _, e, e' => by
    cases e
    cases b with
    | int j => cases e'; rfl
    | tuple ds =>
      unfold keyN at e'
      cases e2 : keyNs ds with
      | none => rw [e2] at e'; cases e'
      | some ks => rw [e2] at e'; cases e'
    | none => cases e'
    | bool _ => cases e'
    | str _ => cases e'
    | list _ => cases e'
    | dict _ => cases e'
  | .tuple xs, b, k, e, e' => by
    unfold keyN at e
    cases e2 : keyNs xs with
    | none => rw [e2] at e; cases e
    | some ks =>
      rw [e2] at e
      cases e
      cases b with
      | int j => cases e'
      | tuple ys =>
        unfold keyN at e'
        cases e3 : keyNs ys with
        | none => rw [e3] at e'; cases e'
        | some ks' =>
          rw [e3] at e'
          cases e'
          rw [keys_inj e2 e3]
      | none => cases e'
      | bool _ => cases e'
      | str _ => cases e'
      | list _ => cases e'
      | dict _ => cases e'
  | .none, _, _, e, _ => by cases e
  | .bool _, _, _, e, _ => by cases e
  | .str _, _, _, e, _ => by cases e
  | .list _, _, _, e, _ => by cases e
  | .dict _, _, _, e, _ => by cases e
theorem keys_inj : ∀ {as bs : List PyData} {ks : List NestedKey}, keyNs as = some ks → keyNs bs = some ks → as = bs
  | [], bs, _, e, e' => by
    cases e
    cases bs with
    | nil => rfl
    | cons b bs =>
      unfold keyNs at e'
      cases e1 : keyN b with
      | none => rw [e1] at e'; cases e'
      | some k =>
        cases e2 : keyNs bs with
        | none => simp only [e1, e2] at e'; cases e'
        | some ks => simp only [e1, e2] at e'; cases e'
  | a :: as, bs, _, e, e' => by
    unfold keyNs at e
    cases e1 : keyN a with
    | none => rw [e1] at e; cases e
    | some k =>
      cases e2 : keyNs as with
      | none => simp only [e1, e2] at e; cases e
      | some ks =>
        simp only [e1, e2] at e
        cases e
        cases bs with
        | nil => cases e'
        | cons b bs =>
          unfold keyNs at e'
          cases e3 : keyN b with
          | none => rw [e3] at e'; cases e'
          | some k' =>
            cases e4 : keyNs bs with
            | none => simp only [e3, e4] at e'; cases e'
            | some ks' =>
              simp only [e3, e4] at e'
              cases e'
              rw [key_inj e1 e3, keys_inj e2 e4]
end
/-! ### what a dict holds -/
def lookD : List (PyData × PyData) → PyData → Option PyData
  | [], _ => none
  | (d', v) :: r, d => match PyData.eqv d' d with
    | true => some v
    | false => lookD r d
def putAtD (d dv : PyData) (p : PyData × PyData) : PyData × PyData := match PyData.eqv p.1 d with
  | true => (p.1, dv)
  | false => p
def putD (kvs : List (PyData × PyData)) (d dv : PyData) : List (PyData × PyData) := match lookD kvs d with
  | none => kvs ++ [(d, dv)]
  | some _ => kvs.map (putAtD d dv)
section
variable {K : PySem.W.Frag} {T : List (Addr × Str)} {B : Hp}
theorem ents_look : ∀ {xs : List (NestedKey × Addr × Value)} {kvs : List (PyData × PyData)} {d : PyData} {k : NestedKey}, EntsOk K B xs kvs → keyN d = some k →
    (∀ dv, lookD kvs d = some dv → ∃ p v, atKey xs k = some p ∧ RelV v p.2 ∧ Dp K B v dv) ∧ (lookD kvs d = none → atKey xs k = none)
  | _, _, _, _, .nil, _ => ⟨fun _ h => (by cases h), fun _ => rfl⟩
  | _, _, d, k, .cons (k := k') (a := a) (u := u) (d := d') (dv := dv') (v := v) (xs := xs) (kvs := kvs) h1 h2 h3 h4 h5 t, e => by
    obtain ⟨i1, i2⟩ := ents_look t e
    have key := key_eqv h1 e
    have fnd : atKey ((k', a, u) :: xs) k = if k' = k then some (a, u) else atKey xs k := by
      unfold atKey
      rw [List.find?_cons]
      by_cases c : k' = k
      · rw [if_pos c]
        simp [c]
      · rw [if_neg c]
        simp [c]
    rw [fnd]
    show (∀ dv, (match PyData.eqv d' d with | true => some dv' | false => lookD kvs d) = some dv → _) ∧ ((match PyData.eqv d' d with | true => some dv' | false => lookD kvs d) = none → _)
    cases q : PyData.eqv d' d with
    | true =>
      rw [if_pos (key.mp q)]
      exact ⟨fun dv h => (by cases h; exact ⟨_, v, rfl, h4, h5⟩), fun h => (by cases h)⟩
    | false =>
      rw [if_neg fun c => by rw [key.mpr c] at q; cases q]
      exact ⟨i1, i2⟩
theorem ents_app : ∀ {xs ys : List (NestedKey × Addr × Value)} {kvs lvs : List (PyData × PyData)}, EntsOk K B xs kvs → EntsOk K B ys lvs → EntsOk K B (xs ++ ys) (kvs ++ lvs)
  | _, _, _, _, .nil, h => h
  | _, _, _, _, .cons a a' b c d t, h => .cons a a' b c d (ents_app t h)
theorem ents_map {d dv : PyData} {k : NestedKey} {u : Value} {v : V} (e : keyN d = some k) (ru : RelV v u) (hv : Dp K B v dv) : ∀ {xs : List (NestedKey × Addr × Value)} {kvs : List (PyData × PyData)}, EntsOk K B xs kvs → EntsOk K B (xs.map (putAt k u)) (kvs.map (putAtD d dv))
  | _, _, .nil => .nil
  | _, _, .cons (k := k') (a := a) (u := u') (d := d') (dv := dv') h1 h2 h3 h4 h5 t => by
    have key := key_eqv h1 e
    rw [List.map_cons, List.map_cons]
    unfold putAt putAtD
    dsimp only
    cases q : PyData.eqv d' d with
    | true =>
      rw [if_pos (by simpa using key.mp q)]
      exact .cons h1 h2 h3 ru hv (ents_map e ru hv t)
    | false =>
      rw [if_neg (fun c => by rw [key.mpr (by simpa using c)] at q; cases q)]
      exact .cons h1 h2 h3 h4 h5 (ents_map e ru hv t)
theorem ents_put {xs : List (NestedKey × Addr × Value)} {kvs : List (PyData × PyData)} {d dv : PyData} {k : NestedKey} {b : Addr} {u : Value} {v : V} (h : EntsOk K B xs kvs) (e : keyN d = some k) (e8 : d.depth ≤ 8) (hd : Dp K B (.ref b) d) (ru : RelV v u) (hv : Dp K B v dv) :
    EntsOk K B (storedH xs k b u) (putD kvs d dv) := by
  obtain ⟨i1, i2⟩ := ents_look h e
  unfold putD
  cases q : lookD kvs d with
  | none =>
    rw [storedH_new (i2 q)]
    exact ents_app h (.cons e e8 hd ru hv .nil)
  | some z =>
    obtain ⟨p, _, h1, _⟩ := i1 z q
    rw [storedH_old h1]
    exact ents_map e ru hv h
theorem ents_len : ∀ {xs : List (NestedKey × Addr × Value)} {kvs : List (PyData × PyData)}, EntsOk K B xs kvs → xs.length = kvs.length
  | _, _, .nil => rfl
  | _, _, .cons _ _ _ _ _ t => congrArg (· + 1) (ents_len t)
end
section
variable {X : Cx} {pins : List (Addr × Obj)} {σ : L2.St} {H : Hp} {s : Shared}
theorem ents_is (I : Inv X pins σ H s) : ∀ {xs : List (NestedKey × Addr × Value)} {kvs : List (PyData × PyData)}, EntsOk X.K H xs kvs → (∀ x ∈ xs, (nestedKind X.prog X.w).is s.heap x.1 x.2.1) ∧ xs.map entN = xs.map (entryOfKey (nestedKind X.prog X.w)) ∧ ∀ x ∈ xs, x.1.hash X.w = hashN x.1
  | _, _, .nil => ⟨fun x hx => (by cases hx), rfl, fun x hx => (by cases hx)⟩
  | _, _, .cons (k := k) (a := a) (u := u) h1 h2 h3 h4 h5 t => by
    obtain ⟨i1, i2, i3⟩ := ents_is I t
    obtain ⟨as, r⟩ := Dp.reads I _ _ (.ref a) h3 rfl
    refine ⟨fun x hx => ?_, ?_, fun x hx => ?_⟩
    · rcases List.mem_cons.mp hx with e | e
      · rw [e]
        exact ⟨reads_nested r h1, Nat.le_trans (key_depth h1) h2⟩
      · exact i1 x e
    · rw [List.map_cons, List.map_cons, i2]
      congr 1
      show DictEntry.mk _ _ _ = DictEntry.mk _ _ _
      congr 1
      exact (key_hash X.w h1).symm
    · rcases List.mem_cons.mp hx with e | e
      · rw [e]
        exact key_hash X.w h1
      · exact i3 x e
theorem dict_of (I : Inv X pins σ H s) {a : Addr} {xs : List (NestedKey × Addr × Value)} {kvs : List (PyData × PyData)} (e : IsDic H a xs) (h : EntsOk X.K H xs kvs) : s.heap.DictOfH (nestedKind X.prog X.w) a xs := by
  obtain ⟨ep, e⟩ := e
  obtain ⟨⟨o, es, h1, h2, h3, h4, h5⟩, _, _⟩ := I.hok a _ e
  obtain ⟨i1, i2, _⟩ := ents_is I h
  exact ⟨o, es, ep, h1, h2, h3, by rw [h4, i2], i1, h5⟩
theorem ext_ok {P : Program} {w : World} {H : Hp} {h : Heap} {a : Addr} {xs : List (NestedKey × Addr × Value)} {ep : Nat} (p : dictP xs ep a h) : ObjOk P w H h a (.ext (dictP xs ep a)) := by
  refine ⟨p, ?_, fun h1 h2 q k => ?_⟩
  · obtain ⟨o, _, h1, _⟩ := p
    exact ⟨o, h1⟩
  · obtain ⟨o, es, q1, q2⟩ := q
    exact ⟨o, es, k o q1, q2⟩
/-! ### the rules -/
variable {o i e value f : Expr} {pos pos' apos cpos : Pos} {td ty tv tx : TE}
theorem pe_dnewN : PE X (.Dict [] [] pos) (fun _ H Q => ∀ p, H p = none → (p == sysModules) = false → Q (.ref p) (upd H p (.ext (dictP [] 0 p)))) := ⟨fun pins s σ H Q I h => by
  refine wpAny_Dict_empty ⟨.ref s.heap.objs.size, _, I.laid (a := s.heap.objs.size) (o := .ext (dictP [] 0 s.heap.objs.size)) (t' := s.toks) (fun _ _ q => Heap.get?_push_of_some _ q) (Nat.le_refl _) (ext_ok ?_), rfl, h _ (I.hok.fresh (Nat.le_refl _)) ?_⟩
  · exact ⟨_, #[], Heap.get?_push_size _ rfl, ⟨rfl, rfl, by first | rfl | decide⟩, rfl, rfl, List.nodup_nil⟩
  · have := I.big
    exact beq_eq_false_iff_ne.mpr (Nat.ne_of_gt this)⟩
/-- where a key stands in a dict -/
def AtK (K : PySem.W.Frag) (H : Hp) (x y : V) (r : NestedKey → Addr → List (NestedKey × Addr × Value) → Addr → Prop) : Prop := ∃ a xs kvs b d k, x = .ref a ∧ IsDic H a xs ∧ EntsOk K H xs kvs ∧ xs.length ≤ sizeLine ∧ (a == sysModules) = false ∧ y = .ref b ∧ Dp K H y d ∧ keyN d = some k ∧ d.depth ≤ 8 ∧ r k b xs a
theorem AtK.use {K : PySem.W.Frag} {x y : V} {r : NestedKey → Addr → List (NestedKey × Addr × Value) → Addr → Prop} (h : AtK X.K H x y r) (I : Inv X pins σ H s) : ∃ a xs b k, x = .ref a ∧ y = .ref b ∧ s.heap.DictOfH (nestedKind X.prog X.w) a xs ∧ (nestedKind X.prog X.w).is s.heap k b ∧ IsDic H a xs ∧ xs.length ≤ sizeLine ∧ (a == sysModules) = false ∧ ((∀ x ∈ xs, x.1.hash X.w = hashN x.1) ∧ k.hash X.w = hashN k) ∧ r k b xs a := by
  obtain ⟨a, xs, kvs, b, d, k, h1, h2, h3, h4, h5, h6, h7, h8, h9, h10⟩ := h
  subst h6
  obtain ⟨as, rd⟩ := Dp.reads I d _ (.ref b) h7 rfl
  exact ⟨a, xs, b, k, h1, rfl, dict_of I h2 h3, ⟨reads_nested rd h8, Nat.le_trans (key_depth h8) h9⟩, h2, h4, h5, ⟨(ents_is I h3).2.2, key_hash X.w h8⟩, h10⟩
def tDgN (K : PySem.W.Frag) (td ty : TE) : TE := fun σ H Q => td σ H fun x H1 => ty σ H1 fun y H2 => AtK K H2 x y fun k b xs a => ∃ p v, atKey xs k = some p ∧ RelV v p.2 ∧ Q v H2
theorem pe_dgN (hu : X.A.units + 65 < cLine) (ho : PE X o td) (hi : PE X i ty) (hs : NoSl i := by intro _ _; rfl) : PE X (.Subscript o i pos) (tDgN X.K td ty) := by
  refine ⟨fun pins s σ H Q I h => ?_⟩
  refine subD_of PySem.F.slot_dict_getitem.lookup hs (thn (ho.run pins s σ H _ I h) fun u s1 ⟨x, H1, I1, rx, q1⟩ => thn (hi.run pins s1 σ H1 _ I1 q1) fun iv s2 ⟨y, H2, I2, ry, q2⟩ => ?_)
  obtain ⟨a, xs, b, k, rfl, rfl, dd, ks, hH, hz, hm, _, p, v, e, rv, q⟩ := AtK.use (K := X.K) q2 I2
  obtain rfl : u = Value.ref a := rx
  obtain rfl : iv = Value.ref b := ry
  exact ⟨dd.typeIs, wpAny_getItem_heap (by show X.A.units + 1 + 8 < cLine; omega) ks dd e ⟨v, H2, I2.tok _, rv, q⟩⟩
def sDpN (K : PySem.W.Frag) (td ty tv : TE) : TS := fun D σ H => tv σ H fun v H1 => td σ H1 fun x H2 => ty σ H2 fun y H3 => AtK K H3 x y fun k b xs a => ∀ u ep, RelV v u → D.nx σ (upd H3 a (.ext (dictP (storedH xs k b u) ep a)))
theorem ps_dpN (hu : X.A.units + 65 < cLine) (ho : PE X o td) (hi : PE X i ty) (hv : PE X value tv) (hs : swapsWith value (some (.Subscript o i pos')) pos.line X.env = pure false := by rfl) : PS X (.Assign [.Subscript o i pos'] value pos) (sDpN X.K td ty tv) := by
  refine ⟨fun pins s σ H D I h => ?_⟩
  refine wpAny_Assign_Subscript (thn (hv.run pins s σ H _ I h) fun r s1 ⟨v, H1, I1, rv, q1⟩ => thn (ho.run pins s1 σ H1 _ I1 q1) fun u s2 ⟨x, H2, I2, rx, q2⟩ => thn (hi.run pins s2 σ H2 _ I2 q2) fun iv s3 ⟨y, H3, I3, ry, q3⟩ => ?_) hs
  obtain ⟨a, xs, b, k, rfl, rfl, dd, ks, hH, hz, hm, ⟨hx1, hx2⟩, q⟩ := AtK.use (K := X.K) q3 I3
  obtain rfl : u = Value.ref a := rx
  obtain rfl : iv = Value.ref b := ry
  refine wpAny_setItem_heap (hsz := hz) (by show X.A.units + 1 + 8 < cLine; omega) ks dd fun h' dd' sb => ?_
  obtain ⟨q', es, ep, hq, h2, h3, h4, his, h5⟩ := dd'
  refine ⟨σ, _, d_write I3 (by obtain ⟨ep0, hH⟩ := hH; rw [hH]; exact True.intro) sb ⟨q', hq⟩ (ext_ok (xs := storedH xs k b r) (ep := ep) ⟨q', es, hq, h2, h3, ?_, h5⟩), q r ep rv⟩
  rw [h4]
  refine List.map_congr_left fun x hx => ?_
  show DictEntry.mk _ _ _ = DictEntry.mk _ _ _
  congr 1
  show x.1.hash X.w = hashN x.1
  unfold storedH at hx
  split at hx
  · obtain ⟨y, hy, rfl⟩ := List.mem_map.mp hx
    unfold putAt
    split
    · exact hx1 y hy
    · exact hx1 y hy
  · rcases List.mem_append.mp hx with z | z
    · exact hx1 x z
    · rw [List.mem_singleton.mp z]
      exact hx2
/-- k in d -/
def rInN (K : PySem.W.Frag) (neg : Bool) : R2 := fun y x H Q => AtK K H x y fun k b xs a => Q (.bl (xor neg (atKey xs k).isSome)) H
theorem op_inN (hu : X.A.units + 65 < cLine) : OpR X (compareOp .In) (rInN X.K false) := by
  intro pins s σ H y x iv u Q I ry rx h
  obtain ⟨a, xs, b, k, rfl, rfl, dd, ks, hH, hz, hm, _, q⟩ := AtK.use (K := X.K) h I
  obtain rfl : u = Value.ref a := rx
  obtain rfl : iv = Value.ref b := ry
  rw [Bool.false_xor] at q
  exact wpAny_in_heap (by show X.A.units + 1 + 8 < cLine; omega) ks hm dd ⟨.bl _, H, I.tok _, rfl, q⟩
theorem op_notInN (hu : X.A.units + 65 < cLine) : OpR X (compareOp .NotIn) (rInN X.K true) := by
  intro pins s σ H y x iv u Q I ry rx h
  obtain ⟨a, xs, b, k, rfl, rfl, dd, ks, hH, hz, hm, _, q⟩ := AtK.use (K := X.K) h I
  obtain rfl : u = Value.ref a := rx
  obtain rfl : iv = Value.ref b := ry
  rw [Bool.true_xor] at q
  exact wpAny_notIn_heap (by show X.A.units + 1 + 8 < cLine; omega) ks hm dd ⟨.bl _, H, I.tok _, rfl, q⟩
end
end VL
end
section
set_option Elab.async false
set_option linter.all false
set_option maxRecDepth 100000
set_option maxHeartbeats 2000000
namespace VL
open PySem PySem.Spec PyProof.Rows L2 HT PySem.W PySem.Calls
/-! ### sorted, of what is walked in any way; one thing alone is sorted whatever it is -/
def SortB (ds : List PyData) : Prop := Sortable ds ∨ ds.length ≤ 1
section
variable {prog : Program} {w : World} {A : Around} {E : Value → Shared → Prop} {s : Shared}
theorem sortsB {vs : List Value} {ds : List PyData} (e : EachIs (fun v d => ∃ as, Reads s.heap v d as) vs ds) (hal : AllAlike ds) (hn : ∀ d ∈ ds, d ≠ .none) (hk : SortB ds) (hu : ∀ d, d ∈ ds → A.units + d.depth < cLine) : SortsAt prog w A s (dataKind s.heap ds) vs := by
  rcases hk with hk | hk
  · exact SortsAt.data e hal hk hu
  · refine ⟨fun v hv => ?_, general', fun E x y a b Q ha hb hq => ?_, fun h2 => ?_⟩
    · obtain ⟨d, hd, as, r⟩ := e.left v hv
      exact ⟨_, dataKind_some hal hd r⟩
    · obtain ⟨d, as, hd, ra, rfl⟩ := dataKind_inv ha
      obtain ⟨d', as', hd', rb, rfl⟩ := dataKind_inv hb
      have hm := hu d hd
      show wpAny (model prog w) A (oneLt' false x y) Q E s
      exact oneLt_alike (fun z => (by cases z)) ra rb (hal d hd d' hd') (hn d hd) (by omega) hq
    · have := e.length
      omega
theorem sorted_go {l : Addr} {vs : List Value} {Q : Value → Shared → Prop} (hc : ∀ (E : Value → Shared → Prop) (R : List Value → Shared → Prop), (∀ (h' : Heap) (tk : Nat), (∀ b o, s.heap.get? b = some o → h'.get? b = some o) → R vs { s with heap := h', toks := tk }) → wpAny (model prog w) A.in1 (collect (.ref l)) R E s)
    (hL : vs.length ≤ sizeLine)
    (go : ∀ (h' : Heap) (tk : Nat) (E' : Value → Shared → Prop), (∀ b o, s.heap.get? b = some o → h'.get? b = some o) → wpAny (model prog w) A.in1.in1 (Builtin.«list.sort» ⟨[.ref h'.objs.size], []⟩) (fun f s' => f = .done (.ret .none) ∧ Q (.ref h'.objs.size) s') E' { s with heap := h'.push (seqObj "list" vs.toArray 0), toks := tk }) :
    wpAny (model prog w) A (call (.builtin "sorted") [.ref l]) Q E s := by
  refine call_function_entry_kw kind_sorted plain_sorted entry_sorted (args_sorted1 _) ?_
  unfold Builtin.«sorted»
  refine wpAny_bind (m := checkCount "sorted" 1 1 _) (wpAny_pure ?_)
  refine wpAny_bind (hc _ _ fun h' tk kp => ?_)
  refine wpAny_bind (wpAny_newList ?_ hL)
  refine wpAny_bind (wpAny_holding (wpAny_call_entry_kw slot_list_sort ⟨_, Heap.get?_push_size _ rfl, rfl⟩ entry_list_sort ?sortbody (args_list_sort _)))
  case sortbody =>
    refine wpAny_mono (go h' tk _ kp) (fun f s' hf => ?_) fun _ _ e => e
    obtain ⟨rfl, hq⟩ := hf
    exact ⟨_, rfl, wpAny_pure ⟨_, rfl, hq⟩⟩
variable {β : Type} {vs : List Value} {bs : List β} {enc : β → PyData} {R : Value → β → Prop}
theorem sorted_goD {l : Addr} {Q : Value → Shared → Prop} (hc : ∀ (E : Value → Shared → Prop) (R : List Value → Shared → Prop), (∀ (h' : Heap) (tk : Nat), (∀ b o, s.heap.get? b = some o → h'.get? b = some o) → R vs { s with heap := h', toks := tk }) → wpAny (model prog w) A.in1 (collect (.ref l)) R E s)
    (e : EachIs R vs bs) (er : EachIs (fun v b => ∃ as, Reads s.heap v (enc b) as) vs bs) (hal : AllAlike (bs.map enc)) (hn : ∀ d ∈ bs.map enc, d ≠ .none) (hk : SortB (bs.map enc)) (hL : bs.length ≤ sizeLine)
    (hu : ∀ b, b ∈ bs → A.units + 2 + (enc b).depth < cLine)
    (h : ∀ (h' : Heap) (tk : Nat) (out : List Value), (∀ b o, s.heap.get? b = some o → h'.get? b = some o) → out.length = bs.length → EachIs R out (bs.mergeSort (dataLe false enc)) → Q (.ref h'.objs.size) { s with heap := sortedHeap (h'.push (seqObj "list" vs.toArray 0)) h'.objs.size vs out.toArray, toks := tk }) :
    wpAny (model prog w) A (call (.builtin "sorted") [.ref l]) Q E s := by
  have hL' : vs.length ≤ sizeLine := by rw [e.length]; exact hL
  refine sorted_go hc hL' fun h' tk E' kp => ?_
  have er' : EachIs (fun v b => ∃ as, Reads (sortingHeap (h'.push (seqObj "list" vs.toArray 0)) h'.objs.size vs) v (enc b) as) vs bs := er.mono fun _ _ ⟨as, r⟩ => ⟨as, PyProof.Rows.Reads.keeps (fun b o q => by
    have q' := kp b o q
    exact sortingHeap_old (Nat.ne_of_lt (Heap.lt_size q')) (Heap.get?_push_of_some _ q')) r⟩
  refine list_sort_vals (s := { s with heap := h'.push (seqObj "list" vs.toArray 0), toks := tk }) (Heap.get?_push_size _ rfl) (sortsB (s := { s with heap := sortingHeap (h'.push (seqObj "list" vs.toArray 0)) h'.objs.size vs, toks := tk }) (each_map (R := fun v d => ∃ as, Reads (sortingHeap (h'.push (seqObj "list" vs.toArray 0)) h'.objs.size vs) v d as) enc er') hal hn hk (bound_map hu)) hL' ⟨rfl, ?_⟩
  exact h h' tk _ kp (by rw [sortVals_length false rfl]; exact e.length) (sortVals_data false e er' hal)
end
section
variable {K : PySem.W.Frag} {T : List (Addr × Str)} {X : Cx}
/-- what sorted does with a thing that is walked as ys, which are ds -/
theorem sorted_main (hu : X.A.units + 65 < cLine) {pins : List (Addr × Obj)} {s : Shared} {σ : L2.St} {H : Hp} {p : Addr} {ys : List V} {ds : List PyData} {n : Nat} {Q : VK} (I : Inv X pins σ H s) (hd : DpAll X.K H ys ds) (hn : n ≤ 3) (ho : ∀ y ∈ ds, od n y = true) (hk : SortB ds) {its : List Value} (rv : Vals ys its) (hz : ys.length ≤ sizeLine)
    (hc : ∀ (E : Value → Shared → Prop) (R : List Value → Shared → Prop), (∀ (h' : Heap) (tk : Nat), (∀ b o, s.heap.get? b = some o → h'.get? b = some o) → R its { s with heap := h', toks := tk }) → wpAny (model X.prog X.w) X.A.in1 (collect (.ref p)) R E s)
    (q : ∀ (q : Addr) (zs : List V), H q = none → (∀ (B : Hp), DpAll X.K B ys ds → DpAll X.K B zs (sortD ds)) → Q (.ref q) (upd H q (.lst zs))) :
    wpAny (model X.prog X.w) X.A (call (.builtin "sorted") [.ref p]) (EP X pins σ Q) X.xe s := by
  obtain ⟨e1, e2⟩ := each_zip I hd rv
  have hsnd := zip_snd hd
  have hL : (ys.zip ds).length ≤ sizeLine := by rw [List.length_zip, dpAll_len hd, Nat.min_self, ← dpAll_len hd]; exact hz
  refine sorted_goD (enc := fun b : V × PyData => b.2) hc e1 e2 (by rw [hsnd]; exact fun a ha b hb => od_alike n (ho a ha) (ho b hb)) (by rw [hsnd]; exact fun a ha => od_none (ho a ha)) (by rw [hsnd]; exact hk) hL (fun b hb => ?_) fun h' tk out kp hl eo => ?_
  · have hb2 : b.2 ∈ ds := by
      rw [← hsnd]
      exact List.mem_map.mpr ⟨b, hb, rfl⟩
    have := (od_depth n (ho _ hb2)).1
    omega
  · have I1 : Inv X pins σ H { s with heap := h', toks := tk } := I.kept kp
    have hpush : (h'.push (seqObj "list" its.toArray 0)).get? h'.objs.size = some (seqObj "list" its.toArray 0) := Heap.get?_push_size _ rfl
    obtain ⟨ep, he⟩ := sortedHeap_at (vs := its) (out := out.toArray) hpush
    have pm : ((ys.zip ds).mergeSort (dataLe false fun b : V × PyData => b.2)).Perm (ys.zip ds) := List.mergeSort_perm _ _
    have srt : ((ys.zip ds).mergeSort (dataLe false fun b : V × PyData => b.2)).Pairwise (fun a b => dataLe false (fun b : V × PyData => b.2) a b = true) :=
      List.pairwise_mergeSort (le := dataLe false fun b : V × PyData => b.2) (fun a b c => (sortLe_total (listOrd itemOrd) false fun b : V × PyData => keyToks b.2).trans a b c) (fun a b => by
        have t := (sortLe_total (listOrd itemOrd) false fun b : V × PyData => keyToks b.2).total a b
        exact (Bool.or_eq_true _ _).mpr t) _
    have eD : ((ys.zip ds).mergeSort (dataLe false fun b : V × PyData => b.2)).map Prod.snd = sortD ds := by
      have p2 : (((ys.zip ds).mergeSort (dataLe false fun b : V × PyData => b.2)).map Prod.snd).Perm ds := by
        have := pm.map Prod.snd
        rw [hsnd] at this
        exact this
      refine sorted_uniq (n := n) (fun x hx => ho x (p2.mem_iff.mp hx)) ?_ (sort_sorted ho) (p2.trans (sort_perm ds).symm)
      refine List.pairwise_map.mpr (List.pairwise_iff_forall_sublist.mpr fun {a b} hab => ?_)
      have q1 := List.pairwise_iff_forall_sublist.mp srt hab
      have m1 : a.2 ∈ ds := p2.mem_iff.mp (List.mem_map.mpr ⟨a, hab.subset List.mem_cons_self, rfl⟩)
      have m2 : b.2 ∈ ds := p2.mem_iff.mp (List.mem_map.mpr ⟨b, hab.subset (List.mem_cons_of_mem _ List.mem_cons_self), rfl⟩)
      show ltT b.2 a.2 = false
      rw [← od_lt n (ho _ m2) (ho _ m1)]
      have q2 : (!dataLt b.2 a.2) = true := q1
      cases q3 : dataLt b.2 a.2 with
      | false => rfl
      | true => rw [q3] at q2; cases q2
    have hl2 : (((ys.zip ds).mergeSort (dataLe false fun b : V × PyData => b.2)).map Prod.fst).length ≤ sizeLine := by rw [List.length_map, pm.length_eq]; exact hL
    have J := I1.laid (h' := sortedHeap (h'.push (seqObj "list" its.toArray 0)) h'.objs.size its out.toArray) (a := h'.objs.size) (t' := tk) (o := .lst (((ys.zip ds).mergeSort (dataLe false fun b : V × PyData => b.2)).map Prod.fst)) (fun b o z => by
      have lt : b < h'.objs.size := Heap.lt_size z
      rw [sortedHeap_old (Nat.ne_of_lt lt) (by rw [size_push']; exact Nat.lt_succ_of_lt lt)]
      exact Heap.get?_push_of_some _ z) (Nat.le_refl _) ⟨hl2, out, ep, vals_each eo, he⟩
    refine ⟨.ref _, _, J, rfl, q _ _ (I1.hok.fresh (Nat.le_refl _)) fun B hB => ?_⟩
    rw [← eD]
    exact dpAll_pairs fun p hp => zip_mem hB p (pm.mem_iff.mp hp)
/-- a list or a tuple -/
def rSortB (K : PySem.W.Frag) : List V → Hp → VK → Prop := fun vs H Q => ∃ (p : Addr) (ys : List V) (ds : List PyData) (n : Nat), vs = [.ref p] ∧ (SqL K H p ys ∨ SqT K H p ys) ∧ DpAll K H ys ds ∧ n ≤ 3 ∧ (∀ y ∈ ds, od n y = true) ∧ SortB ds ∧
  ∀ (q : Addr) (zs : List V), H q = none → (∀ (B : Hp), DpAll K B ys ds → DpAll K B zs (sortD ds)) → Q (.ref q) (upd H q (.lst zs))
theorem cr_sortedB (hu : X.A.units + 65 < cLine) : CallR X (.builtin "sorted") (rSortB X.K) := by
  intro pins s σ H vs us Q I r h
  obtain ⟨p, ys, ds, n, rfl, hs, hd, hn, ho, hk, q⟩ := h
  rw [Vals.ref1 r]
  rcases hs with hs | hs
  · obtain ⟨its, rv, hl, hz⟩ := I.list hs
    exact sorted_main hu I hd hn ho hk rv hz (fun E R hq => collect_list hl.isList (hq _ _ fun b o e => by
      rw [Heap.get?_update_ne _ _ _ _ (Nat.ne_of_lt (Heap.lt_size e))]
      exact Heap.get?_push_of_some _ e) (by rw [← rv.length]; exact hz)) q
  · obtain ⟨its, rv, hl, hz⟩ := I.tuple hs
    exact sorted_main hu I hd hn ho hk rv hz (fun E R hq => collect_tup hl (by rw [← rv.length]; exact hz) (hq _ _ fun b o e => by
      rw [Heap.get?_update_ne _ _ _ _ (Nat.ne_of_lt (Heap.lt_size e))]
      exact Heap.get?_push_of_some _ e)) q
theorem ents_keys {B : Hp} : ∀ {xs : List (NestedKey × Addr × Value)} {kvs : List (PyData × PyData)}, EntsOk K B xs kvs → DpAll K B (xs.map fun x => V.ref x.2.1) (kvs.map Prod.fst)
  | _, _, .nil => .nil
  | _, _, .cons _ _ h _ _ t => .cons h (ents_keys t)
theorem vals_refs : ∀ xs : List (NestedKey × Addr × Value), Vals (xs.map fun x => V.ref x.2.1) (xs.map fun x => Value.ref x.2.1)
  | [] => .nil
  | _ :: xs => .cons rfl (vals_refs xs)
/-- the keys of a dict -/
def rSortK (K : PySem.W.Frag) : List V → Hp → VK → Prop := fun vs H Q => ∃ (p : Addr) (xs : List (NestedKey × Addr × Value)) (kvs : List (PyData × PyData)) (n : Nat), vs = [.ref p] ∧ IsDic H p xs ∧ EntsOk K H xs kvs ∧ xs.length ≤ sizeLine ∧ (p == sysModules) = false ∧ n ≤ 3 ∧ (∀ y ∈ kvs.map Prod.fst, od n y = true) ∧ SortB (kvs.map Prod.fst) ∧
  ∀ (q : Addr) (zs : List V), H q = none → (∀ (B : Hp), DpAll K B (xs.map fun x => V.ref x.2.1) (kvs.map Prod.fst) → DpAll K B zs (sortD (kvs.map Prod.fst))) → Q (.ref q) (upd H q (.lst zs))
theorem cr_sortedK (hc : X.calm = true) (hu : X.A.units + 65 < cLine) : CallR X (.builtin "sorted") (rSortK X.K) := by
  intro pins s σ H vs us Q I r h
  obtain ⟨p, xs, kvs, n, rfl, hp, hd, hl, hm, hn, ho, hk, q⟩ := h
  rw [Vals.ref1 r]
  obtain ⟨ep, hp⟩ := hp
  obtain ⟨⟨o, es, h1, h2, h3, h4, h5⟩, _, _⟩ := I.hok p _ hp
  have raw : s.heap.DictRaw p es ep := ⟨o, h1, h2, h3⟩
  have hsz : es.size = xs.length := by rw [← Array.length_toList, h4, List.length_map]
  have rv := vals_refs xs
  refine sorted_main hu I (ents_keys hd) hn ho hk rv (by rw [List.length_map]; exact hl) (fun E R hq => ?_) q
  refine kdu_collect (A := X.A.in1) (KdlSrc.rawDict hm) (I.ok.hd hc) raw (by rw [hsz]; exact hl) fun h' tk acc kp ia => ?_
  have e : acc.toList = xs.map fun x => Value.ref x.2.1 := by
    refine List.ext_getElem? fun j => ?_
    cases hj : acc.toList[j]? with
    | none =>
      have := List.getElem?_eq_none_iff.mp hj
      rw [Array.length_toList, ia.1, hsz] at this
      rw [List.getElem?_eq_none (by rw [List.length_map]; exact this)]
    | some v =>
      obtain ⟨hi, ev⟩ := ia.2 j v (by rw [← Array.getElem?_toList]; exact hj)
      have z : (es.toList)[j]? = some es[j] := by rw [Array.getElem?_toList, Array.getElem?_eq_getElem hi]
      rw [h4, List.getElem?_map] at z
      obtain ⟨x, z1, z2⟩ := Option.map_eq_some_iff.mp z
      rw [List.getElem?_map, z1, ev, ← z2]
      rfl
  rw [e]
  exact hq h' tk kp
end
end VL
end
section
set_option Elab.async false
set_option linter.all false
set_option maxRecDepth 100000
set_option maxHeartbeats 2000000
namespace VL
open PySem PySem.Spec PyProof.Rows L2 HT PySem.W PySem.Calls
section
variable {K : PySem.W.Frag} {T : List (Addr × Str)}
/-! ### dicts that a slot has -/
def dicOf : Option Sl → Option (List (PyData × PyData))
  | some (.dc kvs) => some kvs
  | some (.dr kvs) => some kvs
  | some (.sh (.dict kvs)) => some kvs
  | some (.db kvs) => some kvs
  | _ => none
theorem Rel.dict {W : Wd} {σ : L2.St} {H B : Hp} {e : Ev} {i : Nat} {kvs : List (PyData × PyData)} (r : Rel K W σ H B e) (h : dicOf e[i]? = some kvs) : ∃ p xs, σ[i]? = some (some (.ref p)) ∧ IsDic H p xs ∧ EntsOk K B xs kvs ∧ (p == sysModules) = false := by
  obtain ⟨A, r⟩ := r
  cases h0 : e[i]? with
  | none => rw [h0] at h; cases h
  | some s =>
    rw [h0] at h
    obtain ⟨o, bs, h1, h2, _⟩ := r.sls.at h0
    cases s with
    | un => cases h
    | sh d =>
      cases d with
      | dict kv =>
        cases h
        cases h2 with
        | sh hd =>
          obtain ⟨p, xs, rfl, a, b, c⟩ := dp_dct hd
          exact ⟨p, xs, h1, a.mono r.bh, c, b⟩
      | none => cases h
      | bool _ => cases h
      | int _ => cases h
      | str _ => cases h
      | list _ => cases h
      | tuple _ => cases h
    | ob _ => cases h
    | dd _ => cases h
    | di _ => cases h
    | db kv =>
      cases h
      cases h2 with
      | @db p xs _ _ a b c => exact ⟨p, xs, h1, a, b, c⟩
    | ow _ => cases h
    | bw _ => cases h
    | st _ _ => cases h
    | sb _ _ => cases h
    | dc kv =>
      cases h
      cases h2 with
      | @dc p xs _ a b c => exact ⟨p, xs, h1, a, b, c⟩
    | dr kv =>
      cases h
      cases h2 with
      | @dr p xs _ a b c => exact ⟨p, xs, h1, a.mono r.bh, b, c⟩
theorem Rel.dictW {W : Wd} {σ : L2.St} {H B : Hp} {e : Ev} {i : Nat} {kvs : List (PyData × PyData)} (r : Rel K W σ H B e) (h : e[i]? = some (.dc kvs)) : ∃ p xs, σ[i]? = some (some (.ref p)) ∧ IsDic H p xs ∧ EntsOk K B xs kvs ∧ (p == sysModules) = false ∧
    ∀ ys lvs ep, EntsOk K B ys lvs → Rel K W σ (upd H p (.ext (dictP ys ep p))) B (e.set i (.dc lvs)) := by
  obtain ⟨A, r⟩ := r
  obtain ⟨o, bs, cs, h1, h2, h3, h4, h5⟩ := r.sls.out r.nd h
  cases h2 with
  | @dc p xs _ a b c =>
    obtain ⟨k1, k2, k3⟩ := List.nodup_append.mp h4
    have hp : p ∈ A := h5 p (List.mem_append_left _ List.mem_cons_self)
    have ne : ∀ q ∈ cs, q ≠ p := fun q hq z => k3 p List.mem_cons_self q hq z.symm
    refine ⟨p, xs, h1, a, b, c, fun ys es ep hy => ?_⟩
    obtain ⟨ep0, a⟩ := a
    have t : Sls K W.bp (upd H p (.ext (dictP ys ep p))) B (σ.set i none) (e.set i .un) cs := h3.mono (Same.refl B) fun q hq => upd_ne (ne q hq)
    have n : SlOk K W.bp (upd H p (.ext (dictP ys ep p))) B (some (.ref p)) (.dc es) [p] := .dc ⟨ep, upd_same⟩ hy c
    obtain ⟨fs, f1, f2, f3⟩ := t.set n i
    rw [set_set', set_set', set_same h1] at f1
    refine ⟨fs, f1, f2 k2 (by simp) (fun q hq z => ne q z (List.mem_singleton.mp hq)), fun q hq => ?_, fun b o hb => ?_, fun b o hb => ?_, r.new, r.tb.upd a (fun ps z => by cases z)⟩
    · rcases f3 q hq with z | z
      · exact r.out q (h5 q (List.mem_append_right _ z))
      · rw [List.mem_singleton.mp z]
        exact r.out p hp
    · rw [upd_ne (ne_of_none hb (r.out p hp).1)]
      exact r.bh b o hb
    · rw [upd_ne (ne_of_none hb (r.out p hp).2)]
      exact r.fr b o hb
/-- a new dict -/
theorem Rel.bornD {W : Wd} {σ : L2.St} {H B : Hp} {e : Ev} {p : Addr} (r : Rel K W σ H B e) (hp : H p = none) (hs : (p == sysModules) = false) : Rel K W (some (.ref p) :: σ) (upd H p (.ext (dictP [] 0 p))) B (.dc [] :: e) := by
  obtain ⟨A, r⟩ := r
  have r1 := r.ext (Ext.gone (o := .ext (dictP [] 0 p)) r.bh hp)
  refine ⟨[p] ++ A, .cons (.dc ⟨0, upd_same⟩ .nil hs) r1.sls, List.nodup_append.mpr ⟨by simp, r.nd, fun x hx y hy z => ?_⟩, fun q hq => ?_, r1.bh, r1.fr, r1.new, r1.tb⟩
  · rw [List.mem_singleton.mp hx] at z
    exact r.sls.held y hy (by rw [← z]; exact hp)
  · rcases List.mem_append.mp hq with z | z
    · rw [List.mem_singleton.mp z]
      exact ⟨r.bh.free hp, r.fr.free hp⟩
    · exact r.out q z
def tDNew : TE := fun _ H Q => ∀ p, H p = none → (p == sysModules) = false → Q (.ref p) (upd H p (.ext (dictP [] 0 p)))
def xDict : M Sl := fun e => some (.dc [], e)
theorem sx_dict : SX K T tDNew xDict := fun W hT σ H B e s e' Q hf r q => by
  cases hf
  exact fun p hp hs => q _ _ B (Same.refl B) (r.bornD hp hs)
/-- the dict of a slot goes out of it -/
def xDVar (i : Nat) : M Sl := fun e => match e[i]? with
  | some (.dc kvs) => some (.dc kvs, e.set i .un)
  | _ => none
theorem sx_dvar {i : Nat} : SX K T (tVar i) (xDVar i) := fun W hT σ H B e s e' Q hf r q => by
  unfold xDVar at hf
  split at hf
  · rename_i kvs h
    cases hf
    obtain ⟨A, r⟩ := r
    obtain ⟨o, bs, cs, h1, h2, h3, h4, h5⟩ := r.sls.out r.nd h
    cases h2 with
    | @dc p xs _ a b c =>
      have r1 : Rel K W (some (.ref p) :: σ.set i none) H B (.dc kvs :: e.set i .un) := ⟨[p] ++ cs, .cons (.dc a b c) h3, h4, fun q hq => r.out q (h5 q hq), r.bh, r.fr, r.new, r.tb⟩
      exact ⟨_, h1, q _ H B (Same.refl B) (r1.weak h1)⟩
  · cases hf
def keyOk (d : PyData) : Bool := (match d with | .tuple _ => true | _ => false) && (keyN d).isSome && Nat.ble d.depth 8
theorem keyOk_some {d : PyData} (h : keyOk d = true) : (∃ ds, d = .tuple ds) ∧ (∃ k, keyN d = some k) ∧ d.depth ≤ 8 := by
  unfold keyOk at h
  rw [Bool.and_eq_true, Bool.and_eq_true] at h
  refine ⟨?_, Option.isSome_iff_exists.mp h.1.2, Nat.le_of_ble_eq_true h.2⟩
  have h1 := h.1.1
  cases d with
  | tuple ds => exact ⟨ds, rfl⟩
  | _ => cases h1
theorem dicOk {kvs : List (PyData × PyData)} {xs : List (NestedKey × Addr × Value)} {B : Hp} (h : EntsOk K B xs kvs) (c : sz kvs.length = true) : xs.length ≤ sizeLine := by
  rw [ents_len h]
  exact sz_le c
/-- d[k] -/
def eDGet (i : Nat) (fk : M PyData) : M PyData := fun e => match dicOf e[i]? with
  | none => none
  | some _ => bnd (fk e) fun d e1 => match dicOf e1[i]? with
    | none => none
    | some kvs => if keyOk d = true then if sz kvs.length = true then put (lookD kvs d) e1 else none else none
theorem se_dget {i : Nat} {t : TE} {fk : M PyData} (h : SE K T t fk) : SE K T (tDgN K (tVar i) t) (eDGet i fk) := fun W hT σ H B e d e' Q hf r q => by
  unfold eDGet at hf
  cases h0 : dicOf e[i]? with
  | none => rw [h0] at hf; cases hf
  | some _ =>
    rw [h0] at hf
    obtain ⟨kd, e1, h1, h2⟩ := bnd_some hf
    obtain ⟨p, xs, a1, a2, a3, a4⟩ := r.dict h0
    refine ⟨_, a1, ?_⟩
    refine h W hT σ H B e kd e1 _ h1 r fun v H1 B1 s1 r1 dv => ?_
    cases h3 : dicOf e1[i]? with
    | none => rw [h3] at h2; cases h2
    | some kvs =>
      simp only [h3] at h2
      by_cases c : keyOk kd = true
      · rw [if_pos c] at h2
        by_cases c2 : sz kvs.length = true
        · rw [if_pos c2] at h2
          obtain ⟨h4, rfl⟩ := put_some h2
          obtain ⟨p', ys, b1, b2, b3, b4⟩ := r1.dict h3
          obtain ⟨⟨ds, rfl⟩, ⟨k, hk⟩, h8⟩ := keyOk_some c
          obtain ⟨b, us, rfl, _⟩ := dp_tup dv
          rw [a1] at b1
          cases Option.some.inj (Option.some.inj b1)
          obtain ⟨pp, vv, g1, g2, g3⟩ := (ents_look b3 hk).1 d h4
          exact ⟨p, ys, kvs, b, _, k, rfl, b2, b3.mono r1.bh, dicOk b3 c2, a4, rfl, dp_mono r1.bh dv, hk, h8, pp, vv, g1, g2, q vv H1 B1 s1 r1 g3⟩
        · rw [if_neg c2] at h2
          cases h2
      · rw [if_neg c] at h2
        cases h2
/-- d[k] = v -/
def sDPut (i : Nat) (fv fk : M PyData) : Ev → Option Out := fun e => bnd (fv e) fun dv e1 => match e1[i]? with
  | some (.dc _) => bnd (fk e1) fun d e2 => match e2[i]? with
    | some (.dc kvs) => if keyOk d = true then if sz kvs.length = true then some (.nx (e2.set i (.dc (putD kvs d dv)))) else none else none
    | _ => none
  | _ => none
theorem ss_dput {i : Nat} {tv ty : TE} {fv fk : M PyData} (hv : SE K T tv fv) (hk : SE K T ty fk) : SS K T (sDpN K (tVar i) ty tv) (sDPut i fv fk) := fun W hT D σ H B e o hf r qn qr => by
  obtain ⟨dv, e1, h1, h2⟩ := bnd_some hf
  refine hv W hT σ H B e dv e1 _ h1 r fun v H1 B1 s1 r1 dpv => ?_
  cases h3 : e1[i]? with
  | none => rw [h3] at h2; cases h2
  | some sl =>
    cases sl with
    | dc kv0 =>
      simp only [h3] at h2
      obtain ⟨d, e2, h4, h5⟩ := bnd_some h2
      obtain ⟨p, xs, a1, _⟩ := r1.dictW h3
      refine ⟨_, a1, ?_⟩
      refine hk W hT σ H1 B1 e1 d e2 _ h4 r1 fun y H2 B2 s2 r2 dy => ?_
      cases h6 : e2[i]? with
      | none => rw [h6] at h5; cases h5
      | some sl2 =>
        cases sl2 with
        | dc kvs =>
          simp only [h6] at h5
          by_cases c : keyOk d = true
          · rw [if_pos c] at h5
            by_cases c2 : sz kvs.length = true
            · rw [if_pos c2] at h5
              cases h5
              obtain ⟨p', ys, b1, b2, b3, b4, b5⟩ := r2.dictW h6
              obtain ⟨⟨ds, rfl⟩, ⟨k, hk⟩, h8⟩ := keyOk_some c
              obtain ⟨b, us, rfl, _⟩ := dp_tup dy
              rw [a1] at b1
              cases Option.some.inj (Option.some.inj b1)
              refine ⟨p, ys, kvs, b, _, k, rfl, b2, b3.mono r2.bh, dicOk b3 c2, b4, rfl, dp_mono r2.bh dy, hk, h8, fun u ep ru => ?_⟩
              exact qn _ _ _ B2 rfl (s1.trans s2) (b5 _ _ ep (ents_put b3 hk h8 dy ru (dp_mono s2 dpv)))
            · rw [if_neg c2] at h5
              cases h5
          · rw [if_neg c] at h5
            cases h5
        | _ => simp only [h6] at h5; cases h5
    | _ => simp only [h3] at h2; cases h2
/-- k in d -/
def eInD (neg : Bool) (fk : M PyData) (i : Nat) : M PyData := fun e => bnd (fk e) fun d e1 => match dicOf e1[i]? with
  | none => none
  | some kvs => if keyOk d = true then if sz kvs.length = true then some (.bool (xor neg (lookD kvs d).isSome), e1) else none else none
theorem se_inD {neg : Bool} {i : Nat} {t : TE} {fk : M PyData} (h : SE K T t fk) : SE K T (tOp (rInN K neg) t (tVar i)) (eInD neg fk i) := fun W hT σ H B e d e' Q hf r q => by
  obtain ⟨kd, e1, h1, h2⟩ := bnd_some hf
  refine h W hT σ H B e kd e1 _ h1 r fun v H1 B1 s1 r1 dv => ?_
  cases h3 : dicOf e1[i]? with
  | none => rw [h3] at h2; cases h2
  | some kvs =>
    simp only [h3] at h2
    by_cases c : keyOk kd = true
    · rw [if_pos c] at h2
      by_cases c2 : sz kvs.length = true
      · rw [if_pos c2] at h2
        cases h2
        obtain ⟨p', ys, b1, b2, b3, b4⟩ := r1.dict h3
        obtain ⟨⟨ds, rfl⟩, ⟨k, hk⟩, h8⟩ := keyOk_some c
        obtain ⟨b, us, rfl, _⟩ := dp_tup dv
        refine ⟨_, b1, p', ys, kvs, b, _, k, rfl, b2, b3.mono r1.bh, dicOk b3 c2, b4, rfl, dp_mono r1.bh dv, hk, h8, ?_⟩
        obtain ⟨g1, g2⟩ := ents_look b3 hk
        have e : (atKey ys k).isSome = (lookD kvs (.tuple ds)).isSome := by
          cases z : lookD kvs (.tuple ds) with
          | none =>
            rw [g2 z]
            rfl
          | some dv =>
            obtain ⟨pp, _, z2, _⟩ := g1 dv z
            rw [z2]
            rfl
        rw [e]
        exact q _ H1 B1 s1 r1 (.bl _)
      · rw [if_neg c2] at h2
        cases h2
    · rw [if_neg c] at h2
      cases h2
/-- sorted(d) -/
def isTupB (ds : List PyData) : Bool := ds.all isTup1 || Nat.ble ds.length 1
def xSortK (i : Nat) : M Sl := fun e => match dicOf e[i]? with
  | none => none
  | some kvs => if sz kvs.length = true then if isTupB (kvs.map Prod.fst) = true then match odOf (kvs.map Prod.fst) with
    | none => none
    | some _ => some (.ow (sortD (kvs.map Prod.fst)), e) else none else none
theorem sortB_of {ds : List PyData} (h : isTupB ds = true) : SortB ds := by
  unfold isTupB at h
  rcases (Bool.or_eq_true _ _).mp h with h | h
  · exact .inl (.inl fun d hd => isTup1_some (List.all_eq_true.mp h d hd))
  · exact .inr (Nat.le_of_ble_eq_true h)
theorem sx_sortK {i : Nat} : SX K T (tCB (rSortK K) (tCons (tVar i) tNil)) (xSortK i) := fun W hT σ H B e s e' Q hf r q => by
  unfold xSortK at hf
  cases h0 : dicOf e[i]? with
  | none => rw [h0] at hf; cases hf
  | some kvs =>
    simp only [h0] at hf
    by_cases c : sz kvs.length = true
    · rw [if_pos c] at hf
      by_cases c2 : isTupB (kvs.map Prod.fst) = true
      · rw [if_pos c2] at hf
        cases h1 : odOf (kvs.map Prod.fst) with
        | none => rw [h1] at hf; cases hf
        | some n =>
          rw [h1] at hf
          cases hf
          obtain ⟨o1, o2⟩ := odOf_some h1
          obtain ⟨p, xs, a1, a2, a3, a4⟩ := r.dict h0
          refine ⟨_, a1, p, xs, kvs, n, rfl, a2, a3.mono r.bh, dicOk a3 c, a4, o1, o2, sortB_of c2, fun q' zs hq' hz => ?_⟩
          exact q _ _ B (Same.refl B) (r.born hq' (hz B (ents_keys a3)))
      · rw [if_neg c2] at hf
        cases hf
    · rw [if_neg c] at hf
      cases hf
end
/-! ### d.get(k, x) -/
section
variable {X : Cx} {o e f : Expr} {td ty tx : TE} {apos cpos : Pos}
def tDgetN (K : PySem.W.Frag) (td ty tx : TE) : TE := fun σ H Q => td σ H fun x H1 => (∃ a xs, x = .ref a ∧ IsDic H1 a xs) ∧ ty σ H1 fun y H2 => tx σ H2 fun z H3 => AtK K H3 x y fun k b xs a =>
  (∀ p, atKey xs k = some p → ∃ v, RelV v p.2 ∧ Q v H3) ∧ (atKey xs k = none → Q z H3)
theorem pe_dgetN (hu : X.A.units + 65 < cLine) (ho : PE X o td) (he : PE X e ty) (hf : PE X f tx) (m : M2 X o "get" apos e f cpos) : PE X (.Call (.Attribute o "get" apos) [e, f] [] cpos) (tDgetN X.K td ty tx) := by
  refine ⟨fun pins s σ H Q I h => ?_⟩
  refine wpAny_Call_method m.base m.few m.line PySem.F.plainAttrs_dict PySem.F.slot_dict_get PySem.F.type_dict_get (thn (ho.run pins s σ H _ I h) fun u s1 ⟨x, H1, I1, rx, ⟨a, xs, ex, ha⟩, q1⟩ => ?_)
  subst ex
  obtain rfl : u = Value.ref a := rx
  obtain ⟨ep, ha⟩ := ha
  obtain ⟨⟨ob, es, g1, g2, g3, _⟩, _, _⟩ := I1.hok a _ ha
  refine ⟨⟨ob, g1, g2.1⟩, fun b hb => (by cases hb; exact ⟨ob, g1, g2.2.1⟩), ?_⟩
  rw [m.trees]
  refine Calls.callWith_builtin rfl (Calls.evalArgs_plain (Calls.spliced_cons (thn (he.run pins s1 σ H1 _ I1 q1) fun iv s2 ⟨y, H2, I2, ry, q2⟩ =>
    Calls.spliced_cons (thn (hf.run pins s2 σ H2 _ I2 q2) fun fv s3 ⟨z, H3, I3, rz, q3⟩ => Calls.spliced_nil ?_))))
  obtain ⟨a', ys, b, k, e1, e2, dd, ks, hH, hz, hm, _, qy, qn⟩ := AtK.use (K := X.K) q3 I3
  cases e1
  subst e2
  obtain rfl : iv = Value.ref b := ry
  refine call_meetsIn PySem.F.slot_dict_get dd.typeIs PySem.F.entry_dict_get (PySem.F.args_dict_get_3 _ _ _) (meetsH_dict_get_default (nestedKind X.prog X.w) a b hm fv) ⟨by show X.A.units + 1 + 8 < cLine; omega, k, ys, ks, dd, ?_⟩
  cases hp : atKey ys k with
  | some p =>
    obtain ⟨v, rv, qv⟩ := qy p hp
    exact ⟨v, H3, I3.tok _, rv, qv⟩
  | none => exact ⟨z, H3, I3.tok _, rz, qn hp⟩
end
section
variable {K : PySem.W.Frag} {T : List (Addr × Str)}
def eDGet2 (i : Nat) (fk fx : M PyData) : M PyData := fun e => match dicOf e[i]? with
  | none => none
  | some _ => bnd (fk e) fun d e1 => bnd (fx e1) fun dx e2 => match dicOf e2[i]? with
    | none => none
    | some kvs => if keyOk d = true then if sz kvs.length = true then (match lookD kvs d with | some dv => some (dv, e2) | none => some (dx, e2)) else none else none
theorem se_dget2 {i : Nat} {t u : TE} {fk fx : M PyData} (h : SE K T t fk) (hx : SE K T u fx) : SE K T (tDgetN K (tVar i) t u) (eDGet2 i fk fx) := fun W hT σ H B e d e' Q hf r q => by
  unfold eDGet2 at hf
  cases h0 : dicOf e[i]? with
  | none => rw [h0] at hf; cases hf
  | some _ =>
    rw [h0] at hf
    obtain ⟨kd, e1, h1, h2⟩ := bnd_some hf
    obtain ⟨xd, e2, h4, h5⟩ := bnd_some h2
    obtain ⟨p, xs, a1, a2, a3, a4⟩ := r.dict h0
    refine ⟨_, a1, ⟨p, xs, rfl, a2⟩, ?_⟩
    refine h W hT σ H B e kd e1 _ h1 r fun v H1 B1 s1 r1 dv => ?_
    refine hx W hT σ H1 B1 e1 xd e2 _ h4 r1 fun z H2 B2 s2 r2 dz => ?_
    cases h3 : dicOf e2[i]? with
    | none => rw [h3] at h5; cases h5
    | some kvs =>
      simp only [h3] at h5
      by_cases c : keyOk kd = true
      · rw [if_pos c] at h5
        by_cases c2 : sz kvs.length = true
        · rw [if_pos c2] at h5
          obtain ⟨p', ys, b1, b2, b3, b4⟩ := r2.dict h3
          obtain ⟨⟨ds, rfl⟩, ⟨k, hk⟩, h8⟩ := keyOk_some c
          obtain ⟨b, us, rfl, _⟩ := dp_tup dv
          rw [a1] at b1
          cases Option.some.inj (Option.some.inj b1)
          obtain ⟨g1, g2⟩ := ents_look b3 hk
          refine ⟨p, ys, kvs, b, _, k, rfl, b2, b3.mono r2.bh, dicOk b3 c2, a4, rfl, dp_mono (s2.trans r2.bh) dv, hk, h8, fun pp hpp => ?_, fun hpp => ?_⟩
          · cases h6 : lookD kvs (.tuple ds) with
            | none =>
              rw [g2 h6] at hpp
              cases hpp
            | some dv' =>
              rw [h6] at h5
              cases h5
              obtain ⟨pp', v', z1, z2, z3⟩ := g1 _ h6
              rw [hpp] at z1
              cases z1
              exact ⟨v', z2, q v' H2 B2 (s1.trans s2) r2 z3⟩
          · cases h6 : lookD kvs (.tuple ds) with
            | none =>
              rw [h6] at h5
              cases h5
              exact q z H2 B2 (s1.trans s2) r2 dz
            | some dv' =>
              obtain ⟨pp', v', z1, z2, z3⟩ := g1 _ h6
              rw [hpp] at z1
              cases z1
        · rw [if_neg c2] at h5
          cases h5
      · rw [if_neg c] at h5
        cases h5
end
end VL
end
section
set_option Elab.async false
set_option linter.all false
set_option maxRecDepth 100000
set_option maxHeartbeats 2000000
namespace VL
open PySem PySem.Spec PyProof.Rows L2 HT PySem.W PySem.Calls
/-! ### an object without attributes is made -/
structure Mk0 (K : PySem.W.Frag) (C : Addr) : Prop where
  makes : PySem.W.makesIn K C = true
  init : PySem.W.findIn K (.ref C) "__init__" = some (some (.builtin "object.__init__"))
  kp : PySem.W.keepIn K (.ref C) = true
  top : mroIn K C (.type "object") = some true
def tMk0 (C : Addr) : TE := fun _ H Q => ∀ x dx, H x = none → H dx = none → dx ≠ x → Q (.ref x) (upd (upd H dx (.own x)) x (.ins C dx []))
section
variable {X : Cx} {C : Addr} {x : Str} {p pos : Pos}
theorem pe_mk0 (M : Mk0 X.K C) (hg : Gl X x) (hm : X.mg x = some (.ref C)) (hdb : (x == ("__debug__" : Str)) = false := by decide) : PE X (.Call (.Name x p) [] [] pos) (tMk0 C) := by
  refine ⟨fun pins s σ H Q I h => ?_⟩
  refine wpAny_Call_Name_kw (ld_glob I hg hm ?_ hdb)
  refine PySem.W.callWith_K0 I.kIn M.kp (wpAny_call (make_map0 I.kIn M.makes M.init (fun self => Looks.of_pure (oi_bind _)) ?_))
  have I2 := Inv.made (C := C) I
  have hq := h (s.heap.objs.size + 1) s.heap.objs.size (I.hok.fresh (Nat.le_succ _)) (I.hok.fresh (Nat.le_refl _)) (Nat.ne_of_lt (Nat.lt_succ_self _))
  have ho : ((s.heap.push PySem.W.emptyDict).push (PySem.W.instObj C s.heap.objs.size)).get? (s.heap.objs.size + 1) = some (PySem.W.instObj C s.heap.objs.size) := by
    have := Heap.get?_push_size (s.heap.push PySem.W.emptyDict) (o := PySem.W.instObj C s.heap.objs.size) rfl
    rwa [Heap.size_push] at this
  have t1 : Looks (model X.prog X.w) ((s.heap.push PySem.W.emptyDict).push (PySem.W.instObj C s.heap.objs.size)) (typeOf (.ref (s.heap.objs.size + 1))) (.ref C) := NwA.type_at ho rfl
  have t2 : Looks (model X.prog X.w) ((s.heap.push PySem.W.emptyDict).push (PySem.W.instObj C s.heap.objs.size)) (isInstance (.ref (s.heap.objs.size + 1)) (.type "object")) true := t1.andThen (looks_mroIn I2.kIn M.top)
  refine codeAny_call_builtin oi_plain entry_oi (check_slot oi_kind oi_split t2 (NwA.oi_args_any _ [] []) ?_)
  rw [oi_run]
  exact wpAny_pure ⟨rfl, V.ref (s.heap.objs.size + 1), _, I2, rfl, hq⟩
end
end VL
end
section
set_option Elab.async false
set_option linter.all false
set_option maxRecDepth 100000
set_option maxHeartbeats 2000000
namespace VL
open PySem PySem.Spec PyProof.Rows L2 HT PySem.W PySem.Calls
variable {K : PySem.W.Frag} {T : List (Addr × Str)}
/-! ### what a def promises over slots that it only reads -/
def spF (K : PySem.W.Frag) (F : List Sl → Option Sl) : Sp := fun vs H Q _ => ∃ (B : Hp) (ss : List Sl) (s : Sl), Same B H ∧ Sls K none H B (vs.map some) ss [] ∧ F ss = some s ∧ ∀ v H' B', Same B B' → Rel K ⟨H, B, none, []⟩ [some v] H' B' [s] → Q v H'
def fnF (n m : Nat) (f : Ev → Option Out) : List Sl → Option Sl := fun ss => if ss.length = n then (match f (ss ++ List.replicate m .un) with
  | none => none
  | some (.nx _) => some (.sh .none)
  | some (.rt s _) => some s) else none
theorem sls_app {bp : Option Addr} {H B : Hp} {σ' : L2.St} {e' : Ev} {A' : List Addr} (h' : Sls K bp H B σ' e' A') : ∀ {σ : L2.St} {e : Ev} {A : List Addr}, Sls K bp H B σ e A → Sls K bp H B (σ ++ σ') (e ++ e') (A ++ A')
  | _, _, _, .nil => h'
  | _, _, _, .cons (as := as) (bs := bs) a t => by
    rw [List.append_assoc]
    exact .cons a (sls_app h' t)
section
variable {P : Program} {w : World} {mg : Str → Option Value} {base : Heap}
theorem okF {x qual : Str} {st : Stmt} {f : Addr} {fd : FuncData} {N ps : List Str} {k n m : Nat} {t : TS} {fb : Ev → Option Out} (hs : SS K [] t fb) (F : Fun K x qual st f fd) (S : FnScope N ps (defScope st)) (hN : N.length = n + m) (hp : ps.length = n)
    (hb : ∀ (cdv : Value) (A : Around) (outer : List Env) (s : Shared) (H : Hp) (E : XK), Room k (A.deeper (envOfC qual (defScope st) s.heap.objs.size f cdv)) → PSs (cxOf CX0 P w K mg base N qual (defScope st) f cdv A outer s H E).nox (defBody st) t) :
    FnOk P w K mg base CX0 (k + 1) f fd ps (spF K (fnF n m fb)) := by
  have cut : ∀ {ss : List Sl} {r : Sl}, fnF n m fb ss = some r → ss.length = n := fun {ss r} h => by
    unfold fnF at h
    by_cases c : ss.length = n
    · exact c
    · rw [if_neg c] at h
      cases h
  refine F.ok S (fun vs H Q E h => ?_) (fun cdv A outer s H vs Q E hr h => ?_)
  · obtain ⟨B, ss, sl, _, h2, h3, _⟩ := h
    have := h2.len
    rw [List.length_map, cut h3] at this
    rw [this, hp]
  · refine ⟨t, hb cdv A outer s H E hr, ?_⟩
    obtain ⟨B, ss, sl, bh, h2, h3, q⟩ := h
    have c := cut h3
    have hl := h2.len
    rw [List.length_map, c] at hl
    unfold fnF at h3
    rw [if_pos c] at h3
    rw [start_eq hN hl]
    cases h4 : fb (ss ++ List.replicate m .un) with
    | none => rw [h4] at h3; cases h3
    | some o =>
      rw [h4] at h3
      refine hs ⟨H, B, none, []⟩ rfl _ _ H B _ o h4 ⟨[] ++ [], sls_app (sls_un m) h2, List.nodup_nil, fun p hp => (by cases hp), bh, Same.refl H, fun b _ h => h, fun x hx => by cases hx⟩ (fun e' σ' H' B' he sb r => ?_) (fun s' e' v σ' H' B' he sb r => ?_)
      · subst he
        cases h3
        exact q _ H' B' sb (r.nil.cons .non)
      · subst he
        cases h3
        exact q v H' B' sb r.one
end
/-! ### arguments that are slots -/
inductive ArgsOk (K : PySem.W.Frag) (σ : L2.St) (B : Hp) (e : Ev) : List V → List Sl → Prop
  | nil : ArgsOk K σ B e [] []
  | sh {v : V} {d : PyData} {vs : List V} {ss : List Sl} : Dp K B v d → ArgsOk K σ B e vs ss → ArgsOk K σ B e (v :: vs) (.sh d :: ss)
  | ob {v : V} {i : Nat} {c : Str} {vs : List V} {ss : List Sl} : σ[i]? = some (some v) → e[i]? = some (.ob c) → ArgsOk K σ B e vs ss → ArgsOk K σ B e (v :: vs) (.ob c :: ss)
  | obv {a C dx : Addr} {c : Str} {vs : List V} {ss : List Sl} : B a = some (.ins C dx []) → PySem.W.nsIn K mainGlobals c = some (some (.ref C)) → ArgsOk K σ B e vs ss → ArgsOk K σ B e (.ref a :: vs) (.ob c :: ss)
def SAs (K : PySem.W.Frag) (T : List (Addr × Str)) (t : TA) (f : M (List Sl)) : Prop := ∀ (W : Wd) (hT : W.tb = T) (σ : L2.St) (H B : Hp) (e : Ev) (ss : List Sl) (e' : Ev) (Q : List V → Hp → Prop), f e = some (ss, e') → Rel K W σ H B e →
  (∀ vs H' B', Same B B' → Rel K W σ H' B' e' → ArgsOk K σ B' e' vs ss → Q vs H') → t σ H Q
def asNil : M (List Sl) := fun e => some ([], e)
theorem sas_nil : SAs K T tNil asNil := fun W hT σ H B e ss e' Q hf r q => by
  cases hf
  exact q [] H B (Same.refl B) r .nil
def asSh (f : M PyData) (g : M (List Sl)) : M (List Sl) := fun e => bnd (f e) fun d e1 => bnd (g e1) fun ss e2 => some (.sh d :: ss, e2)
theorem sas_sh {t : TE} {u : TA} {f : M PyData} {g : M (List Sl)} (h : SE K T t f) (hg : SAs K T u g) : SAs K T (tCons t u) (asSh f g) := fun W hT σ H B e ss e' Q hf r q => by
  obtain ⟨d, e1, h1, h2⟩ := bnd_some hf
  obtain ⟨ss1, e2, h3, h4⟩ := bnd_some h2
  cases h4
  refine h W hT σ H B e d e1 _ h1 r fun x H1 B1 s1 r1 dx => ?_
  exact hg W hT σ H1 B1 e1 ss1 _ _ h3 r1 fun vs H2 B2 s2 r2 a => q _ H2 B2 (s1.trans s2) r2 (.sh (dp_mono s2 dx) a)
def seeV : Option Sl → Option Sl
  | some (.ob c) => some (.ob c)
  | _ => none
theorem Rel.see {W : Wd} {σ : L2.St} {H B : Hp} {e : Ev} {i : Nat} {s : Sl} (r : Rel K W σ H B e) (h : seeV e[i]? = some s) : ∃ v, σ[i]? = some (some v) ∧ ∀ vs ss, ArgsOk K σ B e vs ss → ArgsOk K σ B e (v :: vs) (s :: ss) := by
  cases h0 : e[i]? with
  | none => rw [h0] at h; cases h
  | some sl =>
    cases sl with
    | ob c =>
      rw [h0] at h
      cases h
      obtain ⟨A, r⟩ := r
      obtain ⟨o, bs, h1, h2, _⟩ := r.sls.at h0
      cases h2 with
      | ob a b => exact ⟨_, h1, fun vs ss x => .ob h1 h0 x⟩
    | _ => rw [h0] at h; cases h
def asV (i : Nat) (g : M (List Sl)) : M (List Sl) := fun e => match seeV e[i]? with
  | none => none
  | some _ => bnd (g e) fun ss e1 => match seeV e1[i]? with
    | none => none
    | some s => some (s :: ss, e1)
theorem sas_v {i : Nat} {u : TA} {g : M (List Sl)} (hg : SAs K T u g) : SAs K T (tCons (tVar i) u) (asV i g) := fun W hT σ H B e ss e' Q hf r q => by
  unfold asV at hf
  cases h0 : seeV e[i]? with
  | none => rw [h0] at hf; cases hf
  | some s0 =>
    rw [h0] at hf
    obtain ⟨ss1, e1, h1, h2⟩ := bnd_some hf
    obtain ⟨v, a1, _⟩ := r.see h0
    refine ⟨v, a1, ?_⟩
    refine hg W hT σ H B e ss1 e1 _ h1 r fun vs H1 B1 s1 r1 a => ?_
    cases h3 : seeV e1[i]? with
    | none => rw [h3] at h2; cases h2
    | some s =>
      rw [h3] at h2
      cases h2
      obtain ⟨v', b1, b2⟩ := r1.see h3
      rw [a1] at b1
      cases b1
      exact q _ H1 B1 s1 r1 (b2 _ _ a)
theorem ArgsOk.sls {W : Wd} {σ : L2.St} {H B : Hp} {e : Ev} (r : Rel K W σ H B e) : ∀ {vs : List V} {ss : List Sl}, ArgsOk K σ B e vs ss → Sls K none H B (vs.map some) ss []
  | _, _, .nil => .nil
  | _, _, .sh d t => .cons (as := []) (.sh d) (ArgsOk.sls r t)
  | _, _, .ob (i := i) h1 h2 t => by
    refine .cons (as := []) ?_ (ArgsOk.sls r t)
    obtain ⟨A, r⟩ := r
    obtain ⟨o, bs, g1, g2, _⟩ := r.sls.at h2
    rw [h1] at g1
    cases g1
    cases g2 with
    | ob a b => exact .ob a b
  | _, _, .obv h1 h2 t => .cons (as := []) (.ob h1 h2) (ArgsOk.sls r t)
def xFnF (F : List Sl → Option Sl) (fa : M (List Sl)) : M Sl := fun e => bnd (fa e) fun ss e1 => put (F ss) e1
theorem sx_fnF {F : List Sl → Option Sl} {t : TA} {fa : M (List Sl)} (ha : SAs K T t fa) : SX K T (tCall (spF K F) [] E0 t) (xFnF F fa) := fun W hT σ H B e s e' Q hf r q => by
  obtain ⟨ss, e1, h1, h2⟩ := bnd_some hf
  obtain ⟨h3, rfl⟩ := put_some h2
  refine ha W hT σ H B e ss e' _ h1 r fun vs H1 B1 s1 r1 a => ?_
  rw [List.append_nil]
  exact ⟨B1, ss, s, r1.bh, a.sls r1, h3, fun v H' B' sb r' => q v H' B' (s1.trans sb) (r1.join sb r')⟩
/-- o.m(..) of an object without attributes, which m does not look at -/
def xMeth (c : Str) (i : Nat) (F : List Sl → Option Sl) (fa : M (List Sl)) : M Sl := fun e => match e[i]? with
  | some (.ob d) => if d = c then bnd (fa e) fun ss e1 => put (F (.un :: ss)) e1 else none
  | _ => none
theorem sx_meth {c m : Str} {C : Addr} {i : Nat} {F : List Sl → Option Sl} {t : TA} {fa : M (List Sl)} (hC : PySem.W.nsIn K mainGlobals c = some (some (.ref C))) (ha : SAs K T t fa) : SX K T (tMeth C m (spF K F) [] E0 (tVar i) t) (xMeth c i F fa) := fun W hT σ H B e s e' Q hf r q => by
  unfold xMeth at hf
  split at hf
  · rename_i d h0
    by_cases cc : d = c
    · rw [if_pos cc] at hf
      subst cc
      obtain ⟨ss, e1, h1, h2⟩ := bnd_some hf
      obtain ⟨h3, rfl⟩ := put_some h2
      have r0 := r
      obtain ⟨A, r0⟩ := r0
      obtain ⟨o, bs, g1, g2, _⟩ := r0.sls.at h0
      cases g2 with
      | @ob a C' dx _ ga gb =>
        rw [hC] at gb
        cases Option.some.inj (Option.some.inj gb)
        refine ⟨_, g1, a, dx, [], rfl, r0.bh _ _ ga, rfl, ?_⟩
        refine ha W hT σ H B e ss e' _ h1 r fun vs H1 B1 s1 r1 ar => ?_
        rw [List.append_nil]
        exact ⟨B1, _, s, r1.bh, .cons (as := []) .un (ar.sls r1), h3, fun v H' B' sb r' => q v H' B' (s1.trans sb) (r1.join sb r')⟩
    · rw [if_neg cc] at hf
      cases hf
  · cases hf
/-- C() -/
def xMk (c : Str) : M Sl := fun e => some (.ob c, e)
theorem sx_mk {c : Str} {C : Addr} (hC : PySem.W.nsIn K mainGlobals c = some (some (.ref C))) : SX K T (tMk0 C) (xMk c) := fun W hT σ H B e s e' Q hf r q => by
  cases hf
  intro x dx h1 h2 h3
  have x1 := Ext.new (o := .own x) r.bh h2
  have h1' : upd H dx (.own x) x = none := by rw [upd_ne (Ne.symm h3)]; exact h1
  have x2 := Ext.new (o := .ins C dx []) x1.bh h1'
  have r1 := r.ext (x1.trans x2)
  refine q _ _ _ (x1.trans x2).b ?_
  obtain ⟨A, r1⟩ := r1
  exact ⟨A, .cons (as := []) (.ob upd_same hC) r1.sls, r1.nd, r1.out, r1.bh, r1.fr, r1.new, r1.tb⟩
/-- .. as an argument -/
def asMk (c : Str) (g : M (List Sl)) : M (List Sl) := fun e => bnd (g e) fun ss e1 => some (.ob c :: ss, e1)
theorem sas_mk {c : Str} {C : Addr} {u : TA} {g : M (List Sl)} (hC : PySem.W.nsIn K mainGlobals c = some (some (.ref C))) (hg : SAs K T u g) : SAs K T (tCons (tMk0 C) u) (asMk c g) := fun W hT σ H B e ss e' Q hf r q => by
  obtain ⟨ss1, e1, h4, h5⟩ := bnd_some hf
  cases h5
  intro x dx h1 h2 h3
  have x1 := Ext.new (o := .own x) r.bh h2
  have h1' : upd H dx (.own x) x = none := by rw [upd_ne (Ne.symm h3)]; exact h1
  have x2 := Ext.new (o := .ins C dx []) x1.bh h1'
  exact hg W hT σ _ _ e ss1 _ _ h4 (r.ext (x1.trans x2)) fun vs H2 B2 s2 r2 a => q _ H2 B2 ((x1.trans x2).b.trans s2) r2 (.obv (s2 _ _ upd_same) hC a)
end VL
end
section
set_option Elab.async false
set_option linter.all false
set_option maxRecDepth 100000
set_option maxHeartbeats 2000000
namespace VL
open PySem PySem.Spec PyProof.Rows L2 HT PySem.W PySem.Calls
variable {K : PySem.W.Frag} {T : List (Addr × Str)}
/-! ### xs[k] += v -/
section
variable {X : Cx}
def rGetL (K : PySem.W.Frag) : V → V → Hp → VK → Prop := fun o i H Q => ∃ p xs k v, o = .ref p ∧ i = .int (Int.ofNat k) ∧ SqL K H p xs ∧ xs[k]? = some v ∧ Q v H
theorem get_listN : PGet X (rGetL X.K) := by
  intro pins s σ H o i ov iv Q I ro ri h
  obtain ⟨p, xs, k, v, rfl, rfl, hq, he, q⟩ := h
  cases ro
  obtain ⟨t, rfl⟩ := ri
  obtain ⟨its, r, pl, hz⟩ := I.list hq
  obtain ⟨u, hu, ru⟩ := r.get he
  have hl := r.length
  have hn := line63
  obtain ⟨hk, _⟩ := List.getElem?_eq_some_iff.mp he
  refine wpAny_getItem_list (x := u) pl.isList (Int.natCast_nonneg k) (by show (k : Int) < _; omega) (by simpa using hu) ⟨v, H, I, ru, q⟩
end
def sAugI (i : Nat) (g : PyData → PyData → Option PyData) (fk fe : M PyData) : Ev → Option Out := fun e => match ownOf e[i]? with
  | none => none
  | some _ => bnd (fk e) fun k e1 => match ownOf e1[i]? with
    | none => none
    | some ds1 => match k with
      | .int (.ofNat n) => match ds1[n]? with
        | none => none
        | some old => bnd (fe e1) fun y e2 => match g old y with
          | none => none
          | some new => match ownOf e2[i]? with
            | none => none
            | some ds2 => if n < ds2.length then some (.nx (setOwn e2 i (ds2.set n new))) else none
      | _ => none
theorem ixN_nat {n m : Nat} (h : n < m) : ixN m (Int.ofNat n) = some n := by
  unfold ixN
  rw [if_pos (show (0 : Int) ≤ Int.ofNat n from Int.natCast_nonneg n), if_pos (show Int.ofNat n < (m : Int) from by show (n : Int) < m; omega)]
  rfl
theorem ss_augI {i : Nat} {r : TIp} {g : PyData → PyData → Option PyData} {tk te : TE} {fk fe : M PyData} (hr : SR2 K r g) (hsc : ∀ a b d, g a b = some d → isSc d = true) (hk : SE K T tk fk) (he : SE K T te fe) : SS K T (tAugS (tVar i) tk te (rGetL K) r rSetL) (sAugI i g fk fe) := fun W hT D σ H B e o hf rl qn qr => by
  unfold sAugI at hf
  cases h0 : ownOf e[i]? with
  | none => rw [h0] at hf; cases hf
  | some ds0 =>
    rw [h0] at hf
    obtain ⟨p, xs, a1, a2, a3, _⟩ := rl.own h0
    obtain ⟨k, e1, h1, h2⟩ := bnd_some hf
    refine ⟨_, a1, hk W hT σ H B e k e1 _ h1 rl fun kv H1 B1 s1 r1 dk => ?_⟩
    cases h3 : ownOf e1[i]? with
    | none => rw [h3] at h2; cases h2
    | some ds1 =>
      rw [h3] at h2
      cases k with
      | int kk =>
        cases kk with
        | negSucc _ => cases h2
        | ofNat n =>
          dsimp only at h2
          cases h4 : ds1[n]? with
          | none => rw [h4] at h2; cases h2
          | some old =>
            rw [h4] at h2
            obtain ⟨y, e2, h5, h6⟩ := bnd_some h2
            obtain ⟨p', ys, b1, b2, b3, _⟩ := r1.own h3
            rw [a1] at b1
            cases b1
            obtain ⟨vo, c1, c2⟩ := dpAll_getD b3 h4
            rw [dp_int dk]
            refine ⟨p, ys, n, vo, rfl, rfl, SqL.of b2, c1, ?_⟩
            refine he W hT σ H1 B1 e1 y e2 _ h5 r1 fun yv H2 B2 s2 r2 dy => ?_
            cases h7 : g old y with
            | none => rw [h7] at h6; cases h6
            | some new =>
              rw [h7] at h6
              cases h8 : ownOf e2[i]? with
              | none => simp only [h8] at h6; cases h6
              | some ds2 =>
                simp only [h8] at h6
                by_cases c : n < ds2.length
                · rw [if_pos c] at h6
                  cases h6
                  refine hr H2 B2 vo yv old y new _ r2.bh (dp_mono s2 c2) dy h7 fun z H3 B3 x3 dz => ?_
                  have r3 := r2.ext x3
                  obtain ⟨p'', zs, f1, f2, f3, f4⟩ := r3.own h8
                  rw [a1] at f1
                  cases f1
                  exact ⟨p, zs, _, n, rfl, rfl, f2, ixN_nat (by rw [dpAll_len f3]; exact c), qn _ σ _ B3 rfl ((s1.trans s2).trans x3.b) (f4 _ _ (dpAll_set dz n f3))⟩
                · rw [if_neg c] at h6
                  cases h6
      | none => cases h2
      | bool _ => cases h2
      | str _ => cases h2
      | list _ => cases h2
      | tuple _ => cases h2
      | dict _ => cases h2
theorem pAddI_sc : ∀ a b d, pAddI a b = some d → isSc d = true := fun a b d h => by
  unfold pAddI pInt at h
  split at h
  · split at h
    · cases h
      rfl
    · cases h
  · cases h
/-! ### min(xs, default=None) -/
section
variable {X : Cx}
def rMinN (K : PySem.W.Frag) : List V → List V → Hp → VK → Prop := fun vs zs H Q => ∃ (p : Addr) (ys : List V) (ds : List PyData) (n : Nat), vs = [.ref p] ∧ zs = [.non] ∧ SqL K H p ys ∧ DpAll K H ys ds ∧ n ≤ 3 ∧ (∀ y ∈ ds, od n y = true) ∧ (ds = [] → Q .non H) ∧ ∀ (x : PyData) (xs : List PyData), ds = x :: xs → ∀ (i : Nat) (v : V), ys[i]? = some v → ds[i]? = some (minT x xs) → Q v H
theorem minD_mem : ∀ (xs : List PyData) (x : PyData), minD x xs ∈ x :: xs
  | [], x => List.mem_cons_self
  | y :: ys, x => by
    unfold minD
    rw [List.foldl_cons]
    split
    · exact List.mem_cons_of_mem _ (minD_mem ys y)
    · rcases List.mem_cons.mp (minD_mem ys x) with z | z
      · unfold minD at z
        rw [z]
        exact List.mem_cons_self
      · exact List.mem_cons_of_mem _ (List.mem_cons_of_mem _ z)
theorem cr_minN (hc : X.calm = true) (hu : X.A.units + 65 < cLine) : CallRK X (.builtin "min") [Str.ofString "default"] (rMinN X.K) := by
  intro pins s σ H vs zs us ws Q I r rz h
  obtain ⟨p, ys, ds, n, rfl, rfl, hs, hd, hn, ho, q0, q⟩ := h
  obtain ⟨its, rv, hl, _⟩ := I.list hs
  rw [Vals.ref1 r]
  have ez : ws = [.none] := by
    cases rz with
    | cons a t =>
      cases t
      cases a
      rfl
  subst ez
  obtain ⟨as, hr⟩ := readsAll I hd rv
  refine min_list_default (vs := its.toArray) (I.ok.hd hc) hl.isList hr ⟨fun a ha b hb => od_alike n (ho a ha) (ho b hb), fun a ha => od_none (ho a ha)⟩ (by have := depthAll_od ho; omega) (fun e h' tk hk => ⟨.non, H, I.kept hk, rfl, q0 e⟩) fun x xs i v h' tk bs e hv hr' hk => ?_
  subst e
  have hv' : its[i]? = some v := by simpa using hv
  have il : i < ys.length := by
    rw [rv.length]
    exact (List.getElem?_eq_some_iff.mp hv').1
  obtain ⟨u, hu1, hu2⟩ := rv.get (List.getElem?_eq_getElem il)
  rw [hv'] at hu1
  cases hu1
  obtain ⟨d, hd1, hd2⟩ := dpAll_get hd (List.getElem?_eq_getElem il)
  have od_d : od n d = true := ho d (List.mem_of_getElem? hd1)
  obtain ⟨cs, hr2⟩ := Dp.reads I d _ v hd2 hu2
  have e : d = minD x xs := alike_unique d _ v _ _ (od_alike n od_d (ho _ (minD_mem xs x))) (reads_keeps hk hr2) hr'
  rw [minT_eq ho] at e
  rw [e] at hd1
  exact ⟨_, H, I.kept hk, hu2, q x xs rfl i _ (List.getElem?_eq_getElem il) hd1⟩
end
def pMinN : PyData → Option PyData
  | .list [] => some .none
  | .list (x :: xs) => match odOf (x :: xs) with
    | none => none
    | some _ => some (minT x xs)
  | _ => none
theorem se_minN {t : TE} {f : M PyData} (h : SE K T t f) : SE K T (tCKw (rMinN K) (tCons t tNil) (tCons (tC .non) tNil)) (eUn pMinN f) := fun W hT σ H B e d e' Q hf r q => by
  obtain ⟨a, e1, h1, hf⟩ := bnd_some hf
  obtain ⟨h3, rfl⟩ := put_some hf
  refine h W hT σ H B e a e' _ h1 r fun x H1 B1 s1 r1 dx => ?_
  unfold pMinN at h3
  split at h3
  · cases h3
    obtain ⟨p, ys, rfl, b1, b2⟩ := dp_lst dx
    exact ⟨p, ys, [], 0, rfl, rfl, r1.bh.seq b1, dpAll_mono r1.bh b2, by omega, fun y hy => (by cases hy), fun _ => q _ H1 B1 s1 r1 .non, fun x xs z => (by cases z)⟩
  · rename_i x xs
    cases e2 : odOf (x :: xs) with
    | none => rw [e2] at h3; cases h3
    | some n =>
      rw [e2] at h3
      cases h3
      obtain ⟨k1, k2⟩ := odOf_some e2
      obtain ⟨p, ys, rfl, b1, b2⟩ := dp_lst dx
      refine ⟨p, ys, x :: xs, n, rfl, rfl, r1.bh.seq b1, dpAll_mono r1.bh b2, k1, k2, fun z => (by cases z), fun x' xs' z i v hv hd => ?_⟩
      cases z
      obtain ⟨d, m1, m2⟩ := dpAll_get b2 hv
      rw [hd] at m1
      cases m1
      exact q v H1 B1 s1 r1 m2
  · cases h3
/-! ### sorted, also of one thing -/
def pSortB : List PyData → Option (List PyData)
  | [.list ds] => if odAll 0 ds = true then some (sortD ds) else if isTupB ds = true then match odOf ds with
    | none => none
    | some _ => some (sortD ds) else none
  | [.tuple ds] => if odAll 0 ds = true then some (sortD ds) else if isTupB ds = true then match odOf ds with
    | none => none
    | some _ => some (sortD ds) else none
  | _ => none
theorem pSortB_ok {ds es : List PyData} (h : (if odAll 0 ds = true then some (sortD ds) else if isTupB ds = true then match odOf ds with
    | none => none
    | some _ => some (sortD ds) else none) = some es) : es = sortD ds ∧ ∃ n, n ≤ 3 ∧ (∀ y ∈ ds, od n y = true) ∧ SortB ds := by
  by_cases c : odAll 0 ds = true
  · rw [if_pos c] at h
    cases h
    have o : ∀ y ∈ ds, od 0 y = true := fun y hy => List.all_eq_true.mp c y hy
    refine ⟨rfl, 0, by omega, o, .inl (.inr fun d hd => ?_)⟩
    obtain ⟨i, rfl⟩ := od_zero (o d hd)
    exact ⟨fun z => (by cases z), fun xs z => (by cases z)⟩
  · rw [if_neg c] at h
    by_cases c2 : isTupB ds = true
    · rw [if_pos c2] at h
      cases e : odOf ds with
      | none => rw [e] at h; cases h
      | some n =>
        rw [e] at h
        cases h
        obtain ⟨k1, k2⟩ := odOf_some e
        exact ⟨rfl, n, k1, k2, sortB_of c2⟩
    · rw [if_neg c2] at h
      cases h
theorem sr_sortB : SRx K (rSortB K) pSortB := fun H B xs as ds Q bh ha h q => by
  unfold pSortB at h
  split at h
  · rename_i es
    obtain ⟨rfl, n, k1, k2, k3⟩ := pSortB_ok h
    obtain ⟨v, rfl, dv⟩ := dpAll_one ha
    obtain ⟨p, ys, rfl, b1, b2⟩ := dp_lst dv
    exact ⟨p, ys, es, n, rfl, .inl (bh.seq b1), dpAll_mono bh b2, k1, k2, k3, fun q' zs hq hz => q q' zs H B (Ext.refl bh) hq (hz B b2)⟩
  · rename_i es
    obtain ⟨rfl, n, k1, k2, k3⟩ := pSortB_ok h
    obtain ⟨v, rfl, dv⟩ := dpAll_one ha
    obtain ⟨p, ys, rfl, b1, b2⟩ := dp_tup dv
    exact ⟨p, ys, es, n, rfl, .inr (seqT bh b1), dpAll_mono bh b2, k1, k2, k3, fun q' zs hq hz => q q' zs H B (Ext.refl bh) hq (hz B b2)⟩
  · cases h
end VL
namespace VL
open PySem PySem.Spec PyProof.Rows L2 HT PySem.W PySem.Calls
/-! ### classes, methods -/
structure ClsOk (K : PySem.W.Frag) (C : Addr) (c : Str) : Prop where
  ns : PySem.W.nsIn K mainGlobals c = some (some (.ref C))
  mk0 : Mk0 K C
  cls : Cls K C
def MethAt (K : PySem.W.Frag) (C : Addr) (m qual : Str) (st : Stmt) (ps : List Str) : Prop := ∃ (f : Addr) (fd : FuncData), Fun K m qual st f fd ∧ Binds K fd ps [] ∧ Meth K C m f
def OkM (P : Program) (w : World) (K : PySem.W.Frag) (mg : Str → Option Value) (base : Heap) (L : Nat) (C : Addr) (m qual : Str) (st : Stmt) (ps : List Str) (sp : Sp) : Prop := ∃ (f : Addr) (fd : FuncData), Fun K m qual st f fd ∧ Binds K fd ps [] ∧ Meth K C m f ∧ FnOk P w K mg base CX0 L f fd ps sp
end VL
end
section
set_option Elab.async false
set_option linter.all false
set_option maxRecDepth 100000
set_option maxHeartbeats 2000000
namespace VL
open PySem PySem.Spec PyProof.Rows L2 HT PySem.W PySem.Calls
variable {K : PySem.W.Frag} {T : List (Addr × Str)}
/-! ### a slot is lent -/
def hideL (ps : List Addr) (H : Hp) : Hp := fun b => if b ∈ ps then none else H b
theorem hideL_in {ps : List Addr} {H : Hp} {b : Addr} (h : b ∈ ps) : hideL ps H b = none := if_pos h
theorem hideL_out {ps : List Addr} {H : Hp} {b : Addr} (h : b ∉ ps) : hideL ps H b = H b := if_neg h
theorem hideL_sub {ps : List Addr} {H : Hp} {b : Addr} {o : HO} (h : hideL ps H b = some o) : b ∉ ps ∧ H b = some o := by
  by_cases c : b ∈ ps
  · rw [hideL_in c] at h
    cases h
  · rw [hideL_out c] at h
    exact ⟨c, h⟩
def free : Sl → Bool
  | .bw _ => false
  | .sb _ _ => false
  | .db _ => false
  | _ => true
theorem SlOk.free {bp bp' : Option Addr} {H B : Hp} {o : Option V} {s : Sl} {as : List Addr} (f : VL.free s = true) (h : SlOk K bp H B o s as) : SlOk K bp' H B o s as := by
  cases h with
  | un => exact .un
  | sh d => exact .sh d
  | ow a b => exact .ow a b
  | bw _ _ _ => cases f
  | ob a b => exact .ob a b
  | dc a b c => exact .dc a b c
  | dr a b c => exact .dr a b c
  | dd a b => exact .dd a b
  | di a b => exact .di a b
  | db _ _ _ _ => cases f
  | st a => exact .st a
  | sb _ _ => cases f
theorem Rel.lend {W : Wd} {σ : L2.St} {H B : Hp} {e : Ev} {i : Nat} {s0 : Sl} (r : Rel K W σ H B e) (h0 : e[i]? = some s0) : ∃ o bs, σ[i]? = some o ∧ SlOk K W.bp H B o s0 bs ∧ bs.Nodup ∧ (∀ p ∈ bs, B p = none) ∧
    ∀ v s s1 s2 H' B' bp', Same B B' → Rel K ⟨hideL bs H, B, bp', []⟩ [some v, o] H' B' [s, s1] → free s = true → (∀ as, SlOk K bp' H' B' o s1 as → SlOk K W.bp H' B' o s2 as) → Rel K W (some v :: σ) H' B' (s :: e.set i s2) := by
  obtain ⟨A, r⟩ := r
  obtain ⟨o, bs, cs, h1, h2, h3, h4, h5⟩ := r.sls.out r.nd h0
  obtain ⟨k1, k2, k3⟩ := List.nodup_append.mp h4
  refine ⟨o, bs, h1, h2, k1, fun p hp => (r.out p (h5 p (List.mem_append_left _ hp))).1, fun v s s1 s2 H' B' bp' sb r' fr cv => ?_⟩
  obtain ⟨A', r'⟩ := r'
  have ncs : ∀ q ∈ cs, q ∉ bs := fun q hq z => k3 q z q hq rfl
  cases hs : r'.sls with
  | @cons _ _ as _ _ _ g1 t =>
    cases t with
    | @cons _ _ ds _ _ _ g2 t2 =>
      cases t2 with
      | nil =>
        obtain ⟨n1, n2, n3⟩ := List.nodup_append.mp r'.nd
        have n2' : ds.Nodup := by rw [List.append_nil] at n2; exact n2
        have hd : ∀ q ∈ ds, q ∈ as ++ (ds ++ []) := fun q hq => List.mem_append_right _ (List.mem_append_left _ hq)
        have o1 : ∀ q, hideL bs H q = none → q ∈ bs ∨ H q = none := fun q hq => by
          by_cases c : q ∈ bs
          · exact .inl c
          · rw [hideL_out c] at hq
            exact .inr hq
        have oA : ∀ q ∈ as, q ∈ bs ∨ H q = none := fun q hq => o1 q (r'.out q (List.mem_append_left _ hq)).2
        have oD : ∀ q ∈ ds, q ∈ bs ∨ H q = none := fun q hq => o1 q (r'.out q (hd q hq)).2
        have keep : ∀ q ∈ cs, H' q = H q := fun q hq => by
          have hn := h3.held q hq
          have := same_at r'.fr (p := q) (by show hideL bs H q ≠ none; rw [hideL_out (ncs q hq)]; exact hn)
          rw [this]
          exact hideL_out (ncs q hq)
        have notC : ∀ q, q ∈ bs ∨ H q = none → q ∉ cs := fun q hq z => by
          rcases hq with w | w
          · exact ncs q z w
          · exact h3.held q z w
        have inA : ∀ q, q ∈ bs ∨ H q = none → W.H0 q = none := fun q hq => by
          rcases hq with w | w
          · exact (r.out q (h5 q (List.mem_append_left _ w))).2
          · exact r.fr.free w
        have t0 : Sls K W.bp H' B' (σ.set i none) (e.set i .un) cs := h3.mono sb keep
        obtain ⟨fs, f1, f2, f3⟩ := t0.set (cv ds g2) i
        rw [set_set', set_set', set_same h1] at f1
        refine ⟨as ++ fs, .cons (g1.free fr) f1, List.nodup_append.mpr ⟨n1, f2 k2 n2' (fun q hq => notC q (oD q hq)), fun x hx y hy z => ?_⟩, fun q hq => ?_, r'.bh, fun b ob hb => ?_, fun b hb1 hb2 => ?_, r.tb.mono (fun b ps hb => r'.fr b _ (by show hideL bs H b = _; rw [hideL_out (fun z => h2.noTab b z ps hb)]; exact hb)) sb fun b ps hb n => r'.new b (by show hideL bs H b ≠ none; rw [hideL_out (fun z => h2.noTab b z ps hb), hb]; exact fun z => by cases z) n⟩
        · rcases f3 y hy with w | w
          · exact notC x (oA x hx) (by rw [z]; exact w)
          · exact n3 x hx y (List.mem_append_left _ w) z
        · rcases List.mem_append.mp hq with z | z
          · exact ⟨(r'.out q (List.mem_append_left _ z)).1, inA q (oA q z)⟩
          · rcases f3 q z with w | w
            · refine ⟨?_, (r.out q (h5 q (List.mem_append_right _ w))).2⟩
              refine r'.new q ?_ (r.out q (h5 q (List.mem_append_right _ w))).1
              show hideL bs H q ≠ none
              rw [hideL_out (ncs q w)]
              exact h3.held q w
            · exact ⟨(r'.out q (hd q w)).1, inA q (oD q w)⟩
        · have c : b ∉ bs := fun z => by
            rw [(r.out b (h5 b (List.mem_append_left _ z))).2] at hb
            cases hb
          refine r'.fr b ob ?_
          show hideL bs H b = some ob
          rw [hideL_out c]
          exact r.fr b ob hb
        · have c : b ∉ bs := fun z => hb1 (r.out b (h5 b (List.mem_append_left _ z))).2
          refine r'.new b ?_ (r.new b hb1 hb2)
          show hideL bs H b ≠ none
          rw [hideL_out c]
          exact ne_none_of r.fr hb1
/-! ### streets -/
def strOf : Option Sl → Option (PyData × List PyData)
  | some (.st r er) => some (r, er)
  | some (.sb r er) => some (r, er)
  | _ => none
def setStr (e : Ev) (i : Nat) (r : PyData) (er : List PyData) : Ev := match e[i]? with
  | some (.sb _ _) => e.set i (.sb r er)
  | _ => e.set i (.st r er)
theorem setStr_st {e : Ev} {i : Nat} {r r' : PyData} {er er' : List PyData} (h : e[i]? = some (.st r er)) : setStr e i r' er' = e.set i (.st r' er') := by
  unfold setStr
  rw [h]
theorem setStr_sb {e : Ev} {i : Nat} {r r' : PyData} {er er' : List PyData} (h : e[i]? = some (.sb r er)) : setStr e i r' er' = e.set i (.sb r' er') := by
  unfold setStr
  rw [h]
/-- what a street's slot tells, and what becomes of it when one of its three places is written -/
theorem Rel.str {W : Wd} {σ : L2.St} {H B : Hp} {e : Ev} {i : Nat} {row : PyData} {er : List PyData} (r : Rel K W σ H B e) (h : strOf e[i]? = some (row, er)) : ∃ a dx q C vr ws, σ[i]? = some (some (.ref a)) ∧ PySem.W.nsIn K mainGlobals "Street" = some (some (.ref C)) ∧
    H a = some (.ins C dx [("row", vr), ("earlier_rows", .ref q)]) ∧ H dx = some (.own a) ∧ H q = some (.lst ws) ∧ Dp K B vr row ∧ DpAll K B ws er ∧ [a, dx, q].Nodup ∧
    ∀ (u : Addr) (ob : HO) (row' : PyData) (er' : List PyData), u ∈ [a, dx, q] → StAt K (upd H u ob) B a dx q row' er' → Rel K W σ (upd H u ob) B (setStr e i row' er') := by
  obtain ⟨A, r⟩ := r
  cases h0 : e[i]? with
  | none => rw [h0] at h; cases h
  | some s =>
    rw [h0] at h
    obtain ⟨o, bs, cs, h1, h2, h3, h4, h5⟩ := r.sls.out r.nd h0
    obtain ⟨k1, k2, k3⟩ := List.nodup_append.mp h4
    have main : ∀ (a dx q : Addr) (mk : PyData → List PyData → Sl), bs = [a, dx, q] → o = some (.ref a) → StAt K H B a dx q row er → (∀ r' er', setStr e i r' er' = e.set i (mk r' er')) → (∀ H' B' r' er', StAt K H' B' a dx q r' er' → SlOk K W.bp H' B' (some (.ref a)) (mk r' er') [a, dx, q]) →
        ∃ a dx q C vr ws, σ[i]? = some (some (.ref a)) ∧ PySem.W.nsIn K mainGlobals "Street" = some (some (.ref C)) ∧ H a = some (.ins C dx [("row", vr), ("earlier_rows", .ref q)]) ∧ H dx = some (.own a) ∧ H q = some (.lst ws) ∧ Dp K B vr row ∧ DpAll K B ws er ∧ [a, dx, q].Nodup ∧
        ∀ (u : Addr) (ob : HO) (row' : PyData) (er' : List PyData), u ∈ [a, dx, q] → StAt K (upd H u ob) B a dx q row' er' → Rel K W σ (upd H u ob) B (setStr e i row' er') := by
      intro a dx q mk eb eo sa hm hmk
      subst eb eo
      obtain ⟨C, vr, ws, g0, g1, g2, g3, g4, g5⟩ := sa
      refine ⟨a, dx, q, C, vr, ws, h1, g0, g1, g2, g3, g4, g5, k1, fun u ob row' er' hu sa' => ?_⟩
      have ne : ∀ p ∈ cs, p ≠ u := fun p hp z => k3 u hu p hp z.symm
      have t : Sls K W.bp (upd H u ob) B (σ.set i none) (e.set i .un) cs := h3.mono (Same.refl B) fun p hp => upd_ne (ne p hp)
      obtain ⟨fs, f1, f2, f3⟩ := t.set (hmk _ _ row' er' sa') i
      rw [set_set', set_set', set_same h1] at f1
      rw [hm]
      have hA : u ∈ A := h5 u (List.mem_append_left _ hu)
      refine ⟨fs, f1, f2 k2 k1 (fun p hp z => k3 p hp p z rfl), fun p hp => ?_, fun b o hb => ?_, fun b o hb => ?_, r.new, r.tb.mono (fun b ps hb => by rw [upd_ne (fun z => h2.noTab b (by rw [z]; exact hu) ps hb)]; exact hb) (Same.refl B) fun _ _ _ h => h⟩
      · rcases f3 p hp with z | z
        · exact r.out p (h5 p (List.mem_append_right _ z))
        · exact r.out p (h5 p (List.mem_append_left _ z))
      · rw [upd_ne (ne_of_none hb (r.out u hA).1)]
        exact r.bh b o hb
      · rw [upd_ne (ne_of_none hb (r.out u hA).2)]
        exact r.fr b o hb
    cases s with
    | un => cases h
    | sh _ => cases h
    | ow _ => cases h
    | bw _ => cases h
    | ob _ => cases h
    | dc _ => cases h
    | dr _ => cases h
    | dd _ => cases h
    | di _ => cases h
    | db _ => cases h
    | st r0 er0 =>
      cases h
      cases h2 with
      | @st a dx q _ _ sa => exact main a dx q .st rfl rfl sa (fun _ _ => setStr_st h0) fun _ _ _ _ z => .st z
    | sb r0 er0 =>
      cases h
      cases h2 with
      | @sb a dx q _ _ eb sa => exact main a dx q .sb rfl rfl sa (fun _ _ => setStr_sb h0) fun _ _ _ _ z => .sb eb z
structure StreetOk (K : PySem.W.Frag) (C : Addr) : Prop where
  ns : PySem.W.nsIn K mainGlobals "Street" = some (some (.ref C))
  cls : Cls K C
  nr : NoAttr K C "row"
  ne : NoAttr K C "earlier_rows"
/-- self.row -/
def eRow (i : Nat) : M PyData := fun e => match strOf e[i]? with
  | none => none
  | some (r, _) => some (r, e)
theorem se_row {i : Nat} {C : Addr} (k : StreetOk K C) : SE K T (tFld K (tVar i) "row") (eRow i) := fun W hT σ H B e d e' Q hf r q => by
  unfold eRow at hf
  cases h0 : strOf e[i]? with
  | none => rw [h0] at hf; cases hf
  | some p =>
    obtain ⟨row, er⟩ := p
    rw [h0] at hf
    cases hf
    obtain ⟨a, dx, q', C', vr, ws, g1, g2, g3, g4, g5, g6, g7, _⟩ := r.str h0
    rw [k.ns] at g2
    cases Option.some.inj (Option.some.inj g2)
    exact ⟨_, g1, a, C, dx, _, vr, rfl, g3, k.cls, k.nr, rfl, q vr H B (Same.refl B) r g6⟩
/-- self.row = .. -/
def sRow (i : Nat) (f : M PyData) : Ev → Option Out := fun e => bnd (f e) fun d e1 => match strOf e1[i]? with
  | none => none
  | some (_, er) => some (.nx (setStr e1 i d er))
theorem ss_row {i : Nat} {C : Addr} {t : TE} {f : M PyData} (k : StreetOk K C) (h : SE K T t f) : SS K T (sFld K (tVar i) t "row") (sRow i f) := fun W hT D σ H B e o hf r qn qr => by
  obtain ⟨d, e1, h1, h2⟩ := bnd_some hf
  refine h W hT σ H B e d e1 _ h1 r fun v H1 B1 s1 r1 dv => ?_
  cases h0 : strOf e1[i]? with
  | none => rw [h0] at h2; cases h2
  | some p =>
    obtain ⟨row, er⟩ := p
    rw [h0] at h2
    cases h2
    obtain ⟨a, dx, q', C', vr, ws, g1, g2, g3, g4, g5, g6, g7, nd, g8⟩ := r1.str h0
    have g2' := g2
    rw [k.ns] at g2'
    cases Option.some.inj (Option.some.inj g2')
    have nda : dx ≠ a := fun z => by subst z; simp at nd
    have nqa : q' ≠ a := fun z => by subst z; simp at nd
    refine ⟨_, g1, a, C, dx, _, rfl, g3, k.cls, k.nr, (by show 2 < 1000; decide), qn _ σ _ B1 rfl s1 (g8 a _ d er (by simp) ⟨C, v, ws, g2, upd_same, ?_, ?_, dv, g7⟩)⟩
    · rw [upd_ne nda]
      exact g4
    · rw [upd_ne nqa]
      exact g5
/-- self.earlier_rows.append(self.row) -/
def sEarl (i : Nat) : Ev → Option Out := fun e => match strOf e[i]? with
  | none => none
  | some (row, er) => if sz er.length = true then some (.nx (setStr e i row (er ++ [row]))) else none
theorem ss_earl {i : Nat} {C : Addr} (k : StreetOk K C) : SS K T (tDrop (tBM K "list" rAppend (tFld K (tVar i) "earlier_rows") (tCons (tFld K (tVar i) "row") tNil))) (sEarl i) := fun W hT D σ H B e o hf r qn qr => by
  unfold sEarl at hf
  cases h0 : strOf e[i]? with
  | none => rw [h0] at hf; cases hf
  | some p =>
    obtain ⟨row, er⟩ := p
    simp only [h0] at hf
    by_cases c : sz er.length = true
    · rw [if_pos c] at hf
      cases hf
      obtain ⟨a, dx, q', C', vr, ws, g1, g2, g3, g4, g5, g6, g7, nd, g8⟩ := r.str h0
      have g2' := g2
      rw [k.ns] at g2'
      cases Option.some.inj (Option.some.inj g2')
      have nqa : a ≠ q' := fun z => by subst z; simp at nd
      have nqd : dx ≠ q' := fun z => by subst z; simp at nd
      refine ⟨_, g1, a, C, dx, _, _, rfl, g3, k.cls, k.ne, rfl, .inl ⟨rfl, _, SqL.of g5⟩, _, g1, a, C, dx, _, _, rfl, g3, k.cls, k.nr, rfl, q', ws, vr, rfl, rfl, g5, by rw [dpAll_len g7]; exact sz_lt c, ?_⟩
      refine qn _ σ _ B rfl (Same.refl B) (g8 q' _ row (er ++ [row]) (by simp) ⟨C, vr, ws ++ [vr], g2, ?_, ?_, upd_same, g6, dpAll_snoc g7 g6⟩)
      · rw [upd_ne nqa]
        exact g3
      · rw [upd_ne nqd]
        exact g4
    · rw [if_neg c] at hf
      cases hf
/-! ### what a method promises of the street that it is lent -/
abbrev FT := PyData → List PyData → List PyData → Option (Sl × PyData × List PyData)
def spT (K : PySem.W.Frag) (F : FT) : Sp := fun vs H Q _ => ∃ (B : Hp) (a dx q : Addr) (row : PyData) (er : List PyData) (vr : List V) (ds : List PyData) (s : Sl) (row1 : PyData) (er1 : List PyData), vs = .ref a :: vr ∧ StAt K H B a dx q row er ∧ (∀ p ∈ [a, dx, q], B p = none) ∧ [a, dx, q].Nodup ∧ Same B H ∧
  DpAll K B vr ds ∧ F row er ds = some (s, row1, er1) ∧ ∀ v H' B', Same B B' → Rel K ⟨hideL [a, dx, q] H, B, some a, []⟩ [some v, some (.ref a)] H' B' [s, .sb row1 er1] → Q v H'
def lentT (s : Sl) : Option Sl → Option (Sl × PyData × List PyData)
  | some (.sb r er) => if free s = true then some (s, r, er) else none
  | _ => none
theorem lentT_some {s s' : Sl} {o : Option Sl} {r : PyData} {er : List PyData} (h : lentT s o = some (s', r, er)) : s' = s ∧ o = some (.sb r er) ∧ free s = true := by
  unfold lentT at h
  split at h
  · by_cases c : free s = true
    · rw [if_pos c] at h
      cases h
      exact ⟨rfl, rfl, c⟩
    · rw [if_neg c] at h
      cases h
  · cases h
def fnT (n m : Nat) (f : Ev → Option Out) : FT := fun row er ds => if ds.length = n then (match f (.sb row er :: (ds.map Sl.sh ++ List.replicate m .un)) with
  | none => none
  | some (.nx e) => lentT (.sh .none) e[0]?
  | some (.rt s e) => lentT s e[0]?) else none
theorem fnT_free {n m : Nat} {f : Ev → Option Out} {row row1 : PyData} {er er1 ds : List PyData} {s : Sl} (h : fnT n m f row er ds = some (s, row1, er1)) : free s = true := by
  unfold fnT at h
  by_cases c : ds.length = n
  · rw [if_pos c] at h
    split at h
    · cases h
    · rw [(lentT_some h).1]
      rfl
    · rw [(lentT_some h).1]
      exact (lentT_some h).2.2
  · rw [if_neg c] at h
    cases h
theorem Rel.twoT {W : Wd} {σ : L2.St} {H B : Hp} {e : Ev} {o : Option V} {s : Sl} {row : PyData} {er : List PyData} {a : Addr} (r : Rel K W (o :: σ) H B (s :: e)) (hp : W.bp = some a) (h : e[0]? = some (.sb row er)) : Rel K W [o, some (.ref a)] H B [s, .sb row er] := by
  obtain ⟨A, r⟩ := r
  cases hs : r.sls with
  | @cons _ _ as bs _ _ h1 t =>
    cases t with
    | nil => cases h
    | @cons _ _ cs fs _ _ h2 t2 =>
      cases h
      cases h2 with
      | @sb a' dx q _ _ eb sa =>
        rw [hp] at eb
        cases eb
        obtain ⟨n1, n2, n3⟩ := List.nodup_append.mp r.nd
        obtain ⟨n4, n5, n6⟩ := List.nodup_append.mp n2
        refine ⟨as ++ ([a, dx, q] ++ []), .cons h1 (.cons (.sb hp sa) .nil), List.nodup_append.mpr ⟨n1, by rw [List.append_nil]; exact n4, fun x hx y hy z => ?_⟩, fun p hq => r.out p ?_, r.bh, r.fr, r.new, r.tb⟩
        · rw [List.append_nil] at hy
          exact n3 x hx y (List.mem_append_left _ hy) z
        · rcases List.mem_append.mp hq with z | z
          · exact List.mem_append_left _ z
          · rw [List.append_nil] at z
            exact List.mem_append_right _ (List.mem_append_left _ z)
section
variable {P : Program} {w : World} {mg : Str → Option Value} {base : Heap}
theorem okT {x qual : Str} {st : Stmt} {f : Addr} {fd : FuncData} {N ps : List Str} {k n m : Nat} {t : TS} {fb : Ev → Option Out} (hs : SS K [] t fb) (F : Fun K x qual st f fd) (S : FnScope N ps (defScope st)) (hN : N.length = n + 1 + m) (hp : ps.length = n + 1)
    (hb : ∀ (cdv : Value) (A : Around) (outer : List Env) (s : Shared) (H : Hp) (E : XK), Room k (A.deeper (envOfC qual (defScope st) s.heap.objs.size f cdv)) → PSs (cxOf CX0 P w K mg base N qual (defScope st) f cdv A outer s H E).nox (defBody st) t) :
    FnOk P w K mg base CX0 (k + 1) f fd ps (spT K (fnT n m fb)) := by
  have cut : ∀ {row : PyData} {er ds : List PyData} {r : Sl × PyData × List PyData}, fnT n m fb row er ds = some r → ds.length = n := fun {row er ds r} h => by
    unfold fnT at h
    by_cases c : ds.length = n
    · exact c
    · rw [if_neg c] at h
      cases h
  refine F.ok S (fun vs H Q E h => ?_) (fun cdv A outer s H vs Q E hr h => ?_)
  · obtain ⟨B, a, dx, q, row, er, vr, ds, sl, row1, er1, rfl, h1, h2, h3, h4, h5, h6, _⟩ := h
    rw [List.length_cons, dpAll_len h5, hp, cut h6]
  · refine ⟨t, hb cdv A outer s H E hr, ?_⟩
    obtain ⟨B, a, dx, q, row, er, vr, ds, sl, row1, er1, rfl, h1, h2, nd, bh, h5, h6, qq⟩ := h
    have c := cut h6
    have hv : vr.length = n := by rw [dpAll_len h5]; exact c
    unfold fnT at h6
    rw [if_pos c] at h6
    have es : L2.start N (.ref a :: vr) = some (.ref a) :: (vr.map some ++ List.replicate m none) := by
      rw [start_eq hN (by rw [List.length_cons, hv])]
      rfl
    rw [es]
    have r0 : Rel K ⟨hideL [a, dx, q] H, B, some a, []⟩ (some (.ref a) :: (vr.map some ++ List.replicate m none)) H B (.sb row er :: (ds.map Sl.sh ++ List.replicate m .un)) := by
      refine ⟨[a, dx, q] ++ [], .cons (.sb rfl h1) (sls_sh (sls_un m) h5), by rw [List.append_nil]; exact nd, fun p hq => ?_, bh, fun b o hb => (hideL_sub hb).2, fun b _ h => h, fun x hx => by cases hx⟩
      rw [List.append_nil] at hq
      exact ⟨h2 p hq, hideL_in hq⟩
    cases h7 : fb (.sb row er :: (ds.map Sl.sh ++ List.replicate m .un)) with
    | none => rw [h7] at h6; cases h6
    | some o =>
      rw [h7] at h6
      refine hs ⟨hideL [a, dx, q] H, B, some a, []⟩ rfl _ _ H B _ o h7 r0 (fun e' σ' H' B' he sb r => ?_) (fun s' e' v σ' H' B' he sb r => ?_)
      · subst he
        obtain ⟨rfl, h8, _⟩ := lentT_some h6
        exact qq _ H' B' sb ((r.cons (d := .none) .non).twoT rfl h8)
      · subst he
        obtain ⟨rfl, h8, _⟩ := lentT_some h6
        exact qq v H' B' sb (r.twoT rfl h8)
end
/-- o.m(..) of a street -/
def xMethT (i : Nat) (F : FT) (fa : M (List PyData)) : M Sl := fun e => match strOf e[i]? with
  | none => none
  | some _ => bnd (fa e) fun ds e1 => match strOf e1[i]? with
    | none => none
    | some (row, er) => match F row er ds with
      | none => none
      | some (s, row1, er1) => if free s = true then some (s, setStr e1 i row1 er1) else none
theorem sx_methT {m : Str} {C : Addr} {i : Nat} {F : FT} {t : TA} {fa : M (List PyData)} (k : StreetOk K C) (hm : List.lookup m [(("row" : Str), ()), ("earlier_rows", ())] = none) (ha : SA K T t fa) : SX K T (tMeth C m (spT K F) [] E0 (tVar i) t) (xMethT i F fa) := fun W hT σ H B e s e' Q hf r q => by
  unfold xMethT at hf
  cases h0 : strOf e[i]? with
  | none => rw [h0] at hf; cases hf
  | some p0 =>
    obtain ⟨row0, er0⟩ := p0
    rw [h0] at hf
    obtain ⟨ds, e1, h1, h2⟩ := bnd_some hf
    obtain ⟨a, dx, q', C', vr, ws, g1, g2, g3, _⟩ := r.str h0
    rw [k.ns] at g2
    cases Option.some.inj (Option.some.inj g2)
    refine ⟨_, g1, a, dx, _, rfl, g3, ?_, ha W hT σ H B e ds e1 _ h1 r fun vs H1 B1 s1 r1 dv => ?_⟩
    · revert hm
      simp only [List.lookup]
      cases (m == ("row" : Str)) <;> cases (m == ("earlier_rows" : Str)) <;> intro z <;> first | rfl | cases z
    · cases h3 : strOf e1[i]? with
      | none => rw [h3] at h2; cases h2
      | some p =>
        obtain ⟨row, er⟩ := p
        simp only [h3] at h2
        cases h4 : F row er ds with
        | none => rw [h4] at h2; cases h2
        | some z =>
          obtain ⟨s', row1, er1⟩ := z
          simp only [h4] at h2
          by_cases c : free s' = true
          · rw [if_pos c] at h2
            cases h2
            rw [List.append_nil]
            cases h5 : e1[i]? with
            | none => rw [h5] at h3; cases h3
            | some sl =>
              rw [h5] at h3
              obtain ⟨o, bs, b1, b2, b3, b4, b5⟩ := r1.lend h5
              rw [g1] at b1
              cases Option.some.inj b1
              cases sl with
              | un => cases h3
              | sh _ => cases h3
              | ow _ => cases h3
              | bw _ => cases h3
              | ob _ => cases h3
              | dc _ => cases h3
              | dr _ => cases h3
              | dd _ => cases h3
              | di _ => cases h3
              | db _ => cases h3
              | st r2 er2 =>
                cases h3
                rw [setStr_st h5] at q
                cases b2 with
                | @st _ dx2 q2 _ _ sa => exact ⟨B1, a, dx2, q2, row, er, vs, ds, s, row1, er1, rfl, sa, b4, b3, r1.bh, dv, h4, fun v H' B' sb r' => q v H' B' (s1.trans sb) (b5 v s _ (.st row1 er1) H' B' _ sb r' c fun as z => by cases z with | sb _ sa => exact .st sa)⟩
              | sb r2 er2 =>
                cases h3
                rw [setStr_sb h5] at q
                cases b2 with
                | @sb _ dx2 q2 _ _ eb sa => exact ⟨B1, a, dx2, q2, row, er, vs, ds, s, row1, er1, rfl, sa, b4, b3, r1.bh, dv, h4, fun v H' B' sb r' => q v H' B' (s1.trans sb) (b5 v s _ (.sb row1 er1) H' B' _ sb r' c fun as z => by cases z with | sb _ sa => exact .sb eb sa)⟩
          · rw [if_neg c] at h2
            cases h2
end VL
end
section
set_option Elab.async false
set_option linter.all false
set_option maxRecDepth 100000
set_option maxHeartbeats 2000000
namespace VL
open PySem PySem.Spec PyProof.Rows L2 HT PySem.W PySem.Calls
variable {K : PySem.W.Frag} {T : List (Addr × Str)}
/-! ### Street() -/
def inH (H : Hp) (C x dx p q : Addr) : Hp := upd (upd (upd (upd H p (.tup [])) x (.ins C dx [("row", .ref p)])) q (.lst [])) x (.ins C dx [("row", .ref p), ("earlier_rows", .ref q)])
def spI (C : Addr) : Sp := fun vs H Q _ => ∃ x dx, vs = [.ref x] ∧ H x = some (.ins C dx []) ∧ ∀ p q, H p = none → upd (upd H p (.tup [])) x (.ins C dx [("row", .ref p)]) q = none → Q .non (inH H C x dx p q)
abbrev tInit (K : PySem.W.Frag) : TS := tSeq (sFld K (tVar 0) (tTup tNil) "row") (sFld K (tVar 0) (tLst tNil) "earlier_rows")
section
variable {P : Program} {w : World} {mg : Str → Option Value} {base : Heap}
theorem okI {x qual : Str} {st : Stmt} {f C : Addr} {fd : FuncData} {k : Nat} (kc : StreetOk K C) (F : Fun K x qual st f fd) (S : FnScope ["self"] ["self"] (defScope st))
    (hb : ∀ (cdv : Value) (A : Around) (outer : List Env) (s : Shared) (H : Hp) (E : XK), Room k (A.deeper (envOfC qual (defScope st) s.heap.objs.size f cdv)) → PSs (cxOf CX0 P w K mg base ["self"] qual (defScope st) f cdv A outer s H E).nox (defBody st) (tInit K)) :
    FnOk P w K mg base CX0 (k + 1) f fd ["self"] (spI C) := by
  refine F.ok S (fun vs H Q E h => ?_) (fun cdv A outer s H vs Q E hr h => ?_)
  · obtain ⟨x, dx, rfl, _⟩ := h
    rfl
  · refine ⟨_, hb cdv A outer s H E hr, ?_⟩
    obtain ⟨x, dx, rfl, h1, q⟩ := h
    show tInit K _ [some (.ref x)] H
    refine ⟨Nat.zero_le _, fun p hp => ⟨_, rfl, x, C, dx, [], rfl, ?_, kc.cls, kc.nr, (by decide), Nat.zero_le _, fun q' hq' => ⟨_, rfl, x, C, dx, [("row", .ref p)], rfl, ?_, kc.cls, kc.ne, (by show 1 < 1000; decide), ?_⟩⟩⟩
    · rw [upd_ne (ne_of_none h1 hp)]
      exact h1
    · have : x ≠ q' := fun z => by
        have hq'' : upd (upd H p (.tup [])) x (.ins C dx [("row", .ref p)]) q' = none := hq'
        rw [← z, upd_same] at hq''
        cases hq''
      show upd (upd (upd H p (.tup [])) x (.ins C dx [("row", .ref p)])) q' (.lst []) x = some (.ins C dx [("row", .ref p)])
      rw [upd_ne this, upd_same]
    · exact q p q' hp hq'
end
def xMkT : M Sl := fun e => some (.st (.tuple []) [], e)
theorem sx_mkT {C : Addr} (kc : StreetOk K C) : SX K T (tMake C (spI C) [] E0 tNil) xMkT := fun W hT σ H B e s e' Q hf r qq => by
  cases hf
  intro x dx hx hdx ne
  refine ⟨x, dx, rfl, upd_same, fun p q hp hq => ⟨rfl, ?_⟩⟩
  have px : p ≠ x := fun z => by rw [z, upd_same] at hp; cases hp
  rw [upd_ne px] at hp
  have pd : p ≠ dx := fun z => by rw [z, upd_same] at hp; cases hp
  rw [upd_ne pd] at hp
  have qx : q ≠ x := fun z => by rw [z, upd_same] at hq; cases hq
  rw [upd_ne qx] at hq
  have qp : q ≠ p := fun z => by rw [z, upd_same] at hq; cases hq
  rw [upd_ne qp, upd_ne qx] at hq
  have qd : q ≠ dx := fun z => by rw [z, upd_same] at hq; cases hq
  rw [upd_ne qd] at hq
  have e1 : ∀ H5, H5 = inH (upd (upd H dx (.own x)) x (.ins C dx [])) C x dx p q → H5 x = some (.ins C dx [("row", .ref p), ("earlier_rows", .ref q)]) ∧ H5 dx = some (.own x) ∧ H5 q = some (.lst []) ∧ H5 p = some (.tup []) ∧ ∀ b, b ≠ x → b ≠ dx → b ≠ q → b ≠ p → H5 b = H b := by
    rintro H5 rfl
    unfold inH
    refine ⟨upd_same, ?_, ?_, ?_, fun b h1 h2 h3 h4 => ?_⟩
    · rw [upd_ne ne, upd_ne (Ne.symm qd), upd_ne ne, upd_ne (Ne.symm pd), upd_ne ne, upd_same]
    · rw [upd_ne qx, upd_same]
    · rw [upd_ne px, upd_ne (Ne.symm qp), upd_ne px, upd_same]
    · rw [upd_ne h1, upd_ne h3, upd_ne h1, upd_ne h4, upd_ne h1, upd_ne h2]
  generalize hH : inH (upd (upd H dx (.own x)) x (.ins C dx [])) C x dx p q = H5
  obtain ⟨g1, g2, g3, g4, g5⟩ := e1 H5 hH.symm
  have sh : Same H H5 := fun b o hb => by
    rw [g5 b (ne_of_none hb hx) (ne_of_none hb hdx) (ne_of_none hb hq) (ne_of_none hb hp)]
    exact hb
  have Bp : B p = none := r.bh.free hp
  have x1 : Ext H B H5 (upd B p (.tup [])) := by
    refine ⟨sh, same_upd Bp, fun b o hb => ?_, fun b h1 h2 => ?_⟩
    · by_cases c : b = p
      · rw [c, upd_same] at hb
        rw [c, g4]
        exact hb
      · rw [upd_ne c] at hb
        exact sh b o (r.bh b o hb)
    · rw [upd_ne (fun z => h1 (by rw [z]; exact hp))]
      exact h2
  have r1 := r.ext x1
  refine qq _ H5 _ x1.b ?_
  have hfr := r
  obtain ⟨A0, hfr⟩ := hfr
  obtain ⟨A, r1⟩ := r1
  have nA : ∀ u ∈ [x, dx, q], H u = none := fun u hu => by
    rcases List.mem_cons.mp hu with z | hu
    · rw [z]; exact hx
    · rcases List.mem_cons.mp hu with z | hu
      · rw [z]; exact hdx
      · rw [List.mem_singleton.mp hu]; exact hq
  have nB : ∀ u ∈ [x, dx, q], u ≠ p := fun u hu => by
    rcases List.mem_cons.mp hu with z | hu
    · rw [z]; exact Ne.symm px
    · rcases List.mem_cons.mp hu with z | hu
      · rw [z]; exact Ne.symm pd
      · rw [List.mem_singleton.mp hu]; exact qp
  have r2 := hfr.ext x1
  refine ⟨[x, dx, q] ++ A0, .cons (.st ⟨C, .ref p, [], kc.ns, g1, g2, g3, .tup (SqT.of upd_same) .nil, .nil⟩) r2.sls, List.nodup_append.mpr ⟨?_, r2.nd, fun u hu y hy z => ?_⟩, fun u hu => ?_, r2.bh, r2.fr, r2.new, r2.tb⟩
  · refine List.nodup_cons.mpr ⟨fun z => ?_, List.nodup_cons.mpr ⟨fun z => qd (List.mem_singleton.mp z).symm, by simp⟩⟩
    rcases List.mem_cons.mp z with z | z
    · exact ne z.symm
    · exact qx (List.mem_singleton.mp z).symm
  · exact hfr.sls.held y hy (by rw [← z]; exact nA u hu)
  · rcases List.mem_append.mp hu with z | z
    · refine ⟨?_, hfr.fr.free (nA u z)⟩
      rw [upd_ne (nB u z)]
      exact r.bh.free (nA u z)
    · exact r2.out u z
end VL
end
section
set_option Elab.async false
set_option linter.all false
set_option maxRecDepth 100000
set_option maxHeartbeats 2000000
namespace VL
open PySem PySem.Spec PyProof.Rows L2 HT
/-! ### what the top has left, as facts of the written part alone -/
def FnF (K : PySem.W.Frag) (x : Str) (st : Stmt) : Prop := ∃ (f : Addr) (oc kV doc pm cdv ct : Value) (od an : Option Addr) (osl : Array (Option Value)), PySem.W.nsIn K mainGlobals x = some (some (.ref f)) ∧
  K.lookup f = some ⟨oc, od, .func (PySem.W.fnOf x x (defArgs st) (defBody st) (defScope st) .none kV doc pm an cdv ct), osl⟩ ∧ PySem.W.codeIn K cdv x = true ∧ PySem.W.keepIn K (.ref f) = true
def BindP (m qual : Str) (st : Stmt) (ps : List Str) : Prop := ∀ (kV doc pm : Value) (an : Option Addr) (cdv ct : Value) (us : List Value), us.length = ps.length → bindArgs (PySem.W.fnOf m qual (defArgs st) (defBody st) (defScope st) .none kV doc pm an cdv ct) ⟨us, []⟩ = pure (ps.zip us)
theorem FnF.at {K : PySem.W.Frag} {x : Str} {st : Stmt} {ps : List Str} {h : Heap} {mg : Str → Option Value} (F : FnF K x st) (X : K.In h) (G : h.Ns mainGlobals mg) (b : BindP x x st ps) : DefAt K mg x st ps := by
  obtain ⟨f, oc, kV, doc, pm, cdv, ct, od, an, osl, a, l, c, k⟩ := F
  exact ⟨f, _, fun_mk l c k, Binds.all fun us hl => b kV doc pm an cdv ct us hl, PySem.W.mg_of X G a⟩
def MthF (K : PySem.W.Frag) (cl m qual : Str) (st : Stmt) : Prop := ∃ (C f : Addr) (oc kV doc pm cdv ct : Value) (od an : Option Addr) (osl : Array (Option Value)), PySem.W.nsIn K mainGlobals cl = some (some (.ref C)) ∧ PySem.W.findIn K (.ref C) m = some (some (.ref f)) ∧ PySem.W.isFn K (.ref f) = true ∧
  K.lookup f = some ⟨oc, od, .func (PySem.W.fnOf m qual (defArgs st) (defBody st) (defScope st) .none kV doc pm an cdv ct), osl⟩ ∧ PySem.W.codeIn K cdv qual = true ∧ PySem.W.keepIn K (.ref f) = true
theorem MthF.at {K : PySem.W.Frag} {cl m qual : Str} {st : Stmt} {ps : List Str} {h : Heap} {mg : Str → Option Value} (F : MthF K cl m qual st) (X : K.In h) (G : h.Ns mainGlobals mg) (b : BindP m qual st ps) : ∀ C, mg cl = some (.ref C) → MethAt K C m qual st ps := by
  intro C hC
  obtain ⟨C', f, oc, kV, doc, pm, cdv, ct, od, an, osl, n, a, i, l, c, k⟩ := F
  rw [PySem.W.mg_of X G n] at hC
  cases Option.some.inj hC
  exact ⟨f, _, fun_mk l c k, Binds.all fun us hl => b kV doc pm an cdv ct us hl, a, i, k⟩
def ClsF (K : PySem.W.Frag) (c : Str) : Prop := ∃ C : Addr, PySem.W.nsIn K mainGlobals c = some (some (.ref C)) ∧ PySem.W.plainGet K C Str.empty = true ∧ PySem.W.hasDictIn K C = true ∧ PySem.W.plainOver K C = true ∧ PySem.W.findIn K (.ref C) "__setattr__" = some (some (.builtin "object.__setattr__")) ∧
  PySem.W.makesIn K C = true ∧ PySem.W.findIn K (.ref C) "__init__" = some (some (.builtin "object.__init__")) ∧ PySem.W.keepIn K (.ref C) = true ∧ PySem.W.mroIn K C (.type "object") = some true
theorem ClsF.ex {K : PySem.W.Frag} {c : Str} {h : Heap} {mg : Str → Option Value} (F : ClsF K c) (X : K.In h) (G : h.Ns mainGlobals mg) : ∃ C, mg c = some (.ref C) := by
  obtain ⟨C, n, _⟩ := F
  exact ⟨C, PySem.W.mg_of X G n⟩
theorem ClsF.at {K : PySem.W.Frag} {c : Str} {h : Heap} {mg : Str → Option Value} (F : ClsF K c) (X : K.In h) (G : h.Ns mainGlobals mg) : ∀ C, mg c = some (.ref C) → ClsOk K C c := by
  intro C hC
  obtain ⟨C', n, a1, a2, a3, a4, a5, a6, a7, a8⟩ := F
  rw [PySem.W.mg_of X G n] at hC
  cases Option.some.inj hC
  exact ⟨n, ⟨a5, a6, a7, a8⟩, ⟨a1, a2, a3, a4⟩⟩
def StrF (K : PySem.W.Frag) : Prop := ∃ C : Addr, PySem.W.nsIn K mainGlobals "Street" = some (some (.ref C)) ∧ PySem.W.plainGet K C Str.empty = true ∧ PySem.W.hasDictIn K C = true ∧ PySem.W.plainOver K C = true ∧ PySem.W.findIn K (.ref C) "__setattr__" = some (some (.builtin "object.__setattr__")) ∧
  PySem.W.makesIn K C = true ∧ PySem.W.keepIn K (.ref C) = true ∧ PySem.W.findIn K (.ref C) "row" = some none ∧ PySem.W.findIn K (.ref C) "earlier_rows" = some none
theorem StrF.ex {K : PySem.W.Frag} {h : Heap} {mg : Str → Option Value} (F : StrF K) (X : K.In h) (G : h.Ns mainGlobals mg) : ∃ C, mg "Street" = some (.ref C) := by
  obtain ⟨C, n, _⟩ := F
  exact ⟨C, PySem.W.mg_of X G n⟩
theorem StrF.at {K : PySem.W.Frag} {h : Heap} {mg : Str → Option Value} (F : StrF K) (X : K.In h) (G : h.Ns mainGlobals mg) : ∀ C, mg "Street" = some (.ref C) → StreetOk K C := by
  intro C hC
  obtain ⟨C', n, a1, a2, a3, a4, _, _, a5, a6⟩ := F
  rw [PySem.W.mg_of X G n] at hC
  cases Option.some.inj hC
  exact ⟨n, ⟨a1, a2, a3, a4⟩, a5, a6⟩
theorem StrF.mk {K : PySem.W.Frag} {qual : Str} {st : Stmt} {h : Heap} {mg : Str → Option Value} (S : StrF K) (F : MthF K "Street" "__init__" qual st) (X : K.In h) (G : h.Ns mainGlobals mg) (b : BindP "__init__" qual st ["self"]) :
    ∀ C, mg "Street" = some (.ref C) → ∃ (f : Addr) (fd : FuncData), Fun K "__init__" qual st f fd ∧ Binds K fd ["self"] [] ∧ Mk K C f := by
  intro C hC
  obtain ⟨C1, n1, _, _, _, _, m1, k1, _, _⟩ := S
  have hC1 := hC
  rw [PySem.W.mg_of X G n1] at hC1
  cases Option.some.inj hC1
  obtain ⟨f, fd, q1, q2, q3⟩ := F.at X G b C hC
  exact ⟨f, fd, q1, q2, ⟨m1, q3.at_, q3.fn, k1⟩⟩
def CstF (K : PySem.W.Frag) (x : Str) (n : Int) : Prop := ∃ t, PySem.W.nsIn K mainGlobals x = some (some (.int n t))
theorem CstF.at {K : PySem.W.Frag} {x : Str} {n : Int} {h : Heap} {mg : Str → Option Value} (F : CstF K x n) (X : K.In h) (G : h.Ns mainGlobals mg) : ∃ t, mg x = some (.int n t) := by
  obtain ⟨t, e⟩ := F
  exact ⟨t, PySem.W.mg_of X G e⟩
theorem spS_law {K : PySem.W.Frag} {F : List PyData → Option Sl} {H : Hp} {a : Addr} {ns : List Int} (hF : F [.list (ns.map PyData.int)] = some (.sh (.bool true))) (hS : SqL K H a (ns.map V.int)) (E : XK) : spS K F [.ref a] H (fun v _ => v = .bl true) E := by
  have hd : ∀ ms : List Int, DpAll K H (ms.map V.int) (ms.map PyData.int) := fun ms => by
    induction ms with
    | nil => exact .nil
    | cons m ms ih => exact .cons (.int m) ih
  exact ⟨H, _, _, Same.refl H, .cons (.lst hS (hd ns)) .nil, hF, fun v H' B' _ r => dp_bl r.head⟩
end VL
end
section
set_option Elab.async false
set_option linter.all false
set_option maxRecDepth 100000
set_option maxHeartbeats 2000000
namespace VL
open PySem PySem.Spec PyProof.Rows L2 HT PySem.W PySem.Calls
/-! ### a def that promises nothing -/
section
variable {P : Program} {w : World} {K : PySem.W.Frag} {mg : Str → Option Value} {base : Heap}
theorem ok0 {x qual : Str} {st : Stmt} {f : Addr} {fd : FuncData} {N ps : List Str} {k : Nat} (F : Fun K x qual st f fd) (S : FnScope N ps (defScope st)) : FnOk P w K mg base CX0 (k + 1) f fd ps (spS K fun _ => none) := by
  refine F.ok S (fun vs H Q E h => ?_) (fun cdv A outer s H vs Q E hr h => ?_)
  · obtain ⟨B, ds, sl, _, _, h3, _⟩ := h
    cases h3
  · obtain ⟨B, ds, sl, _, _, h3, _⟩ := h
    cases h3
end
/-! ### xs.remove(x) -/
section
variable {X : Cx}
def rRem (K : PySem.W.Frag) : V → List V → Hp → VK → Prop := fun x vs H Q => ∃ (l : Addr) (xs : List V) (y : V) (ds : List PyData) (d : PyData) (j : Nat), x = .ref l ∧ vs = [y] ∧ H l = some (.lst xs) ∧ DpAll K H xs ds ∧ Dp K H y d ∧ PyData.plainAll ds = true ∧ d.plain = true ∧ d.depth ≤ 60 ∧ SeqAt.dataPlace ds d = some j ∧
  Q .non (upd H l (.lst (xs.eraseIdx j)))
theorem mt_rem (hu : X.A.units + 65 < cLine) : MtM X "list.remove" (rRem X.K) := by
  intro pins s σ H x vs v us Q I rx rv h
  obtain ⟨l, xs, y, ds, d, j, rfl, rfl, hH, hds, hd, hp1, hp2, hp3, hj, q⟩ := h
  cases rx
  obtain ⟨u, rfl, ru⟩ := rv.one
  obtain ⟨z, its, n, r, hl, e⟩ := I.lstM hH
  obtain ⟨as, rs⟩ := Dp.readsAll I ds xs its hds r
  obtain ⟨bs, rd⟩ := Dp.reads I d y u hd ru
  refine SeqAt.remove_list_data (vs := its.toArray) ⟨_, e, rfl, n, rfl⟩ (by simpa using rs) rd hp1 hp2 ?_ hj (by rw [List.size_toArray]; omega) ?_
  · have : min (PyData.depthAll ds) d.depth ≤ d.depth := Nat.min_le_right _ _
    omega
  · refine ⟨.non, _, I.lset (its' := its.eraseIdx j) hH e ?_ (r.eraseIdx j) ?_, rfl, q⟩
    · rw [List.eraseIdxIfInBounds_toArray]
    · have := List.length_eraseIdx_le xs j
      omega
theorem MtM.mono {m : String} {r : V → List V → Hp → VK → Prop} (h : MtM X m r) : MtM X m r := h
end
section
variable {K : PySem.W.Frag} {T : List (Addr × Str)}
theorem dpAll_erase {H : Hp} : ∀ {vs : List V} {ds : List PyData} (i : Nat), DpAll K H vs ds → DpAll K H (vs.eraseIdx i) (ds.eraseIdx i)
  | _, _, _, .nil => by simp; exact .nil
  | _, _, 0, .cons _ t => t
  | _, _, i + 1, .cons q t => .cons q (dpAll_erase i t)
def remOf (ds : List PyData) (d : PyData) : Option (List PyData) := if PyData.plainAll ds = true ∧ d.plain = true ∧ Nat.ble d.depth 60 = true then (match SeqAt.dataPlace ds d with
  | none => none
  | some j => some (ds.eraseIdx j)) else none
theorem remOf_some {ds es : List PyData} {d : PyData} (h : remOf ds d = some es) : PyData.plainAll ds = true ∧ d.plain = true ∧ d.depth ≤ 60 ∧ ∃ j, SeqAt.dataPlace ds d = some j ∧ es = ds.eraseIdx j := by
  unfold remOf at h
  split at h
  · rename_i c
    cases hj : SeqAt.dataPlace ds d with
    | none => rw [hj] at h; cases h
    | some j =>
      rw [hj] at h
      cases h
      exact ⟨c.1, c.2.1, Nat.le_of_ble_eq_true c.2.2, j, rfl, rfl⟩
  · cases h
def sRem (i : Nat) (f : M PyData) : Ev → Option Out := fun e => match ownOf e[i]? with
  | none => none
  | some _ => bnd (f e) fun d e1 => match ownOf e1[i]? with
    | none => none
    | some ds => match remOf ds d with
      | none => none
      | some es => some (.nx (setOwn e1 i es))
theorem ss_rem {i : Nat} {t : TE} {f : M PyData} (h : SE K T t f) : SS K T (tDrop (tBM K "list" (rRem K) (tVar i) (tCons t tNil))) (sRem i f) := fun W hT D σ H B e o hf r qn qr => by
  unfold sRem at hf
  cases h0 : ownOf e[i]? with
  | none => rw [h0] at hf; cases hf
  | some ds0 =>
    rw [h0] at hf
    obtain ⟨d, e1, h1, h2⟩ := bnd_some hf
    obtain ⟨p, xs, a1, a2, a3, _⟩ := r.own h0
    refine ⟨_, a1, .inl ⟨rfl, _, SqL.of a2⟩, ?_⟩
    refine h W hT σ H B e d e1 _ h1 r fun v H1 B1 s1 r1 dv => ?_
    cases h3 : ownOf e1[i]? with
    | none => rw [h3] at h2; cases h2
    | some ds =>
      simp only [h3] at h2
      cases h4 : remOf ds d with
      | none => rw [h4] at h2; cases h2
      | some es =>
        rw [h4] at h2
        cases h2
        obtain ⟨g1, g2, g3, j, g4, rfl⟩ := remOf_some h4
        obtain ⟨p', ys, b1, b2, b3, b4⟩ := r1.own h3
        rw [a1] at b1
        cases b1
        exact ⟨p, ys, v, ds, d, j, rfl, rfl, b2, dpAll_mono r1.bh b3, dp_mono r1.bh dv, g1, g2, g3, g4, qn _ σ _ B1 rfl s1 (b4 _ _ (dpAll_erase j b3))⟩
end
/-! ### len of a dict -/
section
variable {prog : Program} {w : World} {A : Around} {E : Value → Shared → Prop} {s : Shared} {d : Addr} {es : Array DictEntry} {ep : Nat}
theorem call_lenN {Q : Value → Shared → Prop} (hd : (d == sysModules) = false) (hm : s.heap.DictRaw d es ep) (hfit : (es.size : Int) < 2 ^ 63)
    (h : Q (.int es.size (s.toks + 1)) { s with toks := s.toks + 1 + 1 }) : wpAny (model prog w) A (call (.builtin "len") [.ref d]) Q E s := by
  refine Calls.call_function_entry kind_len plain_len entry_len (args_len1 _) ?_
  unfold Builtin.«len»
  refine wpAny_bind (m := oneArg "len" _) (wpAny_pure ?_)
  refine wpAny_bind (m := callSpecial? (.ref d) (Str.ofString "__len__")) (wpAny_callSpecial?_slot (name := Str.ofString "__len__") hm.typeIs F.slot_dict_len
    (call_meetsIn F.slot_dict_len hm.typeIs F.entry_dict_len (F.args_dict_len_1 _) (meets_dict_len_raw d hd) ⟨es, ep, hm, ?_⟩))
  show wpAny _ _ _ _ _ { s with toks := s.toks + 1 }
  refine wpAny_bind (wpAny_holding (wpAny_pure ?_))
  refine wpAny_bind (wpAny_letGo ?_)
  show wpAny _ _ (if ((es.size : Nat) : Int) < 0 then _ else _) _ _ _
  rw [if_neg (by omega)]
  show wpAny _ _ (if ((es.size : Nat) : Int) ≥ 2 ^ 63 then _ else _) _ _ _
  rw [if_neg (by omega)]
  exact wpAny_bind (wpAny_mkInt (wpAny_pure ⟨_, rfl, h⟩))
end
section
variable {X : Cx}
def rLenN (K : PySem.W.Frag) : List V → Hp → VK → Prop := fun vs H Q => ∃ (p : Addr) (xs : List (NestedKey × Addr × Value)), vs = [.ref p] ∧ IsDic H p xs ∧ xs.length ≤ sizeLine ∧ (p == sysModules) = false ∧ Q (.int xs.length) H
theorem cr_lenN : CallR X (.builtin "len") (rLenN X.K) := by
  intro pins s σ H vs us Q I r h
  obtain ⟨p, xs, rfl, hp, hl, hm, q⟩ := h
  rw [Vals.ref1 r]
  obtain ⟨ep, hp⟩ := hp
  obtain ⟨⟨o, es, h1, h2, h3, h4, h5⟩, _, _⟩ := I.hok p _ hp
  have raw : s.heap.DictRaw p es ep := ⟨o, h1, h2, h3⟩
  have hsz : es.size = xs.length := by rw [← Array.length_toList, h4, List.length_map]
  refine call_lenN hm raw (by rw [sizeLine_eq] at hl; omega) ?_
  rw [hsz]
  exact ⟨.int xs.length, H, I.kept (t' := s.toks + 1 + 1) fun _ _ z => z, ⟨_, rfl⟩, q⟩
end
/-! ### a dict of dicts -/
section
variable {K : PySem.W.Frag} {T : List (Addr × Str)}
def xDictD : M Sl := fun e => some (.dd [], e)
theorem sx_dictD : SX K T tDNewK xDictD := fun W hT σ H B e s e' Q hf r q => by
  cases hf
  intro p hp
  refine q _ _ B (Same.refl B) ?_
  obtain ⟨A, r⟩ := r
  have r1 := r.ext (Ext.gone (o := .dK (ksV [])) r.bh hp)
  refine ⟨[p] ++ A, .cons (.dd upd_same .nil) r1.sls, List.nodup_append.mpr ⟨by simp, r.nd, fun x hx y hy z => ?_⟩, fun q hq => ?_, r1.bh, r1.fr, r1.new, r1.tb⟩
  · rw [List.mem_singleton.mp hx] at z
    exact r.sls.held y hy (by rw [← z]; exact hp)
  · rcases List.mem_append.mp hq with z | z
    · rw [List.mem_singleton.mp z]
      exact ⟨r.bh.free hp, r.fr.free hp⟩
    · exact r.out q z
abbrev KVs := List (PyData × PyData)
def ddAt : List (Int × KVs) → Int → Option KVs
  | [], _ => none
  | (k, v) :: r, x => if k = x then some v else ddAt r x
def ddHas : List (Int × KVs) → Int → Bool
  | [], _ => false
  | (k, _) :: r, x => if k = x then true else ddHas r x
theorem inn_get {B : Hp} : ∀ {ks : List (Int × Addr)} {kvss : List (Int × KVs)} {k : Int} {kvs : KVs}, InnOk K B ks kvss → ddAt kvss k = some kvs → ∃ q xs, valV (ksV ks) (.inl k) = some (.ref q) ∧ IsDic B q xs ∧ EntsOk K B xs kvs ∧ (q == sysModules) = false
  | _, _, _, _, .nil, h => by cases h
  | _, _, k, kvs, .cons (k := k0) (q := q0) (ks := ks) a b c t, h => by
    unfold ddAt at h
    by_cases z : k0 = k
    · rw [if_pos z] at h
      cases h
      subst z
      exact ⟨q0, _, valV_pos rfl, a, b, c⟩
    · rw [if_neg z] at h
      obtain ⟨q, xs, g1, g2⟩ := inn_get t h
      refine ⟨q, xs, ?_, g2⟩
      show valV ((.inl k0, .ref q0) :: ksV ks) (.inl k) = _
      rw [valV_neg (fun e => z (Sum.inl.inj e))]
      exact g1
theorem inn_app {B : Hp} : ∀ {ks ks' : List (Int × Addr)} {kvss kvss' : List (Int × KVs)}, InnOk K B ks kvss → InnOk K B ks' kvss' → InnOk K B (ks ++ ks') (kvss ++ kvss')
  | _, _, _, _, .nil, h => h
  | _, _, _, _, .cons a b c t, h => .cons a b c (inn_app t h)
theorem inn_len {B : Hp} : ∀ {ks : List (Int × Addr)} {kvss : List (Int × KVs)}, InnOk K B ks kvss → ks.length = kvss.length
  | _, _, .nil => rfl
  | _, _, .cons _ _ _ t => congrArg (· + 1) (inn_len t)
theorem inn_no {B : Hp} : ∀ {ks : List (Int × Addr)} {kvss : List (Int × KVs)} {k : Int}, InnOk K B ks kvss → ddHas kvss k = false → valV (ksV ks) (.inl k) = none
  | _, _, _, .nil, _ => rfl
  | _, _, k, .cons (k := k0) (q := q0) (ks := ks) a b c t, h => by
    unfold ddHas at h
    by_cases z : k0 = k
    · rw [if_pos z] at h
      cases h
    · rw [if_neg z] at h
      show valV ((.inl k0, .ref q0) :: ksV ks) (.inl k) = _
      rw [valV_neg (fun e => z (Sum.inl.inj e))]
      exact inn_no t h
theorem Rel.ddW {W : Wd} {σ : L2.St} {H B : Hp} {e : Ev} {i : Nat} {kvss : List (Int × KVs)} (r : Rel K W σ H B e) (h : e[i]? = some (.dd kvss)) : ∃ p ks, σ[i]? = some (some (.ref p)) ∧ H p = some (.dK (ksV ks)) ∧ InnOk K B ks kvss ∧
    ∀ ks' kvss', InnOk K B ks' kvss' → Rel K W σ (upd H p (.dK (ksV ks'))) B (e.set i (.dd kvss')) := by
  obtain ⟨A, r⟩ := r
  obtain ⟨o, bs, cs, h1, h2, h3, h4, h5⟩ := r.sls.out r.nd h
  cases h2 with
  | @dd p ks _ a b =>
    obtain ⟨k1, k2, k3⟩ := List.nodup_append.mp h4
    have hp : p ∈ A := h5 p (List.mem_append_left _ List.mem_cons_self)
    have ne : ∀ q ∈ cs, q ≠ p := fun q hq z => k3 p List.mem_cons_self q hq z.symm
    refine ⟨p, ks, h1, a, b, fun ys es hy => ?_⟩
    have t : Sls K W.bp (upd H p (.dK (ksV ys))) B (σ.set i none) (e.set i .un) cs := h3.mono (Same.refl B) fun q hq => upd_ne (ne q hq)
    have n : SlOk K W.bp (upd H p (.dK (ksV ys))) B (some (.ref p)) (.dd es) [p] := .dd upd_same hy
    obtain ⟨fs, f1, f2, f3⟩ := t.set n i
    rw [set_set', set_set', set_same h1] at f1
    refine ⟨fs, f1, f2 k2 (by simp) (fun q hq z => ne q z (List.mem_singleton.mp hq)), fun q hq => ?_, fun b o hb => ?_, fun b o hb => ?_, r.new, r.tb.upd a (fun ps z => by cases z)⟩
    · rcases f3 q hq with z | z
      · exact r.out q (h5 q (List.mem_append_right _ z))
      · rw [List.mem_singleton.mp z]
        exact r.out p hp
    · rw [upd_ne (ne_of_none hb (r.out p hp).1)]
      exact r.bh b o hb
    · rw [upd_ne (ne_of_none hb (r.out p hp).2)]
      exact r.fr b o hb
/-- d[k] = a new dict -/
def sDDPut (i : Nat) (fv : M Sl) (fk : M PyData) : Ev → Option Out := fun e => bnd (fv e) fun s e1 => match s with
  | .dc kvs => (match e1[i]? with
    | some (.dd _) => bnd (fk e1) fun d e2 => (match d with
      | .int k => (match e2[i]? with
        | some (.dd kvss) => if ddHas kvss k = false ∧ sz kvss.length = true then some (.nx (e2.set i (.dd (kvss ++ [(k, kvs)])))) else none
        | _ => none)
      | _ => none)
    | _ => none)
  | _ => none
theorem ss_ddput {i : Nat} {tv ty : TE} {fv : M Sl} {fk : M PyData} (hv : SX K T tv fv) (hk : SE K T ty fk) : SS K T (L2.sDPut (tVar i) ty tv) (sDDPut i fv fk) := fun W hT D σ H B e o hf r qn qr => by
  obtain ⟨s, e1, h1, h2⟩ := bnd_some hf
  refine hv W hT σ H B e s e1 _ h1 r fun v H1 B1 s1 r1 => ?_
  split at h2
  · rename_i kvs
    split at h2
    · rename_i kv0 h3
      obtain ⟨d, e2, h4, h5⟩ := bnd_some h2
      obtain ⟨B2, q, xs, rfl, s2, r2, b1, b2, b3⟩ := r1.meltD
      obtain ⟨p, ks, a1, _⟩ := r2.ddW h3
      refine ⟨_, a1, ?_⟩
      refine hk W hT σ H1 B2 e1 d e2 _ h4 r2 fun y H3 B3 s3 r3 dy => ?_
      split at h5
      · rename_i k
        cases dp_int dy
        split at h5
        · rename_i kvss h6
          by_cases c : ddHas kvss k = false ∧ sz kvss.length = true
          · rw [if_pos c] at h5
            cases h5
            obtain ⟨p', ks', c1, c2, c3, c4⟩ := r3.ddW h6
            rw [a1] at c1
            cases Option.some.inj (Option.some.inj c1)
            refine ⟨p, _, rfl, DPut.k (k := .inl k) c2 ?_, ?_⟩
            · show (ks'.map _).length < _
              rw [List.length_map, inn_len c3]
              exact sz_lt c.2
            · have e0 : putK (ksV ks') (.inl k : Key) (V.ref q) = ksV (ks' ++ [(k, q)]) := by
                unfold putK
                rw [valV_any, inn_no c3 c.1]
                show (if false = true then _ else _) = _
                rw [if_neg (by decide)]
                unfold ksV
                rw [List.map_append]
                rfl
              rw [e0]
              exact qn _ σ _ B3 rfl ((s1.trans s2).trans s3) (c4 _ _ (inn_app c3 (.cons (b1.mono s3) (b2.mono s3) b3 .nil)))
          · rw [if_neg c] at h5
            cases h5
        · cases h5
      · cases h5
    · cases h2
  · cases h2
/-- an expression whose value is a dict that is only read -/
def SDk (K : PySem.W.Frag) (T : List (Addr × Str)) (t : TE) (f : M KVs) : Prop := ∀ (W : Wd) (hT : W.tb = T) (σ : L2.St) (H B : Hp) (e : Ev) (kvs : KVs) (e' : Ev) (Q : VK), f e = some (kvs, e') → Rel K W σ H B e →
  (∀ q xs H' B', Same B B' → Rel K W σ H' B' e' → IsDic H' q xs → EntsOk K B' xs kvs → (q == sysModules) = false → Q (.ref q) H') → t σ H Q
/-- d[k], a dict -/
def dkGet (i : Nat) (fk : M PyData) : M KVs := fun e => match e[i]? with
  | some (.dd _) => bnd (fk e) fun d e1 => (match d with
    | .int k => (match e1[i]? with
      | some (.dd kvss) => put (ddAt kvss k) e1
      | _ => none)
    | _ => none)
  | _ => none
theorem sdk_get {i : Nat} {ty : TE} {fk : M PyData} (hk : SE K T ty fk) : SDk K T (tDGet (tVar i) ty) (dkGet i fk) := fun W hT σ H B e kvs e' Q hf r q => by
  unfold dkGet at hf
  split at hf
  · rename_i kv0 h0
    obtain ⟨d, e1, h1, h2⟩ := bnd_some hf
    obtain ⟨p, ks, a1, _⟩ := r.ddW h0
    refine ⟨_, a1, ?_⟩
    refine hk W hT σ H B e d e1 _ h1 r fun y H1 B1 s1 r1 dy => ?_
    split at h2
    · rename_i k
      cases dp_int dy
      split at h2
      · rename_i kvss h3
        obtain ⟨h4, rfl⟩ := put_some h2
        obtain ⟨p', ks', c1, c2, c3, c4⟩ := r1.ddW h3
        rw [a1] at c1
        cases Option.some.inj (Option.some.inj c1)
        obtain ⟨q', xs, g1, g2, g3, g4⟩ := inn_get c3 h4
        refine ⟨p, .ref q', rfl, ?_, q q' xs H1 B1 s1 r1 (g2.mono r1.bh) g3 g4⟩
        have := DGet.k (k := .inl k) c2
        rw [g1] at this
        exact this
      · cases h2
    · cases h2
  · cases hf
/-- len of a dict -/
def eLenK (f : M KVs) : M PyData := fun e => bnd (f e) fun kvs e1 => if sz kvs.length = true then some (.int kvs.length, e1) else none
theorem se_lenK {t : TE} {f : M KVs} (h : SDk K T t f) : SE K T (tCB (rLenN K) (tCons t tNil)) (eLenK f) := fun W hT σ H B e d e' Q hf r q => by
  obtain ⟨kvs, e1, h1, h2⟩ := bnd_some hf
  by_cases c : sz kvs.length = true
  · rw [if_pos c] at h2
    cases h2
    refine h W hT σ H B e kvs e' _ h1 r fun p xs H1 B1 s1 r1 g1 g2 g3 => ?_
    refine ⟨p, xs, rfl, g1, dicOk g2 c, g3, ?_⟩
    rw [ents_len g2]
    exact q _ H1 B1 s1 r1 (.int _)
  · rw [if_neg c] at h2
    cases h2
/-- k in a dict -/
def eInK (neg : Bool) (fk : M PyData) (f : M KVs) : M PyData := fun e => bnd (fk e) fun d e1 => bnd (f e1) fun kvs e2 => if keyOk d = true then if sz kvs.length = true then some (.bool (xor neg (lookD kvs d).isSome), e2) else none else none
theorem se_inK {neg : Bool} {t u : TE} {fk : M PyData} {f : M KVs} (hk : SE K T t fk) (h : SDk K T u f) : SE K T (tOp (rInN K neg) t u) (eInK neg fk f) := fun W hT σ H B e d e' Q hf r q => by
  obtain ⟨kd, e1, h1, h2⟩ := bnd_some hf
  obtain ⟨kvs, e2, h3, h4⟩ := bnd_some h2
  refine hk W hT σ H B e kd e1 _ h1 r fun v H1 B1 s1 r1 dv => ?_
  refine h W hT σ H1 B1 e1 kvs e2 _ h3 r1 fun p ys H2 B2 s2 r2 b2 b3 b4 => ?_
  by_cases c : keyOk kd = true
  · rw [if_pos c] at h4
    by_cases c2 : sz kvs.length = true
    · rw [if_pos c2] at h4
      cases h4
      obtain ⟨⟨ds, rfl⟩, ⟨k, hk⟩, h8⟩ := keyOk_some c
      obtain ⟨b, us, rfl, _⟩ := dp_tup dv
      refine ⟨p, ys, kvs, b, _, k, rfl, b2, b3.mono r2.bh, dicOk b3 c2, b4, rfl, dp_mono (s2.trans r2.bh) dv, hk, h8, ?_⟩
      obtain ⟨g1, g2⟩ := ents_look b3 hk
      have e : (atKey ys k).isSome = (lookD kvs (.tuple ds)).isSome := by
        cases z : lookD kvs (.tuple ds) with
        | none =>
          rw [g2 z]
          rfl
        | some dv =>
          obtain ⟨pp, _, z2, _⟩ := g1 dv z
          rw [z2]
          rfl
      rw [e]
      exact q _ H2 B2 (s1.trans s2) r2 (.bl _)
    · rw [if_neg c2] at h4
      cases h4
  · rw [if_neg c] at h4
    cases h4
/-- sorted of a dict -/
def xSortKK (f : M KVs) : M Sl := fun e => bnd (f e) fun kvs e1 => if sz kvs.length = true then if isTupB (kvs.map Prod.fst) = true then (match odOf (kvs.map Prod.fst) with
    | none => none
    | some _ => some (.ow (sortD (kvs.map Prod.fst)), e1)) else none else none
theorem sx_sortKK {t : TE} {f : M KVs} (h : SDk K T t f) : SX K T (tCB (rSortK K) (tCons t tNil)) (xSortKK f) := fun W hT σ H B e s e' Q hf r q => by
  obtain ⟨kvs, e1, h0, h2⟩ := bnd_some hf
  by_cases c : sz kvs.length = true
  · rw [if_pos c] at h2
    by_cases c2 : isTupB (kvs.map Prod.fst) = true
    · rw [if_pos c2] at h2
      cases h1 : odOf (kvs.map Prod.fst) with
      | none => rw [h1] at h2; cases h2
      | some n =>
        rw [h1] at h2
        cases h2
        obtain ⟨o1, o2⟩ := odOf_some h1
        refine h W hT σ H B e kvs e' _ h0 r fun p xs H1 B1 s1 r1 a2 a3 a4 => ?_
        refine ⟨p, xs, kvs, n, rfl, a2, a3.mono r1.bh, dicOk a3 c, a4, o1, o2, sortB_of c2, fun q' zs hq' hz => ?_⟩
        exact q _ _ B1 s1 (r1.born hq' (hz B1 (ents_keys a3)))
    · rw [if_neg c2] at h2
      cases h2
  · rw [if_neg c] at h2
    cases h2
end
end VL
namespace VL
open PySem PySem.Spec PyProof.Rows L2 HT PySem.W PySem.Calls
theorem hu1 {k : Nat} {A : Around} (hr : Room k A) : A.units + 1 < cLine := by
  have := hu65 hr
  omega
end VL
end
section
set_option Elab.async false
set_option linter.all false
set_option maxRecDepth 100000
set_option maxHeartbeats 2000000
namespace VL
open PySem PySem.Spec PyProof.Rows L2 LamX
/-! ### a lambda is made: nothing is new that is tracked, or the table and a code object -/
def Tab1 (H : Hp) (P : Addr) (q : Str) (ps : Array Value) : Prop := H P = some (.tbl ps) ∧ TriplesOk ps.toList ∧ ∀ (pos : Pos) (cv : Value), codeAmong pos ps.toList = some cv → ∃ c, cv = .ref c ∧ H c = some (CodeO c q)
def more3 (pos : Pos) (c : Addr) : Array Value := #[rawInt pos.line, rawInt pos.col, .ref c]
def Grew (H H1 : Hp) (P : Addr) (q : Str) (ps : Array Value) : Prop := H1 = H ∨ ∃ (pos : Pos) (c : Addr), H c = none ∧ H1 = upd (upd H P (.tbl (ps ++ more3 pos c))) c (CodeO c q)
section
variable {X : Cx} {pins : List (Addr × Obj)} {σ : L2.St} {H : Hp} {s : Shared}
theorem no_frame (I : Inv X pins σ H s) {f : Addr} (hf : s.heap.objs.size ≤ f) : f ∉ frs X.stack := fun hm => by
  have hs := I.stkSub f hm
  cases hs with
  | head => exact absurd I.lt (Nat.not_lt.mpr hf)
  | tail _ hs => exact I.nofs hf hs
abbrev lamObj (X : Cx) (params : Arguments) (body : Expr) (scope : Scope) (pm : Value) (c : Addr) (ctv : Value) : Obj := PySem.W.kla_obj "<lambda>" (X.env.qual ++ "<lambda>") params body scope (cloFrom X.env.cells scope.names []) pm c ctv
theorem lam_made {c P : Addr} {ps : Array Value} {params : Arguments} {body : Expr} {scope : Scope} {pos : Pos} {E : Value → Shared → Prop} {Q : Value → Shared → Prop} (I : Inv X pins σ H s) (TB : TabB X.base X.mg c P) (hcode : X.env.code = .ref c)
    (t : Tab1 H P (X.env.qual ++ "<lambda>") ps) (hdef : defaultsOf params X.env = ([], [])) (hfree : ∀ y ∈ scope.names, y.2 = .free → ∃ c, X.env.cells.lookup y.1 = some c)
    (h : ∀ (f c' : Addr) (pm ctv : Value) (H1 : Hp) (s' : Shared), Inv X pins σ H1 s' → Grew H H1 P (X.env.qual ++ "<lambda>") ps → s'.heap.get? f = some (lamObj X params body scope pm c' ctv) → H1 f = none → f ∉ frs X.stack → H1 c' = some (CodeO c' (X.env.qual ++ "<lambda>")) → Q (.ref f) s') :
    wpAny (model X.prog X.w) X.A (eval (.Lambda params body scope pos) X.env) Q E s := by
  obtain ⟨hP, ht, ha⟩ := t
  have oP := I.hok P _ hP
  have cl := closure_ok hfree
  have gl := I.mod.glob.keeps I.bk
  have cd := TB.code.keeps I.bk
  have bm := TB.bm.keeps I.bk
  apply PySem.W.kla_eval hdef
  by_cases hit : ∃ cv, codeAmong pos ps.toList = some cv
  · obtain ⟨cv, hcv⟩ := hit
    obtain ⟨c', rfl, hc'⟩ := ha pos cv hcv
    apply PySem.W.kla_makeFunctionHit (mg := X.mg) cl I.ok.glob gl hcode cd oP ht hcv bm
    intro ctv h' tk keep big
    have J := I.kept (h' := h'.push (lamObj X params body scope ((X.mg "__name__").getD .none) c' ctv)) (t' := tk) fun b o e => Heap.get?_push_of_some _ (keep b o e)
    exact h _ c' _ ctv H _ J (.inl rfl) (Heap.get?_push_size _ rfl) (I.hok.fresh big) (no_frame I big) hc'
  · have miss : codeAmong pos ps.toList = none := by
      cases z : codeAmong pos ps.toList with
      | none => rfl
      | some cv => exact absurd ⟨cv, z⟩ hit
    apply PySem.W.kla_makeFunction (mg := X.mg) cl I.ok.glob gl hcode cd oP ht miss TB.gP bm
    intro c' ctv h' tk keep lo hi rec tab
    obtain ⟨c0, oc, us, tt, ec, goc, dc, nm⟩ := rec
    obtain rfl : c' = c0 := Value.ref.inj ec
    have big : s.heap.objs.size ≤ h'.objs.size := by omega
    have free := I.hok.fresh lo
    have J := inv_table (t' := tk) (q := X.env.qual ++ "<lambda>") (more := more3 pos c') (h' := h'.push (lamObj X params body scope ((X.mg "__name__").getD .none) c' ctv)) I hP (fun b o ne e => Heap.get?_push_of_some _ (keep b o ne e)) (Heap.get?_push_of_some _ tab) lo
      ⟨oc, us, tt, Heap.get?_push_of_some _ goc, dc, nm⟩
    refine h _ c' _ ctv _ _ J (.inr ⟨pos, c', free, rfl⟩) (Heap.get?_push_size _ rfl) ?_ (no_frame I big) upd_same
    have lt : P < s.heap.objs.size := Heap.lt_size (show s.heap.get? P = some { cls := .none, data := .fields ps } from oP)
    rw [upd_ne (show h'.objs.size ≠ c' by omega), upd_ne (Nat.ne_of_gt (Nat.lt_of_lt_of_le lt big))]
    exact I.hok.fresh big
end
/-- the table after that -/
theorem Grew.tab {H H1 : Hp} {P : Addr} {q : Str} {ps : Array Value} (t : Tab1 H P q ps) (g : Grew H H1 P q ps) : ∃ ps', Tab1 H1 P q ps' := by
  rcases g with rfl | ⟨pos, c, hc, rfl⟩
  · exact ⟨ps, t⟩
  · obtain ⟨hP, ht, ha⟩ := t
    have nP : P ≠ c := ne_of_none hP hc
    have eL : (ps ++ more3 pos c).toList = ps.toList ++ [rawInt pos.line, rawInt pos.col, .ref c] := by simp [more3]
    refine ⟨ps ++ more3 pos c, by rw [upd_ne nP, upd_same], by rw [eL]; exact PySem.TriplesOk_snoc _ _ _ _ ht, fun pos' cv hcv => ?_⟩
    rw [eL] at hcv
    rcases among_app _ ht hcv with z | z
    · obtain ⟨c0, e1, e2⟩ := ha pos' cv z
      refine ⟨c0, e1, ?_⟩
      rw [upd_ne (ne_of_none e2 hc), upd_ne (fun z => by rw [z, hP] at e2; exact codeO_ne _ (Option.some.inj e2).symm)]
      exact e2
    · exact ⟨c, z, upd_same⟩
/-! ### what becomes of the slots -/
section
variable {K : PySem.W.Frag}
theorem Rel.tab {W : Wd} {σ : L2.St} {H B : Hp} {e : Ev} {P : Addr} {q : Str} (r : Rel K W σ H B e) (hm : (P, q) ∈ W.tb) : ∃ ps, Tab1 H P q ps := by
  obtain ⟨A, r⟩ := r
  obtain ⟨_, _, ps, h1, h2, h3⟩ := r.tb _ hm
  refine ⟨ps, h1, h2, fun pos cv hc => ?_⟩
  obtain ⟨c, e1, e2⟩ := h3 pos cv hc
  exact ⟨c, e1, r.bh _ _ e2⟩
theorem Rel.grew {W : Wd} {σ : L2.St} {H H1 B : Hp} {e : Ev} {P : Addr} {q : Str} {ps : Array Value} (r : Rel K W σ H B e) (hm : (P, q) ∈ W.tb) (hu : ∀ x ∈ W.tb, x.1 = P → x.2 = q) (hP : H P = some (.tbl ps)) (g : Grew H H1 P q ps) : ∃ B1, Same B B1 ∧ Rel K W σ H1 B1 e := by
  rcases g with rfl | ⟨pos, c, hc, rfl⟩
  · exact ⟨B, Same.refl B, r⟩
  · obtain ⟨A, r⟩ := r
    obtain ⟨w0, b0, ps0, p1, p2, p3⟩ := r.tb _ hm
    have w0 : W.H0 P = none := w0
    have b0 : B P = none := b0
    have p1 : H P = some (.tbl ps0) := p1
    rw [hP] at p1
    cases p1
    have Bc : B c = none := r.bh.free hc
    have nP : P ≠ c := ne_of_none hP hc
    have sb : Same B (upd B c (CodeO c q)) := same_upd Bc
    have nA : ∀ p ∈ A, p ≠ c ∧ p ≠ P := fun p hp => ⟨fun z => r.sls.held p hp (by rw [z]; exact hc), fun z => by
      have := (r.sls.noTab p hp ps)
      rw [z] at this
      exact this hP⟩
    refine ⟨_, sb, A, r.sls.mono sb fun p hp => by rw [upd_ne (nA p hp).1, upd_ne (nA p hp).2], r.nd, fun p hp => ⟨by rw [upd_ne (nA p hp).1]; exact (r.out p hp).1, (r.out p hp).2⟩, fun b o hb => ?_, fun b o hb => ?_, fun b h1 h2 => ?_, fun x hx => ?_⟩
    · by_cases z : b = c
      · rw [z, upd_same] at hb ⊢
        exact hb
      · rw [upd_ne z] at hb ⊢
        rw [upd_ne (fun z => by rw [z, b0] at hb; cases hb)]
        exact r.bh b o hb
    · have hb' := r.fr b o hb
      rw [upd_ne (ne_of_none hb' hc), upd_ne (fun z => by rw [z, w0] at hb; cases hb)]
      exact hb'
    · rw [upd_ne (fun z => ne_none_of r.fr h1 (by rw [z]; exact hc))]
      exact r.new b h1 h2
    · obtain ⟨q1, q2, ps1, q3, q4, q5⟩ := r.tb x hx
      have nx : x.1 ≠ c := ne_of_none q3 hc
      refine ⟨q1, by rw [upd_ne nx]; exact q2, ?_⟩
      by_cases z : x.1 = P
      · rw [z, hP] at q3
        cases q3
        have eL : (ps ++ more3 pos c).toList = ps.toList ++ [rawInt pos.line, rawInt pos.col, .ref c] := by simp [more3]
        refine ⟨ps ++ more3 pos c, by rw [z, upd_ne nP, upd_same], by rw [eL]; exact PySem.TriplesOk_snoc _ _ _ _ q4, fun pos' cv hcv => ?_⟩
        rw [eL] at hcv
        rcases among_app _ q4 hcv with w | w
        · obtain ⟨c0, e1, e2⟩ := q5 pos' cv w
          exact ⟨c0, e1, sb _ _ e2⟩
        · rw [hu x hx z]
          exact ⟨c, w, upd_same⟩
      · refine ⟨ps1, by rw [upd_ne nx, upd_ne z]; exact q3, q4, fun pos' cv hcv => ?_⟩
        obtain ⟨c0, e1, e2⟩ := q5 pos' cv hcv
        exact ⟨c0, e1, sb _ _ e2⟩
end
end VL
end
section
set_option Elab.async false
set_option linter.all false
set_option maxRecDepth 100000
set_option maxHeartbeats 2000000
namespace VL
open PySem PySem.Spec PyProof.Rows L2 HotX
section
variable {prog : Program} {w : World} {A : Around} {E : Value → Shared → Prop} {s : Shared}
/-- StopIteration, made and raised while another error is handled -/
theorem stop_hot {α : Type} {x1 : Addr} {Q : α → Shared → Prop} (hot : HotAt A x1 s.heap)
    (hE : ∀ h' e, (∀ b o, s.heap.get? b = some o → h'.get? b = some o) → (∃ o, h'.get? e = some o ∧ o.cls = .type "StopIteration") → E (.ref e) { s with heap := h' }) :
    wpAny (model prog w) A (newExc (.type "StopIteration") [] >>= fun e => (raiseNew e : Sem α)) Q E s := by
  obtain ⟨hh, o1, vs1, h1, d1, c1⟩ := hot
  refine wpAny_bind ?_
  simp only [newExc, newTuple]
  refine wpAny_bind (wpAny_newObj_type (wpAny_bind (m := firstArgMember _ _) (wpAny_of_eq (a := Value.none) (by first | rfl | (simp only [firstArgMember]; rfl)) (wpAny_newObj_type ?_ (by size_fits)))) (by size_fits))
  have k1 : ∀ {o o' : Obj} (b : Addr) (x : Obj), s.heap.get? b = some x → ((s.heap.push o).push o').get? b = some x := fun b x e => Heap.get?_push_of_some _ (Heap.get?_push_of_some _ e)
  refine raiseNew_hot ⟨hh, o1, vs1, k1 _ _ h1, d1, c1⟩ (Nat.ne_of_lt (Heap.lt_size (Heap.get?_push_of_some _ h1))) (Heap.get?_push_size _ rfl) rfl (by first | (simp; done) | (simp; omega) | (simp only [Array.size_append]; simp; omega)) ?_
  refine hE _ _ (fun b o e => ?_) ⟨_, Heap.get?_update_self _ (Heap.get?_push_size _ rfl) rfl, rfl⟩
  rw [Heap.get?_update_other _ _ (Nat.ne_of_gt (Heap.lt_size (Heap.get?_push_of_some _ e)))]
  exact k1 b o e
theorem hot_upd {x1 it : Addr} {h : Heap} {f : Obj → Obj} (hot : HotAt A x1 h) (ne : x1 ≠ it) : HotAt A x1 (h.update it f) := by
  obtain ⟨hh, o1, vs1, h1, d1, c1⟩ := hot
  exact ⟨hh, o1, vs1, by rw [Heap.get?_update_other _ _ ne.symm]; exact h1, d1, c1⟩
theorem hot_keep {x1 : Addr} {h h' : Heap} (hot : HotAt A x1 h) (k : ∀ o, h.get? x1 = some o → h'.get? x1 = some o) : HotAt A x1 h' := by
  obtain ⟨hh, o1, vs1, h1, d1, c1⟩ := hot
  exact ⟨hh, o1, vs1, k _ h1, d1, c1⟩
/-- the end of a list's iterator -/
theorem list_end_hot {it l x1 : Addr} {i : Nat} {items : Array Value} {Q : Value → Shared → Prop} (hot : HotAt A x1 s.heap) (ne : x1 ≠ it) (hit : s.heap.IsListIter it l i) (hl : s.heap.IsList l items) (hx : items[i]? = none)
    (hE : ∀ h' e, Heap.ExtBut it s.heap h' → (∃ o, h'.get? e = some o ∧ o.cls = .type "StopIteration") → E (.ref e) { s with heap := h' }) : wpAny (model prog w) A (Builtin.SmallTypes.nextOf (.ref it)) Q E s := by
  obtain ⟨o, ho, hc, hd⟩ := id hit
  obtain ⟨ol, hol, _, nl, hdl⟩ := hl
  unfold Builtin.SmallTypes.nextOf
  refine wpAny_bind (wpAny_callSpecial?_slot (name := Str.ofString "__next__") hit.typeIs slot_listiter_next (wpAny_call_entry slot_listiter_next hit.typeIs entry_listiter_next ?_ (args_listiter_next _)))
  show wpAny _ _ (field (.ref it) 0 >>= _) _ _ s
  refine wpAny_bind (wpAny_field ho hd (x := .ref l) rfl ?_)
  show wpAny _ _ (if (Value.ref l == Value.none) = true then _ else _) _ _ s
  rw [if_neg (show ¬ ((Value.ref l == Value.none) = true) from Bool.false_ne_true)]
  show wpAny _ _ (field (.ref it) 1 >>= _) _ _ s
  refine wpAny_bind (wpAny_field ho hd (x := .int i 0) rfl ?_)
  show wpAny _ _ (seqItems? (.ref l) >>= _) _ _ s
  refine wpAny_bind (wpAny_seqItems hol hdl ?_)
  simp only [Int.toNat_natCast, hx]
  refine wpAny_bind (wpAny_rule (wpAny_bind (wpAny_setField ho hd (by simp) ?_)))
  refine stop_hot (hot_upd hot ne) fun h' e k he => hE h' e (fun b o' nb z => k b o' ?_) he
  rw [Heap.get?_update_other _ _ (Ne.symm nb)]
  exact z
theorem Draws.listHot {it l x1 : Addr} (hA : ∃ a, A.handled = some a) (hne : l ≠ it) (hn1 : x1 ≠ it) (items : Array Value) :
    Draws prog w A it [it, l, x1] items.size (fun i v => items[i]? = some v) (fun i h => h.IsListIter it l i ∧ h.IsList l items ∧ HotAt A x1 h) where
  live := fun _ _ st => let ⟨o, ho, _⟩ := st.1; ⟨o, ho⟩
  frame := fun _ _ _ st hk => ⟨st.1.at fun o e => hk it (by simp) o e, st.2.1.at fun o e => hk l (by simp) o e, hot_keep st.2.2 fun o e => hk x1 (by simp) o e⟩
  item := fun i s Q E hi st hQ => by
    refine wpAny_nextOf_list_item st.1 st.2.1 (x := items[i]) (by simp [hi]) fun h' hit' hs' => ?_
    exact hQ _ h' s.toks (by simp [hi]) ⟨hit', st.2.1.extBut hs'.extBut hne, hot_keep st.2.2 fun o e => hs'.extBut _ _ hn1 e⟩ hs'
  done := fun s Q E st hE => list_end_hot st.2.2 hn1 st.1 st.2.1 (by simp) hE
/-- a tuple unpacked into as many names -/
theorem tup_end_hot {it t x1 : Addr} {i : Nat} {items : Array Value} {Q : Option Value → Shared → Prop} (hot : HotAt A x1 s.heap) (ne : x1 ≠ it) (hit : IsTupIter s.heap it t i) (ht : IsTup s.heap t items) (hx : items[i]? = none)
    (hQ : ∀ h', Heap.ExtBut it s.heap h' → Q none { s with heap := h' }) : wpAny (model prog w) A (pyNext (.ref it)) Q E s := by
  obtain ⟨o, ho, hc, hd⟩ := id hit
  obtain ⟨ol, hol, _, nl, hdl⟩ := ht
  unfold pyNext
  refine wpAny_bind (wpAny_attempt (wpAny_callSpecial?_slot (name := Str.ofString "__next__") hit.typeIs slot_tupleiter_next (wpAny_call_entry slot_tupleiter_next hit.typeIs entry_tupleiter_next ?_ (args_tupleiter_next _))))
  show wpAny _ _ (field (.ref it) 0 >>= _) _ _ s
  refine wpAny_bind (wpAny_field ho hd (x := .ref t) rfl ?_)
  show wpAny _ _ (if (Value.ref t == Value.none) = true then _ else _) _ _ s
  rw [if_neg (show ¬ ((Value.ref t == Value.none) = true) from Bool.false_ne_true)]
  show wpAny _ _ (field (.ref it) 1 >>= _) _ _ s
  refine wpAny_bind (wpAny_field ho hd (x := .int i 0) rfl ?_)
  show wpAny _ _ (seqItems? (.ref t) >>= _) _ _ s
  refine wpAny_bind (wpAny_seqItems hol hdl ?_)
  simp only [Int.toNat_natCast, hx]
  refine wpAny_bind (wpAny_rule (wpAny_bind (wpAny_setField ho hd (by simp) ?_)))
  refine stop_hot (hot_upd hot ne) fun h' e k he => ?_
  obtain ⟨oe, hoe, hce⟩ := he
  refine wpAny_bind (wpAny_isInstance (T := "StopIteration") (b := true) ⟨oe, hoe, hce⟩ isSubtype_stop (wpAny_pure (hQ _ fun b o' nb z => k b o' ?_)))
  rw [Heap.get?_update_other _ _ (Ne.symm nb)]
  exact z
end
section
variable {prog : Program} {w : World} {A : Around} {E : Value → Shared → Prop} {s : Shared}
theorem assign_tup_hot {env : Env} {elts : List Expr} {k : Nat} {pos : Pos} {t x1 : Addr} {items : Array Value} {Q : Unit → Shared → Prop} (hot : HotAt A x1 s.heap) (ht : IsTup s.heap t items) (hn : (assignEach elts env).length = items.size) (hstar : (assignEach elts env).findIdx? (·.1) = none)
    (h : ∀ h', Heap.ExtBut s.heap.objs.size s.heap h' → wpAny (model prog w) A (assignInOrder ((assignEach elts env).map (·.2)) items.toList) Q E { s with heap := h' }) : wpAny (model prog w) A (assign (.Tuple elts k pos) env (.ref t)) Q E s := by
  have lx : x1 ≠ s.heap.objs.size := by
    obtain ⟨_, o1, _, h1, _⟩ := hot
    exact Nat.ne_of_lt (Heap.lt_size h1)
  have lt : t ≠ s.heap.objs.size := by
    obtain ⟨o, ho, _⟩ := ht
    exact Nat.ne_of_lt (Heap.lt_size ho)
  rw [assign_Tuple]
  refine wpAny_bind (wpAny_standAt ?_)
  unfold unpack
  rw [hn, hstar]
  refine wpAny_bind (wpAny_holding ?_)
  unfold unpackItems notIterableAtAll
  refine wpAny_bind (wpAny_bind (wpAny_specialOf ht.typeIs slot_tuple_iter.lookup (wpAny_pure ?_)))
  simp only [Bool.false_eq_true, if_false]
  refine wpAny_bind (wpAny_holding (iter_tuple ht (wpAny_bind (wpAny_holding (draw_tuple lt items.size 0 _ _ ⟨_, Heap.get?_push_size _ rfl, rfl, rfl⟩ (ht.push _) (by omega) fun h1 it1 sb1 => ?_)))))
  rw [show List.take items.size (List.drop 0 items.toList) = items.toList by rw [List.drop_zero]; exact List.take_of_length_le (by simp), if_neg (by simp)]
  have hot1 : HotAt A x1 h1 := hot_keep hot fun o e => sb1.extBut _ _ lx (Heap.get?_push_of_some _ e)
  refine wpAny_bind (wpAny_holding (tup_end_hot (s := ⟨h1, s.gens, s.drawn, s.toks, s.os⟩) hot1 lx it1 ((ht.push _).extBut sb1.extBut lt) (by simp) fun h2 e2 => ?_))
  simp only [Option.isSome_none, Bool.false_eq_true, if_false]
  exact wpAny_pure (h h2 fun b o hb e => e2 b o hb (sb1.extBut b o hb (Heap.get?_push_of_some _ e)))
end
/-- those that are marked -/
def marked : List V → List Bool → List V
  | x :: xs, b :: bs => if b = true then x :: marked xs bs else marked xs bs
  | _, _ => []
theorem marked_snoc : ∀ (xs : List V) (bs : List Bool) (x : V) (b : Bool), xs.length = bs.length → marked (xs ++ [x]) (bs ++ [b]) = if b = true then marked xs bs ++ [x] else marked xs bs
  | [], [], x, b, _ => by cases b <;> rfl
  | y :: xs, c :: bs, x, b, h => by
    have ih := marked_snoc xs bs x b (Nat.succ.inj h)
    show (if c = true then y :: marked (xs ++ [x]) (bs ++ [b]) else marked (xs ++ [x]) (bs ++ [b])) = if b = true then (if c = true then y :: marked xs bs else marked xs bs) ++ [x] else (if c = true then y :: marked xs bs else marked xs bs)
    rw [ih]
    cases b <;> cases c <;> rfl
  | [], _ :: _, _, _, h => by cases h
  | _ :: _, [], _, _, h => by cases h
theorem marked_len : ∀ (xs : List V) (bs : List Bool), (marked xs bs).length ≤ xs.length
  | [], _ => Nat.zero_le _
  | _ :: _, [] => Nat.zero_le _
  | x :: xs, b :: bs => by
    have := marked_len xs bs
    show (if b = true then x :: marked xs bs else marked xs bs).length ≤ xs.length + 1
    cases b
    · exact Nat.le_succ_of_le this
    · exact Nat.succ_le_succ this
theorem sepN (N a b x : Nat) (ha : a < N) (hb : b < N) (hx : x < N) : ZipSep2 (N + 4) (N + 2) (N + 3) N (N + 1) [N, a, x] [N + 1, b, x] := by
  have m : ∀ k c : Nat, c < N → (N + k ∈ [N, c, x]) → k = 0 := fun k c hc h => by
    simp at h
    omega
  have m2 : ∀ k c : Nat, c < N → (N + k ∈ [N + 1, c, x]) → k = 1 := fun k c hc h => by
    simp at h
    omega
  have ne : ∀ k j : Nat, k ≠ j → N + k ≠ N + j := fun k j h e => h (by omega)
  exact ⟨ne 2 4 (by decide), ne 3 4 (by decide), ne 2 3 (by decide), ne 2 0 (by decide), List.mem_cons_self, fun h => absurd (m 4 a ha h) (by decide), fun h => absurd (m 3 a ha h) (by decide), ne 2 1 (by decide), List.mem_cons_self,
    fun h => absurd (m2 4 b hb h) (by decide), fun h => absurd (m2 3 b hb h) (by decide), fun h => absurd (m2 0 b hb h) (by decide), fun h => absurd (m 1 a ha h) (by decide)⟩
theorem outN (N D c : Nat) (hD : N + 5 ≤ D) (hc : c < N) (h : c ∈ D :: [N + 4, N + 3, N, N + 1]) : False := by
  simp at h
  omega
theorem outN2 (N D c : Nat) (hc : N + 5 ≤ c) (ne : D ≠ c) (h : c ∈ D :: [N + 4, N + 3, N, N + 1]) : False := by
  simp at h
  omega
theorem ltC (N C b : Nat) (hC : N + 5 ≤ C) (h : b < N) : b ≠ C := by omega
theorem ltC2 (N C k : Nat) (hC : N + 5 ≤ C) (h : k < 5) : N + k ≠ C := by omega
theorem ltN (N a k : Nat) (h : a < N) : a ≠ N + k := by omega
theorem inN (N a b x c : Nat) (ha : a < N) (hb : b < N) (hx : x < N) (h : c ∈ (N + 4) :: (N + 2) :: (N + 3) :: ([N, a, x] ++ [N + 1, b, x])) : c < N + 5 := by
  simp at h
  omega
/-- [x for x, b in zip(e1, e2) if b], while an error is handled -/
def tMarked (K : PySem.W.Frag) (ta : TA) : TE := fun σ H Q => ta σ H fun vs H1 => ∃ (a b : Addr) (xs : List V) (bs : List Bool), vs = [.ref a, .ref b] ∧ SqL K H1 a xs ∧ SqL K H1 b (bs.map V.bl) ∧ xs.length = bs.length ∧ xs.length ≤ 1000 ∧ ∀ D, H1 D = none → Q (.ref D) (upd H1 D (.lst (marked xs bs)))
theorem pe_marked {X : Cx} {n1 n2 : Str} {p1 p2 p3 p4 pz tp zp pos : Pos} {kk : Nat} {e1 e2 : Expr} {scope : Scope} {ta : TA} (hc : L2H.HotC X) (hg : Gl X "zip") (hm : X.mg "zip" = none) (ha : PA X [e1, e2] ta)
    (hclos : closureFor scope X.env = pure []) (hcell : ∀ y ∈ scope.names, y.2 ≠ .cell) (hkind : scope.kind = .function) (hnames : ∀ y ∈ scope.names, y.2 = .local → scope.names.lookup y.1 = some .local)
    (k1 : scope.names.lookup n1 = some .local) (k2 : scope.names.lookup n2 = some .local) (hne : n1 ≠ n2) (d1 : (n1 == ("__debug__" : Str)) = false) (d2 : (n2 == ("__debug__" : Str)) = false)
    (hs : starEach [e1, e2] X.env = (false, eval e1 X.env) :: starEach [e2] X.env := by rfl) (hpl : (backTo zp (starEach [e2] X.env)).any (·.1) = false := by rfl) :
    PE X (.ListComp (.Name n1 p1) [⟨.Tuple [.Name n1 p2, .Name n2 p3] kk tp, .Call (.Name "zip" pz) [e1, e2] [] zp, [.Name n2 p4], 0⟩] scope pos) (tMarked X.K ta) := by
  refine ⟨fun pins s σ H Q I h => ?_⟩
  refine ListComp_goes hclos hcell hkind hnames ?_ (by intro _; rfl)
  refine Call_ (ld_blt I hg hm PyProof.Rows.boot_zip (PyProof.Rows.callWith_type1 (thn (ha.run zp pins s σ H _ I h) fun us s1 hq => ?_) hs hpl))
  obtain ⟨vs, H1, I1, r1, a, b, xs, bs, ex, hx, hb, hl, hl2, q⟩ := hq
  subst ex
  obtain ⟨u1, u2, eu, ru1, ru2⟩ := vals2 r1
  subst eu
  cases ru1
  cases ru2
  obtain ⟨its, rv, pl1, _⟩ := I1.list hx
  obtain ⟨its2, rv2, pl2, _⟩ := I1.list hb
  have la := pl1.lt
  have lb := pl2.lt
  obtain ⟨x1, hot⟩ := hc.at I1
  have lx1 : x1 < s1.heap.objs.size := by
    obtain ⟨_, o1, _, h1, _⟩ := hot
    exact Heap.lt_size h1
  have len1 : its.length = xs.length := rv.length.symm
  have len2 : its2.length = xs.length := by
    have := rv2.length
    rw [List.length_map] at this
    omega
  generalize hN : s1.heap.objs.size = N at la lb lx1
  refine call_zip_2 pl1.isList pl2.isList fun h' hz hTI hTO i1 i2 hsz hk => wpAny_pyIter_zip hz ?_
  rw [hN] at hz hTI hTO i1 i2 hsz ⊢
  have hA : ∃ v, X.A.in1.handled = some v := ⟨_, hot.1⟩
  have hot' : HotAt X.A.in1 x1 h' := hot_keep (A := X.A.in1) hot fun o e => hk _ _ e
  have D1 := Draws.listHot (prog := X.prog) (w := X.w) (A := X.A.in1) (it := N) (l := a) (x1 := x1) hA (Nat.ne_of_lt la) (Nat.ne_of_lt lx1) its.toArray
  have D2 := Draws.listHot (prog := X.prog) (w := X.w) (A := X.A.in1) (it := N + 1) (l := b) (x1 := x1) hA (ltN N b 1 lb) (ltN N x1 1 lx1) its2.toArray
  have S := sepN N a b x1 la lb lx1
  refine ⟨N + 4, _, _, _, _, _, rfl, Goes.zip2 S D1 D2, ?_, ⟨hz, hTI, ⟨_, _, hTO⟩, ⟨i1, pl1.isList.at fun o e => hk _ _ e, hot'⟩, ⟨i2, pl2.isList.at fun o e => hk _ _ e, hot'⟩⟩, ?_, ?_⟩
  · rw [List.size_toArray, List.size_toArray, len1, len2, Nat.min_self]
    exact Nat.le_of_lt (small1000 hl2)
  · intro c hcm
    show c < h'.objs.size
    rw [hsz]
    exact inN N a b x1 c la lb lx1 hcm
  · intro D C s3 CB
    obtain ⟨⟨h3, tk3, rfl⟩, old, newD, newC, neDC, ns⟩ := CB
    have newD : N + 5 ≤ D := by
      have z : h'.objs.size ≤ D := newD
      rw [hsz] at z
      exact z
    have newC : N + 5 ≤ C := by
      have z : h'.objs.size ≤ C := newC
      rw [hsz] at z
      exact z
    have kn : ∀ {y : Str}, scope.names.lookup y = some .local → (compEnvC scope [] C X.env).kindOf y = some .local := fun hy => lookup_relabel_local hy
    have ki : (compEnvC scope [] C X.env).scope.kind = .function := hkind
    have kp : ((compEnvC scope [] C X.env).scope.kind == .class || ((compEnvC scope [] C X.env).scope.kind == .module && (compEnvC scope [] C X.env).locals != (compEnvC scope [] C X.env).globals)) = false := by
      rw [ki]
      rfl
    refine ⟨fun i ys st => st.gens = s1.gens ∧ st.os = s1.os ∧ (∀ b o, s1.heap.get? b = some o → st.heap.get? b = some o) ∧ (∃ m, st.heap.Ns C m) ∧ Vals (marked (xs.take i) (bs.take i)) ys, ?_, ?_, ?_, ?_⟩
    · exact ⟨rfl, rfl, fun b o e => old b o (hk b o e), ⟨_, ns⟩, .nil⟩
    · rintro i ys st h'' tk ⟨g1, g2, g3, ⟨m, g4⟩, g5⟩ hkeep _
      have outW : ∀ c, c < N → c ∉ D :: [N + 4, N + 3, N, N + 1] := fun c hc hm => outN N D c newD hc hm
      have outC : C ∉ D :: [N + 4, N + 3, N, N + 1] := fun hm => outN2 N D C newC neDC hm
      refine ⟨g1, g2, fun b o e => hkeep b o (outW b (hN ▸ Heap.lt_size e)) (g3 b o e), ⟨m, ?_⟩, g5⟩
      exact g4.at fun o e => hkeep C o outC e
    · rintro i v ys st hi ⟨T, x, y, ev, hx1, hy1, hT⟩ stS ⟨g1, g2, g3, ⟨m, g4⟩, g5⟩ pl
      subst ev
      obtain ⟨hS1, hS2, hS3, ⟨q1, q2, q3⟩, q4, q5, _⟩ := stS
      have hit : HotAt X.A x1 st.heap := q3
      have hli : i < xs.length := by
        have : i < min its.toArray.size its2.toArray.size := hi
        rw [List.size_toArray, List.size_toArray, len1, len2, Nat.min_self] at this
        exact this
      have hlb : i < bs.length := by omega
      obtain ⟨ux, hux, rx⟩ := rv.get (List.getElem?_eq_getElem hli)
      have ex : x = ux := by
        have z : its.toArray[i]? = some x := hx1
        have z2 : its.toArray[i]? = some ux := by simpa using hux
        exact Option.some.inj (z.symm.trans z2)
      subst ex
      obtain ⟨uy, huy, ry⟩ := rv2.get (x := .bl bs[i]) (i := i) (by rw [List.getElem?_map, List.getElem?_eq_getElem hlb]; rfl)
      have ey : y = uy := by
        have z : its2.toArray[i]? = some y := hy1
        have z2 : its2.toArray[i]? = some uy := by simpa using huy
        exact Option.some.inj (z.symm.trans z2)
      subst ey
      obtain rfl : y = Value.bool bs[i] := ry
      have lC : C < st.heap.objs.size := g4.lt
      have sizeN : N ≤ st.heap.objs.size := Nat.le_trans (Nat.le_trans (Nat.le_add_right N 5) newC) (Nat.le_of_lt lC)
      have lD : D < st.heap.objs.size := by
        obtain ⟨o, ho⟩ := pl
        exact Heap.lt_size ho
      refine assign_tup_hot hit hT (by rfl) (by rfl) fun h5 e5 => ?_
      have n5 : h5.Ns C m := g4.at fun o e => e5 C o (Nat.ne_of_lt lC) e
      show wpAny _ _ (assignInOrder [assign (.Name n1 p2) (compEnvC scope [] C X.env), assign (.Name n2 p3) (compEnvC scope [] C X.env)] [x, .bool bs[i]]) _ _ _
      refine assignInOrder_cons (wpAny_assign_Name (wpAny_storeName_local (kn k1) n5 (fun h6 n6 sb6 => ?_) kp))
      refine assignInOrder_cons (wpAny_assign_Name (wpAny_storeName_local (kn k2) n6 (fun h7 n7 sb7 => assignInOrder_nil ?_) kp))
      have v2 : (fun z => if z = n2 then some (Value.bool bs[i]) else (fun z => if z = n1 then some x else m z) z) n2 = some (Value.bool bs[i]) := if_pos rfl
      have v1 : (fun z => if z = n2 then some (Value.bool bs[i]) else (fun z => if z = n1 then some x else m z) z) n1 = some x := (if_neg hne).trans (if_pos rfl)
      have keep7 : ∀ b o, b ≠ C → b < st.heap.objs.size → st.heap.get? b = some o → h7.get? b = some o := fun b o nb lb e => sb7.extBut b o nb (sb6.extBut b o nb (e5 b o (Nat.ne_of_lt lb) e))
      have keepS : ∀ b o, b ≠ C → st.heap.get? b = some o → h7.get? b = some o := fun b o nb e => keep7 b o nb (Heap.lt_size e) e
      have tk1 : xs.take (i + 1) = xs.take i ++ [xs[i]] := by rw [List.take_add_one, List.getElem?_eq_getElem hli]; rfl
      have tk2 : bs.take (i + 1) = bs.take i ++ [bs[i]] := by rw [List.take_add_one, List.getElem?_eq_getElem hlb]; rfl
      have tl : (xs.take i).length = (bs.take i).length := by rw [List.length_take, List.length_take]; omega
      have oldC : ∀ b o, s1.heap.get? b = some o → b ≠ C := fun b o e => ltC N C b newC (hN ▸ Heap.lt_size e)
      have stay : ∀ {ys' : List Value}, Vals (marked (xs.take (i + 1)) (bs.take (i + 1))) ys' → ∀ tk : Nat, (({ st with heap := h7, toks := tk } : Shared).gens = s1.gens ∧ ({ st with heap := h7, toks := tk } : Shared).os = s1.os ∧ (∀ b o, s1.heap.get? b = some o → h7.get? b = some o) ∧ (∃ m, h7.Ns C m) ∧ Vals (marked (xs.take (i + 1)) (bs.take (i + 1))) ys') := fun v tk => ⟨g1, g2, fun b o e => keepS b o (oldC b o e) (g3 b o e), ⟨_, n7⟩, v⟩
      have frameS : IsZip h7 (N + 4) (N + 2) (N + 3) .none ∧ IsTupOf2 h7 (N + 2) (.ref N) (.ref (N + 1)) ∧ (∃ a1 a2, IsTupOf2 h7 (N + 3) a1 a2) ∧ (h7.IsListIter N a (i + 1) ∧ h7.IsList a its.toArray ∧ HotAt X.A.in1 x1 h7) ∧ (h7.IsListIter (N + 1) b (i + 1) ∧ h7.IsList b its2.toArray ∧ HotAt X.A.in1 x1 h7) := by
        obtain ⟨a1, a2, hS3⟩ := hS3
        have nc : ∀ k : Nat, k < 5 → N + k ≠ C := fun k hk => ltC2 N C k newC hk
        exact ⟨keepS _ _ (nc 4 (by decide)) hS1, keepS _ _ (nc 2 (by decide)) hS2, ⟨a1, a2, keepS _ _ (nc 3 (by decide)) hS3⟩, ⟨q1.at fun o e => keepS _ _ (nc 0 (by decide)) e, q2.at fun o e => keepS _ _ (ltC N C a newC la) e, hot_keep (A := X.A.in1) q3 fun o e => keepS _ _ (ltC N C x1 newC lx1) e⟩,
          ⟨q4.at fun o e => keepS _ _ (nc 1 (by decide)) e, q5.at fun o e => keepS _ _ (ltC N C b newC lb) e, hot_keep (A := X.A.in1) q3 fun o e => keepS _ _ (ltC N C x1 newC lx1) e⟩⟩
      have pl7 : h7.PlainList D ys.toArray := by
        obtain ⟨n, hp⟩ := pl
        exact ⟨n, keepS _ _ neDC hp⟩
      refine wpAny_tests_one (isTrue_plain (wpAny_Name (wpAny_loadName_local ki (kn k2) n7 v2 (wpAny_truthy_bool ?_)) d2) rfl)
      cases eb : bs[i] with
      | false =>
        refine iteF ⟨stay ?_ _, frameS, pl7⟩
        rw [tk1, tk2, marked_snoc _ _ _ _ tl, eb]
        exact g5
      | true =>
        refine iteT (wpAny_Name (wpAny_loadName_local ki (kn k1) n7 v1 ⟨stay ?_ _, frameS, pl7⟩) d1)
        rw [tk1, tk2, marked_snoc _ _ _ _ tl, eb]
        exact g5.append (.cons rx .nil)
    · rintro ys st ⟨g1, g2, g3, ⟨m, g4⟩, g5⟩ pl
      have hlen : min its.toArray.size its2.toArray.size = xs.length := by rw [List.size_toArray, List.size_toArray, len1, len2, Nat.min_self]
      rw [hlen, List.take_length, hl, List.take_length] at g5
      refine ⟨m, g4, fun h9 sb9 => ?_⟩
      obtain ⟨n, hp⟩ := pl
      obtain ⟨hst, gst, dst, tst, ost⟩ := st
      simp only at g1 g2 g3 g4 hp sb9
      have hD9 : h9.get? D = some { cls := .type "list", data := .seq ys.toArray n } := sb9.extBut _ _ neDC hp
      have J := I1.laid (h' := h9) (t' := tst) (o := .lst (marked xs bs)) (a := D) (fun b o e => sb9.extBut b o (ltC N C b newC (hN ▸ Heap.lt_size e)) (g3 b o e)) (by rw [hN]; exact Nat.le_trans (Nat.le_add_right N 5) newD)
        ⟨Nat.le_trans (marked_len xs bs) (Nat.le_of_lt (small1000 hl2)), ys, n, g5, hD9⟩
      refine ⟨.ref D, _, ?_, rfl, q D (I1.hok.fresh (by rw [hN]; exact Nat.le_trans (Nat.le_add_right N 5) newD))⟩
      subst g1 g2
      exact ⟨J.ok, J.os, J.bare, J.base, J.loc, J.cell, J.free, J.freeC, J.pin, J.hok, J.len⟩
/-- a def called while the error p is handled -/
theorem run_hot {P : Program} {w : World} {K : PySem.W.Frag} {mg : Str → Option Value} {base : Heap} {k : Nat} {f : Addr} {x qual : Str} {st : Stmt} {fd : FuncData} {N ps : List Str} (F : Fun K x qual st f fd) (S : FnScope N ps (defScope st)) {A : Around} {outer : List Env} {s : Shared} {H : Hp} {us : List Value} {vs : List V} {Q : VK} {E : XK} {p : Addr × Obj}
    (hr : L2H.RoomH (k + 1) A) (hpin : L2H.PinOk outer H s p) (e0 : Env0 P w K mg base A outer s H) (hb : Binds K fd ps []) (r : Vals vs us) (hl : vs.length = ps.length)
    (hbody : ∀ cdv, L2H.RoomH k (A.deeper (envOfC qual (defScope st) s.heap.objs.size f cdv)) → ∃ t, PSs (L2H.cxH CX0 P w K mg base N qual (defScope st) f cdv A outer s H E p) (defBody st) t ∧ t { nx := fun _ H' => Q .non H', rt := Q } (L2.start N vs) H) :
    codeAny (model P w) A (.call (.ref f) ⟨us, []⟩) (CR CX0 outer P w H s Q E) s := by
  obtain ⟨oc, od, kV, doc, pm, an, cdv, ct, osl, e, lk, hcd⟩ := F.ex
  subst e
  have old : ∀ b o, base.get? b = some o → s.heap.get? b = some o := fun b o z => (e0.bs b o z).1
  have KX : K.In s.heap := e0.mod.kin.keeps old
  have lim : s.heap.NoLimit := e0.mod.nolimit.keeps old
  have lu : us.length = ps.length := r.length.symm.trans hl
  have bd := hb s us KX (by rw [List.append_nil]; exact lu)
  rw [List.append_nil] at bd
  refine codeAny_call_function hr.depth (KX _ _ lk) rfl S.co S.gen rfl (PySem.W.codeRec_of KX hcd) (bd _ _ _ _ ?_)
  refine wpAny_newFunctionEnv_cells S.kind (fun y hy => ?_) fun env he s1 ic => ?_
  · rcases S.par y.1 (List.of_mem_zip (show (y.1, y.2) ∈ ps.zip us from hy)).1 with q | q
    · exact .inl q
    · exact .inr ⟨q, PySem.W.cellsFrom_some _ _ _ (.inl q)⟩
  · subst he
    obtain ⟨t, ht, hq⟩ := hbody cdv (hr.deeper _)
    have J := L2H.inv_startH (CX := CX0) (E := E) S hpin e0 hl r ic
    refine ⟨lim.keeps ic.toInCall.keep, codeAny_func (wpAny_mono (ht.run [] s1 (L2.start N vs) H _ J hq) (fun fl s2 hs => ?_) fun _ _ z => z)⟩
    cases fl with
    | ret u =>
      obtain ⟨v, σ', H', J', rv, q⟩ := hs
      exact ⟨v, H', J'.os, J'.bare, J'.base, J'.hok, rv, q⟩
    | next =>
      obtain ⟨σ', H', J', q⟩ := hs
      exact ⟨V.non, H', J'.os, J'.bare, J'.base, J'.hok, rfl, q⟩
    | brk =>
      obtain ⟨_, _, _, q⟩ := hs
      exact q.elim
    | cont =>
      obtain ⟨_, _, _, q⟩ := hs
      exact q.elim
/-- isinstance(e, c), e an error that stays where it is -/
theorem call_isP {X : Cx} {a D : Addr} {oe : Obj} (hp : (a, oe) ∈ X.pn) (C : ExcC X.K D) (hz : Zc (.ref D) none oe) (hf : ∃ vs, oe.data = .fields vs) : CallR X (.builtin "isinstance") (rIsE X.K D a) := by
  intro pins s σ H xs us Q I r h
  obtain ⟨c, cv, b, rfl, hcv, e, q⟩ := h
  obtain ⟨u1, u2, rfl, r1, r2⟩ := vals2 r
  cases r1
  have ec := hcv _ r2
  subst ec
  obtain ⟨hget, _⟩ := I.pin (a, oe) (List.mem_append_left _ hp)
  obtain ⟨vs, hv⟩ := hf
  have J : PySem.W.InstAt s.heap a oe D none := by
    obtain ⟨oc, od, oda, osl⟩ := oe
    obtain ⟨h1, h2⟩ := hz
    simp only at h1 h2 hv
    subst h1 h2 hv
    exact ⟨hget, rfl, rfl, trivial⟩
  exact PySem.W.kia_one (PySem.W.handS_kitx_exc C.hg C.hk C.hs C.hd C.ha C.hn C.ht C.hm) I.kIn J e (fun z => nomatch z) fun tk => ⟨.bl b, H, I.kept (t' := tk) fun _ _ z => z, rfl, q⟩
section
variable {P : Program} {w : World} {K : PySem.W.Frag} {mg : Str → Option Value} {base : Heap}
theorem okN {x qual : Str} {st : Stmt} {f : Addr} {fd : FuncData} {N ps : List Str} {k : Nat} {sp : Sp} (F : Fun K x qual st f fd) (S : FnScope N ps (defScope st)) (len : ∀ vs H Q E, sp vs H Q E → vs.length = ps.length)
    (hbody : ∀ (cdv : Value) (A : Around) (outer : List Env) (s : Shared) (H : Hp) (vs : List V) (Q : VK) (E : XK), Room k (A.deeper (envOfC qual (defScope st) s.heap.objs.size f cdv)) → sp vs H Q E →
      ∃ t, PSs (cxOf (L2N.CX P w) P w K mg base N qual (defScope st) f cdv A outer s H E) (defBody st) t ∧ t { nx := fun _ H' => Q .non H', rt := Q } (L2.start N vs) H) :
    FnOk P w K mg base (L2N.CX P w) (k + 1) f fd ps sp := by
  obtain ⟨oc, od, kV, doc, pm, an, cdv, ct, osl, e, lk, hcd⟩ := F.ex
  subst e
  exact fn_of lk hcd S len (hbody cdv)
/-- what the written part says of an own error class at C -/
structure ExT (K : PySem.W.Frag) (mg : Str → Option Value) (x : Str) (C : Addr) : Prop where
  g : mg x = some (.ref C)
  x : PySem.W.excIn K C [.type "ValueError", .type "Exception", .type "BaseException", .type "object"] "ValueError.__new__" = true
  k : PySem.W.keepIn K (.ref C) = true
  b : PySem.W.subIn K (.ref C) (.type "BaseException") = some true
  t : PySem.W.typeIn K (.ref C) = some (.type "type")
end
/-! ### the names of the classes that are met -/
def markedS : List Str → List Bool → List Str
  | x :: xs, b :: bs => if b = true then x :: markedS xs bs else markedS xs bs
  | _, _ => []
theorem marked_str : ∀ (xs : List Str) (bs : List Bool), marked (xs.map V.str) bs = (markedS xs bs).map V.str
  | [], [] => rfl
  | [], _ :: _ => rfl
  | _ :: _, [] => rfl
  | x :: xs, b :: bs => by
    show (if b = true then V.str x :: marked (xs.map V.str) bs else marked (xs.map V.str) bs) = (if b = true then x :: markedS xs bs else markedS xs bs).map V.str
    rw [marked_str xs bs]
    cases b <;> rfl
theorem markedS_sum : ∀ (xs : List Str) (bs : List Bool), ((markedS xs bs).map (·.length)).sum ≤ (xs.map (·.length)).sum
  | [], _ => Nat.zero_le _
  | _ :: _, [] => Nat.zero_le _
  | x :: xs, b :: bs => by
    have := markedS_sum xs bs
    show ((if b = true then x :: markedS xs bs else markedS xs bs).map (·.length)).sum ≤ x.length + (xs.map (·.length)).sum
    cases b
    · exact Nat.le_trans this (Nat.le_add_left _ _)
    · show x.length + ((markedS xs bs).map (·.length)).sum ≤ _
      omega
def kinN : List Str := ["NoHeights", "NoNumber", "NoLot", "NoHouse", "NoCounts", "NoPlace", "NoHeight", "Taken", "Full", "NothingLeft", "+"]
def kinS (bs : List Bool) : Str := Txt.join "" (markedS kinN (bs ++ [true]))
structure KinT (K : PySem.W.Frag) (mg : Str → Option Value) (D : Addr) (b0 b1 b2 b3 b4 b5 b6 b7 b8 b9 : Bool) : Prop where
  exc : ExcC K D
  c0 : ∃ C, mg "NoHeights" = some (.ref C) ∧ PySem.W.kitOne K (.ref D) (.ref C) = some b0
  c1 : ∃ C, mg "NoNumber" = some (.ref C) ∧ PySem.W.kitOne K (.ref D) (.ref C) = some b1
  c2 : ∃ C, mg "NoLot" = some (.ref C) ∧ PySem.W.kitOne K (.ref D) (.ref C) = some b2
  c3 : ∃ C, mg "NoHouse" = some (.ref C) ∧ PySem.W.kitOne K (.ref D) (.ref C) = some b3
  c4 : ∃ C, mg "NoCounts" = some (.ref C) ∧ PySem.W.kitOne K (.ref D) (.ref C) = some b4
  c5 : ∃ C, mg "NoPlace" = some (.ref C) ∧ PySem.W.kitOne K (.ref D) (.ref C) = some b5
  c6 : ∃ C, mg "NoHeight" = some (.ref C) ∧ PySem.W.kitOne K (.ref D) (.ref C) = some b6
  c7 : ∃ C, mg "Taken" = some (.ref C) ∧ PySem.W.kitOne K (.ref D) (.ref C) = some b7
  c8 : ∃ C, mg "Full" = some (.ref C) ∧ PySem.W.kitOne K (.ref D) (.ref C) = some b8
  c9 : ∃ C, mg "NothingLeft" = some (.ref C) ∧ PySem.W.kitOne K (.ref D) (.ref C) = some b9
  ve : mg "ValueError" = none ∧ PySem.W.kitOne K (.ref D) (.type "ValueError") = some true
/-- the name of what is raised, as the law tells it -/
def KinS (K : PySem.W.Frag) (mg : Str → Option Value) (D : Addr) (x : Str) : Prop := (∃ b0 b1 b2 b3 b4 b5 b6 b7 b8 b9, KinT K mg D b0 b1 b2 b3 b4 b5 b6 b7 b8 b9 ∧ kinS [b0, b1, b2, b3, b4, b5, b6, b7, b8, b9] = x) ∧ ∃ R, mg "RoofError" = some (.ref R) ∧ PySem.W.exmOne K (.ref D) (.ref R) = some true
end VL
end
section
set_option Elab.async false
set_option linter.all false
set_option maxRecDepth 100000
set_option maxHeartbeats 2000000
namespace VL
open PySem PySem.Spec PyProof.Rows L2 HotX LamX
/-! ### a lambda whose errors bear no context -/
def lamN (X : Cx) (A : Around) (outer : List Env) (s : Shared) (H : Hp) (E : XK) (scope : Scope) (f c' : Addr) : Cx :=
  (lamCx X A outer s H E scope f c').wish fun e s' => wpAny (model X.prog X.w) (A.deeper (lamEnv X scope s.heap.objs.size f c')) (leaving (lamEnv X scope s.heap.objs.size f c') e) (fun _ s2 => L2N.CX X.prog X.w outer H s E e s2) (fun e2 s2 => L2N.CX X.prog X.w outer H s E e2 s2) s'
theorem lamN_takes {X : Cx} {A : Around} {outer : List Env} {s : Shared} {H : Hp} {E : XK} {scope : Scope} {f c' : Addr} : L2N.Takes (lamN X A outer s H E scope f c') (fun cls d _ H' => E cls d H') := L2N.takes_of rfl rfl rfl rfl
section
variable {X : Cx} {pins : List (Addr × Obj)} {σ : L2.St} {H : Hp} {s : Shared}
theorem pe_actN {CXg : CXT} {Eg : XK} {Ng : List Str} {qg : Str} {sg : Scope} {g f c' : Addr} {cdg pm ctv : Value} {params : Arguments} {body : Expr} {scope : Scope} {k i : Nat} {a : Str} {pn : List (Addr × Obj)} {xe : Value → Shared → Prop} {W : WX} {tb : XK → TE} {p1 p2 : Pos}
    (I : Inv X pins σ H s) (L : LamS X.env.scope scope) (hf : s.heap.get? f = some (PySem.W.kla_obj "<lambda>" (X.env.qual ++ "<lambda>") params body scope (cloFrom X.env.cells scope.names []) pm c' ctv)) (hfn : H f = none) (hfr : f ∉ frs X.stack)
    (hbind : bindArgs (PySem.W.kla_fn "<lambda>" (X.env.qual ++ "<lambda>") params body scope (cloFrom X.env.cells scope.names []) pm (.ref c') ctv) ⟨[], []⟩ = pure [])
    (tk : L2N.Takes ((cxOf CXg X.prog X.w X.K X.mg X.base Ng qg sg g cdg X.A X.stack s H Eg).tr pn xe) W) (hr : Room (k + 1) (X.A.deeper (envOfC qg sg s.heap.objs.size g cdg)))
    (hbody : ∀ (A : Around) (outer : List Env) (s : Shared) (H : Hp) (E : XK), Room k (A.deeper (lamEnv X scope s.heap.objs.size f c')) → PE (lamN X A outer s H E scope f c') body (tb E))
    (hN : Ng[i]? = some a) (hv : Vis sg a) (hd : (a == ("__debug__" : Str)) = false := by decide) (hcd : (a == ("__classdict__" : Str)) = false := by decide) :
    PE ((cxOf CXg X.prog X.w X.K X.mg X.base Ng qg sg g cdg X.A X.stack s H Eg).tr pn xe) (.Call (.Name a p1) [] [] p2)
      (fun σZ HZ Q => σZ[i]? = some (some (.ref f)) ∧ HZ c' = some (CodeO c' (X.env.qual ++ "<lambda>")) ∧ tb (WE W σZ) σ HZ Q) := by
  refine ⟨fun pinsZ sZ σZ HZ Q IZ h => ?_⟩
  obtain ⟨hs, hc, ht⟩ := h
  refine wpAny_Call_Name_kw (thn ((pe_var (pos := p1) (i := i) hN hv hd hcd).run pinsZ sZ σZ HZ (fun v H1 => v = .ref f ∧ H1 = HZ) IZ ⟨.ref f, hs, rfl, rfl⟩) fun u s1 hq => ?_)
  obtain ⟨v, H1, I1, r1, rfl, rfl⟩ := hq
  obtain rfl : u = Value.ref f := r1
  have of1 := I1.base.keep f _ hf hfn hfr (fun z => nomatch (show f ∈ ([] : List Addr) from z))
  obtain ⟨⟨oc, vs, t, hoc, hdc, hvc⟩, _, _⟩ := I1.hok c' _ hc
  refine PySem.W.callWith_F0 ⟨_, _, _, _, of1⟩ ?_
  have rc : codeAny (model X.prog X.w) (X.A.deeper (envOfC qg sg s.heap.objs.size g cdg)) (.call (.ref f) ⟨[], []⟩) (CR (L2N.CX X.prog X.w) (envOfC qg sg s.heap.objs.size g cdg :: X.stack) X.prog X.w H1 s1 Q (WE W σZ)) s1 := by
    refine PySem.W.kla_callFunE hr.depth of1 rfl L.co L.gen rfl ⟨c', oc, vs, t, rfl, hoc, hdc, hvc⟩ ?_
    rw [hbind]
    refine wpAny_pure (wpAny_newFunctionEnv (fun y hy => (L.own y hy).2) (fun y hy => absurd hy (by simp)) (fun h₁ hns hsb => ⟨I1.nolimit.fresh _ hsb, ?_⟩) L.kind)
    show codeAny _ _ (.expr body (lamEnv X scope s1.heap.objs.size f c')) _ _
    have J := lam_start2 (E := WE W σZ) (f := f) (c' := c') (tk := s1.toks + ([] : List (Str × Value)).length) I L I1.env0 hr.hd I1.base hns fun b o e => hsb.extBut b o (Nat.ne_of_lt (Heap.lt_size e)) (Heap.get?_push_of_some _ e)
    have J2 : Inv (lamN X (X.A.deeper (envOfC qg sg s.heap.objs.size g cdg)) (envOfC qg sg s.heap.objs.size g cdg :: X.stack) s1 H1 (WE W σZ) scope f c') [] σ H1 _ := ⟨⟨J.ok.mod, J.ok.kind, J.ok.glob, J.ok.blt, J.ok.above, J.ok.inj, J.ok.has, J.ok.cab, J.ok.hd, J.ok.frames, J.ok.stk, J.ok.exf, J.ok.bs, J.ok.bsz, J.ok.noex, J.ok.exfs, J.ok.funs, J.ok.frf⟩, J.os, J.bare, J.base, J.loc, J.cell, J.free, J.freeC, J.pin, J.hok, J.len⟩
    refine PySem.W.kla_codeExpr (wpAny_mono ((hbody _ _ s1 H1 (WE W σZ) (hr.deeper _)).run [] _ _ H1 Q J2 ht) (fun v s' hq => ?_) fun e s' hq => hq)
    obtain ⟨w', H', J', rv, q⟩ := hq
    exact ⟨w', H', J'.os, J'.bare, J'.base, J'.hok, rv, q⟩
  refine wpAny_call (codeAny_mono rc fun r s' hq => ?_)
  cases r with
  | error e => exact L2N.passAt tk σZ pinsZ H1 s1 e s' I1 hq
  | ok fl =>
    cases fl with
    | ret u => exact I1.after hq
    | next => exact False.elim hq
    | brk => exact False.elim hq
    | cont => exact False.elim hq
end
theorem takes0N {X : Cx} : L2N.Takes X (fun _ _ _ _ => False) := fun _ _ x => by
  obtain ⟨_, _, _, _, _, _, _, _, _, _, _, _, _, _, _, _, z⟩ := x
  exact z.elim
def tKin (K : PySem.W.Frag) (mg : Str → Option Value) (a : Addr) (cls : Value) (d : Option Addr) : TE := fun σ H Q => σ[2]? = some (some (.ref a)) ∧ d = none ∧ ∃ D x, cls = .ref D ∧ KinS K mg D x ∧ ∀ H', Same H H' → Q (.str x) H'
/-- _law_try(lambda: body) -/
def tTry (K : PySem.W.Frag) (mg : Str → Option Value) (P : Addr) (q : Str) (t : XK → TE) : TE := fun σ H Q => ∃ ps, Tab1 H P q ps ∧ ∀ H1, Grew H H1 P q ps → ∀ (E' : XK) (Q' : VK),
  (∀ cls d H2, (d = none ∧ ∃ D x, cls = .ref D ∧ KinS K mg D x ∧ ∀ H3, Same H2 H3 → Q (.str x) H3) → E' cls d H2) → (∀ v H2, (∀ p, H2 p = none → Q (.ref p) (upd H2 p (.tup [.str "told", v]))) → Q' v H2) → t E' σ H1 Q'
end VL
end
section
set_option Elab.async false
set_option linter.all false
set_option maxRecDepth 100000
set_option maxHeartbeats 2000000
namespace VL
open PySem PySem.Spec PyProof.Rows L2 HT PySem.W PySem.Calls LamX
variable {K : PySem.W.Frag} {T : List (Addr × Str)}
/-! ### statements that may raise -/
inductive OutX where
  | nx (e : Ev)
  | rt (s : Sl) (e : Ev)
  | ex (c : Str) (e : Ev)
def SSX (K : PySem.W.Frag) (t : WX → TS) (f : Ev → Option OutX) : Prop := ∀ (Wx : WX) (W : Wd) (hT : W.tb = []) (D : Ends) (σ : L2.St) (H B : Hp) (e : Ev) (o : OutX), f e = some o → Rel K W σ H B e →
  (∀ e' σ' H' B', o = .nx e' → Same B B' → Rel K W σ' H' B' e' → D.nx σ' H') → (∀ s e' v σ' H' B', o = .rt s e' → Same B B' → Rel K W (some v :: σ') H' B' (s :: e') → D.rt v H') →
  (∀ c e' C σ' H' B', o = .ex c e' → PySem.W.nsIn K mainGlobals c = some (some (.ref C)) → Same B B' → Rel K W σ' H' B' e' → Wx (.ref C) none σ' H') → t Wx D σ H
def xLift (f : Ev → Option Out) : Ev → Option OutX := fun e => match f e with
  | none => none
  | some (.nx e1) => some (.nx e1)
  | some (.rt s e1) => some (.rt s e1)
theorem ssx_lift {t : TS} {f : Ev → Option Out} (h : SS K [] t f) : SSX K (fun _ => t) (xLift f) := fun Wx W hT D σ H B e o hf r qn qr qx => by
  unfold xLift at hf
  cases h1 : f e with
  | none => rw [h1] at hf; cases hf
  | some o1 =>
    rw [h1] at hf
    refine h W hT D σ H B e o1 h1 r (fun e' σ' H' B' he sb r' => ?_) fun s e' v σ' H' B' he sb r' => ?_
    · subst he
      exact qn e' σ' H' B' (Option.some.inj hf).symm sb r'
    · subst he
      exact qr s e' v σ' H' B' (Option.some.inj hf).symm sb r'
/-- if c: raise x(..) -/
def xGuard (c : M Bool) (x : Str) (g : Ev → Option OutX) : Ev → Option OutX := fun e => bnd (c e) fun b e1 => if b = true then some (.ex x e1) else g e1
abbrev tRaise (C : Addr) (Wx : WX) : TS := fun _ σ H => Wx (.ref C) none σ H
theorem ssx_guard {C : Addr} {x : Str} {t : TT} {u : WX → TS} {c : M Bool} {g : Ev → Option OutX} (hC : PySem.W.nsIn K mainGlobals x = some (some (.ref C))) (hc : ST K [] t c) (h : SSX K u g) : SSX K (fun Wx => tSeq (tIfS t (tRaise C Wx) tNext) (u Wx)) (xGuard c x g) := fun Wx W hT D σ H B e o hf r qn qr qx => by
  obtain ⟨b, e1, h1, h2⟩ := bnd_some hf
  refine hc W hT σ H B e b e1 _ h1 r fun H' B' sb r' => ?_
  cases b with
  | true =>
    rw [if_pos rfl] at h2
    cases h2
    exact qx x e1 C σ H' B' rfl hC sb r'
  | false =>
    rw [if_neg (by decide)] at h2
    exact h Wx W hT D σ H' B' e1 o h2 r' (fun e2 σ2 H2 B2 q1 q2 q3 => qn e2 σ2 H2 B2 q1 (sb.trans q2) q3) (fun s e2 v σ2 H2 B2 q1 q2 q3 => qr s e2 v σ2 H2 B2 q1 (sb.trans q2) q3) fun c e2 C σ2 H2 B2 q1 q0 q2 q3 => qx c e2 C σ2 H2 B2 q1 q0 (sb.trans q2) q3
/-! ### methods of a street that may raise -/
inductive RsT where
  | ok (s : Sl) (row : PyData) (er : List PyData)
  | ex (c : Str) (row : PyData) (er : List PyData)
abbrev FTX := PyData → List PyData → List PyData → Option RsT
def spTX (K : PySem.W.Frag) (F : FTX) : Sp := fun vs H Q E => ∃ (B : Hp) (a dx q : Addr) (row : PyData) (er : List PyData) (vr : List V) (ds : List PyData) (r : RsT), vs = .ref a :: vr ∧ StAt K H B a dx q row er ∧ (∀ p ∈ [a, dx, q], B p = none) ∧ [a, dx, q].Nodup ∧ Same B H ∧
  DpAll K B vr ds ∧ F row er ds = some r ∧ (∀ s row1 er1, r = .ok s row1 er1 → ∀ v H' B', Same B B' → Rel K ⟨hideL [a, dx, q] H, B, some a, []⟩ [some v, some (.ref a)] H' B' [s, .sb row1 er1] → Q v H') ∧
  ∀ c row1 er1 C, r = .ex c row1 er1 → PySem.W.nsIn K mainGlobals c = some (some (.ref C)) → ∀ H' B', Same B B' → Rel K ⟨hideL [a, dx, q] H, B, some a, []⟩ [some .non, some (.ref a)] H' B' [.sh .none, .sb row1 er1] → E (.ref C) none H'
def okT1 : Option (Sl × PyData × List PyData) → Option RsT
  | some (s, r, er) => some (.ok s r er)
  | none => none
def exT1 (c : Str) : Option (Sl × PyData × List PyData) → Option RsT
  | some (_, r, er) => some (.ex c r er)
  | none => none
def fnTX (n m : Nat) (f : Ev → Option OutX) : FTX := fun row er ds => if ds.length = n then (match f (.sb row er :: (ds.map Sl.sh ++ List.replicate m .un)) with
  | none => none
  | some (.nx e) => okT1 (lentT (.sh .none) e[0]?)
  | some (.rt s e) => okT1 (lentT s e[0]?)
  | some (.ex c e) => exT1 c (lentT (.sh .none) e[0]?)) else none
theorem okT1_some {o : Option (Sl × PyData × List PyData)} {r : RsT} (h : okT1 o = some r) : ∃ s row er, o = some (s, row, er) ∧ r = .ok s row er := by
  cases o with
  | none => cases h
  | some x => exact ⟨x.1, x.2.1, x.2.2, rfl, (Option.some.inj h).symm⟩
theorem exT1_some {c : Str} {o : Option (Sl × PyData × List PyData)} {r : RsT} (h : exT1 c o = some r) : ∃ s row er, o = some (s, row, er) ∧ r = .ex c row er := by
  cases o with
  | none => cases h
  | some x => exact ⟨x.1, x.2.1, x.2.2, rfl, (Option.some.inj h).symm⟩
section
variable {P : Program} {w : World} {mg : Str → Option Value} {base : Heap}
theorem okTX {x qual : Str} {st : Stmt} {f : Addr} {fd : FuncData} {N ps : List Str} {k n m : Nat} {t : WX → TS} {fb : Ev → Option OutX} (hs : SSX K t fb) (F : Fun K x qual st f fd) (S : FnScope N ps (defScope st)) (hN : N.length = n + 1 + m) (hp : ps.length = n + 1)
    (hb : ∀ (cdv : Value) (A : Around) (outer : List Env) (s : Shared) (H : Hp) (E : XK), Room k (A.deeper (envOfC qual (defScope st) s.heap.objs.size f cdv)) → PSs (cxOf (L2N.CX P w) P w K mg base N qual (defScope st) f cdv A outer s H E) (defBody st) (t fun cls d _ H' => E cls d H')) :
    FnOk P w K mg base (L2N.CX P w) (k + 1) f fd ps (spTX K (fnTX n m fb)) := by
  have cut : ∀ {row : PyData} {er ds : List PyData} {r : RsT}, fnTX n m fb row er ds = some r → ds.length = n := fun {row er ds r} h => by
    unfold fnTX at h
    by_cases c : ds.length = n
    · exact c
    · rw [if_neg c] at h
      cases h
  refine okN F S (fun vs H Q E h => ?_) (fun cdv A outer s H vs Q E hr h => ?_)
  · obtain ⟨B, a, dx, q, row, er, vr, ds, r, rfl, h1, h2, h3, h4, h5, h6, _⟩ := h
    rw [List.length_cons, dpAll_len h5, hp, cut h6]
  · refine ⟨_, hb cdv A outer s H E hr, ?_⟩
    obtain ⟨B, a, dx, q, row, er, vr, ds, r, rfl, h1, h2, nd, bh, h5, h6, qq, qx⟩ := h
    have c := cut h6
    have hv : vr.length = n := by rw [dpAll_len h5]; exact c
    unfold fnTX at h6
    rw [if_pos c] at h6
    have es : L2.start N (.ref a :: vr) = some (.ref a) :: (vr.map some ++ List.replicate m none) := by
      rw [start_eq hN (by rw [List.length_cons, hv])]
      rfl
    rw [es]
    have r0 : Rel K ⟨hideL [a, dx, q] H, B, some a, []⟩ (some (.ref a) :: (vr.map some ++ List.replicate m none)) H B (.sb row er :: (ds.map Sl.sh ++ List.replicate m .un)) := by
      refine ⟨[a, dx, q] ++ [], .cons (.sb rfl h1) (sls_sh (sls_un m) h5), by rw [List.append_nil]; exact nd, fun p hq => ?_, bh, fun b o hb => (hideL_sub hb).2, fun b _ h => h, fun x hx => by cases hx⟩
      rw [List.append_nil] at hq
      exact ⟨h2 p hq, hideL_in hq⟩
    cases h7 : fb (.sb row er :: (ds.map Sl.sh ++ List.replicate m .un)) with
    | none => rw [h7] at h6; cases h6
    | some o =>
      rw [h7] at h6
      refine hs _ ⟨hideL [a, dx, q] H, B, some a, []⟩ rfl _ _ H B _ o h7 r0 (fun e' σ' H' B' he sb r => ?_) (fun s' e' v σ' H' B' he sb r => ?_) fun c e' C σ' H' B' he hC sb r => ?_
      · subst he
        obtain ⟨s1, row1, er1, h8, rfl⟩ := okT1_some h6
        obtain ⟨rfl, h9, _⟩ := lentT_some h8
        exact qq _ _ _ rfl _ H' B' sb ((r.cons (d := .none) .non).twoT rfl h9)
      · subst he
        obtain ⟨s1, row1, er1, h8, rfl⟩ := okT1_some h6
        obtain ⟨rfl, h9, _⟩ := lentT_some h8
        exact qq _ _ _ rfl v H' B' sb (r.twoT rfl h9)
      · subst he
        obtain ⟨s1, row1, er1, h8, rfl⟩ := exT1_some h6
        obtain ⟨rfl, h9, _⟩ := lentT_some h8
        exact qx _ _ _ C rfl hC H' B' sb ((r.cons (d := .none) .non).twoT rfl h9)
end
/-! ### what a lambda does -/
inductive RsX where
  | ok (d : PyData)
  | ex (c : Str)
def SB (K : PySem.W.Frag) (T : List (Addr × Str)) (t : XK → TE) (f : Ev → Option (RsX × Ev)) : Prop := ∀ (W : Wd) (hT : W.tb = T) (σ : L2.St) (H B : Hp) (e : Ev) (r : RsX) (e' : Ev) (Q : VK) (E : XK), f e = some (r, e') → Rel K W σ H B e →
  (∀ d v H' B', r = .ok d → Same B B' → Rel K W σ H' B' e' → Dp K B' v d → Q v H') → (∀ c C H' B', r = .ex c → PySem.W.nsIn K mainGlobals c = some (some (.ref C)) → Same B B' → Rel K W σ H' B' e' → E (.ref C) none H') → t E σ H Q
def xMethX (i : Nat) (F : FTX) (fa : M (List PyData)) : Ev → Option (RsX × Ev) := fun e => match strOf e[i]? with
  | none => none
  | some _ => bnd (fa e) fun ds e1 => match strOf e1[i]? with
    | none => none
    | some (row, er) => match F row er ds with
      | some (.ok (.sh d) row1 er1) => some (.ok d, setStr e1 i row1 er1)
      | some (.ex c row1 er1) => some (.ex c, setStr e1 i row1 er1)
      | _ => none
theorem sb_meth {m : Str} {C : Addr} {i : Nat} {F : FTX} {t : TA} {fa : M (List PyData)} (k : StreetOk K C) (hm : List.lookup m [(("row" : Str), ()), ("earlier_rows", ())] = none) (ha : SA K T t fa) : SB K T (fun E => tMeth C m (spTX K F) [] E (tVar i) t) (xMethX i F fa) := fun W hT σ H B e rr e' Q E hf r qo qx => by
  unfold xMethX at hf
  cases h0 : strOf e[i]? with
  | none => rw [h0] at hf; cases hf
  | some p0 =>
    obtain ⟨row0, er0⟩ := p0
    rw [h0] at hf
    obtain ⟨ds, e1, h1, h2⟩ := bnd_some hf
    obtain ⟨a, dx, q', C', vr, ws, g1, g2, g3, _⟩ := r.str h0
    rw [k.ns] at g2
    cases Option.some.inj (Option.some.inj g2)
    refine ⟨_, g1, a, dx, _, rfl, g3, ?_, ha W hT σ H B e ds e1 _ h1 r fun vs H1 B1 s1 r1 dv => ?_⟩
    · revert hm
      simp only [List.lookup]
      cases (m == ("row" : Str)) <;> cases (m == ("earlier_rows" : Str)) <;> intro z <;> first | rfl | cases z
    · cases h3 : strOf e1[i]? with
      | none => rw [h3] at h2; cases h2
      | some p =>
        obtain ⟨row, er⟩ := p
        simp only [h3] at h2
        cases h4 : F row er ds with
        | none => rw [h4] at h2; cases h2
        | some z =>
          rw [List.append_nil]
          cases h5 : e1[i]? with
          | none => rw [h5] at h3; cases h3
          | some sl =>
            rw [h5] at h3
            obtain ⟨o, bs, b1, b2, b3, b4, b5⟩ := r1.lend h5
            rw [g1] at b1
            cases Option.some.inj b1
            have fin : ∀ (dx2 q2 : Addr) (mk : PyData → List PyData → Sl), bs = [a, dx2, q2] → StAt K H1 B1 a dx2 q2 row er → (∀ r er, setStr e1 i r er = e1.set i (mk r er)) → (∀ H' B' r er as, SlOk K (some a) H' B' (some (.ref a)) (.sb r er) as → SlOk K W.bp H' B' (some (.ref a)) (mk r er) as) → spTX K F (.ref a :: vs) H1 Q E := by
              intro dx2 q2 mk eb sa hset hmk
              subst eb
              refine ⟨B1, a, dx2, q2, row, er, vs, ds, z, rfl, sa, b4, b3, r1.bh, dv, h4, fun s row1 er1 ez v H' B' sb r' => ?_, fun c row1 er1 C0 ez hC H' B' sb r' => ?_⟩
              · subst ez
                rw [h4] at h2
                cases s with
                | sh d =>
                  cases h2
                  have r2 := b5 v _ _ (mk row1 er1) H' B' _ sb r' rfl (fun as => hmk H' B' row1 er1 as)
                  rw [← hset] at r2
                  exact qo d v H' B' rfl (s1.trans sb) r2.tail r2.head
                | _ => cases h2
              · subst ez
                rw [h4] at h2
                cases h2
                have r2 := b5 .non _ _ (mk row1 er1) H' B' _ sb r' rfl (fun as => hmk H' B' row1 er1 as)
                rw [← hset] at r2
                exact qx c C0 H' B' rfl hC (s1.trans sb) r2.tail
            cases sl with
            | st r2 er2 =>
              cases h3
              cases b2 with
              | @st _ dx2 q2 _ _ sa => exact fin dx2 q2 .st rfl sa (fun r er => setStr_st h5) fun H' B' r er as z => by cases z with | sb _ sa => exact .st sa
            | sb r2 er2 =>
              cases h3
              cases b2 with
              | @sb _ dx2 q2 _ _ eb sa => exact fin dx2 q2 .sb rfl sa (fun r er => setStr_sb h5) fun H' B' r er as z => by cases z with | sb _ sa => exact .sb eb sa
            | _ => cases h3
/-! ### _law_try(lambda: ..) -/
def eTry (kn : Str → Option Str) (fb : Ev → Option (RsX × Ev)) : M PyData := fun e => match fb e with
  | none => none
  | some (.ok d, e1) => some (.tuple [.str "told", d], e1)
  | some (.ex c, e1) => match kn c with
    | none => none
    | some x => some (.str x, e1)
theorem se_try {mg : Str → Option Value} {kn : Str → Option Str} {P : Addr} {q : Str} {t : XK → TE} {fb : Ev → Option (RsX × Ev)} (KT : ∀ c C x, kn c = some x → PySem.W.nsIn K mainGlobals c = some (some (.ref C)) → KinS K mg C x) (hm : (P, q) ∈ T) (hu : ∀ x ∈ T, x.1 = P → x.2 = q) (hb : SB K T t fb) : SE K T (tTry K mg P q t) (eTry kn fb) := fun W hT σ H B e d e' Q hf r k => by
  unfold eTry at hf
  cases h1 : fb e with
  | none => rw [h1] at hf; cases hf
  | some y =>
    obtain ⟨rr, e1⟩ := y
    rw [h1] at hf
    obtain ⟨ps, t1⟩ := r.tab (P := P) (q := q) (by rw [hT]; exact hm)
    refine ⟨ps, t1, fun H1 g E' Q' hE hQ => ?_⟩
    obtain ⟨B1, s1, r1⟩ := r.grew (by rw [hT]; exact hm) (by rw [hT]; exact hu) t1.1 g
    refine hb W hT σ H1 B1 e rr e1 Q' E' h1 r1 (fun d0 v H2 B2 er sb r2 dv => hQ v H2 fun p hp => ?_) fun c C H2 B2 er hC sb r2 => hE _ _ H2 ?_
    · subst er
      cases hf
      have x := Ext.new (o := .tup [.str "told", v]) r2.bh hp
      exact k _ _ _ ((s1.trans sb).trans x.b) (r2.ext x) (.tup (SqT.of upd_same) (.cons (.str _) (.cons (dp_mono x.b dv) .nil)))
    · subst er
      have hf : (match kn c with | none => none | some x => some (PyData.str x, e1)) = some (d, e') := hf
      cases h2 : kn c with
      | none => rw [h2] at hf; cases hf
      | some x =>
        rw [h2] at hf
        cases hf
        exact ⟨rfl, C, x, rfl, KT c C x h2 hC, fun H3 sm => k _ H3 B2 (s1.trans sb) (r2.ext ⟨sm, Same.refl B2, r2.bh.trans sm, fun _ _ h => h⟩) (.str x)⟩
end VL
end
section
set_option Elab.async false
set_option linter.all false
set_option maxRecDepth 100000
set_option maxHeartbeats 2000000
namespace VL
open PySem PySem.Spec PyProof.Rows L2 HT PySem.W PySem.Calls LamX
variable {K : PySem.W.Frag} {T T0 : List (Addr × Str)}
/-! ### a slot is lent, and tables -/
theorem Rel.lendT {W : Wd} {σ : L2.St} {H B : Hp} {e : Ev} {i : Nat} {s0 : Sl} (r : Rel K W σ H B e) (h0 : e[i]? = some s0) (hsub : ∀ x ∈ T0, x ∈ W.tb) (hun : ∀ x ∈ W.tb, ∀ y ∈ T0, x.1 = y.1 → x = y) : ∃ o bs, σ[i]? = some o ∧ SlOk K W.bp H B o s0 bs ∧ bs.Nodup ∧ (∀ p ∈ bs, B p = none) ∧ TbOk T0 (fun _ => none) H B ∧
    ∀ v s s1 s2 H' B' bp', Same B B' → Rel K ⟨hideL (bs ++ T0.map Prod.fst) H, B, bp', T0⟩ [some v, o] H' B' [s, s1] → free s = true → (∀ as, SlOk K bp' H' B' o s1 as → SlOk K W.bp H' B' o s2 as) → Rel K W (some v :: σ) H' B' (s :: e.set i s2) := by
  obtain ⟨A, r⟩ := r
  obtain ⟨o, bs, cs, h1, h2, h3, h4, h5⟩ := r.sls.out r.nd h0
  obtain ⟨k1, k2, k3⟩ := List.nodup_append.mp h4
  have isT : ∀ p ∈ T0.map Prod.fst, W.H0 p = none ∧ B p = none ∧ ∃ ps, H p = some (.tbl ps) := fun p hp => by
    obtain ⟨x, hx, rfl⟩ := List.mem_map.mp hp
    obtain ⟨q1, q2, ps, q3, _⟩ := r.tb x (hsub x hx)
    exact ⟨q1, q2, ps, q3⟩
  refine ⟨o, bs, h1, h2, k1, fun p hp => (r.out p (h5 p (List.mem_append_left _ hp))).1, fun x hx => ⟨rfl, (r.tb x (hsub x hx)).2⟩, fun v s s1 s2 H' B' bp' sb r' fr cv => ?_⟩
  obtain ⟨A', r'⟩ := r'
  have nT' : ∀ p ∈ A', p ∉ T0.map Prod.fst := fun p hp z => by
    obtain ⟨x, hx, rfl⟩ := List.mem_map.mp z
    obtain ⟨_, _, ps, q3, _⟩ := r'.tb x hx
    exact r'.sls.noTab _ hp ps q3
  have ncs : ∀ q ∈ cs, q ∉ bs ++ T0.map Prod.fst := fun q hq z => by
    rcases List.mem_append.mp z with z | z
    · exact k3 q z q hq rfl
    · obtain ⟨_, _, ps, h⟩ := isT q z
      exact h3.noTab q hq ps h
  cases hs : r'.sls with
  | @cons _ _ as _ _ _ g1 t =>
    cases t with
    | @cons _ _ ds _ _ _ g2 t2 =>
      cases t2 with
      | nil =>
        obtain ⟨n1, n2, n3⟩ := List.nodup_append.mp r'.nd
        have n2' : ds.Nodup := by rw [List.append_nil] at n2; exact n2
        have hd : ∀ q ∈ ds, q ∈ as ++ (ds ++ []) := fun q hq => List.mem_append_right _ (List.mem_append_left _ hq)
        have o1 : ∀ q ∈ as ++ (ds ++ []), q ∈ bs ∨ H q = none := fun q hq => by
          have z := (r'.out q hq).2
          by_cases c : q ∈ bs ++ T0.map Prod.fst
          · exact (List.mem_append.mp c).elim .inl fun w => absurd w (nT' q hq)
          · have z : hideL (bs ++ T0.map Prod.fst) H q = none := z
            rw [hideL_out c] at z
            exact .inr z
        have oA : ∀ q ∈ as, q ∈ bs ∨ H q = none := fun q hq => o1 q (List.mem_append_left _ hq)
        have oD : ∀ q ∈ ds, q ∈ bs ∨ H q = none := fun q hq => o1 q (hd q hq)
        have keep : ∀ q ∈ cs, H' q = H q := fun q hq => by
          have hn := h3.held q hq
          have := same_at r'.fr (p := q) (by show hideL (bs ++ T0.map Prod.fst) H q ≠ none; rw [hideL_out (ncs q hq)]; exact hn)
          rw [this]
          exact hideL_out (ncs q hq)
        have notC : ∀ q, q ∈ bs ∨ H q = none → q ∉ cs := fun q hq z => by
          rcases hq with w | w
          · exact ncs q z (List.mem_append_left _ w)
          · exact h3.held q z w
        have inA : ∀ q, q ∈ bs ∨ H q = none → W.H0 q = none := fun q hq => by
          rcases hq with w | w
          · exact (r.out q (h5 q (List.mem_append_left _ w))).2
          · exact r.fr.free w
        have nH0 : ∀ b, W.H0 b ≠ none → b ∉ bs ++ T0.map Prod.fst := fun b hb z => by
          rcases List.mem_append.mp z with z | z
          · exact hb (r.out b (h5 b (List.mem_append_left _ z))).2
          · exact hb (isT b z).1
        have t0 : Sls K W.bp H' B' (σ.set i none) (e.set i .un) cs := h3.mono sb keep
        obtain ⟨fs, f1, f2, f3⟩ := t0.set (cv ds g2) i
        rw [set_set', set_set', set_same h1] at f1
        refine ⟨as ++ fs, .cons (g1.free fr) f1, List.nodup_append.mpr ⟨n1, f2 k2 n2' (fun q hq => notC q (oD q hq)), fun x hx y hy z => ?_⟩, fun q hq => ?_, r'.bh, fun b ob hb => ?_, fun b hb1 hb2 => ?_, fun x hx => ?_⟩
        · rcases f3 y hy with w | w
          · exact notC x (oA x hx) (by rw [z]; exact w)
          · exact n3 x hx y (List.mem_append_left _ w) z
        · rcases List.mem_append.mp hq with z | z
          · exact ⟨(r'.out q (List.mem_append_left _ z)).1, inA q (oA q z)⟩
          · rcases f3 q z with w | w
            · refine ⟨?_, (r.out q (h5 q (List.mem_append_right _ w))).2⟩
              refine r'.new q ?_ (r.out q (h5 q (List.mem_append_right _ w))).1
              show hideL (bs ++ T0.map Prod.fst) H q ≠ none
              rw [hideL_out (ncs q w)]
              exact h3.held q w
            · exact ⟨(r'.out q (hd q w)).1, inA q (oD q w)⟩
        · refine r'.fr b ob ?_
          show hideL (bs ++ T0.map Prod.fst) H b = some ob
          rw [hideL_out (nH0 b (by rw [hb]; exact fun z => by cases z))]
          exact r.fr b ob hb
        · refine r'.new b ?_ (r.new b hb1 hb2)
          show hideL (bs ++ T0.map Prod.fst) H b ≠ none
          rw [hideL_out (nH0 b hb1)]
          exact ne_none_of r.fr hb1
        · obtain ⟨q1, q2, ps, q3, q4, q5⟩ := r.tb x hx
          by_cases c : x.1 ∈ T0.map Prod.fst
          · obtain ⟨y, hy, ey⟩ := List.mem_map.mp c
            have := hun x hx y hy ey.symm
            subst this
            exact ⟨q1, (r'.tb x hy).2⟩
          · have no : x.1 ∉ bs ++ T0.map Prod.fst := fun z => by
              rcases List.mem_append.mp z with z | z
              · exact h2.noTab x.1 z ps q3
              · exact c z
            refine ⟨q1, r'.new x.1 ?_ q2, ps, r'.fr _ _ ?_, q4, fun pos cv' hc => ?_⟩
            · show hideL (bs ++ T0.map Prod.fst) H x.1 ≠ none
              rw [hideL_out no, q3]
              exact fun z => by cases z
            · show hideL (bs ++ T0.map Prod.fst) H x.1 = _
              rw [hideL_out no]
              exact q3
            · obtain ⟨c0, e1, e2⟩ := q5 pos cv' hc
              exact ⟨c0, e1, sb _ _ e2⟩
/-! ### a def that is lent a street, and makes lambdas -/
def spTT (K : PySem.W.Frag) (T : List (Addr × Str)) (F : FT) : Sp := fun vs H Q _ => ∃ (B : Hp) (a dx q : Addr) (row : PyData) (er : List PyData) (vr : List V) (ds : List PyData) (s : Sl) (row1 : PyData) (er1 : List PyData), vs = .ref a :: vr ∧ StAt K H B a dx q row er ∧ (∀ p ∈ [a, dx, q], B p = none) ∧ [a, dx, q].Nodup ∧ Same B H ∧
  DpAll K B vr ds ∧ TbOk T (fun _ => none) H B ∧ F row er ds = some (s, row1, er1) ∧ ∀ v H' B', Same B B' → Rel K ⟨hideL ([a, dx, q] ++ T.map Prod.fst) H, B, some a, T⟩ [some v, some (.ref a)] H' B' [s, .sb row1 er1] → Q v H'
section
variable {P : Program} {w : World} {mg : Str → Option Value} {base : Heap}
theorem okTT {x qual : Str} {st : Stmt} {f c : Addr} {fd : FuncData} {N ps : List Str} {k n m : Nat} {t : TS} {fb : Ev → Option Out} (hcode : ∀ x q params body scope dV kV doc pm an cdv ct, fd = PySem.W.fnOf x q params body scope dV kV doc pm an cdv ct → cdv = .ref c) (hs : SS K T t fb) (F : Fun K x qual st f fd) (S : FnScope N ps (defScope st)) (hN : N.length = n + 1 + m) (hp : ps.length = n + 1)
    (hb : ∀ (A : Around) (outer : List Env) (s : Shared) (H : Hp) (E : XK), Room k (A.deeper (envOfC qual (defScope st) s.heap.objs.size f (.ref c))) → PSs (cxOf CX0 P w K mg base N qual (defScope st) f (.ref c) A outer s H E).nox (defBody st) t) :
    FnOk P w K mg base CX0 (k + 1) f fd ps (spTT K T (fnT n m fb)) := by
  obtain ⟨oc, od, kV, doc, pm, an, cdv, ct, osl, ef, lk, hcd⟩ := F.ex
  have ec := hcode _ _ _ _ _ _ _ _ _ _ _ _ ef
  subst ec ef
  have cut : ∀ {row row1 : PyData} {er er1 ds : List PyData} {s : Sl}, fnT n m fb row er ds = some (s, row1, er1) → ds.length = n := fun {row row1 er er1 ds s} h => by
    unfold fnT at h
    by_cases c : ds.length = n
    · exact c
    · rw [if_neg c] at h
      cases h
  refine fn_of lk hcd S (fun vs H Q E h => ?_) (fun A outer s H vs Q E hr h => ?_)
  · obtain ⟨B, a, dx, q, row, er, vr, ds, sl, row1, er1, rfl, h1, h2, h3, h4, h5, _, h6, _⟩ := h
    rw [List.length_cons, dpAll_len h5, hp, cut h6]
  · refine ⟨t, (hb A outer s H E hr).nox, ?_⟩
    obtain ⟨B, a, dx, q, row, er, vr, ds, sl, row1, er1, rfl, h1, h2, nd, bh, h5, ht, h6, qq⟩ := h
    have c := cut h6
    have hv : vr.length = n := by rw [dpAll_len h5]; exact c
    unfold fnT at h6
    rw [if_pos c] at h6
    have es : L2.start N (.ref a :: vr) = some (.ref a) :: (vr.map some ++ List.replicate m none) := by
      rw [start_eq hN (by rw [List.length_cons, hv])]
      rfl
    rw [es]
    have r0 : Rel K ⟨hideL ([a, dx, q] ++ T.map Prod.fst) H, B, some a, T⟩ (some (.ref a) :: (vr.map some ++ List.replicate m none)) H B (.sb row er :: (ds.map Sl.sh ++ List.replicate m .un)) := by
      refine ⟨[a, dx, q] ++ [], .cons (.sb rfl h1) (sls_sh (sls_un m) h5), by rw [List.append_nil]; exact nd, fun p hq => ?_, bh, fun b o hb => (hideL_sub hb).2, fun b _ h => h, fun x hx => ⟨hideL_in (List.mem_append_right _ (List.mem_map.mpr ⟨x, hx, rfl⟩)), (ht x hx).2⟩⟩
      rw [List.append_nil] at hq
      exact ⟨h2 p hq, hideL_in (List.mem_append_left _ hq)⟩
    cases h7 : fb (.sb row er :: (ds.map Sl.sh ++ List.replicate m .un)) with
    | none => rw [h7] at h6; cases h6
    | some o =>
      rw [h7] at h6
      refine hs ⟨hideL ([a, dx, q] ++ T.map Prod.fst) H, B, some a, T⟩ rfl _ _ H B _ o h7 r0 (fun e' σ' H' B' he sb r => ?_) (fun s' e' v σ' H' B' he sb r => ?_)
      · subst he
        obtain ⟨rfl, h8, _⟩ := lentT_some h6
        exact qq _ H' B' sb ((r.cons (d := .none) .non).twoT rfl h8)
      · subst he
        obtain ⟨rfl, h8, _⟩ := lentT_some h6
        exact qq v H' B' sb (r.twoT rfl h8)
end
/-- f(street, ..) -/
theorem sx_fnTT {i : Nat} {C : Addr} {F : FT} {t : TA} {fa : M (List PyData)} (k : StreetOk K C) (hsub : ∀ x ∈ T0, x ∈ T) (hun : ∀ x ∈ T, ∀ y ∈ T0, x.1 = y.1 → x = y) (ha : SA K T t fa) : SX K T (tCall (spTT K T0 F) [] E0 (tCons (tVar i) t)) (xMethT i F fa) := fun W hT σ H B e s e' Q hf r q => by
  unfold xMethT at hf
  cases h0 : strOf e[i]? with
  | none => rw [h0] at hf; cases hf
  | some p0 =>
    obtain ⟨row0, er0⟩ := p0
    rw [h0] at hf
    obtain ⟨ds, e1, h1, h2⟩ := bnd_some hf
    obtain ⟨a, dx, q', C', vr, ws, g1, g2, g3, _⟩ := r.str h0
    refine ⟨_, g1, ha W hT σ H B e ds e1 _ h1 r fun vs H1 B1 s1 r1 dv => ?_⟩
    cases h3 : strOf e1[i]? with
    | none => rw [h3] at h2; cases h2
    | some p =>
      obtain ⟨row, er⟩ := p
      simp only [h3] at h2
      cases h4 : F row er ds with
      | none => rw [h4] at h2; cases h2
      | some z =>
        obtain ⟨s', row1, er1⟩ := z
        simp only [h4] at h2
        by_cases c : free s' = true
        · rw [if_pos c] at h2
          cases h2
          rw [List.append_nil]
          cases h5 : e1[i]? with
          | none => rw [h5] at h3; cases h3
          | some sl =>
            rw [h5] at h3
            obtain ⟨o, bs, b1, b2, b3, b4, bt, b5⟩ := r1.lendT (T0 := T0) h5 (by rw [hT]; exact hsub) (by rw [hT]; exact hun)
            rw [g1] at b1
            cases Option.some.inj b1
            cases sl with
            | st r2 er2 =>
              cases h3
              rw [setStr_st h5] at q
              cases b2 with
              | @st _ dx2 q2 _ _ sa => exact ⟨B1, a, dx2, q2, row, er, vs, ds, s, row1, er1, rfl, sa, b4, b3, r1.bh, dv, bt, h4, fun v H' B' sb r' => q v H' B' (s1.trans sb) (b5 v s _ (.st row1 er1) H' B' _ sb r' c fun as z => by cases z with | sb _ sa => exact .st sa)⟩
            | sb r2 er2 =>
              cases h3
              rw [setStr_sb h5] at q
              cases b2 with
              | @sb _ dx2 q2 _ _ eb sa => exact ⟨B1, a, dx2, q2, row, er, vs, ds, s, row1, er1, rfl, sa, b4, b3, r1.bh, dv, bt, h4, fun v H' B' sb r' => q v H' B' (s1.trans sb) (b5 v s _ (.sb row1 er1) H' B' _ sb r' c fun as z => by cases z with | sb _ sa => exact .sb eb sa)⟩
            | _ => cases h3
        · rw [if_neg c] at h2
          cases h2
end VL
end
section
set_option Elab.async false
set_option linter.all false
set_option maxRecDepth 100000
set_option maxHeartbeats 2000000
namespace VL
open PySem PySem.Spec PyProof.Rows L2 HT PySem.W PySem.Calls LamX
/-! ### == by an own __eq__, len by an own __len__ -/
section
variable {X : Cx}
def rEqOwn (K : PySem.W.Frag) (C : Addr) (sp : Sp) : R2 := fun x y H Q => ∃ (a dx : Addr) (fs : List (Str × V)), x = .ref a ∧ H a = some (.ins C dx fs) ∧ ((∃ b dy gs, y = .ref b ∧ H b = some (.ins C dy gs)) ∨ ∃ b xs, y = .ref b ∧ SqT K H b xs ∧ PySem.W.subIn K (.type "tuple") (.ref C) = some false) ∧
  sp [x, y] H (fun v H' => ∃ b, v = .bl b ∧ Q v H') E0
theorem op_eqOwn {C f : Addr} {fd : FuncData} {ps : List Str} {sp : Sp} {n : Nat} (F : FnOk X.prog X.w X.K X.mg X.base CX0 n f fd ps sp) (hs : PySem.W.findIn X.K (.ref C) "__eq__" = some (some (.ref f))) (hf : PySem.W.isFn X.K (.ref f) = true) (hb : Binds X.K fd ps []) (hr : Room n X.A) : OpR X (compareOp .Eq) (rEqOwn X.K C sp) := by
  intro pins s σ H x y v u Q I rx ry h
  obtain ⟨a, dx, fs, rfl, ha, hy, hsp⟩ := h
  cases rx
  obtain ⟨mA, O, _⟩ := ins_get I.hok ha
  obtain ⟨od, J, _⟩ := O.look
  obtain ⟨m, hF⟩ := I.fr
  have ty : ∃ tb, PySem.W.Looks (model X.prog X.w) s.heap (typeOf u) tb ∧ PySem.W.notFirst X.K C tb = true := by
    rcases hy with ⟨b, dy, gs, rfl, hb'⟩ | ⟨b, xs, rfl, hb', hsub⟩
    · cases ry
      obtain ⟨mB, O2, _⟩ := ins_get I.hok hb'
      obtain ⟨od2, J2, _⟩ := O2.look
      exact ⟨.ref C, J2.type, by simp [PySem.W.notFirst]⟩
    · cases ry
      obtain ⟨its, _, ⟨o, h1, h2, _⟩, _⟩ := I.tuple hb'
      exact ⟨.type "tuple", h2 ▸ (PySem.W.Looks.ld h1).andThen .now, by simp [PySem.W.notFirst, hsub]⟩
  obtain ⟨tb, lk, nf⟩ := ty
  refine PySem.W.cmp_K (op := .Eq) hr.units0 hF I.ok.mod.kin J lk nf hs hf ?_
  have hl := F.len _ _ _ _ hsp
  have r2 : Vals [V.ref a, y] [Value.ref a, u] := .cons rfl (.cons ry .nil)
  have bd := hb s [.ref a, u] I.kIn (by simpa using hl)
  rw [List.append_nil] at bd
  refine wpAny_call (codeAny_mono (F.run X.A X.stack s H ⟨[.ref a, u], []⟩ [.ref a, u] [.ref a, y] _ E0 hr I.env0 bd r2 hsp) fun r s' hq => ?_)
  cases r with
  | error e => exact (show False from hq).elim
  | ok fl =>
    cases fl with
    | ret w =>
      obtain ⟨z, H', I', rz, b, rfl, q⟩ := I.after hq
      cases rz
      exact ⟨.bl b, H', I', rfl, q⟩
    | next => exact False.elim hq
    | brk => exact False.elim hq
    | cont => exact False.elim hq
def rLenOwn (C : Addr) (sp : Sp) : List V → Hp → VK → Prop := fun vs H Q => ∃ (a dx : Addr) (fs : List (Str × V)), vs = [.ref a] ∧ H a = some (.ins C dx fs) ∧ sp [.ref a] H (fun v H' => ∃ n : Nat, v = .int n ∧ n ≤ 1000000 ∧ Q v H') E0
theorem cr_lenOwn {C f : Addr} {fd : FuncData} {ps : List Str} {sp : Sp} {n : Nat} (F : FnOk X.prog X.w X.K X.mg X.base CX0 n f fd ps sp) (hs : PySem.W.findIn X.K (.ref C) "__len__" = some (some (.ref f))) (hf : PySem.W.isFn X.K (.ref f) = true) (hb : Binds X.K fd ps []) (hr : Room (n + 1) X.A) : CallR X (.builtin "len") (rLenOwn C sp) := by
  intro pins s σ H vs us Q I r h
  obtain ⟨a, dx, fs, rfl, ha, hsp⟩ := h
  rw [Vals.ref1 r]
  obtain ⟨mA, O, _⟩ := ins_get I.hok ha
  obtain ⟨od, J, _⟩ := O.look
  obtain ⟨m, hF⟩ := I.fr
  refine PySem.W.len_K hF I.ok.mod.kin J hs hf ?_
  have hl := F.len _ _ _ _ hsp
  have bd := hb s [.ref a] I.kIn (by simpa using hl)
  rw [List.append_nil] at bd
  have e0 : Env0 X.prog X.w X.K X.mg X.base X.A.in1 X.stack s H := by
    have e := I.env0
    exact ⟨e.frames, e.mod, e.bs, e.bsz, e.funs, e.frf, e.hok, e.bare⟩
  refine wpAny_call (codeAny_mono (F.run X.A.in1 X.stack s H ⟨[.ref a], []⟩ [.ref a] [.ref a] _ E0 hr.in1 e0 bd (.cons rfl .nil) hsp) fun r s' hq => ?_)
  cases r with
  | error e => exact (show False from hq).elim
  | ok fl =>
    cases fl with
    | ret w =>
      obtain ⟨z, H', I', rz, k, rfl, hk, q⟩ := I.after hq
      obtain ⟨t, rfl⟩ := rz
      exact ⟨⟨by omega, by omega⟩, .int k, H', I'.kept (t' := s'.toks + 1) (fun _ _ z => z), ⟨_, rfl⟩, q⟩
    | next => exact False.elim hq
    | brk => exact False.elim hq
    | cont => exact False.elim hq
end
end VL
end
section
set_option Elab.async false
set_option linter.all false
set_option maxRecDepth 100000
set_option maxHeartbeats 2000000
namespace VL
open PySem PySem.Spec PyProof.Rows L2 HT PySem.W PySem.Calls LamX
variable {K : PySem.W.Frag} {T : List (Addr × Str)}
/-! ### == of streets -/
def spEqS (K : PySem.W.Frag) (C : Addr) : Sp := fun vs H Q _ => ∃ (a dx : Addr) (fs : List (Str × V)) (vr : V) (row : PyData) (y : V), vs = [.ref a, y] ∧ H a = some (.ins C dx fs) ∧ fs.lookup ("row" : Str) = some vr ∧ Dp K H vr row ∧ SeqAt.shaped row = true ∧
  ((∃ (b dy : Addr) (gs : List (Str × V)) (vr2 : V) (row2 : PyData), y = .ref b ∧ H b = some (.ins C dy gs) ∧ gs.lookup ("row" : Str) = some vr2 ∧ Dp K H vr2 row2 ∧ SeqAt.shaped row2 = true ∧ Q (.bl (PyData.eqv row row2)) H) ∨ ∃ (ds : List PyData), Dp K H y (.tuple ds) ∧ Q (.bl false) H)
/-- what == asks of the class -/
structure EqF (K : PySem.W.Frag) (C : Addr) : Prop where
  ha : PySem.W.findIn K (.ref C) "__class__" = some (some (.builtin "object.__class__"))
  hn : PySem.W.specialIn K (.builtin "object.__class__") "__get__" = some (some (.builtin "getset_descriptor.__get__"))
  htk : PySem.W.takesIn K (.builtin "object.__class__") = some true
  hm : PySem.W.mroIn K C (.type "object") = some true
  st : PySem.W.subIn K (.type "tuple") (.ref C) = some false
  kt : PySem.W.kitOne K (.type "tuple") (.ref C) = some false
theorem kit_self {C : Addr} : PySem.W.kitOne K (.ref C) (.ref C) = some true := by
  unfold PySem.W.kitOne
  rw [if_pos (beq_self_eq_true _)]
def eEqS (i j : Nat) : M PyData := fun e => match strOf e[i]? with
  | none => none
  | some (r1, _) => match strOf e[j]? with
    | none => none
    | some (r2, _) => if SeqAt.shaped r1 = true ∧ SeqAt.shaped r2 = true then some (.bool (PyData.eqv r1 r2), e) else none
theorem se_eqS {C : Addr} {i j : Nat} (k : StreetOk K C) : SE K T (tOp (rEqOwn K C (spEqS K C)) (tVar i) (tVar j)) (eEqS i j) := fun W hT σ H B e d e' Q hf r q => by
  unfold eEqS at hf
  cases h0 : strOf e[i]? with
  | none => rw [h0] at hf; cases hf
  | some p =>
    obtain ⟨r1, er1⟩ := p
    simp only [h0] at hf
    cases h1 : strOf e[j]? with
    | none => rw [h1] at hf; cases hf
    | some p2 =>
      obtain ⟨r2, er2⟩ := p2
      simp only [h1] at hf
      by_cases c : SeqAt.shaped r1 = true ∧ SeqAt.shaped r2 = true
      · rw [if_pos c] at hf
        cases hf
        obtain ⟨a, dx, q1, C1, vr, ws, g1, g2, g3, _, _, g4, _⟩ := r.str h0
        obtain ⟨b, dy, q2, C2, vr2, ws2, f1, f2, f3, _, _, f4, _⟩ := r.str h1
        rw [k.ns] at g2 f2
        cases Option.some.inj (Option.some.inj g2)
        cases Option.some.inj (Option.some.inj f2)
        exact ⟨_, g1, _, f1, a, dx, _, rfl, g3, .inl ⟨b, dy, _, rfl, f3⟩, a, dx, _, vr, r1, _, rfl, g3, rfl, dp_mono r.bh g4, c.1, .inl ⟨b, dy, _, vr2, r2, rfl, f3, rfl, dp_mono r.bh f4, c.2, _, rfl, q _ H B (Same.refl B) r (.bl _)⟩⟩
      · rw [if_neg c] at hf
        cases hf
/-- street == data -/
def isTupD : PyData → Bool
  | .tuple _ => true
  | _ => false
def eEqD (i : Nat) (f : M PyData) : M PyData := fun e => match strOf e[i]? with
  | none => none
  | some _ => bnd (f e) fun d e1 => match strOf e1[i]? with
    | none => none
    | some (r1, _) => if SeqAt.shaped r1 = true ∧ isTupD d = true then some (.bool false, e1) else none
theorem se_eqD {C : Addr} {i : Nat} {t : TE} {f : M PyData} (k : StreetOk K C) (x : EqF K C) (h : SE K T t f) : SE K T (tOp (rEqOwn K C (spEqS K C)) (tVar i) t) (eEqD i f) := fun W hT σ H B e d e' Q hf r q => by
  unfold eEqD at hf
  cases h0 : strOf e[i]? with
  | none => rw [h0] at hf; cases hf
  | some p =>
    simp only [h0] at hf
    obtain ⟨d1, e1, h1, h2⟩ := bnd_some hf
    obtain ⟨a, dx, q1, C1, vr, ws, g1, _⟩ := r.str h0
    refine ⟨_, g1, h W hT σ H B e d1 e1 _ h1 r fun v H1 B1 s1 r1 dv => ?_⟩
    cases h3 : strOf e1[i]? with
    | none => rw [h3] at h2; cases h2
    | some p =>
      obtain ⟨row, er⟩ := p
      simp only [h3] at h2
      by_cases c : SeqAt.shaped row = true ∧ isTupD d1 = true
      · rw [if_pos c] at h2
        cases h2
        obtain ⟨a', dx', q', C', vr', ws', f1, f2, f3, _, _, f4, _⟩ := r1.str h3
        rw [g1] at f1
        cases Option.some.inj (Option.some.inj f1)
        rw [k.ns] at f2
        cases Option.some.inj (Option.some.inj f2)
        cases d1 with
        | tuple ds =>
          obtain ⟨b, xs, rfl, hs, _⟩ := dp_tup dv
          exact ⟨a, dx', _, rfl, f3, .inr ⟨b, xs, rfl, seqT r1.bh hs, x.st⟩, a, dx', _, vr', row, _, rfl, f3, rfl, dp_mono r1.bh f4, c.1, .inr ⟨ds, dp_mono r1.bh dv, _, rfl, q _ H1 B1 s1 r1 (.bl _)⟩⟩
        | _ => cases c.2
      · rw [if_neg c] at h2
        cases h2
/-- street == Street() -/
def eEqN (i : Nat) : M PyData := fun e => match strOf e[i]? with
  | none => none
  | some (r1, _) => if SeqAt.shaped r1 = true then some (.bool (PyData.eqv r1 (.tuple [])), e) else none
theorem se_eqN {C : Addr} {i : Nat} (k : StreetOk K C) : SE K T (tOp (rEqOwn K C (spEqS K C)) (tVar i) (tMake C (spI C) [] E0 tNil)) (eEqN i) := fun W hT σ H B e d e' Q hf r q => by
  unfold eEqN at hf
  cases h0 : strOf e[i]? with
  | none => rw [h0] at hf; cases hf
  | some p =>
    obtain ⟨r1, er1⟩ := p
    simp only [h0] at hf
    by_cases c : SeqAt.shaped r1 = true
    · rw [if_pos c] at hf
      cases hf
      obtain ⟨a, dx, q1, C1, vr, ws, g1, _⟩ := r.str h0
      refine ⟨_, g1, ?_⟩
      refine sx_mkT (T := T) k W hT σ H B e _ e _ rfl r fun v H1 B1 s1 r2 => ?_
      have h1 : strOf (Sl.st (.tuple []) [] :: e)[0]? = some (.tuple [], []) := rfl
      have h2 : strOf (Sl.st (.tuple []) [] :: e)[i + 1]? = some (r1, er1) := h0
      obtain ⟨b, dy, q2, C2, vr2, ws2, f1, f2, f3, _, _, f4, _⟩ := r2.str h1
      obtain ⟨a', dx', q3, C3, vr3, ws3, k1, k2, k3, _, _, k4, _⟩ := r2.str h2
      have k1 : σ[i]? = some (some (.ref a')) := k1
      rw [g1] at k1
      cases Option.some.inj (Option.some.inj k1)
      have f1 : some (some v) = some (some (.ref b)) := f1
      cases Option.some.inj (Option.some.inj f1)
      rw [k.ns] at f2 k2
      cases Option.some.inj (Option.some.inj f2)
      cases Option.some.inj (Option.some.inj k2)
      exact ⟨a, dx', _, rfl, k3, .inl ⟨b, dy, _, rfl, f3⟩, a, dx', _, vr3, r1, _, rfl, k3, rfl, dp_mono r2.bh k4, c, .inl ⟨b, dy, _, vr2, .tuple [], rfl, f3, rfl, dp_mono r2.bh f4, by decide, _, rfl, q _ H1 B1 s1 r2.tail (.bl _)⟩⟩
    · rw [if_neg c] at hf
      cases hf
/-! ### len of a street -/
def eLenS (i : Nat) (F : FT) : M PyData := fun e => match strOf e[i]? with
  | none => none
  | some (row, er) => match F row er [] with
    | some (.sh (.int (.ofNat n)), row1, er1) => if Nat.ble n 1000000 = true then some (.int (.ofNat n), setStr e i row1 er1) else none
    | _ => none
theorem se_lenS {C : Addr} {i : Nat} {F : FT} (k : StreetOk K C) : SE K T (tCB (rLenOwn C (spT K F)) (tCons (tVar i) tNil)) (eLenS i F) := fun W hT σ H B e d e' Q hf r q => by
  unfold eLenS at hf
  cases h0 : strOf e[i]? with
  | none => rw [h0] at hf; cases hf
  | some p =>
    obtain ⟨row, er⟩ := p
    simp only [h0] at hf
    split at hf
    · rename_i n row1 er1 hF
      by_cases c : Nat.ble n 1000000 = true
      · rw [if_pos c] at hf
        cases hf
        obtain ⟨a, dx, q1, C1, vr, ws, g1, g2, g3, _⟩ := r.str h0
        rw [k.ns] at g2
        cases Option.some.inj (Option.some.inj g2)
        refine ⟨_, g1, a, dx, _, rfl, g3, ?_⟩
        have fin : ∀ v, Dp K B v (.int (.ofNat n)) → v = .int (n : Nat) := fun v hv => dp_int hv
        cases h5 : e[i]? with
        | none => rw [h5] at h0; cases h0
        | some sl =>
          rw [h5] at h0
          obtain ⟨o, bs, b1, b2, b3, b4, b5⟩ := r.lend h5
          rw [g1] at b1
          cases Option.some.inj b1
          have main : ∀ (dx2 q2 : Addr) (mk : PyData → List PyData → Sl), bs = [a, dx2, q2] → StAt K H B a dx2 q2 row er → (∀ r er, setStr e i r er = e.set i (mk r er)) → (∀ H' B' r er as, SlOk K (some a) H' B' (some (.ref a)) (.sb r er) as → SlOk K W.bp H' B' (some (.ref a)) (mk r er) as) → spT K F [.ref a] H (fun v H' => ∃ n : Nat, v = .int n ∧ n ≤ 1000000 ∧ Q v H') E0 := by
            intro dx2 q2 mk eb sa hset hmk
            subst eb
            refine ⟨B, a, dx2, q2, row, er, [], [], _, row1, er1, rfl, sa, b4, b3, r.bh, .nil, hF, fun v H' B' sb r' => ?_⟩
            have r2 := b5 v _ _ (mk row1 er1) H' B' _ sb r' rfl (fun as => hmk H' B' row1 er1 as)
            rw [← hset] at r2
            exact ⟨n, dp_int r2.head, Nat.le_of_ble_eq_true c, q v H' B' sb r2.tail r2.head⟩
          cases sl with
          | st r2 er2 =>
            cases h0
            cases b2 with
            | @st _ dx2 q2 _ _ sa => exact main dx2 q2 .st rfl sa (fun r er => setStr_st h5) fun H' B' r er as z => by cases z with | sb _ sa => exact .st sa
          | sb r2 er2 =>
            cases h0
            cases b2 with
            | @sb _ dx2 q2 _ _ eb sa => exact main dx2 q2 .sb rfl sa (fun r er => setStr_sb h5) fun H' B' r er as z => by cases z with | sb _ sa => exact .sb eb sa
          | _ => cases h0
      · rw [if_neg c] at hf
        cases hf
    · cases hf
/-! ### a, b = x, y -/
def sPar (i j : Nat) (fa : M (List PyData)) : Ev → Option Out := fun e => bnd (fa e) fun ds e1 => match ds with
  | [a, b] => some (.nx ((e1.set i (.sh a)).set j (.sh b)))
  | _ => none
theorem ss_par {i j : Nat} {t : TA} {fa : M (List PyData)} (h : SA K T t fa) : SS K T (tPar i j t) (sPar i j fa) := fun W hT D σ H B e o hf r qn qr => by
  obtain ⟨ds, e1, h1, h2⟩ := bnd_some hf
  refine h W hT σ H B e ds e1 _ h1 r fun vs H1 B1 s1 r1 dv => ?_
  split at h2
  · cases h2
    cases dv with
    | cons a b =>
      cases b with
      | cons b c =>
        cases c
        exact ⟨_, _, rfl, qn _ _ H1 B1 rfl s1 ((r1.put i a).put j b)⟩
  · cases h2
/-- xs, a = [], y -/
def sParL (i j : Nat) (fb : M PyData) : Ev → Option Out := fun e => bnd (fb e) fun d e1 => some (.nx ((e1.set i (.ow [])).set j (.sh d)))
theorem ss_parL {i j : Nat} {t : TE} {fb : M PyData} (h : SE K T t fb) : SS K T (tPar i j (tCons (tLst tNil) (tCons t tNil))) (sParL i j fb) := fun W hT D σ H B e o hf r qn qr => by
  obtain ⟨d, e1, h1, h2⟩ := bnd_some hf
  cases h2
  refine ⟨Nat.zero_le _, fun p hp => ?_⟩
  have r1 := r.born (ds := []) hp .nil
  obtain ⟨p', xs, ep, hp', ha, rp, back⟩ := r1.park
  cases ep
  refine h (W.hold p (.lst xs)) hT σ _ B e d e1 _ h1 rp fun v H2 B2 s2 r2 dv => ?_
  obtain ⟨r3, _⟩ := back σ H2 B2 e1 s2 r2
  exact ⟨_, _, rfl, qn _ _ H2 B2 rfl s2 ((r3.take i).put j dv)⟩
end VL
end
section
set_option Elab.async false
set_option linter.all false
set_option maxRecDepth 100000
set_option maxHeartbeats 2000000
namespace VL
open PySem PySem.Spec PyProof.Rows L2 HT PySem.W PySem.Calls LamX
variable {K : PySem.W.Frag} {T : List (Addr × Str)}
/-! ### a street's earlier rows -/
def bEarl (i : Nat) : M Bool := fun e => match strOf e[i]? with
  | none => none
  | some (_, er) => some (!er.isEmpty, e)
theorem st_earl {C : Addr} {i : Nat} (k : StreetOk K C) : ST K T (fun σ H Q => tFld K (tVar i) "earlier_rows" σ H fun x H' => ∃ k, TruV K x H' k ∧ Q k H') (bEarl i) := fun W hT σ H B e b e' Q hf r q => by
  unfold bEarl at hf
  cases h0 : strOf e[i]? with
  | none => rw [h0] at hf; cases hf
  | some p =>
    obtain ⟨row, er⟩ := p
    rw [h0] at hf
    cases hf
    obtain ⟨a, dx, q', C', vr, ws, g1, g2, g3, g4, g5, g6, g7, _⟩ := r.str h0
    rw [k.ns] at g2
    cases Option.some.inj (Option.some.inj g2)
    refine ⟨_, g1, a, C, dx, _, .ref q', rfl, g3, k.cls, k.ne, rfl, !er.isEmpty, .inl ⟨ws, SqL.of g5, ?_⟩, q H B (Same.refl B) r⟩
    have := dpAll_len g7
    cases ws <;> cases er <;> first | rfl | cases this
theorem str_at {e : Ev} {i : Nat} {row row' : PyData} {er er' : List PyData} (h : strOf e[i]? = some (row, er)) : strOf (setStr e i row' er')[i]? = some (row', er') := by
  cases h5 : e[i]? with
  | none => rw [h5] at h; cases h
  | some sl =>
    obtain ⟨hi, _⟩ := List.getElem?_eq_some_iff.mp h5
    rw [h5] at h
    cases sl with
    | st _ _ => rw [setStr_st h5, List.getElem?_set_self hi]; rfl
    | sb _ _ => rw [setStr_sb h5, List.getElem?_set_self hi]; rfl
    | _ => cases h
theorem str_set {e : Ev} {i : Nat} {row r1 r2 : PyData} {er e1 e2 : List PyData} (h : strOf e[i]? = some (row, er)) : setStr (setStr e i r1 e1) i r2 e2 = setStr e i r2 e2 := by
  cases h5 : e[i]? with
  | none => rw [h5] at h; cases h
  | some sl =>
    obtain ⟨hi, _⟩ := List.getElem?_eq_some_iff.mp h5
    rw [h5] at h
    cases sl with
    | st _ _ => rw [setStr_st h5, setStr_st (List.getElem?_set_self hi), setStr_st h5, List.set_set]
    | sb _ _ => rw [setStr_sb h5, setStr_sb (List.getElem?_set_self hi), setStr_sb h5, List.set_set]
    | _ => cases h
theorem dpAll_drop1 {H : Hp} : ∀ {vs : List V} {ds : List PyData}, DpAll K H vs ds → DpAll K H vs.dropLast ds.dropLast := dpAll_dropLast
/-- self.row = self.earlier_rows.pop() -/
def sBack (i : Nat) : Ev → Option Out := fun e => match strOf e[i]? with
  | none => none
  | some (_, er) => match er[er.length - 1]? with
    | none => none
    | some d => some (.nx (setStr e i d er.dropLast))
theorem ss_back {C : Addr} {i : Nat} (k : StreetOk K C) : SS K T (sFld K (tVar i) (tBM0 K "list" rPop (tFld K (tVar i) "earlier_rows")) "row") (sBack i) := fun W hT D σ H B e o hf r qn qr => by
  unfold sBack at hf
  cases h0 : strOf e[i]? with
  | none => rw [h0] at hf; cases hf
  | some p =>
    obtain ⟨row, er⟩ := p
    simp only [h0] at hf
    cases h1 : er[er.length - 1]? with
    | none => rw [h1] at hf; cases hf
    | some d =>
      rw [h1] at hf
      cases hf
      obtain ⟨a, dx, q', C', vr, ws, g1, g2, g3, g4, g5, g6, g7, nd, g8⟩ := r.str h0
      have g2' := g2
      rw [k.ns] at g2'
      cases Option.some.inj (Option.some.inj g2')
      obtain ⟨y, hy, dy⟩ := dpAll_getD g7 h1
      rw [← dpAll_len g7] at hy
      have nqa : a ≠ q' := fun z => by subst z; simp at nd
      have nqd : dx ≠ q' := fun z => by subst z; simp at nd
      have r2 := g8 q' (.lst ws.dropLast) row er.dropLast (by simp) ⟨C, vr, ws.dropLast, g2, by rw [upd_ne nqa]; exact g3, by rw [upd_ne nqd]; exact g4, upd_same, g6, dpAll_dropLast g7⟩
      have h2 := str_at (row' := row) (er' := er.dropLast) h0
      obtain ⟨a2, dx2, q2, C2, vr2, ws2, f1, f2, f3, f4, f5, f6, f7, nd2, f8⟩ := r2.str h2
      rw [g1] at f1
      cases Option.some.inj (Option.some.inj f1)
      have f2' := f2
      rw [k.ns] at f2'
      cases Option.some.inj (Option.some.inj f2')
      have nda : dx2 ≠ a := fun z => by subst z; simp at nd2
      have nqa2 : q2 ≠ a := fun z => by subst z; simp at nd2
      refine ⟨_, g1, a, C, dx, _, _, rfl, g3, k.cls, k.ne, rfl, .inl ⟨rfl, _, SqL.of g5⟩, q', ws, y, rfl, rfl, g5, hy, _, g1, a, C, dx2, _, rfl, f3, k.cls, k.nr, (by show 2 < 1000; decide), ?_⟩
      have r3 := f8 a (.ins C dx2 [("row", y), ("earlier_rows", .ref q2)]) d er.dropLast (by simp) ⟨C, y, ws2, f2, upd_same, by rw [upd_ne nda]; exact f4, by rw [upd_ne nqa2]; exact f5, dy, f7⟩
      rw [str_set h0] at r3
      exact qn _ σ _ B rfl (Same.refl B) r3
/-! ### two streets and a list of rows -/
def sInit (i j l : Nat) : Ev → Option Out := fun e => some (.nx (((e.set l (.ow [.tuple []])).set j (.st (.tuple []) [])).set i (.st (.tuple []) [])))
theorem ss_init {C : Addr} {i j l : Nat} (k : StreetOk K C) (hij : i ≠ j) (hil : i ≠ l) (hjl : j ≠ l) : SS K T (tAsg (tTup (tCons (tMake C (spI C) [] E0 tNil) (tCons (tMake C (spI C) [] E0 tNil) (tCons (tLst (tCons (tTup tNil) tNil)) tNil)))) (gTup K 3 (gCons (gName i) (gCons (gName j) (gCons (gName l) gNil))))) (sInit i j l) := fun W hT D σ H B e o hf r qn qr => by
  cases hf
  have un : tAsg (tTup (tCons (tMake C (spI C) [] E0 tNil) (tCons (tMake C (spI C) [] E0 tNil) (tCons (tLst (tCons (tTup tNil) tNil)) tNil)))) (gTup K 3 (gCons (gName i) (gCons (gName j) (gCons (gName l) gNil)))) D σ H = tMake C (spI C) [] E0 tNil σ H (fun v1 H1 => tMake C (spI C) [] E0 tNil (some v1 :: σ) H1 fun v2 H2 => tLst (tCons (tTup tNil) tNil) (some v2 :: some v1 :: σ) H2 fun v3 H3 => [v1, v2, v3].length ≤ sizeLine ∧ ∀ p, H3 p = none → gTup K 3 (gCons (gName i) (gCons (gName j) (gCons (gName l) gNil))) (.ref p) σ (upd H3 p (.tup [v1, v2, v3])) D.nx) := rfl
  rw [un]
  refine sx_mkT (T := T) k W hT σ H B e _ e _ rfl r fun v1 H1 B1 s1 r1 => ?_
  refine sx_mkT (T := T) k W hT (some v1 :: σ) H1 B1 _ _ _ _ rfl r1 fun v2 H2 B2 s2 r2 => ?_
  refine sx_lst (K := K) (T := T) (sa_cons (se_tup sa_nil) sa_nil) W hT (some v2 :: some v1 :: σ) H2 B2 _ (.ow [.tuple []]) _ _ rfl r2 fun v3 H3 B3 s3 r3 => ?_
  refine ⟨(by show 3 ≤ sizeLine; decide), fun p hp => ?_⟩
  have r4 := r3.ext (Ext.gone (o := .tup [v1, v2, v3]) r3.bh hp)
  refine ⟨p, [v1, v2, v3], rfl, SqT.of upd_same, rfl, v1, [v2, v3], rfl, v2, [v3], rfl, v3, [], rfl, rfl, ?_⟩
  have r5 := ((r4.take (l + 2)).take (j + 1)).take i
  have e1 : ((σ.set l (some v3)).set j (some v2)).set i (some v1) = ((σ.set i (some v1)).set j (some v2)).set l (some v3) := by
    rw [List.set_comm _ _ hij.symm, List.set_comm (i := l) (j := i) _ _ (Ne.symm hil), List.set_comm (i := l) (j := j) _ _ (Ne.symm hjl)]
  refine qn _ _ _ B3 rfl ((s1.trans s2).trans s3) ?_
  rw [← e1]
  exact r5
end VL
end
section
set_option Elab.async false
set_option linter.all false
set_option maxRecDepth 100000
set_option maxHeartbeats 2000000
namespace VL
open PySem PySem.Spec PyProof.Rows L2 HT PySem.W PySem.Calls LamX
variable {K : PySem.W.Frag} {T : List (Addr × Str)}
/-! ### the law itself, with tables -/
def notTab (H : Hp) : Hp := fun b => match H b with
  | some (.tbl _) => none
  | o => o
theorem notTab_sub {H : Hp} : Same (notTab H) H := fun b o h => by
  unfold notTab at h
  split at h
  · cases h
  · exact h
theorem notTab_at {H : Hp} {b : Addr} {o : HO} (h : H b = some o) (n : ∀ ps, o ≠ .tbl ps) : notTab H b = some o := by
  unfold notTab
  rw [h]
  split
  · rename_i ps e
    exact absurd (Option.some.inj e) (n ps)
  · rfl
theorem notTab_none {H : Hp} {b : Addr} {ps : Array Value} (h : H b = some (.tbl ps)) : notTab H b = none := by
  unfold notTab
  rw [h]
def spL (K : PySem.W.Frag) (T : List (Addr × Str)) (F : List PyData → Option Sl) : Sp := fun vs H Q _ => ∃ (a : Addr) (ns : List Int), vs = [.ref a] ∧ SqL K H a (ns.map V.int) ∧ (∀ x ∈ T, ∃ ps, Tab1 H x.1 x.2 ps) ∧ F [.list (ns.map PyData.int)] = some (.sh (.bool true)) ∧ ∀ H', Q (.bl true) H'
theorem ints_dp {H : Hp} : ∀ ms : List Int, DpAll K H (ms.map V.int) (ms.map PyData.int)
  | [] => .nil
  | m :: ms => .cons (.int m) (ints_dp ms)
section
variable {P : Program} {w : World} {mg : Str → Option Value} {base : Heap}
theorem okL {x qual : Str} {st : Stmt} {f c : Addr} {fd : FuncData} {N ps : List Str} {k m : Nat} {t : TS} {fb : Ev → Option Out} (hcode : ∀ x q params body scope dV kV doc pm an cdv ct, fd = PySem.W.fnOf x q params body scope dV kV doc pm an cdv ct → cdv = .ref c) (hs : SS K T t fb) (F : Fun K x qual st f fd) (S : FnScope N ps (defScope st)) (hN : N.length = 1 + m) (hp : ps.length = 1)
    (hb : ∀ (A : Around) (outer : List Env) (s : Shared) (H : Hp) (E : XK), Room k (A.deeper (envOfC qual (defScope st) s.heap.objs.size f (.ref c))) → PSs (cxOf CX0 P w K mg base N qual (defScope st) f (.ref c) A outer s H E).nox (defBody st) t) :
    FnOk P w K mg base CX0 (k + 1) f fd ps (spL K T (fnS 1 m fb)) := by
  obtain ⟨oc, od, kV, doc, pm, an, cdv, ct, osl, ef, lk, hcd⟩ := F.ex
  have ec := hcode _ _ _ _ _ _ _ _ _ _ _ _ ef
  subst ec ef
  refine fn_of lk hcd S (fun vs H Q E h => ?_) (fun A outer s H vs Q E hr h => ?_)
  · obtain ⟨a, ns, rfl, _⟩ := h
    rw [hp]
    rfl
  · refine ⟨t, (hb A outer s H E hr).nox, ?_⟩
    obtain ⟨a, ns, rfl, hS, hT, h3, q⟩ := h
    have hS' : SqL K (notTab H) a (ns.map V.int) := by
      rcases hS with (h | ⟨o, h⟩) | h
      · exact .inl (.inl (notTab_at h fun ps z => by cases z))
      · exact .inl (.inr ⟨o, notTab_at h fun ps z => by cases z⟩)
      · exact .inr h
    have dv : DpAll K (notTab H) [V.ref a] [.list (ns.map PyData.int)] := .cons (.lst hS' (ints_dp ns)) .nil
    unfold fnS at h3
    rw [if_pos (show [PyData.list (ns.map PyData.int)].length = 1 from rfl)] at h3
    rw [start_eq hN rfl]
    cases h4 : fb ([PyData.list (ns.map PyData.int)].map Sl.sh ++ List.replicate m .un) with
    | none => rw [h4] at h3; cases h3
    | some o =>
      rw [h4] at h3
      refine hs ⟨fun _ => none, fun _ => none, none, T⟩ rfl _ _ H (notTab H) _ o h4 ⟨[], sls_sh (sls_un m) dv, List.nodup_nil, fun p hp => (by cases hp), notTab_sub, fun b o h => (by cases h), fun b h _ => absurd rfl h, fun x hx => ?_⟩ (fun e' σ' H' B' he sb r => ?_) (fun s' e' v σ' H' B' he sb r => ?_)
      · obtain ⟨ps, t1, t2, t3⟩ := hT x hx
        refine ⟨rfl, notTab_none t1, ps, t1, t2, fun pos cv hc => ?_⟩
        obtain ⟨c0, e1, e2⟩ := t3 pos cv hc
        exact ⟨c0, e1, notTab_at e2 codeO_ne⟩
      · subst he
        cases h3
      · subst he
        cases h3
        cases dp_bl r.one.head
        exact q H'
end
/-! ### the end -/
theorem walk_tabs {l : PySem.W.OpenLaw} {n k : Nat} {q : Program} {loose : List Str} {XP : (Str → Option Value) → Heap → Prop} {YP : World → Heap → Prop} {d : DefRec} {K : Params → PySem.W.Frag} {CX : World → CXT} {x : Str}
    (hn : l.most = some n) (hn2 : n ≤ sizeLine) (hdf : d.params.defaults = []) (hr : Room k callerA) (hY : ∀ (w : World) (h : Heap), YP w h → (K w.params).In h)
    (F : ∀ (w : World) (mg : Str → Option Value) (fa : Addr) (h : Heap), (K w.params).In h → h.Ns mainGlobals mg → mg d.name = some (.ref fa) → (∀ y b, ((recsOf q).any fun e => e.name == y) = true → mg y = some (.ref b) → OwnTab (K w.params) b h) → LawAtS l w (K w.params) (CX w) k n x mg fa h)
    (hCX : ∀ (w : World) (H : Hp) (s : Shared) (e : Value) (s' : Shared), CX w [] H s (fun _ _ _ => False) e s' → False) :
    PySem.W.WalkO q loose XP YP l.row.toRowW d [] (fun f vs => PySem.call f vs) := by
  refine Att.attach_callB hn hdf fun w s₀ s₁ mg mb fa o pm cd doc a vs ns G Y ho hd hcd hmg hobj hints hlen hbits hg => ?_
  have KX := hY w _ Y
  have all : ∀ y b, ((recsOf q).any fun e => e.name == y) = true → mg y = some (.ref b) → OwnTab (K w.params) b s₁.heap := by
    intro y b hy hb c P ob fd e dd us sl k1 k2 k3 k4 k5
    obtain ⟨r, hr1, hr2⟩ := List.any_eq_true.mp hy
    obtain ⟨b', o', fd', c', P', t1, t2, t3, t4, t5, ⟨oc, vc, u1, _, u3, u4⟩, t6⟩ := G.T.tab r hr1
    rw [beq_iff_eq.mp hr2, hb] at t1
    obtain rfl : b = b' := Value.ref.inj (Option.some.inj t1)
    obtain rfl : o' = ob := Option.some.inj (t2.symm.trans (KX _ _ k1))
    obtain rfl : fd = fd' := Data.func.inj (k2.symm.trans t3)
    obtain rfl : c = c' := Value.ref.inj (k3.symm.trans t4)
    have z := u1.symm.trans (KX _ _ k4)
    cases z
    cases u3
    rw [k5] at u4
    obtain rfl : P = P' := Value.ref.inj (Option.some.inj u4)
    exact t6
  obtain ⟨fd, cs, sp, hT, nT, C, hb, hsp, hF⟩ := F w mg fa _ KX G.T.g hmg all
  exact law_callTs KX G.T.g G.T.b G.T.builtins G.T.nolimit hg hT nT C G.T.bmain hobj hints (Nat.le_trans hlen hn2) hr hF hb (fun H hH hS => hsp H a ns hlen hbits hH hS) fun H e s' => hCX w H s₁ e s'
/-- a def that makes lambdas: its code and its table -/
def TabF (K : PySem.W.Frag) (x : Str) (st : Stmt) (f c P : Addr) : Prop := ∃ (oc kV doc pm ct e : Value) (od an dd : Option Addr) (osl sl : Array (Option Value)) (vs : Array Value), PySem.W.nsIn K mainGlobals x = some (some (.ref f)) ∧
  K.lookup f = some ⟨oc, od, .func (PySem.W.fnOf x x (defArgs st) (defBody st) (defScope st) .none kV doc pm an (.ref c) ct), osl⟩ ∧ PySem.W.codeIn K (.ref c) x = true ∧ PySem.W.keepIn K (.ref f) = true ∧
  K.lookup c = some ⟨e, dd, .fields vs, sl⟩ ∧ vs[11]? = some (.ref P) ∧ PySem.W.codeHdIn K c P = true ∧ K.lookup P = none
end VL
end
section
set_option Elab.async false
set_option linter.all false
set_option maxRecDepth 100000
set_option maxHeartbeats 2000000
namespace VL
open PySem PySem.Spec PyProof.Rows L2 HT PySem.W LamX
variable {K : PySem.W.Frag} {h : Heap} {mg : Str → Option Value}
/-! ### facts of the top: classes of what is raised -/
def ExF (K : PySem.W.Frag) (x : Str) : Prop := ∃ C : Addr, PySem.W.nsIn K mainGlobals x = some (some (.ref C)) ∧ PySem.W.excIn K C [.type "ValueError", .type "Exception", .type "BaseException", .type "object"] "ValueError.__new__" = true ∧ PySem.W.keepIn K (.ref C) = true ∧ PySem.W.subIn K (.ref C) (.type "BaseException") = some true ∧ PySem.W.typeIn K (.ref C) = some (.type "type")
theorem ExF.at {x : Str} (F : ExF K x) (X : K.In h) (G : h.Ns mainGlobals mg) : ∃ C, PySem.W.nsIn K mainGlobals x = some (some (.ref C)) ∧ ExT K mg x C := by
  obtain ⟨C, a, b, c, d, e⟩ := F
  exact ⟨C, a, ⟨PySem.W.mg_of X G a, b, c, d, e⟩⟩
/-- whether D is of the class x -/
def ClF (K : PySem.W.Frag) (D : Addr) (x : Str) : Prop := ∃ C : Addr, PySem.W.nsIn K mainGlobals x = some (some (.ref C)) ∧ PySem.W.isClsIn K C = true ∧ PySem.W.typeIn K (.ref C) = some (.type "type") ∧ PySem.W.subIn K (.ref D) (.ref C) = some false ∧ (Value.ref D == Value.ref C) = false
theorem ClF.at {x : Str} {D : Addr} (F : ClF K D x) (X : K.In h) (G : h.Ns mainGlobals mg) : ∃ C, mg x = some (.ref C) ∧ PySem.W.kitOne K (.ref D) (.ref C) = some false := by
  obtain ⟨C, a, c, t, s, n⟩ := F
  refine ⟨C, PySem.W.mg_of X G a, ?_⟩
  have c' : (PySem.W.clsIn K C).isSome = true := c
  unfold PySem.W.kitOne
  rw [n, if_neg (by decide)]
  show (if ((PySem.W.clsIn K C).isSome && PySem.W.typeIn K (.ref C) == some (.type "type")) = true then PySem.W.subIn K (.ref D) (.ref C) else none) = some false
  rw [c', t, s]
  rfl
def SelfF (K : PySem.W.Frag) (D : Addr) (x : Str) : Prop := PySem.W.nsIn K mainGlobals x = some (some (.ref D))
theorem SelfF.at {x : Str} {D : Addr} (F : SelfF K D x) (X : K.In h) (G : h.Ns mainGlobals mg) : ∃ C, mg x = some (.ref C) ∧ PySem.W.kitOne K (.ref D) (.ref C) = some true := ⟨D, PySem.W.mg_of X G F, kit_self⟩
theorem kit_ve {D : Addr} (h : PySem.W.subIn K (.ref D) (.type "ValueError") = some true) : PySem.W.kitOne K (.ref D) (.type "ValueError") = some true := by
  have n : (Value.ref D == Value.type "ValueError") = false := rfl
  unfold PySem.W.kitOne
  rw [n, if_neg (by decide)]
  show (if PySem.W.kitMeta "ValueError" = true then PySem.W.subIn K (.ref D) (.type "ValueError") else none) = some true
  rw [h, if_pos (by decide +kernel)]
theorem exm_own {D R : Addr} (r2 : PySem.W.subIn K (.ref R) (.type "BaseException") = some true) (r3 : PySem.W.isClsIn K R = true) (r4 : PySem.W.typeIn K (.ref R) = some (.type "type")) (r5 : PySem.W.subIn K (.ref D) (.ref R) = some true) : PySem.W.exmOne K (.ref D) (.ref R) = some true := by
  have c' : (PySem.W.clsIn K R).isSome = true := r3
  unfold PySem.W.exmOne
  rw [r2, if_pos (by decide)]
  show (if ((PySem.W.clsIn K R).isSome && PySem.W.typeIn K (.ref R) == some (.type "type")) = true then PySem.W.subIn K (.ref D) (.ref R) else none) = some true
  rw [c', r4, r5]
  rfl
/-- what is common to all that is raised -/
structure DF (K : PySem.W.Frag) (D : Addr) (x : Str) : Prop where
  g : PySem.W.nsIn K mainGlobals x = some (some (.ref D))
  v : PySem.W.subIn K (.ref D) (.type "ValueError") = some true
  exc : ExcC K D
  nv : PySem.W.nsIn K mainGlobals "ValueError" = some none
  r : ∃ R, PySem.W.nsIn K mainGlobals "RoofError" = some (some (.ref R)) ∧ PySem.W.subIn K (.ref R) (.type "BaseException") = some true ∧ PySem.W.isClsIn K R = true ∧ PySem.W.typeIn K (.ref R) = some (.type "type") ∧ PySem.W.subIn K (.ref D) (.ref R) = some true
theorem DF.kin {D : Addr} {x y : Str} {b0 b1 b2 b3 b4 b5 b6 b7 b8 b9 : Bool} (F : DF K D x) (X : K.In h) (G : h.Ns mainGlobals mg) (hy : kinS [b0, b1, b2, b3, b4, b5, b6, b7, b8, b9] = y)
    (c0 : ∃ C, mg "NoHeights" = some (.ref C) ∧ PySem.W.kitOne K (.ref D) (.ref C) = some b0) (c1 : ∃ C, mg "NoNumber" = some (.ref C) ∧ PySem.W.kitOne K (.ref D) (.ref C) = some b1) (c2 : ∃ C, mg "NoLot" = some (.ref C) ∧ PySem.W.kitOne K (.ref D) (.ref C) = some b2) (c3 : ∃ C, mg "NoHouse" = some (.ref C) ∧ PySem.W.kitOne K (.ref D) (.ref C) = some b3) (c4 : ∃ C, mg "NoCounts" = some (.ref C) ∧ PySem.W.kitOne K (.ref D) (.ref C) = some b4)
    (c5 : ∃ C, mg "NoPlace" = some (.ref C) ∧ PySem.W.kitOne K (.ref D) (.ref C) = some b5) (c6 : ∃ C, mg "NoHeight" = some (.ref C) ∧ PySem.W.kitOne K (.ref D) (.ref C) = some b6) (c7 : ∃ C, mg "Taken" = some (.ref C) ∧ PySem.W.kitOne K (.ref D) (.ref C) = some b7) (c8 : ∃ C, mg "Full" = some (.ref C) ∧ PySem.W.kitOne K (.ref D) (.ref C) = some b8) (c9 : ∃ C, mg "NothingLeft" = some (.ref C) ∧ PySem.W.kitOne K (.ref D) (.ref C) = some b9) : KinS K mg D y := by
  obtain ⟨R, r1, r2, r3, r4, r5⟩ := F.r
  exact ⟨⟨b0, b1, b2, b3, b4, b5, b6, b7, b8, b9, ⟨F.exc, c0, c1, c2, c3, c4, c5, c6, c7, c8, c9, PySem.W.mg_none_of X G F.nv, kit_ve F.v⟩, hy⟩, R, PySem.W.mg_of X G r1, exm_own r2 r3 r4 r5⟩
def RoofF (K : PySem.W.Frag) : Prop := ∃ R : Addr, PySem.W.nsIn K mainGlobals "RoofError" = some (some (.ref R))
theorem TabF.fn {x : Str} {st : Stmt} {f c P : Addr} {ps : List Str} (F : TabF K x st f c P) (ns : ∀ x f, PySem.W.nsIn K mainGlobals x = some (some (.ref f)) → mg x = some (.ref f)) (b : BindP x x st ps) : ∃ fd, Fun K x x st f fd ∧ Binds K fd ps [] ∧ mg x = some (.ref f) ∧ (∀ y q params body scope dV kV doc pm an cdv ct, fd = PySem.W.fnOf y q params body scope dV kV doc pm an cdv ct → cdv = .ref c) ∧ ((us : List Value) → us.length = ps.length → bindArgs fd ⟨us, []⟩ = pure (ps.zip us)) := by
  obtain ⟨oc, kV, doc, pm, ct, e, od, an, dd, osl, sl, vs, a1, a2, a3, a4, a5, a6, a7, a8⟩ := F
  exact ⟨_, fun_mk a2 a3 a4, Binds.all fun us hl => b kV doc pm an _ ct us hl, ns _ _ a1, fun _ _ _ _ _ _ _ _ _ _ _ _ e => (congrArg (·.code) e).symm, fun us hl => b kV doc pm an _ ct us hl⟩
theorem TabF.hd {x : Str} {st : Stmt} {f c P : Addr} (F : TabF K x st f c P) (X : K.In h) (own : OwnTab K f h) : h.get? P = some { cls := .none, data := .fields #[] } ∧ K.lookup P = none ∧ PySem.W.CodeHd h c P := by
  obtain ⟨oc, kV, doc, pm, ct, e, od, an, dd, osl, sl, vs, a1, a2, a3, a4, a5, a6, a7, a8⟩ := F
  exact ⟨own c P _ _ e dd vs sl a2 rfl rfl a5 a6, a8, PySem.W.codeHd_of_K X a7⟩
def StEqF (K : PySem.W.Frag) : Prop := ∃ C : Addr, PySem.W.nsIn K mainGlobals "Street" = some (some (.ref C)) ∧ PySem.W.findIn K (.ref C) "__class__" = some (some (.builtin "object.__class__")) ∧ PySem.W.specialIn K (.builtin "object.__class__") "__get__" = some (some (.builtin "getset_descriptor.__get__")) ∧ PySem.W.takesIn K (.builtin "object.__class__") = some true ∧ PySem.W.mroIn K C (.type "object") = some true ∧ PySem.W.subIn K (.type "tuple") (.ref C) = some false ∧ PySem.W.isClsIn K C = true ∧ PySem.W.typeIn K (.ref C) = some (.type "type")
theorem StEqF.at (F : StEqF K) (X : K.In h) (G : h.Ns mainGlobals mg) : ∀ C, mg "Street" = some (.ref C) → EqF K C := by
  intro C hC
  obtain ⟨C', n, a1, a2, a3, a4, a5, a6, a7⟩ := F
  rw [PySem.W.mg_of X G n] at hC
  cases Option.some.inj hC
  refine ⟨a1, a2, a3, a4, a5, ?_⟩
  have c' : (PySem.W.clsIn K C).isSome = true := a6
  unfold PySem.W.kitOne
  rw [show (Value.type "tuple" == Value.ref C) = false from rfl, if_neg (by decide)]
  show (if ((PySem.W.clsIn K C).isSome && PySem.W.typeIn K (.ref C) == some (.type "type")) = true then PySem.W.subIn K (.type "tuple") (.ref C) else none) = some false
  rw [c', a7, a5]
  rfl
end VL
end
section
set_option Elab.async false
set_option linter.all false
set_option maxRecDepth 100000
set_option maxHeartbeats 2000000
namespace VL
open PySem PySem.Spec PyProof.Rows L2 HT PySem.W PySem.Calls LamX
variable {K : PySem.W.Frag} {T T0 : List (Addr × Str)}
/-! ### a dict of numbers and data -/
def xDictI : M Sl := fun e => some (.di [], e)
theorem sx_dictI : SX K T tDNewK xDictI := fun W hT σ H B e s e' Q hf r q => by
  cases hf
  intro p hp
  refine q _ _ B (Same.refl B) ?_
  obtain ⟨A, r⟩ := r
  have r1 := r.ext (Ext.gone (o := .dK (nsV [])) r.bh hp)
  refine ⟨[p] ++ A, .cons (.di upd_same .nil) r1.sls, List.nodup_append.mpr ⟨by simp, r.nd, fun x hx y hy z => ?_⟩, fun q hq => ?_, r1.bh, r1.fr, r1.new, r1.tb⟩
  · rw [List.mem_singleton.mp hx] at z
    exact r.sls.held y hy (by rw [← z]; exact hp)
  · rcases List.mem_append.mp hq with z | z
    · rw [List.mem_singleton.mp z]
      exact ⟨r.bh.free hp, r.fr.free hp⟩
    · exact r.out q z
def diAt : List (Int × PyData) → Int → Option PyData
  | [], _ => none
  | (k, v) :: r, x => if k = x then some v else diAt r x
def diHas : List (Int × PyData) → Int → Bool
  | [], _ => false
  | (k, _) :: r, x => if k = x then true else diHas r x
theorem num_get {B : Hp} : ∀ {ks : List (Int × V)} {kvs : List (Int × PyData)} {k : Int} {d : PyData}, NumOk K B ks kvs → diAt kvs k = some d → ∃ v, valV (nsV ks) (.inl k) = some v ∧ Dp K B v d
  | _, _, _, _, .nil, h => by cases h
  | _, _, k, d, .cons (k := k0) (v := v0) (ks := ks) a t, h => by
    unfold diAt at h
    by_cases z : k0 = k
    · rw [if_pos z] at h
      cases h
      subst z
      exact ⟨v0, valV_pos rfl, a⟩
    · rw [if_neg z] at h
      obtain ⟨v, g1, g2⟩ := num_get t h
      refine ⟨v, ?_, g2⟩
      show valV ((.inl k0, v0) :: nsV ks) (.inl k) = _
      rw [valV_neg (fun e => z (Sum.inl.inj e))]
      exact g1
theorem num_app {B : Hp} : ∀ {ks ks' : List (Int × V)} {kvs kvs' : List (Int × PyData)}, NumOk K B ks kvs → NumOk K B ks' kvs' → NumOk K B (ks ++ ks') (kvs ++ kvs')
  | _, _, _, _, .nil, h => h
  | _, _, _, _, .cons a t, h => .cons a (num_app t h)
theorem num_len {B : Hp} : ∀ {ks : List (Int × V)} {kvs : List (Int × PyData)}, NumOk K B ks kvs → ks.length = kvs.length
  | _, _, .nil => rfl
  | _, _, .cons _ t => congrArg (· + 1) (num_len t)
theorem num_no {B : Hp} : ∀ {ks : List (Int × V)} {kvs : List (Int × PyData)} {k : Int}, NumOk K B ks kvs → diHas kvs k = false → valV (nsV ks) (.inl k) = none
  | _, _, _, .nil, _ => rfl
  | _, _, k, .cons (k := k0) (v := v0) (ks := ks) a t, h => by
    unfold diHas at h
    by_cases z : k0 = k
    · rw [if_pos z] at h
      cases h
    · rw [if_neg z] at h
      show valV ((.inl k0, v0) :: nsV ks) (.inl k) = _
      rw [valV_neg (fun e => z (Sum.inl.inj e))]
      exact num_no t h
theorem Rel.diW {W : Wd} {σ : L2.St} {H B : Hp} {e : Ev} {i : Nat} {kvs : List (Int × PyData)} (r : Rel K W σ H B e) (h : e[i]? = some (.di kvs)) : ∃ p ks, σ[i]? = some (some (.ref p)) ∧ H p = some (.dK (nsV ks)) ∧ NumOk K B ks kvs ∧
    ∀ ks' kvs', NumOk K B ks' kvs' → Rel K W σ (upd H p (.dK (nsV ks'))) B (e.set i (.di kvs')) := by
  obtain ⟨A, r⟩ := r
  obtain ⟨o, bs, cs, h1, h2, h3, h4, h5⟩ := r.sls.out r.nd h
  cases h2 with
  | @di p ks _ a b =>
    obtain ⟨k1, k2, k3⟩ := List.nodup_append.mp h4
    have hp : p ∈ A := h5 p (List.mem_append_left _ List.mem_cons_self)
    have ne : ∀ q ∈ cs, q ≠ p := fun q hq z => k3 p List.mem_cons_self q hq z.symm
    refine ⟨p, ks, h1, a, b, fun ys es hy => ?_⟩
    have t : Sls K W.bp (upd H p (.dK (nsV ys))) B (σ.set i none) (e.set i .un) cs := h3.mono (Same.refl B) fun q hq => upd_ne (ne q hq)
    have n : SlOk K W.bp (upd H p (.dK (nsV ys))) B (some (.ref p)) (.di es) [p] := .di upd_same hy
    obtain ⟨fs, f1, f2, f3⟩ := t.set n i
    rw [set_set', set_set', set_same h1] at f1
    refine ⟨fs, f1, f2 k2 (by simp) (fun q hq z => ne q z (List.mem_singleton.mp hq)), fun q hq => ?_, fun b o hb => ?_, fun b o hb => ?_, r.new, r.tb.upd a (fun ps z => by cases z)⟩
    · rcases f3 q hq with z | z
      · exact r.out q (h5 q (List.mem_append_right _ z))
      · rw [List.mem_singleton.mp z]
        exact r.out p hp
    · rw [upd_ne (ne_of_none hb (r.out p hp).1)]
      exact r.bh b o hb
    · rw [upd_ne (ne_of_none hb (r.out p hp).2)]
      exact r.fr b o hb
/-- d[k] = data -/
def sDIPut (i : Nat) (fv fk : M PyData) : Ev → Option Out := fun e => bnd (fv e) fun dv e1 => match e1[i]? with
    | some (.di _) => bnd (fk e1) fun d e2 => (match d with
      | .int k => (match e2[i]? with
        | some (.di kvs) => if diHas kvs k = false ∧ sz kvs.length = true then some (.nx (e2.set i (.di (kvs ++ [(k, dv)])))) else none
        | _ => none)
      | _ => none)
    | _ => none
theorem ss_diput {i : Nat} {tv ty : TE} {fv fk : M PyData} (hv : SE K T tv fv) (hk : SE K T ty fk) : SS K T (L2.sDPut (tVar i) ty tv) (sDIPut i fv fk) := fun W hT D σ H B e o hf r qn qr => by
  obtain ⟨dv, e1, h1, h2⟩ := bnd_some hf
  refine hv W hT σ H B e dv e1 _ h1 r fun v H1 B1 s1 r1 hdv => ?_
  split at h2
  · rename_i kv0 h3
    obtain ⟨d, e2, h4, h5⟩ := bnd_some h2
    obtain ⟨p, ks, a1, _⟩ := r1.diW h3
    refine ⟨_, a1, ?_⟩
    refine hk W hT σ H1 B1 e1 d e2 _ h4 r1 fun y H3 B3 s3 r3 dy => ?_
    split at h5
    · rename_i k
      cases dp_int dy
      split at h5
      · rename_i kvs h6
        by_cases c : diHas kvs k = false ∧ sz kvs.length = true
        · rw [if_pos c] at h5
          cases h5
          obtain ⟨p', ks', c1, c2, c3, c4⟩ := r3.diW h6
          rw [a1] at c1
          cases Option.some.inj (Option.some.inj c1)
          refine ⟨p, _, rfl, DPut.k (k := .inl k) c2 ?_, ?_⟩
          · show (ks'.map _).length < _
            rw [List.length_map, num_len c3]
            exact sz_lt c.2
          · have e0 : putK (nsV ks') (.inl k : Key) v = nsV (ks' ++ [(k, v)]) := by
              unfold putK
              rw [valV_any, num_no c3 c.1]
              show (if false = true then _ else _) = _
              rw [if_neg (by decide)]
              unfold nsV
              rw [List.map_append]
              rfl
            rw [e0]
            exact qn _ σ _ B3 rfl (s1.trans s3) (c4 _ _ (num_app c3 (.cons (dp_mono s3 hdv) .nil)))
        · rw [if_neg c] at h5
          cases h5
      · cases h5
    · cases h5
  · cases h2
/-- d[k], data -/
def eDIGet (i : Nat) (fk : M PyData) : M PyData := fun e => match e[i]? with
  | some (.di _) => bnd (fk e) fun d e1 => (match d with
    | .int k => (match e1[i]? with
      | some (.di kvs) => put (diAt kvs k) e1
      | _ => none)
    | _ => none)
  | _ => none
theorem se_diget {i : Nat} {ty : TE} {fk : M PyData} (hk : SE K T ty fk) : SE K T (tDGet (tVar i) ty) (eDIGet i fk) := fun W hT σ H B e dd e' Q hf r q => by
  unfold eDIGet at hf
  split at hf
  · rename_i kv0 h0
    obtain ⟨d, e1, h1, h2⟩ := bnd_some hf
    obtain ⟨p, ks, a1, _⟩ := r.diW h0
    refine ⟨_, a1, ?_⟩
    refine hk W hT σ H B e d e1 _ h1 r fun y H1 B1 s1 r1 dy => ?_
    split at h2
    · rename_i k
      cases dp_int dy
      split at h2
      · rename_i kvs h3
        obtain ⟨h4, rfl⟩ := put_some h2
        obtain ⟨p', ks', c1, c2, c3, c4⟩ := r1.diW h3
        rw [a1] at c1
        cases Option.some.inj (Option.some.inj c1)
        obtain ⟨v, g1, g2⟩ := num_get c3 h4
        refine ⟨p, v, rfl, ?_, q v H1 B1 s1 r1 g2⟩
        have := DGet.k (k := .inl k) c2
        rw [g1] at this
        exact this
      · cases h2
    · cases h2
  · cases hf
/-! ### sorted of a new dict -/
def xSortX (f : M Sl) : M Sl := fun e => bnd (f e) fun s e1 => match s with
  | .dc kvs => if sz kvs.length = true then if isTupB (kvs.map Prod.fst) = true then (match odOf (kvs.map Prod.fst) with
    | none => none
    | some _ => some (.ow (sortD (kvs.map Prod.fst)), e1)) else none else none
  | _ => none
theorem sx_sortX {t : TE} {f : M Sl} (h : SX K T t f) : SX K T (tCB (rSortK K) (tCons t tNil)) (xSortX f) := fun W hT σ H B e s e' Q hf r q => by
  obtain ⟨s0, e1, h0, h2⟩ := bnd_some hf
  split at h2
  · rename_i kvs
    by_cases c : sz kvs.length = true
    · rw [if_pos c] at h2
      by_cases c2 : isTupB (kvs.map Prod.fst) = true
      · rw [if_pos c2] at h2
        cases h1 : odOf (kvs.map Prod.fst) with
        | none => rw [h1] at h2; cases h2
        | some n =>
          rw [h1] at h2
          cases h2
          obtain ⟨o1, o2⟩ := odOf_some h1
          refine h W hT σ H B e _ e' _ h0 r fun v H1 B1 s1 r1 => ?_
          obtain ⟨B2, p, xs, rfl, s2, r2, a2, a3, a4⟩ := r1.meltD
          refine ⟨p, xs, kvs, n, rfl, a2.mono r2.bh, a3.mono r2.bh, dicOk a3 c, a4, o1, o2, sortB_of c2, fun q' zs hq' hz => ?_⟩
          exact q _ _ B2 (s1.trans s2) (r2.born hq' (hz B2 (ents_keys a3)))
      · rw [if_neg c2] at h2
        cases h2
    · rw [if_neg c] at h2
      cases h2
  · cases h2
/-! ### a tuple so many times -/
def pRepT (a b : PyData) : Option PyData := match a, b with
  | .tuple (d :: ds), .int k => if (decide (2 ≤ k) && decide (k ≤ 1000) && Nat.ble (d :: ds).length 1000) = true then some (.tuple (List.replicate k.toNat (d :: ds)).flatten) else none
  | _, _ => none
theorem sr_repT : SR2 K (rRepT K) pRepT := fun H B x y a b d Q bh ha hb h q => by
  unfold pRepT at h
  split at h
  · rename_i d0 ds k
    split at h
    · rename_i c
      cases h
      simp only [Bool.and_eq_true, decide_eq_true_eq] at c
      obtain ⟨l, xs, rfl, hs, hd⟩ := dp_tup ha
      cases dp_int hb
      have hl := dpAll_len hd
      refine ⟨l, k, xs, rfl, rfl, seqT bh hs, fun e => ?_, c.1.1, c.1.2, by rw [hl]; exact Nat.le_of_ble_eq_true c.2, fun p hp => ?_⟩
      · rw [e] at hl
        cases hl
      · have x := Ext.new (o := .tup (List.replicate k.toNat xs).flatten) bh hp
        exact q _ _ _ x (.tup (SqT.of upd_same) (dpAll_mono x.b (dpAll_rep hd _)))
    · cases h
  · cases h
/-! ### a def that may raise -/
inductive RsS where
  | ok (s : Sl)
  | ex (c : Str)
abbrev FX := List PyData → Option RsS
def spX (K : PySem.W.Frag) (F : FX) : Sp := fun vs H Q E => ∃ (B : Hp) (ds : List PyData) (r : RsS), Same B H ∧ DpAll K B vs ds ∧ F ds = some r ∧ (∀ s, r = .ok s → ∀ v H' B', Same B B' → Rel K ⟨H, B, none, []⟩ [some v] H' B' [s] → Q v H') ∧
  ∀ c C, r = .ex c → PySem.W.nsIn K mainGlobals c = some (some (.ref C)) → ∀ H' B', Same B B' → Rel K ⟨H, B, none, []⟩ [some .non] H' B' [.sh .none] → E (.ref C) none H'
def fnX (n m : Nat) (f : Ev → Option OutX) : FX := fun ds => if ds.length = n then (match f (ds.map Sl.sh ++ List.replicate m .un) with
  | none => none
  | some (.nx _) => some (.ok (.sh .none))
  | some (.rt s _) => some (.ok s)
  | some (.ex c _) => some (.ex c)) else none
section
variable {P : Program} {w : World} {mg : Str → Option Value} {base : Heap}
theorem okX {x qual : Str} {st : Stmt} {f : Addr} {fd : FuncData} {N ps : List Str} {k n m : Nat} {t : WX → TS} {fb : Ev → Option OutX} (hs : SSX K t fb) (F : Fun K x qual st f fd) (S : FnScope N ps (defScope st)) (hN : N.length = n + m) (hp : ps.length = n)
    (hb : ∀ (cdv : Value) (A : Around) (outer : List Env) (s : Shared) (H : Hp) (E : XK), Room k (A.deeper (envOfC qual (defScope st) s.heap.objs.size f cdv)) → PSs (cxOf (L2N.CX P w) P w K mg base N qual (defScope st) f cdv A outer s H E) (defBody st) (t fun cls d _ H' => E cls d H')) :
    FnOk P w K mg base (L2N.CX P w) (k + 1) f fd ps (spX K (fnX n m fb)) := by
  have cut : ∀ {ds : List PyData} {r : RsS}, fnX n m fb ds = some r → ds.length = n := fun {ds r} h => by
    unfold fnX at h
    by_cases c : ds.length = n
    · exact c
    · rw [if_neg c] at h
      cases h
  refine okN F S (fun vs H Q E h => ?_) (fun cdv A outer s H vs Q E hr h => ?_)
  · obtain ⟨B, ds, r, h1, h2, h3, _⟩ := h
    rw [dpAll_len h2, hp, cut h3]
  · refine ⟨_, hb cdv A outer s H E hr, ?_⟩
    obtain ⟨B, ds, r, bh, h2, h3, qq, qx⟩ := h
    have c := cut h3
    unfold fnX at h3
    rw [if_pos c] at h3
    rw [start_eq hN (by rw [dpAll_len h2]; exact c)]
    cases h4 : fb (ds.map Sl.sh ++ List.replicate m .un) with
    | none => rw [h4] at h3; cases h3
    | some o =>
      rw [h4] at h3
      refine hs _ ⟨H, B, none, []⟩ rfl _ _ H B _ o h4 ⟨[], sls_sh (sls_un m) h2, List.nodup_nil, fun p hp => (by cases hp), bh, Same.refl H, fun b _ h => h, fun x hx => by cases hx⟩ (fun e' σ' H' B' he sb r => ?_) (fun s' e' v σ' H' B' he sb r => ?_) fun c e' C σ' H' B' he hC sb r => ?_
      · subst he
        cases h3
        exact qq _ rfl _ H' B' sb (r.nil.cons .non)
      · subst he
        cases h3
        exact qq _ rfl v H' B' sb r.one
      · subst he
        cases h3
        exact qx _ C rfl hC H' B' sb (r.nil.cons .non)
end
/-- f(..) in a lambda -/
def xFnX (F : FX) (fa : M (List PyData)) : Ev → Option (RsX × Ev) := fun e => bnd (fa e) fun ds e1 => match F ds with
  | some (.ok (.sh d)) => some (.ok d, e1)
  | some (.ok (.ow ds)) => some (.ok (.list ds), e1)
  | some (.ex c) => some (.ex c, e1)
  | _ => none
theorem sb_fnX {F : FX} {t : TA} {fa : M (List PyData)} (ha : SA K T t fa) : SB K T (fun E => tCall (spX K F) [] E t) (xFnX F fa) := fun W hT σ H B e rr e' Q E hf r qo qx => by
  obtain ⟨ds, e1, h1, h2⟩ := bnd_some hf
  refine ha W hT σ H B e ds e1 _ h1 r fun vs H1 B1 s1 r1 dv => ?_
  rw [List.append_nil]
  cases h3 : F ds with
  | none => rw [h3] at h2; cases h2
  | some z =>
    rw [h3] at h2
    refine ⟨B1, ds, z, r1.bh, dv, h3, fun s ez v H' B' sb r' => ?_, fun c C ez hC H' B' sb r' => ?_⟩
    · subst ez
      have r2 := r1.join sb r'
      cases s with
      | sh d =>
        cases h2
        exact qo d v H' B' rfl (s1.trans sb) r2.tail r2.head
      | ow ds =>
        cases h2
        obtain ⟨B2, s2, r3, d3⟩ := r2.melt
        exact qo _ v H' B2 rfl ((s1.trans sb).trans s2) r3 d3
      | _ => cases h2
    · subst ez
      cases h2
      exact qx c C H' B' rfl hC (s1.trans sb) (r1.join sb r').tail
/-! ### a def without arguments that makes lambdas -/
theorem Rel.lend0 {W : Wd} {σ : L2.St} {H B : Hp} {e : Ev} (r : Rel K W σ H B e) (hsub : ∀ x ∈ T0, x ∈ W.tb) (hun : ∀ x ∈ W.tb, ∀ y ∈ T0, x.1 = y.1 → x = y) : TbOk T0 (fun _ => none) H B ∧
    ∀ v d H' B', Same B B' → Rel K ⟨hideL (T0.map Prod.fst) H, B, none, T0⟩ [some v] H' B' [.sh d] → Rel K W (some v :: σ) H' B' (.sh d :: e) := by
  obtain ⟨A, r⟩ := r
  have isT : ∀ p ∈ T0.map Prod.fst, W.H0 p = none ∧ B p = none ∧ ∃ ps, H p = some (.tbl ps) := fun p hp => by
    obtain ⟨x, hx, rfl⟩ := List.mem_map.mp hp
    obtain ⟨q1, q2, ps, q3, _⟩ := r.tb x (hsub x hx)
    exact ⟨q1, q2, ps, q3⟩
  refine ⟨fun x hx => ⟨rfl, (r.tb x (hsub x hx)).2⟩, fun v d H' B' sb r' => ?_⟩
  have hd := r'.head
  obtain ⟨A', r'⟩ := r'
  have nA : ∀ q ∈ A, q ∉ T0.map Prod.fst := fun q hq z => by
    obtain ⟨_, _, ps, h⟩ := isT q z
    exact r.sls.noTab q hq ps h
  have keep : ∀ q ∈ A, H' q = H q := fun q hq => by
    have hn := r.sls.held q hq
    have := same_at r'.fr (p := q) (by show hideL (T0.map Prod.fst) H q ≠ none; rw [hideL_out (nA q hq)]; exact hn)
    rw [this]
    exact hideL_out (nA q hq)
  have nH0 : ∀ b, W.H0 b ≠ none → b ∉ T0.map Prod.fst := fun b hb z => hb (isT b z).1
  refine ⟨A, .cons (as := []) (.sh hd) (r.sls.mono sb keep), r.nd, fun q hq => ⟨?_, (r.out q hq).2⟩, r'.bh, fun b ob hb => ?_, fun b hb1 hb2 => ?_, fun x hx => ?_⟩
  · refine r'.new q ?_ (r.out q hq).1
    show hideL (T0.map Prod.fst) H q ≠ none
    rw [hideL_out (nA q hq)]
    exact r.sls.held q hq
  · refine r'.fr b ob ?_
    show hideL (T0.map Prod.fst) H b = some ob
    rw [hideL_out (nH0 b (by rw [hb]; exact fun z => by cases z))]
    exact r.fr b ob hb
  · refine r'.new b ?_ (r.new b hb1 hb2)
    show hideL (T0.map Prod.fst) H b ≠ none
    rw [hideL_out (nH0 b hb1)]
    exact ne_none_of r.fr hb1
  · obtain ⟨q1, q2, ps, q3, q4, q5⟩ := r.tb x hx
    by_cases c : x.1 ∈ T0.map Prod.fst
    · obtain ⟨y, hy, ey⟩ := List.mem_map.mp c
      have := hun x hx y hy ey.symm
      subst this
      exact ⟨q1, (r'.tb x hy).2⟩
    · refine ⟨q1, r'.new x.1 ?_ q2, ps, r'.fr _ _ ?_, q4, fun pos cv' hc => ?_⟩
      · show hideL (T0.map Prod.fst) H x.1 ≠ none
        rw [hideL_out c, q3]
        exact fun z => by cases z
      · show hideL (T0.map Prod.fst) H x.1 = _
        rw [hideL_out c]
        exact q3
      · obtain ⟨c0, e1, e2⟩ := q5 pos cv' hc
        exact ⟨c0, e1, sb _ _ e2⟩
def spZ (K : PySem.W.Frag) (T : List (Addr × Str)) (F : Option PyData) : Sp := fun vs H Q _ => ∃ (B : Hp) (d : PyData), vs = [] ∧ Same B H ∧ TbOk T (fun _ => none) H B ∧ F = some d ∧ ∀ v H' B', Same B B' → Rel K ⟨hideL (T.map Prod.fst) H, B, none, T⟩ [some v] H' B' [.sh d] → Q v H'
def fnZ (m : Nat) (f : Ev → Option Out) : Option PyData := match f (List.replicate m .un) with
  | some (.nx _) => some .none
  | some (.rt (.sh d) _) => some d
  | _ => none
section
variable {P : Program} {w : World} {mg : Str → Option Value} {base : Heap}
theorem okZ {x qual : Str} {st : Stmt} {f c : Addr} {fd : FuncData} {N ps : List Str} {k m : Nat} {t : TS} {fb : Ev → Option Out} (hcode : ∀ x q params body scope dV kV doc pm an cdv ct, fd = PySem.W.fnOf x q params body scope dV kV doc pm an cdv ct → cdv = .ref c) (hs : SS K T t fb) (F : Fun K x qual st f fd) (S : FnScope N ps (defScope st)) (hN : N.length = m) (hp : ps.length = 0)
    (hb : ∀ (A : Around) (outer : List Env) (s : Shared) (H : Hp) (E : XK), Room k (A.deeper (envOfC qual (defScope st) s.heap.objs.size f (.ref c))) → PSs (cxOf CX0 P w K mg base N qual (defScope st) f (.ref c) A outer s H E).nox (defBody st) t) :
    FnOk P w K mg base CX0 (k + 1) f fd ps (spZ K T (fnZ m fb)) := by
  obtain ⟨oc, od, kV, doc, pm, an, cdv, ct, osl, ef, lk, hcd⟩ := F.ex
  have ec := hcode _ _ _ _ _ _ _ _ _ _ _ _ ef
  subst ec ef
  refine fn_of lk hcd S (fun vs H Q E h => ?_) (fun A outer s H vs Q E hr h => ?_)
  · obtain ⟨B, d, rfl, _⟩ := h
    exact hp.symm
  · refine ⟨t, (hb A outer s H E hr).nox, ?_⟩
    obtain ⟨B, d, rfl, bh, ht, h6, qq⟩ := h
    have es : L2.start N [] = List.replicate m none := by
      have := start_eq (N := N) (vs := []) (n := 0) (m := m) (by rw [hN, Nat.zero_add]) rfl
      rw [this]
      rfl
    rw [es]
    have r0 : Rel K ⟨hideL (T.map Prod.fst) H, B, none, T⟩ (List.replicate m none) H B (List.replicate m .un) :=
      ⟨[], sls_un m, List.nodup_nil, fun p hq => (by cases hq), bh, fun b o hb => (hideL_sub hb).2, fun b _ h => h, fun x hx => ⟨hideL_in (List.mem_map.mpr ⟨x, hx, rfl⟩), (ht x hx).2⟩⟩
    unfold fnZ at h6
    cases h7 : fb (List.replicate m .un) with
    | none => rw [h7] at h6; cases h6
    | some o =>
      rw [h7] at h6
      refine hs ⟨hideL (T.map Prod.fst) H, B, none, T⟩ rfl _ _ H B _ o h7 r0 (fun e' σ' H' B' he sb r => ?_) (fun s' e' v σ' H' B' he sb r => ?_)
      · subst he
        cases h6
        exact qq _ H' B' sb (r.nil.cons .non)
      · subst he
        cases s' with
        | sh d' =>
          cases h6
          exact qq v H' B' sb r.one
        | _ => cases h6
/-- the law itself, without lambdas of its own -/
theorem okL0 {x qual : Str} {st : Stmt} {f : Addr} {fd : FuncData} {N ps : List Str} {k m : Nat} {t : TS} {fb : Ev → Option Out} (hs : SS K T t fb) (F : Fun K x qual st f fd) (S : FnScope N ps (defScope st)) (hN : N.length = 1 + m) (hp : ps.length = 1)
    (hb : ∀ (cdv : Value) (A : Around) (outer : List Env) (s : Shared) (H : Hp) (E : XK), Room k (A.deeper (envOfC qual (defScope st) s.heap.objs.size f cdv)) → PSs (cxOf CX0 P w K mg base N qual (defScope st) f cdv A outer s H E).nox (defBody st) t) :
    FnOk P w K mg base CX0 (k + 1) f fd ps (spL K T (fnS 1 m fb)) := by
  refine F.ok S (fun vs H Q E h => ?_) (fun cdv A outer s H vs Q E hr h => ?_)
  · obtain ⟨a, ns, rfl, _⟩ := h
    rw [hp]
    rfl
  · refine ⟨t, hb cdv A outer s H E hr, ?_⟩
    obtain ⟨a, ns, rfl, hS, hT, h3, q⟩ := h
    have hS' : SqL K (notTab H) a (ns.map V.int) := by
      rcases hS with (h | ⟨o, h⟩) | h
      · exact .inl (.inl (notTab_at h fun ps z => by cases z))
      · exact .inl (.inr ⟨o, notTab_at h fun ps z => by cases z⟩)
      · exact .inr h
    have dv : DpAll K (notTab H) [V.ref a] [.list (ns.map PyData.int)] := .cons (.lst hS' (ints_dp ns)) .nil
    unfold fnS at h3
    rw [if_pos (show [PyData.list (ns.map PyData.int)].length = 1 from rfl)] at h3
    rw [start_eq hN rfl]
    cases h4 : fb ([PyData.list (ns.map PyData.int)].map Sl.sh ++ List.replicate m .un) with
    | none => rw [h4] at h3; cases h3
    | some o =>
      rw [h4] at h3
      refine hs ⟨fun _ => none, fun _ => none, none, T⟩ rfl _ _ H (notTab H) _ o h4 ⟨[], sls_sh (sls_un m) dv, List.nodup_nil, fun p hp => (by cases hp), notTab_sub, fun b o h => (by cases h), fun b h _ => absurd rfl h, fun x hx => ?_⟩ (fun e' σ' H' B' he sb r => ?_) (fun s' e' v σ' H' B' he sb r => ?_)
      · obtain ⟨ps, t1, t2, t3⟩ := hT x hx
        refine ⟨rfl, notTab_none t1, ps, t1, t2, fun pos cv hc => ?_⟩
        obtain ⟨c0, e1, e2⟩ := t3 pos cv hc
        exact ⟨c0, e1, notTab_at e2 codeO_ne⟩
      · subst he
        cases h3
      · subst he
        cases h3
        cases dp_bl r.one.head
        exact q H'
end
/-- f() -/
def eFnZ (F : Option PyData) : M PyData := fun e => put F e
theorem se_fnZ {F : Option PyData} (hsub : ∀ x ∈ T0, x ∈ T) (hun : ∀ x ∈ T, ∀ y ∈ T0, x.1 = y.1 → x = y) : SE K T (tCall (spZ K T0 F) [] E0 tNil) (eFnZ F) := fun W hT σ H B e d e' Q hf r q => by
  obtain ⟨h1, rfl⟩ := put_some hf
  obtain ⟨bt, b5⟩ := r.lend0 (T0 := T0) (by rw [hT]; exact hsub) (by rw [hT]; exact hun)
  refine ⟨B, d, rfl, r.bh, bt, h1, fun v H' B' sb r' => ?_⟩
  have r2 := b5 v d H' B' sb r'
  exact q v H' B' sb r2.tail r2.head
end VL
end
section
set_option Elab.async false
set_option linter.all false
set_option maxRecDepth 100000
set_option maxHeartbeats 2000000
namespace VL
open PySem PySem.Spec PyProof.Rows L2 HT PySem.W PySem.Calls LamX
/-! ### the keys of a dict are walked -/
def Itn (d : Addr) (xs : List (NestedKey × Addr × Value)) (ep : Nat) : It where
  go := fun i H => H d = some (.ext (dictP xs ep d)) ∧ i < xs.length
  yld := fun i H x H' => H' = H ∧ ∃ en, xs[i]? = some en ∧ x = V.ref en.2.1
  stop := fun i H => H d = some (.ext (dictP xs ep d)) ∧ xs.length ≤ i
section
variable {X : Cx} {pins : List (Addr × Obj)} {σ : L2.St} {H : Hp} {s : Shared}
theorem dicAt (I : Inv X pins σ H s) {d : Addr} {xs : List (NestedKey × Addr × Value)} {ep : Nat} (h : H d = some (.ext (dictP xs ep d))) :
    ∃ o es, s.heap.get? d = some o ∧ o.ExactDict ∧ o.data = .dict es ep ∧ es.size = xs.length ∧ ∀ (i : Nat) en, xs[i]? = some en → es[i]? = some (entN en) := by
  obtain ⟨⟨o, es, h1, h2, h3, h4, _⟩, _, _⟩ := I.hok d _ h
  refine ⟨o, es, h1, h2, h3, by rw [← Array.length_toList, h4, List.length_map], fun i en he => ?_⟩
  rw [← Array.getElem?_toList, h4, List.getElem?_map, he]
  rfl
end
theorem turn_dic {P : Program} {w : World} {K : PySem.W.Frag} {tg : Expr} {d : Addr} {xs : List (NestedKey × Addr × Value)} {ep : Nat} (it : Addr) : Turn P w K tg (Itn d xs ep) [it] it (fun i h => h.IsKeyIter it d i xs.length ep) where
  mem := List.mem_cons_self
  obj := fun i h q b hb => by
    rw [List.mem_singleton.mp hb]
    obtain ⟨oi, e, _, e2⟩ := q
    exact ⟨oi, e, fun v z => by rw [e2] at z; cases z⟩
  keep := fun i h h' q k => q.at fun oi e => k it List.mem_cons_self oi e
  item := by
    intro X eP eW eK hc i pins s σ H E I hf q hg
    subst eP eW eK
    obtain ⟨g1, g2⟩ := hg
    obtain ⟨f0, f1, _, f3, f4, f5⟩ := hf it List.mem_cons_self
    obtain ⟨o, es, a1, _, a3, a4, a5⟩ := dicAt I g1
    have he := List.getElem?_eq_getElem g2
    refine next_key_item q a1 a3 a4 (a5 i _ he) fun h' q' sb => ⟨_, rfl, ?_⟩
    obtain ⟨oi, e1, e2, e3⟩ := id q'
    refine go_of (s := { s with heap := h' }) e1 e2 e3 (by decide) ⟨.ref (xs[i]).2.1, H, ?_, rfl, ⟨rfl, _, he, rfl⟩, q', fun b hb => (hf b hb).1⟩
    exact I.turned (t' := s.toks) (fun b ob nb e => (sb.2 b nb).trans e) f0 f1 f3 f4 f5
  done := by
    intro X eP eW eK hc i pins s σ H E I hf q hg
    subst eP eW eK
    obtain ⟨f0, f1, _, f3, f4, f5⟩ := hf it List.mem_cons_self
    obtain ⟨o, es, a1, _, a3, a4, _⟩ := dicAt I hg.1
    exact next_key_end (I.ok.hd hc) q a1 a3 a4 hg.2 fun h' eb => ⟨rfl, I.turned (t' := s.toks) (fun b ob nb e => eb b ob nb e) f0 f1 f3 f4 f5⟩
  self := fun A i s Q E q h => wpAny_pyIter_keyiter q h
def iDic (t : TE) : TI := fun σ H R => t σ H fun x H1 => ∃ d xs ep, x = .ref d ∧ (d == sysModules) = false ∧ H1 d = some (.ext (dictP xs ep d)) ∧ R (Itn d xs ep) H1
theorem pi_dic {X : Cx} {tg e : Expr} {t : TE} (he : PE X e t) : PI X tg e (iDic t) := ⟨fun pins s σ H R I h => by
  refine thn (he.run pins s σ H _ I h) fun u s1 ⟨x, H1, I1, rx, d, xs, ep, ex, hm, hd, q⟩ => ?_
  subst ex
  obtain rfl : u = Value.ref d := rx
  obtain ⟨o, es, a1, a2, a3, a4, _⟩ := dicAt I1 hd
  refine iter_keys hm a1 a2 a3 (pi_one (tk := s1.toks) I1 _ (turn_dic _) ⟨_, Heap.get?_push_size _ rfl, rfl, ?_⟩ q)
  rw [a4]
  rfl⟩
section
variable {K : PySem.W.Frag} {T : List (Addr × Str)}
theorem ents_get {B : Hp} : ∀ {xs : List (NestedKey × Addr × Value)} {kvs : List (PyData × PyData)} {i : Nat} {d : PyData}, EntsOk K B xs kvs → (kvs.map Prod.fst)[i]? = some d → ∃ en, xs[i]? = some en ∧ Dp K B (.ref en.2.1) d
  | _, _, _, _, .nil, h => by simp at h
  | _, _, 0, _, .cons (k := k) (a := a) (u := u) _ _ hd _ _ _, h => by
    cases Option.some.inj h
    exact ⟨(k, a, u), rfl, hd⟩
  | _, _, i + 1, _, .cons _ _ _ _ _ t, h => by
    obtain ⟨en, e1, e2⟩ := ents_get (i := i) t h
    exact ⟨en, e1, e2⟩
theorem ItOk.dic {B : Hp} {p : Addr} {xs : List (NestedKey × Addr × Value)} {ep : Nat} {kvs : List (PyData × PyData)} (h : B p = some (.ext (dictP xs ep p))) (es : EntsOk K B xs kvs) : ItOk K B (Itn p xs ep) (kvs.map Prod.fst) := fun i H1 B1 sb bh => by
  have hl := ents_len es
  refine ⟨fun _ hi => ⟨bh _ _ (sb _ _ h), by rw [hi, List.length_map, hl]; exact Nat.le_refl _⟩, fun d hd => ?_⟩
  obtain ⟨en, e1, e2⟩ := ents_get es hd
  refine ⟨⟨bh _ _ (sb _ _ h), (List.getElem?_eq_some_iff.mp e1).1⟩, fun x H2 hy => ?_⟩
  obtain ⟨rfl, en', e3, rfl⟩ := hy
  rw [e1] at e3
  cases e3
  exact ⟨B1, Ext.refl bh, dp_mono sb e2⟩
def iKey (f : M PyData) : M (List PyData) := fun e => bnd (f e) fun d e1 => match d with
  | .dict kvs => some (kvs.map Prod.fst, e1)
  | _ => none
theorem si_key {t : TE} {f : M PyData} (h : SE K T t f) : SI K T (iDic t) (iKey f) := fun W hT σ H B e ds e' R hf r q => by
  obtain ⟨d, e1, h1, h2⟩ := bnd_some hf
  refine h W hT σ H B e d e1 _ h1 r fun v H' B' sb r' dv => ?_
  split at h2
  · rename_i kvs
    cases h2
    obtain ⟨a, xs, rfl, ⟨ep, b1⟩, b2, b3⟩ := dp_dct dv
    exact ⟨a, xs, ep, rfl, b2, r'.bh _ _ b1, q _ H' B' sb r' (ItOk.dic b1 b3)⟩
  · cases h2
/-! ### a new dict at the head is put aside, and written -/
theorem Rel.parkD {W : Wd} {σ : L2.St} {H B : Hp} {e : Ev} {v : V} {kvs : List (PyData × PyData)} (r : Rel K W (some v :: σ) H B (.dc kvs :: e)) : ∃ p xs ep, v = .ref p ∧ H p = some (.ext (dictP xs ep p)) ∧ EntsOk K B xs kvs ∧ (p == sysModules) = false ∧ Rel K (W.hold p (.ext (dictP xs ep p))) σ H B e ∧
    ∀ σ' H' B' e', Same B B' → Rel K (W.hold p (.ext (dictP xs ep p))) σ' H' B' e' → Rel K W (some v :: σ') H' B' (.dc kvs :: e') ∧ H' p = some (.ext (dictP xs ep p)) := by
  obtain ⟨A, r⟩ := r
  cases hs : r.sls with
  | @cons _ _ _ bs _ _ h t =>
    cases h with
    | @dc p xs _ h1 h2 h3 =>
      obtain ⟨ep, h1⟩ := h1
      obtain ⟨n1, n2, n3⟩ := List.nodup_append.mp r.nd
      have hm : p ∈ [p] ++ bs := List.mem_append_left _ List.mem_cons_self
      have hA : ∀ q ∈ bs, q ≠ p := fun q hq z => n3 p List.mem_cons_self q hq z.symm
      refine ⟨p, xs, ep, rfl, h1, h2, h3, ⟨bs, t, n2, fun q hq => ⟨(r.out q (List.mem_append_right _ hq)).1, ?_⟩, r.bh, fun b o hb => ?_, fun b hb1 hb2 => ?_, fun x hx => ?_⟩, fun σ' H' B' e' sb r' => ?_⟩
      · show upd W.H0 p (.ext (dictP xs ep p)) q = none
        rw [upd_ne (hA q hq)]
        exact (r.out q (List.mem_append_right _ hq)).2
      · have hb : upd W.H0 p (.ext (dictP xs ep p)) b = some o := hb
        by_cases c : b = p
        · rw [c, upd_same] at hb
          rw [c, h1]
          exact hb
        · rw [upd_ne c] at hb
          exact r.fr b o hb
      · by_cases c : b = p
        · rw [c]
          exact (r.out p hm).1
        · have hb1 : upd W.H0 p (.ext (dictP xs ep p)) b ≠ none := hb1
          have hb2 : (if b = p then none else W.B0 b) = none := hb2
          rw [upd_ne c] at hb1
          rw [if_neg c] at hb2
          exact r.new b hb1 hb2
      · obtain ⟨q1, q2, ps, q3, q4⟩ := r.tb x hx
        refine ⟨?_, q2, ps, q3, q4⟩
        show upd W.H0 p (.ext (dictP xs ep p)) x.1 = none
        rw [upd_ne (fun z => by rw [z, h1] at q3; cases q3)]
        exact q1
      · obtain ⟨A', r'⟩ := r'
        have hp' : H' p = some (.ext (dictP xs ep p)) := r'.fr p _ upd_same
        have nb : B' p = none := r'.new p (by show upd W.H0 p (.ext (dictP xs ep p)) p ≠ none; rw [upd_same]; exact fun z => by cases z) (if_pos rfl)
        have nA : ∀ q ∈ A', q ≠ p := fun q hq z => by
          have := (r'.out q hq).2
          rw [z] at this
          have this : upd W.H0 p (.ext (dictP xs ep p)) p = none := this
          rw [upd_same] at this
          cases this
        refine ⟨⟨[p] ++ A', .cons (.dc ⟨ep, hp'⟩ (h2.mono sb) h3) r'.sls, List.nodup_append.mpr ⟨by simp, r'.nd, fun x hx y hy z => nA y hy (by rw [← z]; exact List.mem_singleton.mp hx)⟩, fun q hq => ?_, r'.bh, fun b o hb => ?_, fun b hb1 hb2 => ?_, fun x hx => ?_⟩, hp'⟩
        · rcases List.mem_append.mp hq with z | z
          · rw [List.mem_singleton.mp z]
            exact ⟨nb, (r.out p hm).2⟩
          · refine ⟨(r'.out q z).1, ?_⟩
            have := (r'.out q z).2
            have this : upd W.H0 p (.ext (dictP xs ep p)) q = none := this
            rw [upd_ne (nA q z)] at this
            exact this
        · refine r'.fr b o ?_
          show upd W.H0 p (.ext (dictP xs ep p)) b = some o
          rw [upd_ne (ne_of_none hb (r.out p hm).2)]
          exact hb
        · have c : b ≠ p := fun z => hb1 (by rw [z]; exact (r.out p hm).2)
          refine r'.new b ?_ ?_
          · show upd W.H0 p (.ext (dictP xs ep p)) b ≠ none
            rw [upd_ne c]
            exact hb1
          · show (if b = p then none else W.B0 b) = none
            rw [if_neg c]
            exact hb2
        · obtain ⟨q1, q2, ps, q3, q4⟩ := r'.tb x hx
          refine ⟨?_, q2, ps, q3, q4⟩
          have q1 : upd W.H0 p (.ext (dictP xs ep p)) x.1 = none := q1
          rw [upd_ne (fun z => by rw [z, hp'] at q3; cases q3)] at q1
          exact q1
theorem Rel.writeD {W : Wd} {σ : L2.St} {H B : Hp} {e : Ev} {p : Addr} {kvs lvs : List (PyData × PyData)} {ys : List (NestedKey × Addr × Value)} {ep : Nat} (r : Rel K W (some (.ref p) :: σ) H B (.dc kvs :: e)) (h : EntsOk K B ys lvs) : Rel K W (some (.ref p) :: σ) (upd H p (.ext (dictP ys ep p))) B (.dc lvs :: e) := by
  obtain ⟨A, r⟩ := r
  cases hs : r.sls with
  | @cons _ _ _ bs _ _ h' t =>
    cases h' with
    | @dc p xs _ h1 h2 h3 =>
      obtain ⟨ep0, h1⟩ := h1
      obtain ⟨n1, n2, n3⟩ := List.nodup_append.mp r.nd
      have hm : p ∈ [p] ++ bs := List.mem_append_left _ List.mem_cons_self
      have hA : ∀ q ∈ bs, q ≠ p := fun q hq z => n3 p List.mem_cons_self q hq z.symm
      refine ⟨[p] ++ bs, .cons (.dc ⟨ep, upd_same⟩ h h3) (t.mono (Same.refl B) fun q hq => upd_ne (hA q hq)), r.nd, r.out, fun b o hb => ?_, fun b o hb => ?_, r.new, r.tb.upd h1 (fun ps z => by cases z)⟩
      · rw [upd_ne (ne_of_none hb (r.out p hm).1)]
        exact r.bh b o hb
      · rw [upd_ne (ne_of_none hb (r.out p hm).2)]
        exact r.fr b o hb
end
end VL
end
section
set_option Elab.async false
set_option linter.all false
set_option maxRecDepth 100000
set_option maxHeartbeats 2000000
namespace VL
open PySem PySem.Spec PyProof.Rows L2 HT PySem.W PySem.Calls LamX
/-! ### a dict that a comprehension fills -/
section
variable {X : Cx} {pins : List (Addr × Obj)} {σ : L2.St} {H : Hp} {s : Shared}
theorem storedN {xs : List (NestedKey × Addr × Value)} {k : NestedKey} {b : Addr} {u : Value} {w : World} (h1 : ∀ x ∈ xs, x.1.hash w = hashN x.1) (h2 : k.hash w = hashN k) : ∀ x ∈ storedH xs k b u, x.1.hash w = hashN x.1 := fun x hx => by
  unfold storedH at hx
  split at hx
  · obtain ⟨y, hy, rfl⟩ := List.mem_map.mp hx
    unfold putAt
    split <;> exact h1 y hy
  · rcases List.mem_append.mp hx with z | z
    · exact h1 x z
    · rw [List.mem_singleton.mp z]
      exact h2
/-- what a turn stores -/
theorem fills {E : Value → Shared → Prop} {D : Addr} {y z : V} {uk uv : Value} {Nx : Hp → Prop} {Q : Unit → Shared → Prop} (hu : X.A.units + 65 < cLine) (I : Inv X pins σ H s) (ry : RelV y uk) (rz : RelV z uv)
    (h : AtK X.K H (.ref D) y fun k b xs a => ∀ u ep, RelV z u → Nx (upd H D (.ext (dictP (storedH xs k b u) ep D)))) (q : ∀ H' s', Inv X pins σ H' s' → Nx H' → Q () s') : wpAny (model X.prog X.w) X.A (dictSet D uk uv) Q E s := by
  obtain ⟨a, xs, b, k, ea, rfl, dd, ks, hH, hz, hm, hx, nx⟩ := AtK.use (K := X.K) h I
  obtain rfl : D = a := V.ref.inj ea
  obtain rfl : uk = Value.ref b := ry
  refine wpAny_dictSet_heap (hsz := hz) (by show X.A.units + 8 < cLine; omega) ks dd fun h' dd' sb => ?_
  obtain ⟨o', es, ep, g1, g2, g3, g4, _, g6⟩ := dd'
  refine q _ _ (d_write I (by obtain ⟨e0, hH⟩ := hH; rw [hH]; exact True.intro) sb ⟨o', g1⟩ (ext_ok (xs := storedH xs k b uv) (ep := ep) ⟨o', es, g1, g2, g3, ?_, g6⟩)) (nx uv ep rz)
  rw [g4]
  refine List.map_congr_left fun x hx' => ?_
  show DictEntry.mk (x.1.hash X.w) _ _ = DictEntry.mk (hashN x.1) _ _
  rw [storedN hx.1 hx.2 x hx']
end
/-! ### the block of a dict comprehension starts -/
section
variable {X : Cx} {pins : List (Addr × Obj)} {σ : L2.St} {H : Hp} {s : Shared}
theorem dc_blk {Q : VK} {kx vx tg iter : Expr} {gs : List Comprehension} {scope : Scope} {own : List (Str × Nat)} {pos pos' : Pos} {wi : TI} {C : It → Addr → Hp → Prop} {use : Option (Value → Sem Unit)} {Qf : Value → Shared → Prop} (hN : X.N.Nodup) (I : Inv X pins σ H s) (hi : PI X tg iter wi) (ok : BlkOk X.N X.env.scope scope own) (hs : ∀ x, foldedSetIterable iter X.env x = pure x)
    (h : wi σ H fun J H1 => ∀ D, H1 D = none → (D == sysModules) = false → C J D (upd H1 D (.ext (dictP [] 0 D))))
    (last : ∀ (D L : Addr) (s' : Shared) (H' : Hp) (m : Str → Option Value), Inv X pins σ H' s' → Q (.ref D) H' → s'.heap.Ns L m → FpOk X pins H' L → compPost (model X.prog X.w) X.A X.xe use Qf (.ref D) L (.ok .next) s')
    (go : ∀ (J : It) (D : Addr) (H3 : Hp) (s3 s4 : Shared) (cl : List (Str × Addr)) (L : Addr) (fp : List Addr) (it : Addr) (tn : Nat → Heap → Prop),
      Inv (X.blk s3 H3 scope (compEnvC scope cl L X.env) fp) [] (L2.wipe σ (own.map (·.2))) H3 s4 → Turn X.prog X.w X.K tg J fp it tn → tn 0 s4.heap → (∀ b ∈ fp, H3 b = none) →
      (∀ H' s', Inv (X.blk s3 H3 scope (compEnvC scope cl L X.env) fp) [] (L2.wipe σ (own.map (·.2))) H' s' → Q (.ref D) H' → compPost (model X.prog X.w) X.A X.xe use Qf (.ref D) L (.ok .next) s') → C J D H3 →
      codeAny (model X.prog X.w) X.A (.compLoop (.DictComp kx vx (⟨tg, iter, [], 0⟩ :: gs) scope pos) 0 (.ref it) (.ref D) (compEnvC scope cl L X.env)) (compPost (model X.prog X.w) X.A X.xe use Qf (.ref D) L) s4) :
    wpAny (model X.prog X.w) X.A (comprehension (.DictComp kx vx (⟨tg, iter, [], 0⟩ :: gs) scope pos) scope X.env pos' newDict false (eval iter X.env) use) Qf X.xe s := by
  have cells : ∀ n ∈ scope.names, n.2 = .free → ∃ c, X.env.cells.lookup n.1 = some c := fun n hn e => (ok.free n hn e).elim (fun k => I.ok.has _ (.inl k)) fun k => I.ok.has _ (.inr k)
  refine wpAny_comprehension_free (use := use) rfl hs (closure_ok cells) ok.kind (fun n hn e => by rw [ok.uniq n hn, e]) (thn (hi.run pins s σ H _ I h) fun xv s1 hx => thn hx fun iv s2 hq => ?_)
  obtain ⟨it, fp, tn, J, H2, rfl, I2, T, t2, f2, hC⟩ := hq
  refine wpAny_newObj_type (newEnv_comp ?_)
  have dn : H2 s2.heap.objs.size = none := I2.hok.fresh (Nat.le_refl _)
  have dm : (s2.heap.objs.size == sysModules) = false := beq_eq_false_iff_ne.mpr (Nat.ne_of_gt I2.big)
  have hC := hC _ dn dm
  have lay : ObjOk X.prog X.w (upd H2 s2.heap.objs.size (.ext (dictP [] 0 s2.heap.objs.size))) (s2.heap.push { cls := .type "dict", data := .dict #[] }) s2.heap.objs.size (.ext (dictP [] 0 s2.heap.objs.size)) :=
    ext_ok ⟨_, #[], Heap.get?_push_size _ rfl, ⟨rfl, rfl, by first | rfl | decide⟩, rfl, rfl, List.nodup_nil⟩
  have I3 := I2.laid (t' := s2.toks) (fun b o e => Heap.get?_push_of_some _ e) (Nat.le_refl _) lay
  generalize eD : s2.heap.objs.size = D at hC I3
  generalize e3 : ({ s2 with heap := s2.heap.push { cls := .type "dict", data := .dict #[] }, toks := s2.toks } : Shared) = s3 at I3
  have h3 : s3.heap = s2.heap.push { cls := .type "dict", data := .dict #[] } := by rw [← e3]
  have old : ∀ b ∈ fp, b < D := fun b hb => by
    obtain ⟨o, e, _⟩ := T.obj _ _ t2 b hb
    rw [← eD]
    exact Heap.lt_size e
  generalize eH : upd H2 D (.ext (dictP [] 0 D)) = H3 at hC I3
  have f3 : ∀ b ∈ fp, FpOk X pins H3 b ∧ b < s3.heap.objs.size := fun b hb => by
    have lt := old b hb
    refine ⟨⟨?_, (f2 b hb).2⟩, by rw [← eD] at lt; rw [h3, Heap.size_push]; exact Nat.lt_succ_of_lt lt⟩
    rw [← eH, upd_ne (Nat.ne_of_lt lt)]
    exact (f2 b hb).1
  have I4 := block_start I3 ok hN f3
  have t3 : tn 0 s3.heap := T.keep _ _ _ t2 fun b _ o e => by rw [h3]; exact Heap.get?_push_of_some _ e
  have post : ∀ H' s', Inv (X.blk s3 H3 scope (compEnvC scope (cellsFrom (s3.heap.objs.size + 1) scope.names (cloFrom X.env.cells scope.names [])) s3.heap.objs.size X.env) fp) [] (L2.wipe σ (own.map (·.2))) H' s' → Q (.ref D) H' → compPost (model X.prog X.w) X.A X.xe use Qf (.ref D) s3.heap.objs.size (.ok .next) s' := fun H' s' J' hQ => by
    have I7 : Inv X pins σ H' s' := I3.call' (ch := fp) J'.os J'.base J'.hok J'.bare fun b hb => by
      obtain ⟨⟨_, a2, _, a4, a5, a6⟩, _⟩ := f3 b hb
      exact ⟨a4, a2, a5, a6⟩
    obtain ⟨m, hm, _⟩ := J'.loc
    exact last D s3.heap.objs.size s' H' m I7 hQ hm (I3.fpOk (Nat.le_refl _) (show H' s3.heap.objs.size = none from J'.free))
  subst eD
  have t4 : tn 0 (pushCells (s3.heap.push { cls := .type "dict", data := .dict #[] }) scope.names) := T.keep _ _ _ t3 fun b _ o e => pushCells_keeps _ _ _ _ (Heap.get?_push_of_some _ e)
  have run := go J s2.heap.objs.size H3 s3 _ _ _ fp it tn I4 T t4 (fun b hb => (f3 b hb).1.1) post hC
  exact codeAny_compStart_dict run (T.self X.A 0 _ _ _ t4 run)
end
end VL
end
section
set_option Elab.async false
set_option linter.all false
set_option maxRecDepth 100000
set_option maxHeartbeats 2000000
namespace VL
open PySem PySem.Spec PyProof.Rows L2 HT PySem.W PySem.Calls LamX
/-! ### the turns of a dict comprehension of two clauses without tests -/
abbrev dc2 (kx vx t0 i0 t1 i1 : Expr) (scope : Scope) (pos : Pos) : Expr := .DictComp kx vx [⟨t0, i0, [], 0⟩, ⟨t1, i1, [], 0⟩] scope pos
section
variable (kx vx t0 i0 t1 i1 : Expr) (scope : Scope) (pos : Pos) (it : Value) (D : Addr) (env : Env)
theorem dc2_turn0 : compTurn (dc2 kx vx t0 i0 t1 i1 scope pos) 0 it (.ref D) env = standAt i0.pos >>= fun _ => pyNext it >>= fun r => match r with
      | none => pure (.done .next)
      | some v => letOwnedTupleGo t0 it v >>= fun _ => assign t0 env v >>= fun _ => eval i1 env >>= fun x => standAt i1.pos >>= fun _ => foldedSetIterable i1 env x >>= fun x => holding [x] (pyIter x) >>= fun j =>
        runOwn (.compStart (dc2 kx vx t0 i0 t1 i1 scope pos) 1 j (.ref D) env) env >>= fun _ => again (.compLoop (dc2 kx vx t0 i0 t1 i1 scope pos) 0 it (.ref D) env) := by rfl
theorem dc2_turn1 : compTurn (dc2 kx vx t0 i0 t1 i1 scope pos) 1 it (.ref D) env = standAt i1.pos >>= fun _ => pyNext it >>= fun r => match r with
      | none => pure (.done .next)
      | some v => letOwnedTupleGo t1 it v >>= fun _ => assign t1 env v >>= fun _ => (eval kx env >>= fun a => holding [a] (eval vx env) >>= fun b => standAt { kx.pos with endLine := vx.pos.endLine, endCol := vx.pos.endCol } >>= fun _ => holding [a, b] (dictSet D a b)) >>= fun _ =>
        again (.compLoop (dc2 kx vx t0 i0 t1 i1 scope pos) 1 it (.ref D) env) := by rfl
end
end VL
namespace VL
open PySem PySem.Spec PyProof.Rows L2 HT PySem.W PySem.Calls LamX
abbrev NoX : Value → Shared → Prop := fun _ _ => False
section
variable {prog : Program} {w : World} {A : Around} {R : Result → Shared → Prop} {s : Shared} {kx vx t0 i0 t1 i1 : Expr} {scope : Scope} {pos : Pos} {it : Value} {D : Addr} {env : Env}
theorem toX {α : Type} {m : Sem α} {M : Model} {Q Q' : α → Shared → Prop} {E : Value → Shared → Prop} (h : wpAny M A m Q NoX s) (q : ∀ a s', Q a s' → Q' a s') : wpAny M A m Q' E s := wpAny_mono h q fun _ _ z => z.elim
theorem dc2_loop0 (hs : ∀ x, foldedSetIterable i1 env x = pure x) (Iv : Nat → Shared → Prop)
    (turn : ∀ n s, Iv n s → wpAny (model prog w) A (pyNext it) (fun r s1 => match r with
      | none => R (.ok .next) s1
      | some v => wpAny (model prog w) A (letOwnedTupleGo t0 it v) (fun _ s2 => wpAny (model prog w) A (assign t0 env v) (fun _ s3 => wpAny (model prog w) A (eval i1 env) (fun x s4 => wpAny (model prog w) A (pyIter x) (fun j s5 =>
          codeAny (model prog w) A (.compStart (dc2 kx vx t0 i0 t1 i1 scope pos) 1 j (.ref D) env) (fun q s' => match q with
            | .ok _ => ∃ m, m < n ∧ Iv m s'
            | .error _ => False) s5) NoX s4) NoX s3) NoX s2) NoX s1) NoX s) (n : Nat) (h : Iv n s) : codeAny (model prog w) A (.compLoop (dc2 kx vx t0 i0 t1 i1 scope pos) 0 it (.ref D) env) R s := by
  refine codeAny_loop rfl Iv (fun n s hI => ?_) n h
  show wpAny _ A (Sem.onRaise (compTurn (dc2 kx vx t0 i0 t1 i1 scope pos) 0 it (.ref D) env) _) _ _ s
  refine wpAny_noted ?_
  rw [dc2_turn0]
  refine wpAny_bind (wpAny_standAt (wpAny_bind (toX (turn n s hI) fun r s1 h1 => ?_)))
  cases r with
  | none => exact wpAny_pure h1
  | some v =>
    refine wpAny_bind (toX h1 fun _ s2 h2 => wpAny_bind (toX h2 fun _ s3 h3 => wpAny_bind (toX h3 fun x s4 h4 => wpAny_bind (wpAny_standAt (wpAny_bind (wpAny_of_eq (hs x) (wpAny_bind (wpAny_holding (toX h4 fun j s5 h5 => ?_)))))))))
    refine wpAny_bind (wpAny_runOwn ?_)
    rw [Around.mark_none]
    refine codeAny_mono h5 fun q s' hq => ?_
    cases q with
    | ok _ => exact wpAny_pure ⟨rfl, hq⟩
    | error _ => exact hq.elim
theorem dc2_loop1 (Iv : Nat → Shared → Prop)
    (turn : ∀ n s, Iv n s → wpAny (model prog w) A (pyNext it) (fun r s1 => match r with
      | none => R (.ok .next) s1
      | some v => wpAny (model prog w) A (letOwnedTupleGo t1 it v) (fun _ s2 => wpAny (model prog w) A (assign t1 env v) (fun _ s3 => wpAny (model prog w) A (eval kx env) (fun a s4 => wpAny (model prog w) A (eval vx env) (fun b s5 =>
          wpAny (model prog w) A (dictSet D a b) (fun _ s6 => ∃ m, m < n ∧ Iv m s6) NoX s5) NoX s4) NoX s3) NoX s2) NoX s1) NoX s) (n : Nat) (h : Iv n s) : codeAny (model prog w) A (.compLoop (dc2 kx vx t0 i0 t1 i1 scope pos) 1 it (.ref D) env) R s := by
  refine codeAny_loop rfl Iv (fun n s hI => ?_) n h
  show wpAny _ A (Sem.onRaise (compTurn (dc2 kx vx t0 i0 t1 i1 scope pos) 1 it (.ref D) env) _) _ _ s
  refine wpAny_noted ?_
  rw [dc2_turn1]
  refine wpAny_bind (wpAny_standAt (wpAny_bind (toX (turn n s hI) fun r s1 h1 => ?_)))
  cases r with
  | none => exact wpAny_pure h1
  | some v =>
    refine wpAny_bind (toX h1 fun _ s2 h2 => wpAny_bind (toX h2 fun _ s3 h3 => wpAny_bind (wpAny_bind (toX h3 fun a s4 h4 => wpAny_bind (wpAny_holding (toX h4 fun b s5 h5 => wpAny_bind (wpAny_standAt (wpAny_holding (toX h5 fun _ s6 h6 => ?_)))))))))
    exact wpAny_pure ⟨rfl, h6⟩
theorem dc2_start1 (h0 : codeAny (model prog w) A (.compLoop (dc2 kx vx t0 i0 t1 i1 scope pos) 1 it (.ref D) env) R s)
    (h : wpAny (model prog w) A (pyIter it) (fun j s' => codeAny (model prog w) A (.compLoop (dc2 kx vx t0 i0 t1 i1 scope pos) 1 j (.ref D) env) R s') NoX s) :
    codeAny (model prog w) A (.compStart (dc2 kx vx t0 i0 t1 i1 scope pos) 1 it (.ref D) env) R s := by
  refine codeAny_of_tree ?_
  show wpAny _ A (Sem.onRaise (compStart (dc2 kx vx t0 i0 t1 i1 scope pos) 1 it (.ref D) env) _) _ _ s
  refine wpAny_notedAt ?_
  unfold compStart
  show wpAny _ A (ask >>= _) _ _ s
  refine wpAny_bind (wpAny_askSetting (wpAny_ite ?_))
  split
  · first | exact wpAny_pure (And.intro rfl h0) | exact wpAny_bind (wpAny_pure (wpAny_pure (And.intro rfl h0)))
  · refine wpAny_bind (wpAny_rule ?_)
    show wpAny _ A (standAt i1.pos >>= _) _ _ s
    exact wpAny_bind (wpAny_standAt (wpAny_bind (toX h fun j s' h' => wpAny_pure (And.intro rfl h'))))
end
end VL
end
section
set_option Elab.async false
set_option linter.all false
set_option maxRecDepth 100000
set_option maxHeartbeats 2000000
namespace VL
open PySem PySem.Spec PyProof.Rows L2 HT PySem.W PySem.Calls LamX
abbrev sl2 (own : List (Str × Nat)) : List Nat := own.map fun x => x.2
/-! ### the readings -/
/-- what a turn does once the names are set: the key, the value, the store -/
def tFill (K : PySem.W.Frag) (D : Addr) (tk tv : TE) (Nx : Hp → Prop) : L2.St → Hp → Prop := fun σ H => tk σ H fun y H1 => tv σ H1 fun z H2 => AtK K H2 (.ref D) y fun k b xs a => ∀ u ep, RelV z u → Nx (upd H2 D (.ext (dictP (storedH xs k b u) ep D)))
/-- a loop over J from H, each turn of which is `body`, ends in Qd -/
def tTurns (J : It) (H0 : Hp) (body : (Hp → Prop) → V → Hp → Prop) (Qd : Hp → Prop) : Prop := ∃ Wv : Nat → Nat → Hp → Prop, (∃ m, Wv 0 m H0) ∧ ∀ i m H, Wv i m H → (J.stop i H ∧ Qd H) ∨ (J.go i H ∧ ∃ Nx : Hp → Prop, (∀ H', Nx H' → ∃ m', m' < m ∧ Wv (i + 1) m' H') ∧ ∀ x H', J.yld i H x H' → body Nx x H')
def tDc1 (K : PySem.W.Frag) (wi : TI) (g : TG) (tk tv : TE) (vs : List Nat) : TE := fun σ H Q => wi σ H fun J H1 => ∀ D, H1 D = none → (D == sysModules) = false →
  tTurns J (upd H1 D (.ext (dictP [] 0 D))) (fun Nx x H' => g x (L2.wipe σ vs) H' fun σ2 H2 => L2.wipe σ2 vs = L2.wipe σ vs ∧ tFill K D tk tv Nx σ2 H2) fun H' => Q (.ref D) H'
def tDc2 (K : PySem.W.Frag) (wi : TI) (g : TG) (wj : TI) (g1 : TG) (tk tv : TE) (vs vs1 : List Nat) : TE := fun σ H Q => wi σ H fun J H1 => ∀ D, H1 D = none → (D == sysModules) = false →
  tTurns J (upd H1 D (.ext (dictP [] 0 D))) (fun Nx x H' => g x (L2.wipe σ vs) H' fun σ2 H2 => L2.wipe σ2 vs = L2.wipe σ vs ∧ wj σ2 H2 fun J1 H3 =>
    tTurns J1 H3 (fun Nx1 x1 H4 => g1 x1 (L2.wipe σ2 vs1) H4 fun σ3 H5 => L2.wipe σ3 vs1 = L2.wipe σ2 vs1 ∧ tFill K D tk tv Nx1 σ3 H5) Nx) fun H' => Q (.ref D) H'
section
variable {X : Cx}
abbrev Bl (X : Cx) (scope : Scope) (P : Cx → Prop) : Prop := ∀ (s : Shared) (H : Hp) (C : Addr) (cl : List (Str × Addr)) (fp : List Addr), P (X.blk s H scope (compEnvC scope cl C X.env) fp)
theorem blk_fp {s3 : Shared} {H3 : Hp} {scope : Scope} {ce : Env} {fp : List Addr} {σ' : L2.St} {H' : Hp} {s' : Shared} (J : Inv (X.blk s3 H3 scope ce fp) [] σ' H' s') (hn : ∀ b ∈ fp, H' b = none) : ∀ b ∈ fp, FpOk (X.blk s3 H3 scope ce fp) [] H' b := fun b hb =>
  ⟨hn b hb, (J.ok.exf b hb).1, J.ok.exfs b hb, .inl hb, fun x c e => (J.ok.exf b hb).2 x c e, fun p hp => by cases (show p ∈ ([] : List (Addr × Obj)) ++ [] from hp)⟩
/-- the iterator's objects are as they were when they were pinned -/
theorem pins_back {Y : Cx} {pn : List (Addr × Obj)} {fp : List Addr} {h0 : Heap} {σ' : L2.St} {H' : Hp} {s' : Shared} (J : Inv Y (pn ++ pinsAt fp h0) σ' H' s') : ∀ b ∈ fp, ∀ o, h0.get? b = some o → s'.heap.get? b = some o ∧ H' b = none := fun b hb o e => by
  have z := J.pin (b, o) (List.mem_append_right _ (List.mem_append_right _ (mem_pinsAt hb e)))
  exact ⟨z.1, z.2.1⟩
theorem dc1_core {kx vx tg iter : Expr} {scope : Scope} {own : List (Str × Nat)} {pos pos' : Pos} {wi : TI} {g : TG} {tk tv : TE} {pins : List (Addr × Obj)} {s : Shared} {σ : L2.St} {H : Hp} {Q : VK} {use : Option (Value → Sem Unit)} {Qf : Value → Shared → Prop} (hc : X.calm = true) (hN : X.N.Nodup) (hu : X.A.units + 65 < cLine) (hi : PI X tg iter wi) (ok : BlkOk X.N X.env.scope scope own)
    (hg : Bl X scope fun Y => PG Y tg g) (hk : Bl X scope fun Y => PE Y kx tk) (hv : Bl X scope fun Y => PE Y vx tv) (hs : ∀ x, foldedSetIterable iter X.env x = pure x) (I : Inv X pins σ H s) (h : tDc1 X.K wi g tk tv (sl2 own) σ H Q)
    (last : ∀ (D L : Addr) (s' : Shared) (H' : Hp) (m : Str → Option Value), Inv X pins σ H' s' → Q (.ref D) H' → s'.heap.Ns L m → FpOk X pins H' L → compPost (model X.prog X.w) X.A X.xe use Qf (.ref D) L (.ok .next) s') :
    wpAny (model X.prog X.w) X.A (comprehension (.DictComp kx vx [⟨tg, iter, [], 0⟩] scope pos) scope X.env pos' newDict false (eval iter X.env) use) Qf X.xe s := by
  refine dc_blk (C := fun J D H0 => tTurns J H0 (fun Nx x H' => g x (L2.wipe σ (sl2 own)) H' fun σ2 H2 => L2.wipe σ2 (sl2 own) = L2.wipe σ (sl2 own) ∧ tFill X.K D tk tv Nx σ2 H2) fun H' => Q (.ref D) H') hN I hi ok hs h last fun J D H3 s3 s4 cl L fp it tn I4 T t4 n4 post hC => ?_
  obtain ⟨Wv, ⟨m0, w0⟩, turn⟩ := hC
  refine compLoop_anyD (fun n s' => ∃ i H', Inv (X.blk s3 H3 scope (compEnvC scope cl L X.env) fp) [] (L2.wipe σ (sl2 own)) H' s' ∧ tn i s'.heap ∧ (∀ b ∈ fp, H' b = none) ∧ Wv i n H') ?_ m0 ⟨0, H3, I4, t4, n4, w0⟩
  rintro n s5 ⟨i, H5, I5, t5, n5, w5⟩
  rcases turn i n H5 w5 with ⟨stop, hq⟩ | ⟨go, Nx, hNx, step⟩
  · refine toX (T.done (X.blk s3 H3 scope (compEnvC scope cl L X.env) fp) rfl rfl rfl hc i [] s5 _ H5 NoX I5 (blk_fp I5 n5) t5 stop) fun r s6 ⟨er, I6⟩ => ?_
    subst er
    exact post H5 s6 I6 hq
  · refine toX (T.item (X.blk s3 H3 scope (compEnvC scope cl L X.env) fp) rfl rfl rfl hc i [] s5 _ H5 NoX I5 (blk_fp I5 n5) t5 go) fun r s6 ⟨u, er, h6⟩ => ?_
    subst er
    refine toX h6 fun _ s7 ⟨x, H7, I7, r7, y7, t7, n7⟩ => ?_
    have I8 := I7.pinned (blk_fp I7 n7) (T.obj _ _ t7)
    refine thnF ((hg s3 H3 L cl fp).run _ s7 _ H7 x u _ I8 r7 (step x H7 y7)) fun _ s8 ⟨σ8, H8, I8, hw, q8⟩ => ?_
    refine thnF ((pts_nil (X := X.blk s3 H3 scope (compEnvC scope cl L X.env) fp)).run _ s8 σ8 H8 (fun b H' => b = true ∧ H' = H8) I8 ⟨rfl, rfl⟩) fun b s9 ⟨H9, I9, eb, e9⟩ => ?_
    subst eb e9
    rw [if_pos rfl]
    refine thnF ((hk s3 H3 L cl fp).run _ s9 σ8 H9 _ I9 q8) fun uk s10 ⟨y, H10, I10, ry, q10⟩ => ?_
    refine thnF ((hv s3 H3 L cl fp).run _ s10 σ8 H10 _ I10 q10) fun uv s11 ⟨z, H11, I11, rz, q11⟩ => ?_
    refine fills (X := X.blk s3 H3 scope (compEnvC scope cl L X.env) fp) hu I11 ry rz q11 fun H' s' I' nx => ?_
    obtain ⟨m', lt, w'⟩ := hNx H' nx
    have pb := pins_back I'
    refine ⟨m', lt, i + 1, H', (I'.unpinned (pins := [])).weak (by rw [← hw, wipe_length]) (fun j v e => by rw [← hw] at e; exact (wipe_some e).1), T.keep _ _ _ t7 fun b hb o e => (pb b hb o e).1, fun b hb => ?_, w'⟩
    obtain ⟨o, e, _⟩ := T.obj _ _ t7 b hb
    exact (pb b hb o e).2
theorem pe_dc1 {kx vx tg iter : Expr} {scope : Scope} {own : List (Str × Nat)} {pos : Pos} {wi : TI} {g : TG} {tk tv : TE} (hc : X.calm = true) (hN : X.N.Nodup) (hu : X.A.units + 65 < cLine) (hi : PI X tg iter wi) (ok : BlkOk X.N X.env.scope scope own)
    (hg : Bl X scope fun Y => PG Y tg g) (hk : Bl X scope fun Y => PE Y kx tk) (hv : Bl X scope fun Y => PE Y vx tv) (hs : ∀ x, foldedSetIterable iter X.env x = pure x := by intro _; rfl) :
    PE X (.DictComp kx vx [⟨tg, iter, [], 0⟩] scope pos) (tDc1 X.K wi g tk tv (sl2 own)) := ⟨fun pins s σ H Q I h => by
  rw [arm_eval_DictComp]
  exact dc1_core hc hN hu hi ok hg hk hv hs I h fun D L s' H' m I' q hn f => by
    obtain ⟨f0, f1, _, f3, f4, f5⟩ := f
    exact ⟨m, hn, fun h'' sb => ⟨.ref D, H', I'.turned (t' := s'.toks) (fun b o nb e => (sb.2 b nb).trans e) f0 f1 f3 f4 f5, rfl, q⟩⟩⟩
/-- a name that no inner scope has is set to a dict comprehension -/
theorem ps_setDc1 {i : Nat} {y : Str} {py : Pos} {kx vx tg iter : Expr} {scope : Scope} {own : List (Str × Nat)} {pos spos : Pos} {wi : TI} {g : TG} {tk tv : TE} (hc : X.calm = true) (hN : X.N.Nodup) (hu : X.A.units + 65 < cLine) (hy : X.N[i]? = some y) (hyl : X.env.scope.names.lookup y = some .local)
    (hsw : swapsWith (.DictComp kx vx [⟨tg, iter, [], 0⟩] scope pos) (some (.Name y py)) spos.line X.env = pure true) (hi : PI X tg iter wi) (ok : BlkOk X.N X.env.scope scope own)
    (hg : Bl X scope fun Y => PG Y tg g) (hk : Bl X scope fun Y => PE Y kx tk) (hv : Bl X scope fun Y => PE Y vx tv) (hs : ∀ x, foldedSetIterable iter X.env x = pure x := by intro _; rfl) :
    PS X (.Assign [.Name y py] (.DictComp kx vx [⟨tg, iter, [], 0⟩] scope pos) spos) (tAsg (tDc1 X.K wi g tk tv (sl2 own)) (gName i)) := ⟨fun pins s σ H D I h => by
  rw [exec_Assign_Name_used _ _ _ _ hsw]
  refine wpAny_bind (wpAny_standAt (wpAny_bind ?_))
  show wpAny _ X.A (comprehension (.DictComp kx vx [⟨tg, iter, [], 0⟩] scope pos) scope X.env (firstIterPos [⟨tg, iter, [], 0⟩] pos) newDict false (eval iter X.env) (some (assign (.Name y py) X.env)) >>= _) _ _ s
  have h : tDc1 X.K wi g tk tv (sl2 own) σ H (fun x H1 => gName i x σ H1 D.nx) := h
  refine wpAny_bind (thn (dc1_core (Qf := fun _ s' => SP X pins D .next s') hc hN hu hi ok hg hk hv hs I h fun L C s' H' m I' q hn f => ?_) fun _ s' hq => wpAny_pure (wpAny_pure hq))
  obtain ⟨f0, f1, _, f3, f4, f5⟩ := f
  show wpAny _ _ (assign (.Name y py) X.env (.ref L)) _ _ _
  refine wpAny_assign_Name (store_ok2 (v := V.ref L) I' hN hy (.inl hyl) rfl (fun s2 I2 ⟨a, sb, ha⟩ => ⟨m, hn.sameBut sb ?_, fun h3 sb3 => ⟨_, H', I2.turned (t' := s2.toks) (fun b o nb e => (sb3.2 b nb).trans e) f0 f1 f3 f4 f5, q⟩⟩) (.inr hyl))
  rcases ha with z | z
  · rw [z]
    exact f1
  · exact fun e => f4 y a z e.symm⟩
theorem sw_dict {kx vx : Expr} {gs : List Comprehension} {scope : Scope} {pos py : Pos} {y : Str} {l : Nat} {env : Env} (hk : env.scope.kind = .function) (hy : env.scope.names.lookup y = some .local) (hl : (py.line == pos.line) = true)
    (ha : (scope.names.any fun (n, k) => n == y && (k == .local || k == .cell)) = false) : swapsWith (.DictComp kx vx gs scope pos) (some (.Name y py)) l env = pure true := by
  have k1 : env.kindOf y = some .local := hy
  have k2 : env.blockKind = .function := by
    unfold Env.blockKind
    rw [hk]
    rfl
  unfold swapsWith
  simp only [k1, k2, ha, Expr.pos, hl]
  rfl
theorem pe_dc2 {kx vx tg iter tg1 iter1 : Expr} {scope : Scope} {own : List (Str × Nat)} {vs1 : List Nat} {pos : Pos} {wi wj : TI} {g g1 : TG} {tk tv : TE} (hc : X.calm = true) (hN : X.N.Nodup) (hu : X.A.units + 65 < cLine) (hi : PI X tg iter wi) (ok : BlkOk X.N X.env.scope scope own) (hsub : ∀ i ∈ vs1, i ∈ sl2 own)
    (hg : Bl X scope fun Y => PG Y tg g) (hj : Bl X scope fun Y => PI Y tg1 iter1 wj) (hg1 : Bl X scope fun Y => PG Y tg1 g1) (hk : Bl X scope fun Y => PE Y kx tk) (hv : Bl X scope fun Y => PE Y vx tv) (hs : ∀ x, foldedSetIterable iter X.env x = pure x := by intro _; rfl) (hs1 : ∀ env x, foldedSetIterable iter1 env x = pure x := by intro _ _; rfl) :
    PE X (dc2 kx vx tg iter tg1 iter1 scope pos) (tDc2 X.K wi g wj g1 tk tv (sl2 own) vs1) := ⟨fun pins s σ H Q I h => by
  rw [arm_eval_DictComp]
  refine dc_blk (C := fun J D H0 => tTurns J H0 (fun Nx x H' => g x (L2.wipe σ (sl2 own)) H' fun σ2 H2 => L2.wipe σ2 (sl2 own) = L2.wipe σ (sl2 own) ∧ wj σ2 H2 fun J1 H3 =>
    tTurns J1 H3 (fun Nx1 x1 H4 => g1 x1 (L2.wipe σ2 vs1) H4 fun σ3 H5 => L2.wipe σ3 vs1 = L2.wipe σ2 vs1 ∧ tFill X.K D tk tv Nx1 σ3 H5) Nx) fun H' => Q (.ref D) H') hN I hi ok hs h (fun D L s' H' m I' q hn f => by
    obtain ⟨f0, f1, _, f3, f4, f5⟩ := f
    exact ⟨m, hn, fun h'' sb => ⟨.ref D, H', I'.turned (t' := s'.toks) (fun b o nb e => (sb.2 b nb).trans e) f0 f1 f3 f4 f5, rfl, q⟩⟩) fun J D H3 s3 s4 cl L fp it tn I4 T t4 n4 post hC => ?_
  obtain ⟨Wv, ⟨m0, w0⟩, turn⟩ := hC
  refine dc2_loop0 (hs1 _) (fun n s' => ∃ i H', Inv (X.blk s3 H3 scope (compEnvC scope cl L X.env) fp) [] (L2.wipe σ (sl2 own)) H' s' ∧ tn i s'.heap ∧ (∀ b ∈ fp, H' b = none) ∧ Wv i n H') ?_ m0 ⟨0, H3, I4, t4, n4, w0⟩
  rintro n s5 ⟨i, H5, I5, t5, n5, w5⟩
  rcases turn i n H5 w5 with ⟨stop, hq⟩ | ⟨go, Nx, hNx, step⟩
  · refine toX (T.done (X.blk s3 H3 scope (compEnvC scope cl L X.env) fp) rfl rfl rfl hc i [] s5 _ H5 NoX I5 (blk_fp I5 n5) t5 stop) fun r s6 ⟨er, I6⟩ => ?_
    subst er
    exact post H5 s6 I6 hq
  · refine toX (T.item (X.blk s3 H3 scope (compEnvC scope cl L X.env) fp) rfl rfl rfl hc i [] s5 _ H5 NoX I5 (blk_fp I5 n5) t5 go) fun r s6 ⟨u, er, h6⟩ => ?_
    subst er
    refine toX h6 fun _ s7 ⟨x, H7, I7, r7, y7, t7, n7⟩ => ?_
    have I8 := I7.pinned (blk_fp I7 n7) (T.obj _ _ t7)
    refine toX ((hg s3 H3 L cl fp).run _ s7 _ H7 x u _ I8 r7 (step x H7 y7)) fun _ s8 ⟨σ8, H8, I8, hw, q8⟩ => ?_
    refine toX ((hj s3 H3 L cl fp).run _ s8 σ8 H8 _ I8 q8) fun xv s9 hx => toX hx fun iv s10 hi10 => ?_
    obtain ⟨it1, fp1, tn1, J1, H10, rfl, I10, T1, t10, f10, Wj, ⟨m1, w1⟩, turn1⟩ := hi10
    have hl : (L2.wipe σ (sl2 own)).length = σ8.length := by rw [← hw, wipe_length]
    have keep9 : ∀ (j : Nat) v, (L2.wipe σ (sl2 own))[j]? = some (some v) → (L2.wipe σ8 vs1)[j]? = some (some v) := fun j v e => by
      rw [← hw] at e
      obtain ⟨e1, e2⟩ := wipe_some e
      rw [wipe_out fun z => e2 (hsub j z)]
      exact e1
    have fp1ok : ∀ {H' : Hp}, (∀ b ∈ fp1, H' b = none) → ∀ b ∈ fp1, FpOk (X.blk s3 H3 scope (compEnvC scope cl L X.env) fp) ([] ++ pinsAt fp s7.heap) H' b := fun hn b hb => ⟨hn b hb, (f10 b hb).2⟩
    have inner : codeAny (model X.prog X.w) X.A (.compLoop (dc2 kx vx tg iter tg1 iter1 scope pos) 1 (.ref it1) (.ref D) (compEnvC scope cl L X.env)) (fun q s' => match q with
        | .ok _ => ∃ m, m < n ∧ ∃ i H', Inv (X.blk s3 H3 scope (compEnvC scope cl L X.env) fp) [] (L2.wipe σ (sl2 own)) H' s' ∧ tn i s'.heap ∧ (∀ b ∈ fp, H' b = none) ∧ Wv i m H'
        | .error _ => False) s10 := by
      refine dc2_loop1 (fun k s' => ∃ j H', Inv (X.blk s3 H3 scope (compEnvC scope cl L X.env) fp) ([] ++ pinsAt fp s7.heap) (L2.wipe σ8 vs1) H' s' ∧ tn1 j s'.heap ∧ (∀ b ∈ fp1, H' b = none) ∧ Wj j k H') ?_ m1 ⟨0, H10, I10.weak (wipe_length _ _) (fun j v e => (wipe_some e).1), t10, fun b hb => (f10 b hb).1, w1⟩
      rintro k s12 ⟨j, H12, I12, t12, n12, w12⟩
      rcases turn1 j k H12 w12 with ⟨stop1, nx⟩ | ⟨go1, Ny, hNy, step1⟩
      · refine toX (T1.done (X.blk s3 H3 scope (compEnvC scope cl L X.env) fp) rfl rfl rfl hc j _ s12 _ H12 NoX I12 (fp1ok n12) t12 stop1) fun r s13 ⟨er, I13⟩ => ?_
        subst er
        obtain ⟨m', lt, w'⟩ := hNx H12 nx
        have pb := pins_back I13
        refine ⟨m', lt, i + 1, H12, (I13.unpinned (pins := [])).weak (hl.trans (wipe_length σ8 vs1).symm) keep9, T.keep _ _ _ t7 fun b hb o e => (pb b hb o e).1, fun b hb => ?_, w'⟩
        obtain ⟨o, e, _⟩ := T.obj _ _ t7 b hb
        exact (pb b hb o e).2
      · refine toX (T1.item (X.blk s3 H3 scope (compEnvC scope cl L X.env) fp) rfl rfl rfl hc j _ s12 _ H12 NoX I12 (fp1ok n12) t12 go1) fun r s13 ⟨u1, er, h13⟩ => ?_
        subst er
        refine toX h13 fun _ s14 ⟨x1, H14, I14, r14, y14, t14, n14⟩ => ?_
        have I15 := I14.pinned (fp1ok n14) (T1.obj _ _ t14)
        refine toX ((hg1 s3 H3 L cl fp).run _ s14 _ H14 x1 u1 _ I15 r14 (step1 x1 H14 y14)) fun _ s15 ⟨σ15, H15, I15, hw1, q15⟩ => ?_
        refine toX ((hk s3 H3 L cl fp).run _ s15 σ15 H15 _ I15 q15) fun uk s16 ⟨y, H16, I16, ry, q16⟩ => ?_
        refine toX ((hv s3 H3 L cl fp).run _ s16 σ15 H16 _ I16 q16) fun uv s17 ⟨z, H17, I17, rz, q17⟩ => ?_
        refine fills (X := X.blk s3 H3 scope (compEnvC scope cl L X.env) fp) hu I17 ry rz q17 fun H' s' I' nx => ?_
        obtain ⟨k', lt, w'⟩ := hNy H' nx
        have pb := pins_back I'
        refine ⟨k', lt, j + 1, H', I'.unpinned.weak (by rw [← hw1, wipe_length]) (fun j v e => by rw [← hw1] at e; exact (wipe_some e).1), T1.keep _ _ _ t14 fun b hb o e => (pb b hb o e).1, fun b hb => ?_, w'⟩
        obtain ⟨o, e, _⟩ := T1.obj _ _ t14 b hb
        exact (pb b hb o e).2
    exact dc2_start1 inner (T1.self X.A 0 _ _ _ t10 inner)⟩
end
end VL
end
section
set_option Elab.async false
set_option linter.all false
set_option maxRecDepth 100000
set_option maxHeartbeats 2000000
namespace VL
open PySem PySem.Spec PyProof.Rows L2 HT PySem.W PySem.Calls LamX
variable {K : PySem.W.Frag} {T : List (Addr × Str)}
/-! ### dict comprehensions over data -/
def dloop (fg : PyData → Ev → Option Ev) (fk fv : M PyData) (vs : List Nat) : List PyData → KVs → Ev → Option (KVs × Ev)
  | [], kvs, e => some (kvs, e)
  | d :: ds, kvs, e => match fg d e with
    | none => none
    | some e1 => bnd (fk e1) fun kd e2 => bnd (fv e2) fun vd e3 => if keyOk kd = true ∧ sz kvs.length = true then dloop fg fk fv vs ds (putD kvs kd vd) (wipeE vs e3) else none
def dloop2 (fg : PyData → Ev → Option Ev) (fj : M (List PyData)) (fg1 : PyData → Ev → Option Ev) (fk fv : M PyData) (vs vs1 : List Nat) : List PyData → KVs → Ev → Option (KVs × Ev)
  | [], kvs, e => some (kvs, e)
  | d :: ds, kvs, e => match fg d e with
    | none => none
    | some e1 => bnd (fj e1) fun js e2 => bnd (dloop fg1 fk fv vs1 js kvs (wipeE vs1 e2)) fun kvs1 e3 => dloop2 fg fj fg1 fk fv vs vs1 ds kvs1 (wipeE vs e3)
def endD (e1 : Ev) (vs : List Nat) (kvs : KVs) (e2 : Ev) : Option (Sl × Ev) := match rest e1 vs e2 with
  | none => none
  | some e3 => some (.dc kvs, e3)
def xDc1 (fi : M (List PyData)) (fg : PyData → Ev → Option Ev) (fk fv : M PyData) (vs : List Nat) : M Sl := fun e => bnd (fi e) fun ds e1 => bnd (dloop fg fk fv vs ds [] (wipeE vs e1)) fun kvs e2 => endD e1 vs kvs e2
def xDc2 (fi : M (List PyData)) (fg : PyData → Ev → Option Ev) (fj : M (List PyData)) (fg1 : PyData → Ev → Option Ev) (fk fv : M PyData) (vs vs1 : List Nat) : M Sl := fun e => bnd (fi e) fun ds e1 => bnd (dloop2 fg fj fg1 fk fv vs vs1 ds [] (wipeE vs e1)) fun kvs e2 => endD e1 vs kvs e2
/-- one turn -/
theorem dc_turn {g : TG} {tk tv : TE} {fg : PyData → Ev → Option Ev} {fk fv : M PyData} {vs : List Nat} (hg : SG K T g fg) (lc : Lcl vs g) (mn : Mn g) (hk : SE K T tk fk) (hv : SE K T tv fv) {W : Wd} {σ : L2.St} {H B : Hp} {e e1 e2 e3 : Ev} {D : Addr} {kvs : KVs} {x : V} {d kd vd : PyData} {Nx : Hp → Prop}
    (hT : W.tb = T) (r : Rel K W (some (.ref D) :: σ) H B (.dc kvs :: e)) (dx : Dp K B x d) (h1 : fg d e = some e1) (h2 : fk e1 = some (kd, e2)) (h3 : fv e2 = some (vd, e3)) (hok : keyOk kd = true) (hz : sz kvs.length = true)
    (nx : ∀ H' B', Same B B' → Rel K W (some (.ref D) :: L2.wipe σ vs) H' B' (.dc (putD kvs kd vd) :: wipeE vs e3) → Nx H') :
    g x σ H fun σ2 H2 => L2.wipe σ2 vs = L2.wipe σ vs ∧ tFill K D tk tv Nx σ2 H2 := by
  obtain ⟨p, xs, ep, ev, hp, ha, hm, rp, back⟩ := r.parkD
  cases ev
  have key : g x σ H fun σ2 H2 => L2.wipe σ2 vs = L2.wipe σ vs ∧ ∃ B2, H2 = H ∧ B2 = B ∧ Rel K (W.hold D (.ext (dictP xs ep D))) σ2 H2 B2 e1 := lc _ _ _ _ (hg (W.hold D (.ext (dictP xs ep D))) hT σ H B e x d e1 _ h1 rp dx fun σ' r' => ⟨B, rfl, rfl, r'⟩)
  refine mn _ _ _ _ _ (fun σ2 H2 ⟨ew, B2, eH, eB, r2⟩ => ⟨ew, ?_⟩) key
  subst eH eB
  refine hk (W.hold D (.ext (dictP xs ep D))) hT σ2 H2 B2 e1 kd e2 _ h2 r2 fun y H3 B3 s3 r3 dy => ?_
  refine hv (W.hold D (.ext (dictP xs ep D))) hT σ2 H3 B3 e2 vd e3 _ h3 r3 fun z H4 B4 s4 r4 dz => ?_
  obtain ⟨r5, hD⟩ := back σ2 H4 B4 e3 (s3.trans s4) r4
  obtain ⟨⟨ds, rfl⟩, ⟨k, hk⟩, h8⟩ := keyOk_some hok
  have dy' := dp_mono s4 dy
  obtain ⟨b, us, rfl, _⟩ := dp_tup dy'
  have ha' := ha.mono (s3.trans s4)
  refine ⟨D, xs, kvs, b, _, k, rfl, ⟨ep, hD⟩, ha'.mono r4.bh, dicOk ha hz, hm, rfl, dp_mono r4.bh dy', hk, h8, fun u ep' ru => ?_⟩
  have r6 := (r5.writeD (ep := ep') (ents_put ha' hk h8 dy' ru dz)).wipe1 vs
  rw [ew] at r6
  exact nx _ B4 (s3.trans s4) r6
/-- a loop -/
theorem dc_loop {J : It} {g : TG} {tk tv : TE} {fg : PyData → Ev → Option Ev} {fk fv : M PyData} {vs : List Nat} (hg : SG K T g fg) (lc : Lcl vs g) (mn : Mn g) (hk : SE K T tk fk) (hv : SE K T tv fv) {W : Wd} {σ : L2.St} {H1 B1 : Hp} {D : Addr} {ds : List PyData} {kvs0 zs : KVs} {e1 e2 : Ev} {Qd : Hp → Prop}
    (hT : W.tb = T) (ok : ItOk K B1 J ds) (r1 : Rel K W (some (.ref D) :: L2.wipe σ vs) H1 B1 (.dc kvs0 :: e1)) (h3 : dloop fg fk fv vs ds kvs0 e1 = some (zs, e2))
    (fin : ∀ H' B', Same B1 B' → Rel K W (some (.ref D) :: L2.wipe σ vs) H' B' (.dc zs :: e2) → Qd H') :
    tTurns J H1 (fun Nx x H' => g x (L2.wipe σ vs) H' fun σ2 H2 => L2.wipe σ2 vs = L2.wipe σ vs ∧ tFill K D tk tv Nx σ2 H2) Qd := by
  refine ⟨fun i m H => i ≤ ds.length ∧ m = ds.length - i ∧ ∃ B2 e4 kvs, Same B1 B2 ∧ Rel K W (some (.ref D) :: L2.wipe σ vs) H B2 (.dc kvs :: e4) ∧ dloop fg fk fv vs (ds.drop i) kvs e4 = some (zs, e2), ⟨_, Nat.zero_le _, rfl, B1, e1, kvs0, Same.refl B1, r1, h3⟩, ?_⟩
  rintro i m H2 ⟨hil, rfl, B2, e4, kvs, s2, r2, h6⟩
  have ok' := ok i H2 B2 s2 r2.bh
  cases hd : ds[i]? with
  | none =>
    have hl : i = ds.length := by
      have := List.getElem?_eq_none_iff.mp hd
      omega
    subst hl
    refine .inl ⟨ok'.1 hd rfl, ?_⟩
    rw [List.drop_length] at h6
    cases h6
    exact fin H2 B2 s2 r2
  | some d =>
    obtain ⟨hlt, _⟩ := List.getElem?_eq_some_iff.mp hd
    obtain ⟨go, yl⟩ := ok'.2 d hd
    refine .inr ⟨go, fun H' => ∃ B3 e5 kvs, Same B1 B3 ∧ Rel K W (some (.ref D) :: L2.wipe σ vs) H' B3 (.dc kvs :: e5) ∧ dloop fg fk fv vs (ds.drop (i + 1)) kvs e5 = some (zs, e2), fun H' ⟨B3, e5, kvs, q1, q2, q3⟩ => ⟨ds.length - (i + 1), by omega, hlt, rfl, B3, e5, kvs, q1, q2, q3⟩, fun x H3 hy => ?_⟩
    obtain ⟨B3, x3, dx⟩ := yl x H3 hy
    rw [drop_get hd] at h6
    unfold dloop at h6
    cases h8 : fg d e4 with
    | none => rw [h8] at h6; cases h6
    | some e5 =>
      rw [h8] at h6
      obtain ⟨kd, e6, h9, h10⟩ := bnd_some h6
      obtain ⟨vd, e7, h11, h12⟩ := bnd_some h10
      by_cases c : keyOk kd = true ∧ sz kvs.length = true
      · rw [if_pos c] at h12
        have wz : L2.wipe (L2.wipe σ vs) vs = L2.wipe σ vs := wipe_wipe fun i hi => hi
        have t := dc_turn hg lc mn hk hv hT (Nx := fun H' => ∃ B3 e5 kvs, Same B1 B3 ∧ Rel K W (some (.ref D) :: L2.wipe σ vs) H' B3 (.dc kvs :: e5) ∧ dloop fg fk fv vs (ds.drop (i + 1)) kvs e5 = some (zs, e2)) (r2.ext x3) dx h8 h9 h11 c.1 c.2 (fun H' B' sb r' => ?_)
        · rw [wz] at t
          exact t
        · rw [wz] at r'
          exact ⟨B', _, _, (s2.trans x3.b).trans sb, r', h12⟩
      · rw [if_neg c] at h12
        cases h12
theorem endD_some {e1 e2 e' : Ev} {vs : List Nat} {kvs : KVs} {s : Sl} (h : endD e1 vs kvs e2 = some (s, e')) : s = .dc kvs ∧ rest e1 vs e2 = some e' := by
  unfold endD at h
  cases h5 : rest e1 vs e2 with
  | none => rw [h5] at h; cases h
  | some e3 =>
    rw [h5] at h
    cases h
    exact ⟨rfl, rfl⟩
theorem Rel.ends {W : Wd} {σ : L2.St} {H1 H2 B1 B2 : Hp} {D : Addr} {kvs : KVs} {vs : List Nat} {e1 e2 e3 : Ev} (nd : vs.Nodup) (r1 : Rel K W σ H1 B1 e1) (sb : Same B1 B2) (r2 : Rel K W (some (.ref D) :: L2.wipe σ vs) H2 B2 (.dc kvs :: e2)) (h : VL.rest e1 vs e2 = some e3) : Rel K W (some (.ref D) :: σ) H2 B2 (.dc kvs :: e3) := by
  obtain ⟨p, xs, ep, ev, hp, ha, hm, rp, back⟩ := r2.parkD
  cases ev
  exact (back σ H2 B2 _ (Same.refl B2) (Rel.rest r1 sb vs nd rp h)).1
theorem sx_dc1 {wi : TI} {g : TG} {tk tv : TE} {fi : M (List PyData)} {fg : PyData → Ev → Option Ev} {fk fv : M PyData} {vs : List Nat} (nd : vs.Nodup) (hi : SI K T wi fi) (hg : SG K T g fg) (lc : Lcl vs g) (mn : Mn g) (hk : SE K T tk fk) (hv : SE K T tv fv) :
    SX K T (tDc1 K wi g tk tv vs) (xDc1 fi fg fk fv vs) := fun W hT σ H B e s e' Q hf r q => by
  obtain ⟨ds, e1, h1, h2⟩ := bnd_some hf
  obtain ⟨zs, e2, h3, h4⟩ := bnd_some h2
  obtain ⟨rfl, h5⟩ := endD_some h4
  refine hi W hT σ H B e ds e1 _ h1 r fun J H1 B1 s1 r1 ok D hD hm => ?_
  exact dc_loop hg lc mn hk hv hT ok ((r1.wipe vs).bornD hD hm) h3 fun H' B' sb r' => q _ H' B' (s1.trans sb) (Rel.ends nd r1 sb r' h5)
theorem sx_dc2 {wi wj : TI} {g g1 : TG} {tk tv : TE} {fi fj : M (List PyData)} {fg fg1 : PyData → Ev → Option Ev} {fk fv : M PyData} {vs vs1 : List Nat} (nd : vs.Nodup) (sub : ∀ i ∈ vs1, i ∈ vs) (hi : SI K T wi fi) (hg : SG K T g fg) (lc : Lcl vs g) (mn : Mn g) (hj : SI K T wj fj) (hg1 : SG K T g1 fg1) (lc1 : Lcl vs1 g1) (mn1 : Mn g1) (hk : SE K T tk fk) (hv : SE K T tv fv) :
    SX K T (tDc2 K wi g wj g1 tk tv vs vs1) (xDc2 fi fg fj fg1 fk fv vs vs1) := fun W hT σ H B e s e' Q hf r q => by
  obtain ⟨ds, e1, h1, h2⟩ := bnd_some hf
  obtain ⟨zs, e2, h3, h4⟩ := bnd_some h2
  obtain ⟨rfl, h5⟩ := endD_some h4
  refine hi W hT σ H B e ds e1 _ h1 r fun J H1 B1 s1 r1 ok D hD hm => ?_
  refine ⟨fun i m H => i ≤ ds.length ∧ m = ds.length - i ∧ ∃ B2 e4 kvs, Same B1 B2 ∧ Rel K W (some (.ref D) :: L2.wipe σ vs) H B2 (.dc kvs :: e4) ∧ dloop2 fg fj fg1 fk fv vs vs1 (ds.drop i) kvs e4 = some (zs, e2), ⟨_, Nat.zero_le _, rfl, B1, wipeE vs e1, [], Same.refl B1, (r1.wipe vs).bornD hD hm, h3⟩, ?_⟩
  rintro i m H2 ⟨hil, rfl, B2, e4, kvs, s2, r2, h6⟩
  have ok' := ok i H2 B2 s2 r2.bh
  cases hd : ds[i]? with
  | none =>
    have hl : i = ds.length := by
      have := List.getElem?_eq_none_iff.mp hd
      omega
    subst hl
    refine .inl ⟨ok'.1 hd rfl, ?_⟩
    rw [List.drop_length] at h6
    cases h6
    exact q _ H2 B2 (s1.trans s2) (Rel.ends nd r1 s2 r2 h5)
  | some d =>
    obtain ⟨hlt, _⟩ := List.getElem?_eq_some_iff.mp hd
    obtain ⟨go, yl⟩ := ok'.2 d hd
    refine .inr ⟨go, fun H' => ∃ B3 e5 kvs, Same B1 B3 ∧ Rel K W (some (.ref D) :: L2.wipe σ vs) H' B3 (.dc kvs :: e5) ∧ dloop2 fg fj fg1 fk fv vs vs1 (ds.drop (i + 1)) kvs e5 = some (zs, e2), fun H' ⟨B3, e5, kvs, q1, q2, q3⟩ => ⟨ds.length - (i + 1), by omega, hlt, rfl, B3, e5, kvs, q1, q2, q3⟩, fun x H3 hy => ?_⟩
    obtain ⟨B3, x3, dx⟩ := yl x H3 hy
    rw [drop_get hd] at h6
    unfold dloop2 at h6
    cases h8 : fg d e4 with
    | none => rw [h8] at h6; cases h6
    | some e5 =>
      rw [h8] at h6
      obtain ⟨js, e6, h9, h10⟩ := bnd_some h6
      obtain ⟨kvs1, e7, h11, h12⟩ := bnd_some h10
      have wz : L2.wipe (L2.wipe σ vs) vs = L2.wipe σ vs := wipe_wipe fun i hi => hi
      obtain ⟨p, xs, ep, ev, hp, ha, hm', rp, back⟩ := (r2.ext x3).parkD
      cases ev
      have key : g x (L2.wipe σ vs) H3 fun σ2 H2 => L2.wipe σ2 vs = L2.wipe (L2.wipe σ vs) vs ∧ ∃ B2, H2 = H3 ∧ B2 = B3 ∧ Rel K (W.hold D (.ext (dictP xs ep D))) σ2 H2 B2 e5 := lc _ _ _ _ (hg (W.hold D (.ext (dictP xs ep D))) hT (L2.wipe σ vs) H3 B3 e4 x d e5 _ h8 rp dx fun σ' r' => ⟨B3, rfl, rfl, r'⟩)
      refine mn _ _ _ _ _ (fun σ4 H4 ⟨ew, B4, eH, eB, r4⟩ => ⟨ew.trans wz, ?_⟩) key
      subst eH eB
      refine hj (W.hold D (.ext (dictP xs ep D))) hT σ4 H4 B4 e5 js e6 _ h9 r4 fun J1 H6 B6 s6 r6 ok1 => ?_
      have r7 := (back σ4 H6 B6 e6 s6 r6).1.wipe1 vs1
      refine dc_loop hg1 lc1 mn1 hk hv hT ok1 r7 h11 fun H7 B7 s7 r8 => ?_
      have r9 := r8.wipe1 vs
      rw [wipe_wipe sub, ew, wz] at r9
      exact ⟨B7, _, kvs1, ((s2.trans x3.b).trans s6).trans s7, r9, h12⟩
/-! ### a def that is lent a dict, its last argument -/
def lentD (s : Sl) : Option Sl → Option (Sl × KVs)
  | some (.db kvs) => some (s, kvs)
  | _ => none
theorem lentD_some {s t : Sl} {o : Option Sl} {kvs : KVs} (h : lentD s o = some (t, kvs)) : t = s ∧ o = some (.db kvs) := by
  unfold lentD at h
  split at h
  · cases h
    exact ⟨rfl, rfl⟩
  · cases h
abbrev FG := List Sl → KVs → Option (Sl × KVs)
def fnG (n m : Nat) (f : Ev → Option Out) : FG := fun ss kvs => if ss.length = n then (match f (ss ++ .db kvs :: List.replicate m .un) with
  | none => none
  | some (.nx e) => lentD (.sh .none) e[n]?
  | some (.rt s e) => lentD s e[n]?) else none
def spG (K : PySem.W.Frag) (F : FG) : Sp := fun vs H Q _ => ∃ (B : Hp) (p : Addr) (xs : List (NestedKey × Addr × Value)) (kvs : KVs) (vr : List V) (ss : List Sl) (s : Sl) (kvs1 : KVs), vs = vr ++ [.ref p] ∧ IsDic H p xs ∧ EntsOk K B xs kvs ∧ (p == sysModules) = false ∧ B p = none ∧ Same B H ∧ Sls K none H B (vr.map some) ss [] ∧ F ss kvs = some (s, kvs1) ∧
  ∀ v H' B', Same B B' → Rel K ⟨hideL [p] H, B, some p, []⟩ [some v, some (.ref p)] H' B' [s, .db kvs1] → Q v H'
theorem Rel.twoD {W : Wd} {σ : L2.St} {H B : Hp} {e : Ev} {o : Option V} {s : Sl} {kvs : KVs} {p : Addr} {i : Nat} (r : Rel K W (o :: σ) H B (s :: e)) (hp : W.bp = some p) (h : e[i]? = some (.db kvs)) : Rel K W [o, some (.ref p)] H B [s, .db kvs] := by
  obtain ⟨A, r⟩ := r
  cases hs : r.sls with
  | @cons _ _ as bs _ _ h1 t =>
    obtain ⟨o', cs, g1, g2, g3⟩ := t.at h
    cases g2 with
    | @db p' xs _ e1 a b c =>
      rw [hp] at e1
      cases e1
      obtain ⟨n1, n2, n3⟩ := List.nodup_append.mp r.nd
      have pin : p ∈ bs := g3 p List.mem_cons_self
      refine ⟨as ++ ([p] ++ []), .cons h1 (.cons (.db hp a b c) .nil), List.nodup_append.mpr ⟨n1, by simp, fun x hx y hy z => ?_⟩, fun q hq => r.out q ?_, r.bh, r.fr, r.new, r.tb⟩
      · rw [List.append_nil] at hy
        rw [List.mem_singleton.mp hy] at z
        exact n3 x hx p pin z
      · rcases List.mem_append.mp hq with z | z
        · exact List.mem_append_left _ z
        · rw [List.append_nil] at z
          rw [List.mem_singleton.mp z]
          exact List.mem_append_right _ pin
theorem Sls.bpOf {bp : Option Addr} {H B : Hp} : ∀ {σ : L2.St} {e : Ev}, Sls K none H B σ e [] → Sls K bp H B σ e [] := fun {σ e} h => by
  generalize ea : ([] : List Addr) = A at h
  induction h with
  | nil => exact .nil
  | @cons o sl as bs σ e h t ih =>
    have : as = [] ∧ bs = [] := List.append_eq_nil_iff.mp ea.symm
    obtain ⟨rfl, rfl⟩ := this
    have t' := ih rfl
    refine .cons (as := []) ?_ t'
    cases h with
    | un => exact .un
    | sh d => exact .sh d
    | ob a b => exact .ob a b
    | dr a b c => exact .dr a b c
section
variable {P : Program} {w : World} {mg : Str → Option Value} {base : Heap}
theorem okG {x qual : Str} {st : Stmt} {f : Addr} {fd : FuncData} {N ps : List Str} {k n m : Nat} {t : TS} {fb : Ev → Option Out} (hs : SS K [] t fb) (F : Fun K x qual st f fd) (S : FnScope N ps (defScope st)) (hN : N.length = n + 1 + m) (hp : ps.length = n + 1)
    (hb : ∀ (cdv : Value) (A : Around) (outer : List Env) (s : Shared) (H : Hp) (E : XK), Room k (A.deeper (envOfC qual (defScope st) s.heap.objs.size f cdv)) → PSs (cxOf CX0 P w K mg base N qual (defScope st) f cdv A outer s H E).nox (defBody st) t) :
    FnOk P w K mg base CX0 (k + 1) f fd ps (spG K (fnG n m fb)) := by
  have cut : ∀ {ss : List Sl} {kvs : KVs} {q : Sl × KVs}, fnG n m fb ss kvs = some q → ss.length = n := fun {ss kvs q} h => by
    unfold fnG at h
    by_cases c : ss.length = n
    · exact c
    · rw [if_neg c] at h
      cases h
  refine F.ok S (fun vs H Q E h => ?_) (fun cdv A outer s H vs Q E hr h => ?_)
  · obtain ⟨B, p, xs, kvs, vr, ss, sl, kvs1, rfl, _, _, _, _, _, h2, h3, _⟩ := h
    have := h2.len
    rw [List.length_map, cut h3] at this
    rw [List.length_append, this, hp]
    rfl
  · refine ⟨t, hb cdv A outer s H E hr, ?_⟩
    obtain ⟨B, p, xs, kvs, vr, ss, sl, kvs1, rfl, d1, d2, d3, d4, bh, h2, h3, qq⟩ := h
    have c := cut h3
    have hl := h2.len
    rw [List.length_map, c] at hl
    unfold fnG at h3
    rw [if_pos c] at h3
    have es : L2.start N (vr ++ [.ref p]) = vr.map some ++ (some (.ref p) :: List.replicate m none) := by
      rw [start_eq hN (by rw [List.length_append, hl]; rfl), List.map_append, List.append_assoc]
      rfl
    rw [es]
    have r0 : Rel K ⟨hideL [p] H, B, some p, []⟩ (vr.map some ++ (some (.ref p) :: List.replicate m none)) H B (ss ++ .db kvs :: List.replicate m .un) := by
      refine ⟨[] ++ ([p] ++ []), sls_app (.cons (.db rfl d1 d2 d3) (sls_un m)) h2.bpOf, by simp, fun q hq => ?_, bh, fun b o hb => (hideL_sub hb).2, fun b _ h => h, fun x hx => by cases hx⟩
      have : q = p := by simpa using hq
      rw [this]
      exact ⟨d4, hideL_in List.mem_cons_self⟩
    cases h4 : fb (ss ++ .db kvs :: List.replicate m .un) with
    | none => rw [h4] at h3; cases h3
    | some o =>
      rw [h4] at h3
      refine hs ⟨hideL [p] H, B, some p, []⟩ rfl _ _ H B _ o h4 r0 (fun e' σ' H' B' he sb r => ?_) (fun s' e' v σ' H' B' he sb r => ?_)
      · subst he
        obtain ⟨rfl, h8⟩ := lentD_some h3
        exact qq _ H' B' sb ((r.cons (d := .none) .non).twoD rfl h8)
      · subst he
        obtain ⟨rfl, h8⟩ := lentD_some h3
        exact qq v H' B' sb (r.twoD rfl h8)
end
/-- the arguments, the last one a dict that a slot has -/
def SAd (K : PySem.W.Frag) (T : List (Addr × Str)) (i : Nat) (t : TA) (f : M (List Sl)) : Prop := ∀ (W : Wd) (hT : W.tb = T) (σ : L2.St) (H B : Hp) (e : Ev) (ss : List Sl) (e' : Ev) (Q : List V → Hp → Prop), f e = some (ss, e') → Rel K W σ H B e →
  (∀ vs v H' B', Same B B' → Rel K W σ H' B' e' → ArgsOk K σ B' e' vs ss → σ[i]? = some (some v) → Q (vs ++ [v]) H') → t σ H Q
def adEnd (i : Nat) : M (List Sl) := fun e => match e[i]? with
  | some (.dc _) => some ([], e)
  | some (.db _) => some ([], e)
  | _ => none
theorem sad_end {i : Nat} : SAd K T i (tCons (tVar i) tNil) (adEnd i) := fun W hT σ H B e ss e' Q hf r q => by
  have fin : ∀ kvs, dicOf e[i]? = some kvs → e' = e ∧ ss = [] → tCons (tVar i) tNil σ H Q := fun kvs hd ⟨e1, e2⟩ => by
    subst e1 e2
    obtain ⟨p, xs, h1, _⟩ := r.dict hd
    exact ⟨_, h1, q [] _ H B (Same.refl B) r .nil h1⟩
  unfold adEnd at hf
  split at hf
  · rename_i kvs h0
    cases hf
    exact fin kvs (by rw [h0]; rfl) ⟨rfl, rfl⟩
  · rename_i kvs h0
    cases hf
    exact fin kvs (by rw [h0]; rfl) ⟨rfl, rfl⟩
  · cases hf
theorem sad_sh {i : Nat} {t : TE} {u : TA} {f : M PyData} {g : M (List Sl)} (h : SE K T t f) (hg : SAd K T i u g) : SAd K T i (tCons t u) (asSh f g) := fun W hT σ H B e ss e' Q hf r q => by
  obtain ⟨d, e1, h1, h2⟩ := bnd_some hf
  obtain ⟨ss1, e2, h3, h4⟩ := bnd_some h2
  cases h4
  refine h W hT σ H B e d e1 _ h1 r fun x H1 B1 s1 r1 dx => ?_
  exact hg W hT σ H1 B1 e1 ss1 _ _ h3 r1 fun vs v H2 B2 s2 r2 a hv => q (x :: vs) v H2 B2 (s1.trans s2) r2 (.sh (dp_mono s2 dx) a) hv
theorem sad_v {i j : Nat} {u : TA} {g : M (List Sl)} (hg : SAd K T i u g) : SAd K T i (tCons (tVar j) u) (asV j g) := fun W hT σ H B e ss e' Q hf r q => by
  unfold asV at hf
  cases h0 : seeV e[j]? with
  | none => rw [h0] at hf; cases hf
  | some s0 =>
    rw [h0] at hf
    obtain ⟨ss1, e1, h1, h2⟩ := bnd_some hf
    obtain ⟨v, a1, _⟩ := r.see h0
    refine ⟨v, a1, ?_⟩
    refine hg W hT σ H B e ss1 e1 _ h1 r fun vs v' H1 B1 s1 r1 a hv => ?_
    cases h3 : seeV e1[j]? with
    | none => rw [h3] at h2; cases h2
    | some s =>
      rw [h3] at h2
      cases h2
      obtain ⟨w', b1, b2⟩ := r1.see h3
      rw [a1] at b1
      cases b1
      exact q (v :: vs) v' H1 B1 s1 r1 (b2 _ _ a) hv
def xFnG (i : Nat) (F : FG) (fa : M (List Sl)) : M Sl := fun e => bnd (fa e) fun ss e1 => match e1[i]? with
  | some (.dc kvs) => (match F ss kvs with
    | some (s, kvs1) => if free s = true then some (s, e1.set i (.dc kvs1)) else none
    | none => none)
  | some (.db kvs) => (match F ss kvs with
    | some (s, kvs1) => if free s = true then some (s, e1.set i (.db kvs1)) else none
    | none => none)
  | _ => none
theorem sx_fnG {i : Nat} {F : FG} {t : TA} {fa : M (List Sl)} (ha : SAd K T i t fa) : SX K T (tCall (spG K F) [] E0 t) (xFnG i F fa) := fun W hT σ H B e s e' Q hf r q => by
  obtain ⟨ss, e1, h1, h2⟩ := bnd_some hf
  refine ha W hT σ H B e ss e1 _ h1 r fun vs v H1 B1 s1 r1 ar hv => ?_
  rw [List.append_nil]
  have done : ∀ (kvs : KVs) (mk : KVs → Sl) (sl : Sl), e1[i]? = some sl → (∀ o bs, SlOk K W.bp H1 B1 o sl bs → ∃ p xs, o = some (.ref p) ∧ bs = [p] ∧ IsDic H1 p xs ∧ EntsOk K B1 xs kvs ∧ (p == sysModules) = false ∧ ∀ H' B' l as, SlOk K (some p) H' B' (some (.ref p)) (.db l) as → SlOk K W.bp H' B' (some (.ref p)) (mk l) as) →
      (match F ss kvs with | some (s, kvs1) => if free s = true then some (s, e1.set i (mk kvs1)) else none | none => none) = some (s, e') → spG K F (vs ++ [v]) H1 Q E0 := fun kvs mk sl h0 hsl h3 => by
    obtain ⟨o, bs, b1, b2, b3, b4, b5⟩ := r1.lend h0
    obtain ⟨p, xs, rfl, rfl, d1, d2, d3, d4⟩ := hsl o bs b2
    rw [hv] at b1
    cases Option.some.inj (Option.some.inj b1)
    cases h4 : F ss kvs with
    | none => rw [h4] at h3; cases h3
    | some z =>
      obtain ⟨s', kvs1⟩ := z
      simp only [h4] at h3
      by_cases c : free s' = true
      · rw [if_pos c] at h3
        cases h3
        exact ⟨B1, p, xs, kvs, vs, ss, s, kvs1, rfl, d1, d2, d3, b4 p List.mem_cons_self, r1.bh, ar.sls r1, h4, fun v' H' B' sb r' => q v' H' B' (s1.trans sb) (b5 v' s _ (mk kvs1) H' B' _ sb r' c (d4 H' B' kvs1))⟩
      · rw [if_neg c] at h3
        cases h3
  split at h2
  · rename_i kvs h0
    refine done kvs .dc _ h0 (fun o bs h => ?_) h2
    cases h with
    | @dc p xs _ a b c => exact ⟨p, xs, rfl, rfl, a, b, c, fun H' B' l as h => by cases h with | db _ a b c => exact .dc a b c⟩
  · rename_i kvs h0
    refine done kvs .db _ h0 (fun o bs h => ?_) h2
    cases h with
    | @db p xs _ eb a b c => exact ⟨p, xs, rfl, rfl, a, b, c, fun H' B' l as h => by cases h with | db _ a b c => exact .db eb a b c⟩
  · cases h2
end VL
end
section
set_option Elab.async false
set_option linter.all false
set_option maxRecDepth 100000
set_option maxHeartbeats 2000000
namespace VL
open PySem PySem.Spec PyProof.Rows L2 HT
variable {K : PySem.W.Frag} {T : List (Addr × Str)}
/-! ### {"higher": "lower", ..}[x] -/
def eBack (i : Nat) : M PyData := fun e => match e[i]? with
  | some (.sh (.str x)) => if x = ("higher" : Str) then some (.str "lower", e) else if x = ("lower" : Str) then some (.str "higher", e) else if x = ("either" : Str) then some (.str "either", e) else none
  | _ => none
theorem upd_two {H : Hp} {p : Addr} {a b : HO} : upd (upd H p a) p b = upd H p b := by
  funext x
  by_cases c : x = p
  · rw [c, upd_same, upd_same]
  · rw [upd_ne c, upd_ne c, upd_ne c]
def backK : List (Key × V) := [(.inr "higher", .str "lower"), (.inr "lower", .str "higher"), (.inr "either", .str "either")]
theorem se_back {i : Nat} : SE K T (tDGet (tDisp [(tC (.str "higher"), tC (.str "lower")), (tC (.str "lower"), tC (.str "higher")), (tC (.str "either"), tC (.str "either"))]) (tVar i)) (eBack i) := fun W hT σ H B e d e' Q hf r q => by
  unfold eBack at hf
  cases h1 : e[i]? with
  | none => rw [h1] at hf; cases hf
  | some sl =>
    rw [h1] at hf
    cases sl with
    | sh dd =>
      cases dd with
      | str x =>
        have hf : (if x = ("higher" : Str) then some (PyData.str "lower", e) else if x = ("lower" : Str) then some (.str "higher", e) else if x = ("either" : Str) then some (.str "either", e) else none) = some (d, e') := hf
        obtain ⟨A, ra⟩ := id r
        obtain ⟨o, bs, a1, a2, _⟩ := ra.sls.at h1
        cases a2 with
        | sh dv =>
          cases dv
          intro p hp
          refine ⟨upd_same, backK, rfl, by decide, ?_⟩
          rw [upd_two]
          have key : ∀ (y z : Str), x = y → valV (mergeK [] backK) (.inr y) = some (.str z) → some (PyData.str z, e) = some (d, e') → ∃ v, some (some (V.str x)) = some (some v) ∧ ∃ a w, V.ref p = .ref a ∧ DGet (upd H p (.dK (mergeK [] backK))) a v (some w) ∧ Q w (upd H p (.dK (mergeK [] backK))) := fun y z hx hv he => by
            subst hx
            cases he
            refine ⟨_, rfl, p, .str z, rfl, ?_, q _ _ B (Same.refl B) (r.ext (Ext.gone r.bh hp)) (.str _)⟩
            have := DGet.k (k := .inr x) (show upd H p (.dK (mergeK [] backK)) p = some (.dK (mergeK [] backK)) from upd_same)
            rw [hv] at this
            exact this
          show ∃ v, σ[i]? = some (some v) ∧ _
          rw [a1]
          by_cases c1 : x = ("higher" : Str)
          · rw [if_pos c1] at hf
            exact key _ _ c1 (by rfl) hf
          · rw [if_neg c1] at hf
            by_cases c2 : x = ("lower" : Str)
            · rw [if_pos c2] at hf
              exact key _ _ c2 (by rfl) hf
            · rw [if_neg c2] at hf
              by_cases c3 : x = ("either" : Str)
              · rw [if_pos c3] at hf
                exact key _ _ c3 (by rfl) hf
              · rw [if_neg c3] at hf
                cases hf
      | _ => cases hf
    | _ => cases hf
/-! ### xs.count(d), d data -/
section
variable {X : Cx}
def rCntD (K : PySem.W.Frag) : V → List V → Hp → VK → Prop := fun x vs H Q => ∃ (l : Addr) (xs : List V) (y : V) (ds : List PyData) (d : PyData), x = .ref l ∧ vs = [y] ∧ SqL K H l xs ∧ DpAll K H xs ds ∧ Dp K H y d ∧ PyData.plainAll ds = true ∧ d.plain = true ∧ d.depth ≤ 60 ∧
  Q (.int ((ds.countP fun z => PyData.eqv z d : Nat) : Int)) H
theorem mt_cntD (hu : X.A.units + 65 < cLine) : MtR X "list.count" (rCntD X.K) := by
  intro pins s σ H x vs v us Q I rx rv h
  obtain ⟨l, xs, y, ds, d, rfl, rfl, hH, hds, hd, hp1, hp2, hp3, q⟩ := h
  cases rx
  obtain ⟨u, rfl, ru⟩ := rv.one
  obtain ⟨its, r, pl, hz⟩ := I.list hH
  obtain ⟨as, rs⟩ := Dp.readsAll I ds xs its hds r
  obtain ⟨bs, rd⟩ := Dp.reads I d y u hd ru
  refine SeqAt.count_list_data (vs := its.toArray) pl.isList (by simpa using rs) rd hp1 hp2 ?_ ?_
  · have : min (PyData.depthAll ds) d.depth ≤ d.depth := Nat.min_le_right _ _
    omega
  · exact ⟨.int _, H, I.tok _, ⟨_, rfl⟩, q⟩
end
def eCntD (fo fa : M PyData) : M PyData := fun e => bnd (fo e) fun d e1 => bnd (fa e1) fun k e2 => match d with
  | .list ds => if (PyData.plainAll ds && k.plain && Nat.ble k.depth 60) = true then some (.int ((ds.countP fun z => PyData.eqv z k : Nat) : Int), e2) else none
  | _ => none
theorem se_cntD {to tx : TE} {fo fa : M PyData} (ho : SE K T to fo) (ha : SE K T tx fa) : SE K T (tBM K "list" (rCntD K) to (tCons tx tNil)) (eCntD fo fa) := fun W hT σ H B e d e' Q hf r q => by
  obtain ⟨o, e1, h1, hf⟩ := bnd_some hf
  obtain ⟨k, e2, h2, hf⟩ := bnd_some hf
  refine ho W hT σ H B e o e1 _ h1 r fun v H1 B1 s1 r1 dv => ?_
  split at hf
  · rename_i ds _
    obtain ⟨a, xs, rfl, b1, b2⟩ := dp_lst dv
    refine ⟨.inl ⟨rfl, xs, r1.bh.seq b1⟩, ha W hT σ H1 B1 e1 _ e2 _ h2 r1 fun w H2 B2 s2 r2 dw => ?_⟩
    by_cases c : (PyData.plainAll ds && k.plain && Nat.ble k.depth 60) = true
    · rw [if_pos c] at hf
      cases hf
      simp only [Bool.and_eq_true] at c
      exact ⟨a, xs, w, ds, k, rfl, rfl, r2.bh.seq (s2.seq b1), dpAll_mono (s2.trans r2.bh) b2, dp_mono r2.bh dw, c.1.1, c.1.2, Nat.le_of_ble_eq_true c.2, q _ H2 B2 (s1.trans s2) r2 (.int _)⟩
    · rw [if_neg c] at hf
      cases hf
  · cases hf
end VL
end
section
set_option Elab.async false
set_option linter.all false
set_option maxRecDepth 100000
set_option maxHeartbeats 2000000
namespace VL
open PySem PySem.Spec PyProof.Rows L2 HT
variable {K : PySem.W.Frag} {T : List (Addr × Str)}
/-! ### isinstance(x, (tuple, list)) -/
def pIsiS (d : PyData) : Option PyData := match isDct d with
  | true => none
  | false => some (.bool (isT .tuple d || isT .list d))
theorem se_isiS {t : TE} {f : M PyData} (h : SE K T t f) : SE K T (tCB (rIsiT K) (tCons t (tCons (tTup (tCons (tC (.ty "tuple")) (tCons (tC (.ty "list")) tNil))) tNil))) (eUn pIsiS f) := fun W hT σ H B e d e' Q hf r q => by
  obtain ⟨a, e1, h1, hf⟩ := bnd_some hf
  obtain ⟨h3, rfl⟩ := put_some hf
  unfold pIsiS at h3
  split at h3
  · cases h3
  rename_i nd
  cases h3
  refine h W hT σ H B e a e' _ h1 r fun v H1 B1 s1 r1 dv => ⟨by show 2 ≤ sizeLine; decide, fun p hp => ?_⟩
  have x := Ext.gone (o := .tup [.ty "tuple", .ty "list"]) r1.bh hp
  have dv' := dp_mono x.bh (dp_mono (Same.refl B1) dv)
  have k1 := kit_of .tuple dv' nd
  have k2 := kit_of .list dv' nd
  refine ⟨v, p, [.ty "tuple", .ty "list"], _, [.type "tuple", .type "list"], isT .tuple a || isT .list a, rfl, upd_same, .cons (.ty _) (.cons (.ty _) .nil), tyX_of dv' nd, ?_, q _ _ B1 s1 (r1.ext x) (.bl _)⟩
  have k1 : PySem.W.kitOne K (.type (tyN a)) (.type "tuple") = some (isT .tuple a) := k1
  have k2 : PySem.W.kitOne K (.type (tyN a)) (.type "list") = some (isT .list a) := k2
  simp only [PySem.W.kitAny, k1, k2]
  cases isT .tuple a <;> cases isT .list a <;> rfl
/-! ### str(n) -/
def rStrI : List V → Hp → VK → Prop := fun xs H Q => ∃ i, xs = [.int i] ∧ i.natAbs.log2 < 1920 ∧ Q (.str (toString i)) H
theorem call_strI {X : Cx} : CallR X (.type "str") rStrI := call_str_int
def pStrI : List PyData → Option PyData
  | [.int i] => if Nat.blt i.natAbs 1099511627776 = true then some (.str (toString i)) else none
  | _ => none
theorem sr_strI : SRn K rStrI pStrI := fun H B xs as d Q bh ha h q => by
  unfold pStrI at h
  split at h
  · rename_i i
    by_cases c : Nat.blt i.natAbs 1099511627776 = true
    · rw [if_pos c] at h
      cases h
      cases ha with
      | cons a t =>
        cases t
        cases dp_int a
        have c := Nat.blt_eq.mp c
        refine ⟨i, rfl, ?_, q _ H B (Ext.refl bh) (.str _)⟩
        by_cases z : i.natAbs = 0
        · rw [z]; decide
        · have := (Nat.log2_lt z (k := 40)).mpr (by omega)
          omega
    · rw [if_neg c] at h
      cases h
  · cases h
section
variable {P : Program} {w : World} {mg : Str → Option Value} {base : Heap}
theorem ok0B {x qual : Str} {st : Stmt} {f : Addr} {fd : FuncData} {N ps : List Str} {k : Nat} (F : Fun K x qual st f fd) (S : FnScope N ps (defScope st)) : FnOk P w K mg base CX0 (k + 1) f fd ps (spB K fun _ _ => none) := by
  refine F.ok S (fun vs H Q E h => ?_) (fun cdv A outer s H vs Q E hr h => ?_)
  · obtain ⟨B, p, xs, ds0, vr, ds, sl, ds1, _, _, _, _, _, _, h6, _⟩ := h
    cases h6
  · obtain ⟨B, p, xs, ds0, vr, ds, sl, ds1, _, _, _, _, _, _, h6, _⟩ := h
    cases h6
end
end VL
end
section
set_option Elab.async false
set_option linter.all false
set_option maxRecDepth 100000
set_option maxHeartbeats 4000000
namespace VG
open PySem PySem.Spec PyProof.Rows L2 HT VL
def topS (i : Nat) : Stmt := PySem.Challenge.pw_roofsights_k03_whole_what_bars.main.body.getD i (.Pass ⟨0, 0, 0, 0⟩)
def clsB : Stmt → List Stmt
  | .ClassDef _ _ _ b _ _ _ _ _ _ _ => b
  | _ => []
def clsS (i j : Nat) : Stmt := (clsB (topS i)).getD j (.Pass ⟨0, 0, 0, 0⟩)
structure Top (K : PySem.W.Frag) (mg : Str → Option Value) : Prop where
  n_all : mg "all" = none
  n_any : mg "any" = none
  n_bool : mg "bool" = none
  n_enumerate : mg "enumerate" = none
  n_int : mg "int" = none
  n_isinstance : mg "isinstance" = none
  n_len : mg "len" = none
  n_list : mg "list" = none
  n_max : mg "max" = none
  n_min : mg "min" = none
  n_range : mg "range" = none
  n_set : mg "set" = none
  n_sorted : mg "sorted" = none
  n_str : mg "str" = none
  n_sum : mg "sum" = none
  n_tuple : mg "tuple" = none
  n_zip : mg "zip" = none
  c_MOST_HOUSES : ∃ t, mg "MOST_HOUSES" = some (.int 12 t)
  d_law_deck : DefAt K mg "_law_deck" (topS 24) ["cell", "turn"]
  d_law_seen : DefAt K mg "_law_seen" (topS 32) ["heights_so"]
  d_is_whole : DefAt K mg "is_whole" (topS 6) ["thing"]
  d_is_whole_within : DefAt K mg "is_whole_within" (topS 7) ["thing", "least", "most"]
  d_is_many : DefAt K mg "is_many" (topS 8) ["thing"]
  d_check_many : DefAt K mg "check_many" (topS 12) ["many"]
  d_is_place : DefAt K mg "is_place" (topS 9) ["many", "thing"]
  d_is_pair : DefAt K mg "is_pair" (topS 10) ["many", "thing"]
  d_is_lot : DefAt K mg "is_lot" (topS 11) ["many", "thing"]
  d_check_lot : DefAt K mg "check_lot" (topS 13) ["many", "lot", "name"]
  d_check_many_and_lot : DefAt K mg "check_many_and_lot" (topS 14) ["many", "lot"]
  d_both_see_one_between : DefAt K mg "both_see_one_between" (topS 22) ["lot", "one", "other"]
  d_bars_alone : DefAt K mg "bars_alone" (topS 21) ["lot"]
  d_bars_apart : DefAt K mg "bars_apart" (topS 19) ["many", "lot"]
  d_bars_cross : DefAt K mg "bars_cross" (topS 20) ["lot"]
  d_all_bars : DefAt K mg "all_bars" (topS 18) ["many", "lot"]
  d_what_bars : DefAt K mg "what_bars" (topS 16) ["many", "lot"]
  d_law_pick : DefAt K mg "_law_pick" (topS 25) ["deck", "size"]
  d_law_heights : DefAt K mg "_law_heights" (topS 31) ["deck", "many", "top"]
  d_law_pairs : DefAt K mg "_law_pairs" (topS 33) ["many"]
  d_law_one : DefAt K mg "_law_one" (topS 26) ["deck", "some"]
  d_law_bent : DefAt K mg "_law_bent" (topS 34) ["deck", "many", "lot"]
  d_law_bars : DefAt K mg "_law_bars" (topS 35) ["many", "lot"]
  d_law_sort : DefAt K mg "_law_sort" (topS 27) ["thing"]
  d_law_same : DefAt K mg "_law_same" (topS 28) ["told", "due"]
  d_law_odd : DefAt K mg "_law_odd" (topS 29) ["deck"]
  d_law_spoilt : DefAt K mg "_law_spoilt" (topS 30) ["deck", "thing"]
  d_bars : DefAt K mg "bars" (topS 17) ["many", "lot", "thing"]
  d_law : DefAt K mg "law" (topS 36) ["script"]
section
variable {P : Program} {w : World} {K : PySem.W.Frag} {mg : Str → Option Value} {base : Heap}
abbrev s_law_deck : Stmt := topS 24
abbrev N_law_deck : List Str := ["cell", "turn"]
theorem sc_law_deck : FnScope N_law_deck ["cell", "turn"] (defScope s_law_deck) := ⟨rfl, rfl, rfl, by decide +kernel, rfl, by decide +kernel, by decide +kernel⟩
def bd_law_deck : Ev → Option Out := (sSeq (sIf (bB (eOp pGe (eVar 0) (eOp pPow (eC (.int 10)) (eC (.int 18))))) (sRetX (xLst (aCons (eOp pSub (eVar 0) (eOp pPow (eC (.int 10)) (eC (.int 18)))) (aCons (eOp pMod (eVar 0) (eC (.int 2147483579))) (aCons (eVar 1) aNil))))) sNil) (sRetX (xLst (aCons (eC (.int 0)) (aCons (eOp pMod (eVar 0) (eC (.int 2147483579))) (aCons (eVar 1) aNil))))))
def fn_law_deck : List PyData → Option Sl := fnS 2 0 bd_law_deck
theorem ok_law_deck (T : Top K mg) : OkAt P w K mg base 1 "_law_deck" s_law_deck ["cell", "turn"] (spS K fn_law_deck) := by
  obtain ⟨f, fd, F, b, g⟩ := T.d_law_deck
  have hs : SS K [] _ bd_law_deck := (ss_seq (ss_if (st_t (se_op sr_ge se_var (se_op sr_pow se_int se_int))) (ss_retX (sx_lst (sa_cons (se_op sr_sub se_var (se_op sr_pow se_int se_int)) (sa_cons (se_op sr_mod se_var se_int) (sa_cons se_var sa_nil))))) ss_nil) (ss_retX (sx_lst (sa_cons se_int (sa_cons (se_op sr_mod se_var se_int) (sa_cons se_var sa_nil))))))
  exact ⟨f, fd, F, b, g, okS hs F sc_law_deck rfl rfl (fun cdv A outer s H E hr => (pss_cons (ps_if (pt_cmpR op_ge (pv 0) (pe_op op_pow pe_int pe_int) (nomark _)) (pss_one (ps_ret (pe_lst (pa_cons (pe_op op_sub (pv 0) (pe_op op_pow pe_int pe_int)) (pa_cons (pe_op op_mod (pv 0) pe_int) (pa_cons (pv 1) pa_nil)))))) pss_nil) (pss_one (ps_ret (pe_lst (pa_cons pe_int (pa_cons (pe_op op_mod (pv 0) pe_int) (pa_cons (pv 1) pa_nil))))))))⟩

abbrev s_law_seen : Stmt := topS 32
abbrev N_law_seen : List Str := ["heights_so", "found", "one", "other", "low", "height"]
theorem sc_law_seen : FnScope N_law_seen ["heights_so"] (defScope s_law_seen) := ⟨rfl, rfl, rfl, by decide +kernel, rfl, by decide +kernel, by decide +kernel⟩
def bd_law_seen : Ev → Option Out := (sSeq (sSet 1 (xLst aNil)) (sSeq (sFor (iR1 (aCons (eCall pLen (aCons (eVar 0) aNil)) aNil)) (gN 2) (sFor (iR2 (aCons (eX (xOps pAdd (eVar 2) (eC (.int 1)))) (aCons (eCall pLen (aCons (eVar 0) aNil)) aNil))) (gN 3) (sSeq (sSet 4 (xE (eCall pMin2 (aCons (eIxV 0 (eVar 2)) (aCons (eIxV 0 (eVar 3)) aNil))))) (sIf (bB (eOp pEq (eX (xLc (iAny (eX (xSl (eVar 0) (oSome (eX (xOps pAdd (eVar 2) (eC (.int 1))))) (oSome (eVar 3))))) (gN 5) (bB (eOp pGt (eVar 5) (eVar 4))) (eVar 5) [5])) (eX (xLst aNil)))) (sApp 1 (eTup (aCons (eVar 2) (aCons (eVar 3) aNil)))) sNil)))) (sRetX (xE (eCall pTuple (aCons (eVar 1) aNil))))))
def fn_law_seen : List PyData → Option Sl := fnS 1 5 bd_law_seen
theorem ok_law_seen (T : Top K mg) : OkAt P w K mg base 1 "_law_seen" s_law_seen ["heights_so"] (spS K fn_law_seen) := by
  obtain ⟨f, fd, F, b, g⟩ := T.d_law_seen
  have hs : SS K [] _ bd_law_seen := (ss_seq (ss_set (sx_lst sa_nil)) (ss_seq (ss_for (si_rng1 (sa_cons (se_callB sr_len (sa_cons se_var sa_nil)) sa_nil)) sg_name (ss_for (si_rng2 (sa_cons (se_x (sx_ops sr_add se_var se_int)) (sa_cons (se_callB sr_len (sa_cons se_var sa_nil)) sa_nil))) sg_name (ss_seq (ss_set (sx_e (se_callB sr_min2 (sa_cons (se_ixv se_var) (sa_cons (se_ixv se_var) sa_nil))))) (ss_if (st_t (se_op sr_eq (se_x (sx_lc (by decide) (si_any (se_x (sx_slice se_var (so_some (se_x (sx_ops sr_add se_var se_int))) (so_some se_var)))) sg_name (lcl_name (by decide)) mn_name (st_t (se_op sr_gt se_var se_var)) se_var)) (se_x (sx_lst sa_nil)))) (ss_app (se_tup (sa_cons se_var (sa_cons se_var sa_nil)))) ss_nil)))) (ss_retX (sx_e (se_callB sr_tuple (sa_cons se_var sa_nil))))))
  exact ⟨f, fd, F, b, g, okS hs F sc_law_seen rfl rfl (fun cdv A outer s H E hr => (pss_cons (ps_set (i := 1) sc_law_seen.nd rfl (by first | exact Or.inl rfl | exact Or.inr rfl) (pe_lst pa_nil)) (pss_cons (ps_for PassesOwn.never rfl (pi_range1 (by rfl) T.n_range (pa_cons (pe_callB c_len (by rfl) T.n_len PySem.boot_len (pa_cons (pv 0) pa_nil)) pa_nil)) (pg_name (i := 2) sc_law_seen.nd rfl (by first | exact Or.inl rfl | exact Or.inr rfl)) (pss_one (ps_for PassesOwn.never rfl (pi_range2 (by rfl) T.n_range (pa_cons (pe_op op_addA (pv 2) pe_int) (pa_cons (pe_callB c_len (by rfl) T.n_len PySem.boot_len (pa_cons (pv 0) pa_nil)) pa_nil))) (pg_name (i := 3) sc_law_seen.nd rfl (by first | exact Or.inl rfl | exact Or.inr rfl)) (pss_cons (ps_set (i := 4) sc_law_seen.nd rfl (by first | exact Or.inl rfl | exact Or.inr rfl) (pe_callB (c_min2 rfl) (by rfl) T.n_min boot_min (pa_cons (pe_ix ix_seq (pv 0) (pv 2) (fun _ _ => rfl)) (pa_cons (pe_ix ix_seq (pv 0) (pv 3) (fun _ _ => rfl)) pa_nil)))) (pss_one (ps_if (pt_cmpR (op_eqD hr.units) (pe_lc (own := [("height", 5)]) rfl sc_law_seen.nd (pi_any (pe_slice sl_X (pv 0) (po_some (pe_op op_addA (pv 2) pe_int)) (po_some (pv 3)))) (blkOk_by (N := N_law_seen) (sc := defScope s_law_seen) (by decide +kernel)) (fun _ _ _ _ _ => (pg_name (i := 5) sc_law_seen.nd rfl (by first | exact Or.inl rfl | exact Or.inr rfl))) (fun _ _ _ _ _ => (pts_one (pt_cmpR op_gt (pv 5) (pv 4) (nomark _)))) (fun _ _ _ _ _ => (pv 5))) (pe_lst pa_nil) (nomark _)) (pss_one (ps_expr (pe_bm PySem.F.plainAttrs_list PySem.F.slot_list_append PySem.F.type_list_append mt_append (pv 1) (pa_cons (pe_tup (pa_cons (pv 2) (pa_cons (pv 3) pa_nil))) pa_nil)))) pss_nil)))))) (pss_one (ps_ret (pe_callTy c_tuple (by rfl) T.n_tuple boot_tuple (pa_cons (pv 1) pa_nil)))))))⟩

abbrev s_is_whole : Stmt := topS 6
abbrev N_is_whole : List Str := ["thing"]
theorem sc_is_whole : FnScope N_is_whole ["thing"] (defScope s_is_whole) := ⟨rfl, rfl, rfl, by decide +kernel, rfl, by decide +kernel, by decide +kernel⟩
def bd_is_whole : Ev → Option Out := (sRetX (xE (eAndT (eUn (pIsi .int) (eVar 0)) (eNot (eUn (pIsi .bool) (eVar 0))))))
def fn_is_whole : List PyData → Option Sl := fnS 1 0 bd_is_whole
theorem ok_is_whole (T : Top K mg) : OkAt P w K mg base 1 "is_whole" s_is_whole ["thing"] (spS K fn_is_whole) := by
  obtain ⟨f, fd, F, b, g⟩ := T.d_is_whole
  have hs : SS K [] _ bd_is_whole := (ss_retX (sx_e (se_andT (se_isi .int se_var) (se_not (se_isi .bool se_var)))))
  exact ⟨f, fd, F, b, g, okS hs F sc_is_whole rfl rfl (fun cdv A outer s H E hr => (pss_one (ps_ret (pe_andT (pe_callB call_isi (by rfl) T.n_isinstance boot_isinstance (pa_cons (pv 0) (pa_cons (pe_bltn (v := .ty "int") (by rfl) T.n_int boot_int rfl) pa_nil))) (pe_one (pe_not (pe_callB call_isi (by rfl) T.n_isinstance boot_isinstance (pa_cons (pv 0) (pa_cons (pe_bltn (v := .ty "bool") (by rfl) T.n_bool boot_bool rfl) pa_nil)))))))))⟩

abbrev s_is_whole_within : Stmt := topS 7
abbrev N_is_whole_within : List Str := ["thing", "least", "most"]
theorem sc_is_whole_within : FnScope N_is_whole_within ["thing", "least", "most"] (defScope s_is_whole_within) := ⟨rfl, rfl, rfl, by decide +kernel, rfl, by decide +kernel, by decide +kernel⟩
def bd_is_whole_within : Ev → Option Out := (sRetX (xE (eAndT (eX (xFn fn_is_whole (aCons (eVar 0) aNil))) (eChain pLe pLe (eVar 1) (eVar 0) (eVar 2)))))
def fn_is_whole_within : List PyData → Option Sl := fnS 3 0 bd_is_whole_within
theorem ok_is_whole_within (T : Top K mg) : OkAt P w K mg base 2 "is_whole_within" s_is_whole_within ["thing", "least", "most"] (spS K fn_is_whole_within) := by
  obtain ⟨f, fd, F, b, g⟩ := T.d_is_whole_within
  obtain ⟨f_is_whole, fd_is_whole, F_is_whole, b_is_whole, g_is_whole, G_is_whole⟩ := ok_is_whole (P := P) (w := w) (base := base) T
  have hs : SS K [] _ bd_is_whole_within := (ss_retX (sx_e (se_andT (se_x (sx_fn (sa_cons se_var sa_nil))) (se_chain sr_le sr_le se_var se_var se_var))))
  exact ⟨f, fd, F, b, g, okS hs F sc_is_whole_within rfl rfl (fun cdv A outer s H E hr => (pss_one (ps_ret (pe_andT (pe_call G_is_whole (hr.mono (by decide)) (by rfl) g_is_whole F_is_whole.kp b_is_whole .nil pass0 (pa_cons (pv 0) pa_nil)) (pe_one (pe_chain op_le op_le (pv 1) (pv 0) (pv 2)))))))⟩

abbrev s_is_many : Stmt := topS 8
abbrev N_is_many : List Str := ["thing"]
theorem sc_is_many : FnScope N_is_many ["thing"] (defScope s_is_many) := ⟨rfl, rfl, rfl, by decide +kernel, rfl, by decide +kernel, by decide +kernel⟩
def bd_is_many : Ev → Option Out := (sRetX (xFn fn_is_whole_within (aCons (eVar 0) (aCons (eC (.int 1)) (aCons (eC (.int 12)) aNil)))))
def fn_is_many : List PyData → Option Sl := fnS 1 0 bd_is_many
theorem ok_is_many (T : Top K mg) : OkAt P w K mg base 3 "is_many" s_is_many ["thing"] (spS K fn_is_many) := by
  obtain ⟨f, fd, F, b, g⟩ := T.d_is_many
  obtain ⟨f_is_whole_within, fd_is_whole_within, F_is_whole_within, b_is_whole_within, g_is_whole_within, G_is_whole_within⟩ := ok_is_whole_within (P := P) (w := w) (base := base) T
  have hs : SS K [] _ bd_is_many := (ss_retX (sx_fn (sa_cons se_var (sa_cons se_int (sa_cons se_int sa_nil)))))
  exact ⟨f, fd, F, b, g, okS hs F sc_is_many rfl rfl (fun cdv A outer s H E hr => (pss_one (ps_ret (pe_call G_is_whole_within (hr.mono (by decide)) (by rfl) g_is_whole_within F_is_whole_within.kp b_is_whole_within .nil pass0 (pa_cons (pv 0) (pa_cons pe_int (pa_cons (pe_glob (v := .int 12) (by rfl) T.c_MOST_HOUSES.choose_spec ⟨_, rfl⟩) pa_nil)))))))⟩

abbrev s_check_many : Stmt := topS 12
abbrev N_check_many : List Str := ["many"]
theorem sc_check_many : FnScope N_check_many ["many"] (defScope s_check_many) := ⟨rfl, rfl, rfl, by decide +kernel, rfl, by decide +kernel, by decide +kernel⟩
def bd_check_many : Ev → Option Out := (sIf (bNot (bTru (eX (xFn fn_is_many (aCons (eVar 0) aNil))))) sNever sNil)
def fn_check_many : List PyData → Option Sl := fnS 1 0 bd_check_many
theorem ok_check_many (T : Top K mg) : OkAt P w K mg base 4 "check_many" s_check_many ["many"] (spS K fn_check_many) := by
  obtain ⟨f, fd, F, b, g⟩ := T.d_check_many
  obtain ⟨f_is_many, fd_is_many, F_is_many, b_is_many, g_is_many, G_is_many⟩ := ok_is_many (P := P) (w := w) (base := base) T
  have hs : SS K [] _ bd_check_many := (ss_if (st_not (st_tru (se_x (sx_fn (sa_cons se_var sa_nil))))) ss_never ss_nil)
  exact ⟨f, fd, F, b, g, okS hs F sc_check_many rfl rfl (fun cdv A outer s H E hr => (pss_one (ps_if (pt_not (pt_tru (pe_call G_is_many (hr.mono (by decide)) (by rfl) g_is_many F_is_many.kp b_is_many .nil pass0 (pa_cons (pv 0) pa_nil)))) (pss_one ps_never) pss_nil)))⟩

abbrev s_is_place : Stmt := topS 9
abbrev N_is_place : List Str := ["many", "thing"]
theorem sc_is_place : FnScope N_is_place ["many", "thing"] (defScope s_is_place) := ⟨rfl, rfl, rfl, by decide +kernel, rfl, by decide +kernel, by decide +kernel⟩
def bd_is_place : Ev → Option Out := (sRetX (xFn fn_is_whole_within (aCons (eVar 1) (aCons (eC (.int 0)) (aCons (eOp pSub (eVar 0) (eC (.int 1))) aNil)))))
def fn_is_place : List PyData → Option Sl := fnS 2 0 bd_is_place
theorem ok_is_place (T : Top K mg) : OkAt P w K mg base 3 "is_place" s_is_place ["many", "thing"] (spS K fn_is_place) := by
  obtain ⟨f, fd, F, b, g⟩ := T.d_is_place
  obtain ⟨f_is_whole_within, fd_is_whole_within, F_is_whole_within, b_is_whole_within, g_is_whole_within, G_is_whole_within⟩ := ok_is_whole_within (P := P) (w := w) (base := base) T
  have hs : SS K [] _ bd_is_place := (ss_retX (sx_fn (sa_cons se_var (sa_cons se_int (sa_cons (se_op sr_sub se_var se_int) sa_nil)))))
  exact ⟨f, fd, F, b, g, okS hs F sc_is_place rfl rfl (fun cdv A outer s H E hr => (pss_one (ps_ret (pe_call G_is_whole_within (hr.mono (by decide)) (by rfl) g_is_whole_within F_is_whole_within.kp b_is_whole_within .nil pass0 (pa_cons (pv 1) (pa_cons pe_int (pa_cons (pe_op op_sub (pv 0) pe_int) pa_nil)))))))⟩

abbrev s_is_pair : Stmt := topS 10
abbrev N_is_pair : List Str := ["many", "thing", "one", "other"]
theorem sc_is_pair : FnScope N_is_pair ["many", "thing"] (defScope s_is_pair) := ⟨rfl, rfl, rfl, by decide +kernel, rfl, by decide +kernel, by decide +kernel⟩
def bd_is_pair : Ev → Option Out := (sSeq (sIf (bOr (bNot (bTru (eUn (pIsi .tuple) (eVar 1)))) (bB (eOp pNe (eCall pLen (aCons (eVar 1) aNil)) (eC (.int 2))))) (sRetX (xE (eC (.bool false)))) sNil) (sSeq (sAsg (eVar 1) (gT 2 (gsCons (gN 2) (gsCons (gN 3) gsNil)))) (sRetX (xE (eAndT (eX (xFn fn_is_place (aCons (eVar 0) (aCons (eVar 2) aNil)))) (eAndT (eX (xFn fn_is_place (aCons (eVar 0) (aCons (eVar 3) aNil)))) (eOp pLt (eVar 2) (eVar 3))))))))
def fn_is_pair : List PyData → Option Sl := fnS 2 2 bd_is_pair
theorem ok_is_pair (T : Top K mg) : OkAt P w K mg base 4 "is_pair" s_is_pair ["many", "thing"] (spS K fn_is_pair) := by
  obtain ⟨f, fd, F, b, g⟩ := T.d_is_pair
  obtain ⟨f_is_place, fd_is_place, F_is_place, b_is_place, g_is_place, G_is_place⟩ := ok_is_place (P := P) (w := w) (base := base) T
  have hs : SS K [] _ bd_is_pair := (ss_seq (ss_if (st_or (st_not (st_tru (se_isi .tuple se_var))) (st_t (se_op sr_ne (se_callB sr_len (sa_cons se_var sa_nil)) se_int))) (ss_retX (sx_e se_bl)) ss_nil) (ss_seq (ss_asg se_var (sg_tup (sgs_cons sg_name (sgs_cons sg_name sgs_nil)))) (ss_retX (sx_e (se_andT (se_x (sx_fn (sa_cons se_var (sa_cons se_var sa_nil)))) (se_andT (se_x (sx_fn (sa_cons se_var (sa_cons se_var sa_nil)))) (se_op sr_lt se_var se_var)))))))
  exact ⟨f, fd, F, b, g, okS hs F sc_is_pair rfl rfl (fun cdv A outer s H E hr => (pss_cons (ps_if (PW.pt (pw_or (pt_not (pt_tru (pe_callB call_isi (by rfl) T.n_isinstance boot_isinstance (pa_cons (pv 1) (pa_cons (pe_bltn (v := .ty "tuple") (by rfl) T.n_tuple boot_tuple rfl) pa_nil))))) (pw_or1 (pt_cmpR (op_neD hr.units) (pe_callB c_len (by rfl) T.n_len PySem.boot_len (pa_cons (pv 1) pa_nil)) pe_int (nomark _))))) (pss_one (ps_ret pe_bl)) pss_nil) (pss_cons (ps_asg (pv 1) (pg_tup rfl (pgs_cons (pg_name (i := 2) sc_is_pair.nd rfl (by first | exact Or.inl rfl | exact Or.inr rfl)) (pgs_cons (pg_name (i := 3) sc_is_pair.nd rfl (by first | exact Or.inl rfl | exact Or.inr rfl)) pgs_nil)))) (pss_one (ps_ret (pe_andT (pe_call G_is_place (hr.mono (by decide)) (by rfl) g_is_place F_is_place.kp b_is_place .nil pass0 (pa_cons (pv 0) (pa_cons (pv 2) pa_nil))) (pe_andT (pe_call G_is_place (hr.mono (by decide)) (by rfl) g_is_place F_is_place.kp b_is_place .nil pass0 (pa_cons (pv 0) (pa_cons (pv 3) pa_nil))) (pe_one (pe_cmpR (op_ltA hr.units0) (pv 2) (pv 3) (nomark _))))))))))⟩

abbrev s_is_lot : Stmt := topS 11
abbrev N_is_lot : List Str := ["many", "thing", "part", "before", "behind"]
theorem sc_is_lot : FnScope N_is_lot ["many", "thing"] (defScope s_is_lot) := ⟨rfl, rfl, rfl, by decide +kernel, rfl, by decide +kernel, by decide +kernel⟩
def bd_is_lot : Ev → Option Out := (sSeq (sIf (bNot (bTru (eUn (pIsi .tuple) (eVar 1)))) (sRetX (xE (eC (.bool false)))) sNil) (sSeq (sIf (bNot (bTru (eCall pAll (aCons (eX (xLc (iAny (eVar 1)) (gN 2) bYes (eX (xFn fn_is_pair (aCons (eVar 0) (aCons (eVar 2) aNil)))) [2])) aNil)))) (sRetX (xE (eC (.bool false)))) sNil) (sRetX (xE (eCall pAll (aCons (eX (xLc (iZp (eVar 1) (eX (xSl (eVar 1) (oSome (eC (.int 1))) oNo))) (gT 2 (gsCons (gN 3) (gsCons (gN 4) gsNil))) bYes (eOp pLt (eVar 3) (eVar 4)) [3, 4])) aNil))))))
def fn_is_lot : List PyData → Option Sl := fnS 2 3 bd_is_lot
theorem ok_is_lot (T : Top K mg) : OkAt P w K mg base 5 "is_lot" s_is_lot ["many", "thing"] (spS K fn_is_lot) := by
  obtain ⟨f, fd, F, b, g⟩ := T.d_is_lot
  obtain ⟨f_is_pair, fd_is_pair, F_is_pair, b_is_pair, g_is_pair, G_is_pair⟩ := ok_is_pair (P := P) (w := w) (base := base) T
  have hs : SS K [] _ bd_is_lot := (ss_seq (ss_if (st_not (st_tru (se_isi .tuple se_var))) (ss_retX (sx_e se_bl)) ss_nil) (ss_seq (ss_if (st_not (st_tru (se_callB sr_all (sa_cons (se_x (sx_lc (by decide) (si_any se_var) sg_name (lcl_name (by decide)) mn_name st_yes (se_x (sx_fn (sa_cons se_var (sa_cons se_var sa_nil)))))) sa_nil)))) (ss_retX (sx_e se_bl)) ss_nil) (ss_retX (sx_e (se_callB sr_all (sa_cons (se_x (sx_lc (by decide) (si_zip se_var (se_x (sx_slice se_var (so_some se_int) so_no))) (sg_tup (sgs_cons sg_name (sgs_cons sg_name sgs_nil))) (lcl_tup (lcls_cons mn_name (mns_cons mn_name mns_nil) (lcl_name (by decide)) (lcls_cons mn_name mns_nil (lcl_name (by decide)) lcls_nil))) (mn_tup (mns_cons mn_name (mns_cons mn_name mns_nil))) st_yes (se_op sr_lt se_var se_var))) sa_nil))))))
  exact ⟨f, fd, F, b, g, okS hs F sc_is_lot rfl rfl (fun cdv A outer s H E hr => (pss_cons (ps_if (pt_not (pt_tru (pe_callB call_isi (by rfl) T.n_isinstance boot_isinstance (pa_cons (pv 1) (pa_cons (pe_bltn (v := .ty "tuple") (by rfl) T.n_tuple boot_tuple rfl) pa_nil))))) (pss_one (ps_ret pe_bl)) pss_nil) (pss_cons (ps_if (pt_not (pt_tru (pe_callB (cr_all rfl) (by rfl) T.n_all boot_all (pa_cons (pe_lc (own := [("part", 2)]) rfl sc_is_lot.nd (pi_any (pv 1)) (blkOk_by (N := N_is_lot) (sc := defScope s_is_lot) (by decide +kernel)) (fun _ _ _ _ _ => (pg_name (i := 2) sc_is_lot.nd rfl (by first | exact Or.inl rfl | exact Or.inr rfl))) (fun _ _ _ _ _ => pts_nil) (fun _ _ _ _ _ => (pe_call G_is_pair (hr.mono (by decide)) (by rfl) g_is_pair F_is_pair.kp b_is_pair .nil pass0 (pa_cons (pv 0) (pa_cons (pv 2) pa_nil))))) pa_nil)))) (pss_one (ps_ret pe_bl)) pss_nil) (pss_one (ps_ret (pe_callB (cr_all rfl) (by rfl) T.n_all boot_all (pa_cons (pe_lc (own := [("before", 3), ("behind", 4)]) rfl sc_is_lot.nd (RZ.pi_zipA (by rfl) T.n_zip (pa_cons (pv 1) (pa_cons (pe_slice sl_X (pv 1) (po_some pe_int) po_none) pa_nil))) (blkOk_by (N := N_is_lot) (sc := defScope s_is_lot) (by decide +kernel)) (fun _ _ _ _ _ => (pg_tup rfl (pgs_cons (pg_name (i := 3) sc_is_lot.nd rfl (by first | exact Or.inl rfl | exact Or.inr rfl)) (pgs_cons (pg_name (i := 4) sc_is_lot.nd rfl (by first | exact Or.inl rfl | exact Or.inr rfl)) pgs_nil)))) (fun _ _ _ _ _ => pts_nil) (fun _ _ _ _ _ => (pe_cmpR (op_ltA hr.units0) (pv 3) (pv 4) (nomark _)))) pa_nil)))))))⟩

abbrev s_check_lot : Stmt := topS 13
abbrev N_check_lot : List Str := ["many", "lot", "name"]
theorem sc_check_lot : FnScope N_check_lot ["many", "lot", "name"] (defScope s_check_lot) := ⟨rfl, rfl, rfl, by decide +kernel, rfl, by decide +kernel, by decide +kernel⟩
def bd_check_lot : Ev → Option Out := (sIf (bNot (bTru (eX (xFn fn_is_lot (aCons (eVar 0) (aCons (eVar 1) aNil)))))) sNever sNil)
def fn_check_lot : List PyData → Option Sl := fnS 3 0 bd_check_lot
theorem ok_check_lot (T : Top K mg) : OkAt P w K mg base 6 "check_lot" s_check_lot ["many", "lot", "name"] (spS K fn_check_lot) := by
  obtain ⟨f, fd, F, b, g⟩ := T.d_check_lot
  obtain ⟨f_is_lot, fd_is_lot, F_is_lot, b_is_lot, g_is_lot, G_is_lot⟩ := ok_is_lot (P := P) (w := w) (base := base) T
  have hs : SS K [] _ bd_check_lot := (ss_if (st_not (st_tru (se_x (sx_fn (sa_cons se_var (sa_cons se_var sa_nil)))))) ss_never ss_nil)
  exact ⟨f, fd, F, b, g, okS hs F sc_check_lot rfl rfl (fun cdv A outer s H E hr => (pss_one (ps_if (pt_not (pt_tru (pe_call G_is_lot (hr.mono (by decide)) (by rfl) g_is_lot F_is_lot.kp b_is_lot .nil pass0 (pa_cons (pv 0) (pa_cons (pv 1) pa_nil))))) (pss_one ps_never) pss_nil)))⟩

abbrev s_check_many_and_lot : Stmt := topS 14
abbrev N_check_many_and_lot : List Str := ["many", "lot"]
theorem sc_check_many_and_lot : FnScope N_check_many_and_lot ["many", "lot"] (defScope s_check_many_and_lot) := ⟨rfl, rfl, rfl, by decide +kernel, rfl, by decide +kernel, by decide +kernel⟩
def bd_check_many_and_lot : Ev → Option Out := (sSeq (sExpr (eX (xFn fn_check_many (aCons (eVar 0) aNil)))) (sExpr (eX (xFn fn_check_lot (aCons (eVar 0) (aCons (eVar 1) (aCons (eC (.str "lot")) aNil)))))))
def fn_check_many_and_lot : List PyData → Option Sl := fnS 2 0 bd_check_many_and_lot
theorem ok_check_many_and_lot (T : Top K mg) : OkAt P w K mg base 7 "check_many_and_lot" s_check_many_and_lot ["many", "lot"] (spS K fn_check_many_and_lot) := by
  obtain ⟨f, fd, F, b, g⟩ := T.d_check_many_and_lot
  obtain ⟨f_check_many, fd_check_many, F_check_many, b_check_many, g_check_many, G_check_many⟩ := ok_check_many (P := P) (w := w) (base := base) T
  obtain ⟨f_check_lot, fd_check_lot, F_check_lot, b_check_lot, g_check_lot, G_check_lot⟩ := ok_check_lot (P := P) (w := w) (base := base) T
  have hs : SS K [] _ bd_check_many_and_lot := (ss_seq (ss_expr (se_x (sx_fn (sa_cons se_var sa_nil)))) (ss_expr (se_x (sx_fn (sa_cons se_var (sa_cons se_var (sa_cons se_str sa_nil)))))))
  exact ⟨f, fd, F, b, g, okS hs F sc_check_many_and_lot rfl rfl (fun cdv A outer s H E hr => (pss_cons (ps_expr (pe_call G_check_many (hr.mono (by decide)) (by rfl) g_check_many F_check_many.kp b_check_many .nil pass0 (pa_cons (pv 0) pa_nil))) (pss_one (ps_expr (pe_call G_check_lot (hr.mono (by decide)) (by rfl) g_check_lot F_check_lot.kp b_check_lot .nil pass0 (pa_cons (pv 0) (pa_cons (pv 1) (pa_cons pe_str pa_nil))))))))⟩

abbrev s_both_see_one_between : Stmt := topS 22
abbrev N_both_see_one_between : List Str := ["lot", "one", "other", "between"]
theorem sc_both_see_one_between : FnScope N_both_see_one_between ["lot", "one", "other"] (defScope s_both_see_one_between) := ⟨rfl, rfl, rfl, by decide +kernel, rfl, by decide +kernel, by decide +kernel⟩
def bd_both_see_one_between : Ev → Option Out := (sRetX (xE (eCall pAny (aCons (eX (xLc (iR2 (aCons (eX (xOps pAdd (eVar 1) (eC (.int 1)))) (aCons (eVar 2) aNil))) (gN 3) bYes (eAndT (eOp (pIn false) (eTup (aCons (eVar 1) (aCons (eVar 3) aNil))) (eVar 0)) (eOp (pIn false) (eTup (aCons (eVar 3) (aCons (eVar 2) aNil))) (eVar 0))) [3])) aNil))))
def fn_both_see_one_between : List PyData → Option Sl := fnS 3 1 bd_both_see_one_between
theorem ok_both_see_one_between (T : Top K mg) : OkAt P w K mg base 1 "both_see_one_between" s_both_see_one_between ["lot", "one", "other"] (spS K fn_both_see_one_between) := by
  obtain ⟨f, fd, F, b, g⟩ := T.d_both_see_one_between
  have hs : SS K [] _ bd_both_see_one_between := (ss_retX (sx_e (se_callB sr_any (sa_cons (se_x (sx_lc (by decide) (si_rng2 (sa_cons (se_x (sx_ops sr_add se_var se_int)) (sa_cons se_var sa_nil))) sg_name (lcl_name (by decide)) mn_name st_yes (se_andT (se_op sr_in (se_tup (sa_cons se_var (sa_cons se_var sa_nil))) se_var) (se_op sr_in (se_tup (sa_cons se_var (sa_cons se_var sa_nil))) se_var)))) sa_nil))))
  exact ⟨f, fd, F, b, g, okS hs F sc_both_see_one_between rfl rfl (fun cdv A outer s H E hr => (pss_one (ps_ret (pe_callB (cr_any rfl) (by rfl) T.n_any boot_any (pa_cons (pe_lc (own := [("between", 3)]) rfl sc_both_see_one_between.nd (pi_range2 (by rfl) T.n_range (pa_cons (pe_op op_addA (pv 1) pe_int) (pa_cons (pv 2) pa_nil))) (blkOk_by (N := N_both_see_one_between) (sc := defScope s_both_see_one_between) (by decide +kernel)) (fun _ _ _ _ _ => (pg_name (i := 3) sc_both_see_one_between.nd rfl (by first | exact Or.inl rfl | exact Or.inr rfl))) (fun _ _ _ _ _ => pts_nil) (fun _ _ _ _ _ => (pe_andT (pe_cmpR (op_inA (hu65 hr)) (pe_tup (pa_cons (pv 1) (pa_cons (pv 3) pa_nil))) (pv 0) (by rfl)) (pe_one (pe_cmpR (op_inA (hu65 hr)) (pe_tup (pa_cons (pv 3) (pa_cons (pv 2) pa_nil))) (pv 0) (by rfl)))))) pa_nil)))))⟩

abbrev s_bars_alone : Stmt := topS 21
abbrev N_bars_alone : List Str := ["lot", "one", "other"]
theorem sc_bars_alone : FnScope N_bars_alone ["lot"] (defScope s_bars_alone) := ⟨rfl, rfl, rfl, by decide +kernel, rfl, by decide +kernel, by decide +kernel⟩
def bd_bars_alone : Ev → Option Out := (sRetX (xLc (iAny (eVar 0)) (gT 2 (gsCons (gN 1) (gsCons (gN 2) gsNil))) (bAnd (bB (eOp pGt (eVar 2) (eX (xOps pAdd (eVar 1) (eC (.int 1)))))) (bNot (bTru (eX (xFn fn_both_see_one_between (aCons (eVar 0) (aCons (eVar 1) (aCons (eVar 2) aNil)))))))) (eTup (aCons (eC (.str "alone")) (aCons (eVar 1) (aCons (eVar 2) aNil)))) [1, 2]))
def fn_bars_alone : List PyData → Option Sl := fnS 1 2 bd_bars_alone
theorem ok_bars_alone (T : Top K mg) : OkAt P w K mg base 2 "bars_alone" s_bars_alone ["lot"] (spS K fn_bars_alone) := by
  obtain ⟨f, fd, F, b, g⟩ := T.d_bars_alone
  obtain ⟨f_both_see_one_between, fd_both_see_one_between, F_both_see_one_between, b_both_see_one_between, g_both_see_one_between, G_both_see_one_between⟩ := ok_both_see_one_between (P := P) (w := w) (base := base) T
  have hs : SS K [] _ bd_bars_alone := (ss_retX (sx_lc (by decide) (si_any se_var) (sg_tup (sgs_cons sg_name (sgs_cons sg_name sgs_nil))) (lcl_tup (lcls_cons mn_name (mns_cons mn_name mns_nil) (lcl_name (by decide)) (lcls_cons mn_name mns_nil (lcl_name (by decide)) lcls_nil))) (mn_tup (mns_cons mn_name (mns_cons mn_name mns_nil))) (st_and (st_t (se_op sr_gt se_var (se_x (sx_ops sr_add se_var se_int)))) (st_not (st_tru (se_x (sx_fn (sa_cons se_var (sa_cons se_var (sa_cons se_var sa_nil)))))))) (se_tup (sa_cons se_str (sa_cons se_var (sa_cons se_var sa_nil))))))
  exact ⟨f, fd, F, b, g, okS hs F sc_bars_alone rfl rfl (fun cdv A outer s H E hr => (pss_one (ps_ret (pe_lc (own := [("one", 1), ("other", 2)]) rfl sc_bars_alone.nd (pi_any (pv 0)) (blkOk_by (N := N_bars_alone) (sc := defScope s_bars_alone) (by decide +kernel)) (fun _ _ _ _ _ => (pg_tup rfl (pgs_cons (pg_name (i := 1) sc_bars_alone.nd rfl (by first | exact Or.inl rfl | exact Or.inr rfl)) (pgs_cons (pg_name (i := 2) sc_bars_alone.nd rfl (by first | exact Or.inl rfl | exact Or.inr rfl)) pgs_nil)))) (fun _ _ _ _ _ => (pts_one (PW.pt (pw_and (pt_cmpR op_gt (pv 2) (pe_op op_addA (pv 1) pe_int) (nomark _)) (pw_and1 (pt_not (pt_tru (pe_call G_both_see_one_between (hr.mono (by decide)) (by rfl) g_both_see_one_between F_both_see_one_between.kp b_both_see_one_between .nil pass0 (pa_cons (pv 0) (pa_cons (pv 1) (pa_cons (pv 2) pa_nil))))))))))) (fun _ _ _ _ _ => (pe_tup (pa_cons pe_str (pa_cons (pv 1) (pa_cons (pv 2) pa_nil)))))))))⟩

abbrev s_bars_apart : Stmt := topS 19
abbrev N_bars_apart : List Str := ["many", "lot", "one"]
theorem sc_bars_apart : FnScope N_bars_apart ["many", "lot"] (defScope s_bars_apart) := ⟨rfl, rfl, rfl, by decide +kernel, rfl, by decide +kernel, by decide +kernel⟩
def bd_bars_apart : Ev → Option Out := (sRetX (xLc (iR1 (aCons (eOp pSub (eVar 0) (eC (.int 1))) aNil)) (gN 2) (bB (eOp (pIn true) (eTup (aCons (eVar 2) (aCons (eX (xOps pAdd (eVar 2) (eC (.int 1)))) aNil))) (eVar 1))) (eTup (aCons (eC (.str "apart")) (aCons (eVar 2) (aCons (eX (xOps pAdd (eVar 2) (eC (.int 1)))) aNil)))) [2]))
def fn_bars_apart : List PyData → Option Sl := fnS 2 1 bd_bars_apart
theorem ok_bars_apart (T : Top K mg) : OkAt P w K mg base 1 "bars_apart" s_bars_apart ["many", "lot"] (spS K fn_bars_apart) := by
  obtain ⟨f, fd, F, b, g⟩ := T.d_bars_apart
  have hs : SS K [] _ bd_bars_apart := (ss_retX (sx_lc (by decide) (si_rng1 (sa_cons (se_op sr_sub se_var se_int) sa_nil)) sg_name (lcl_name (by decide)) mn_name (st_t (se_op sr_notIn (se_tup (sa_cons se_var (sa_cons (se_x (sx_ops sr_add se_var se_int)) sa_nil))) se_var)) (se_tup (sa_cons se_str (sa_cons se_var (sa_cons (se_x (sx_ops sr_add se_var se_int)) sa_nil))))))
  exact ⟨f, fd, F, b, g, okS hs F sc_bars_apart rfl rfl (fun cdv A outer s H E hr => (pss_one (ps_ret (pe_lc (own := [("one", 2)]) rfl sc_bars_apart.nd (pi_range1 (by rfl) T.n_range (pa_cons (pe_op op_sub (pv 0) pe_int) pa_nil)) (blkOk_by (N := N_bars_apart) (sc := defScope s_bars_apart) (by decide +kernel)) (fun _ _ _ _ _ => (pg_name (i := 2) sc_bars_apart.nd rfl (by first | exact Or.inl rfl | exact Or.inr rfl))) (fun _ _ _ _ _ => (pts_one (pt_cmpR (op_notInA (hu65 hr)) (pe_tup (pa_cons (pv 2) (pa_cons (pe_op op_addA (pv 2) pe_int) pa_nil))) (pv 1) (by rfl)))) (fun _ _ _ _ _ => (pe_tup (pa_cons pe_str (pa_cons (pv 2) (pa_cons (pe_op op_addA (pv 2) pe_int) pa_nil)))))))))⟩

abbrev s_bars_cross : Stmt := topS 20
abbrev N_bars_cross : List Str := ["lot", "one", "other", "third", "fourth"]
theorem sc_bars_cross : FnScope N_bars_cross ["lot"] (defScope s_bars_cross) := ⟨rfl, rfl, rfl, by decide +kernel, rfl, by decide +kernel, by decide +kernel⟩
def bd_bars_cross : Ev → Option Out := (sRetX (xLc2 (iAny (eVar 0)) (gT 2 (gsCons (gN 1) (gsCons (gN 2) gsNil))) bYes (iAny (eVar 0)) (gT 2 (gsCons (gN 3) (gsCons (gN 4) gsNil))) (bThree pLt pLt pLt (eVar 1) (eVar 3) (eVar 2) (eVar 4)) (eTup (aCons (eC (.str "cross")) (aCons (eVar 1) (aCons (eVar 2) (aCons (eVar 3) (aCons (eVar 4) aNil)))))) [1, 2, 3, 4] [3, 4]))
def fn_bars_cross : List PyData → Option Sl := fnS 1 4 bd_bars_cross
theorem ok_bars_cross (T : Top K mg) : OkAt P w K mg base 1 "bars_cross" s_bars_cross ["lot"] (spS K fn_bars_cross) := by
  obtain ⟨f, fd, F, b, g⟩ := T.d_bars_cross
  have hs : SS K [] _ bd_bars_cross := (ss_retX (sx_lc2 (by decide) (by decide) (si_any se_var) (sg_tup (sgs_cons sg_name (sgs_cons sg_name sgs_nil))) (lcl_tup (lcls_cons mn_name (mns_cons mn_name mns_nil) (lcl_name (by decide)) (lcls_cons mn_name mns_nil (lcl_name (by decide)) lcls_nil))) (mn_tup (mns_cons mn_name (mns_cons mn_name mns_nil))) st_yes (si_any se_var) (sg_tup (sgs_cons sg_name (sgs_cons sg_name sgs_nil))) (lcl_tup (lcls_cons mn_name (mns_cons mn_name mns_nil) (lcl_name (by decide)) (lcls_cons mn_name mns_nil (lcl_name (by decide)) lcls_nil))) (mn_tup (mns_cons mn_name (mns_cons mn_name mns_nil))) (st_three sr_lt sr_lt sr_lt se_var se_var se_var se_var) (se_tup (sa_cons se_str (sa_cons se_var (sa_cons se_var (sa_cons se_var (sa_cons se_var sa_nil))))))))
  exact ⟨f, fd, F, b, g, okS hs F sc_bars_cross rfl rfl (fun cdv A outer s H E hr => (pss_one (ps_ret (pe_lc2 (own := [("one", 1), ("other", 2), ("third", 3), ("fourth", 4)]) (vs1 := [3, 4]) rfl sc_bars_cross.nd (pi_any (pv 0)) (blkOk_by (N := N_bars_cross) (sc := defScope s_bars_cross) (by decide +kernel)) (by decide) (fun _ _ _ _ _ => (pg_tup rfl (pgs_cons (pg_name (i := 1) sc_bars_cross.nd rfl (by first | exact Or.inl rfl | exact Or.inr rfl)) (pgs_cons (pg_name (i := 2) sc_bars_cross.nd rfl (by first | exact Or.inl rfl | exact Or.inr rfl)) pgs_nil)))) (fun _ _ _ _ _ => pts_nil) (fun _ _ _ _ _ => (pi_any (pv 0))) (fun _ _ _ _ _ => (pg_tup rfl (pgs_cons (pg_name (i := 3) sc_bars_cross.nd rfl (by first | exact Or.inl rfl | exact Or.inr rfl)) (pgs_cons (pg_name (i := 4) sc_bars_cross.nd rfl (by first | exact Or.inl rfl | exact Or.inr rfl)) pgs_nil)))) (fun _ _ _ _ _ => (pts_one (pt_three (op_ltA hr.units0) (op_ltA hr.units0) (op_ltA hr.units0) (pv 1) (pv 3) (pv 2) (pv 4)))) (fun _ _ _ _ _ => (pe_tup (pa_cons pe_str (pa_cons (pv 1) (pa_cons (pv 2) (pa_cons (pv 3) (pa_cons (pv 4) pa_nil)))))))))))⟩

abbrev s_all_bars : Stmt := topS 18
abbrev N_all_bars : List Str := ["many", "lot"]
theorem sc_all_bars : FnScope N_all_bars ["many", "lot"] (defScope s_all_bars) := ⟨rfl, rfl, rfl, by decide +kernel, rfl, by decide +kernel, by decide +kernel⟩
def bd_all_bars : Ev → Option Out := (sRetX (xOps pAdd (eX (xOps pAdd (eX (xFn fn_bars_apart (aCons (eVar 0) (aCons (eVar 1) aNil)))) (eX (xFn fn_bars_cross (aCons (eVar 1) aNil))))) (eX (xFn fn_bars_alone (aCons (eVar 1) aNil)))))
def fn_all_bars : List PyData → Option Sl := fnS 2 0 bd_all_bars
theorem ok_all_bars (T : Top K mg) : OkAt P w K mg base 3 "all_bars" s_all_bars ["many", "lot"] (spS K fn_all_bars) := by
  obtain ⟨f, fd, F, b, g⟩ := T.d_all_bars
  obtain ⟨f_bars_apart, fd_bars_apart, F_bars_apart, b_bars_apart, g_bars_apart, G_bars_apart⟩ := ok_bars_apart (P := P) (w := w) (base := base) T
  obtain ⟨f_bars_cross, fd_bars_cross, F_bars_cross, b_bars_cross, g_bars_cross, G_bars_cross⟩ := ok_bars_cross (P := P) (w := w) (base := base) T
  obtain ⟨f_bars_alone, fd_bars_alone, F_bars_alone, b_bars_alone, g_bars_alone, G_bars_alone⟩ := ok_bars_alone (P := P) (w := w) (base := base) T
  have hs : SS K [] _ bd_all_bars := (ss_retX (sx_ops sr_add (se_x (sx_ops sr_add (se_x (sx_fn (sa_cons se_var (sa_cons se_var sa_nil)))) (se_x (sx_fn (sa_cons se_var sa_nil))))) (se_x (sx_fn (sa_cons se_var sa_nil)))))
  exact ⟨f, fd, F, b, g, okS hs F sc_all_bars rfl rfl (fun cdv A outer s H E hr => (pss_one (ps_ret (pe_op op_addA (pe_op op_addA (pe_call G_bars_apart (hr.mono (by decide)) (by rfl) g_bars_apart F_bars_apart.kp b_bars_apart .nil pass0 (pa_cons (pv 0) (pa_cons (pv 1) pa_nil))) (pe_call G_bars_cross (hr.mono (by decide)) (by rfl) g_bars_cross F_bars_cross.kp b_bars_cross .nil pass0 (pa_cons (pv 1) pa_nil))) (pe_call G_bars_alone (hr.mono (by decide)) (by rfl) g_bars_alone F_bars_alone.kp b_bars_alone .nil pass0 (pa_cons (pv 1) pa_nil))))))⟩

abbrev s_what_bars : Stmt := topS 16
abbrev N_what_bars : List Str := ["many", "lot", "found"]
theorem sc_what_bars : FnScope N_what_bars ["many", "lot"] (defScope s_what_bars) := ⟨rfl, rfl, rfl, by decide +kernel, rfl, by decide +kernel, by decide +kernel⟩
def bd_what_bars : Ev → Option Out := (sSeq (sExpr (eX (xFn fn_check_many_and_lot (aCons (eVar 0) (aCons (eVar 1) aNil))))) (sSeq (sSet 2 (xFn fn_all_bars (aCons (eVar 0) (aCons (eVar 1) aNil)))) (sRetX (xE (eIf (bTru (eVar 2)) (eIxV 2 (eC (.int 0))) (eC .none))))))
def fn_what_bars : List PyData → Option Sl := fnS 2 1 bd_what_bars
theorem ok_what_bars (T : Top K mg) : OkAt P w K mg base 8 "what_bars" s_what_bars ["many", "lot"] (spS K fn_what_bars) := by
  obtain ⟨f, fd, F, b, g⟩ := T.d_what_bars
  obtain ⟨f_check_many_and_lot, fd_check_many_and_lot, F_check_many_and_lot, b_check_many_and_lot, g_check_many_and_lot, G_check_many_and_lot⟩ := ok_check_many_and_lot (P := P) (w := w) (base := base) T
  obtain ⟨f_all_bars, fd_all_bars, F_all_bars, b_all_bars, g_all_bars, G_all_bars⟩ := ok_all_bars (P := P) (w := w) (base := base) T
  have hs : SS K [] _ bd_what_bars := (ss_seq (ss_expr (se_x (sx_fn (sa_cons se_var (sa_cons se_var sa_nil))))) (ss_seq (ss_set (sx_fn (sa_cons se_var (sa_cons se_var sa_nil)))) (ss_retX (sx_e (se_if (st_tru se_var) (se_ixv se_int) se_non)))))
  exact ⟨f, fd, F, b, g, okS hs F sc_what_bars rfl rfl (fun cdv A outer s H E hr => (pss_cons (ps_expr (pe_call G_check_many_and_lot (hr.mono (by decide)) (by rfl) g_check_many_and_lot F_check_many_and_lot.kp b_check_many_and_lot .nil pass0 (pa_cons (pv 0) (pa_cons (pv 1) pa_nil)))) (pss_cons (ps_set (i := 2) sc_what_bars.nd rfl (by first | exact Or.inl rfl | exact Or.inr rfl) (pe_call G_all_bars (hr.mono (by decide)) (by rfl) g_all_bars F_all_bars.kp b_all_bars .nil pass0 (pa_cons (pv 0) (pa_cons (pv 1) pa_nil)))) (pss_one (ps_ret (pe_ifExp (pt_tru (pv 2)) (pe_ix ix_seq (pv 2) pe_int (fun _ _ => rfl)) pe_non))))))⟩

abbrev s_law_pick : Stmt := topS 25
abbrev N_law_pick : List Str := ["deck", "size", "number", "found"]
theorem sc_law_pick : FnScope N_law_pick ["deck", "size"] (defScope s_law_pick) := ⟨rfl, rfl, rfl, by decide +kernel, rfl, by decide +kernel, by decide +kernel⟩
def bd_law_pick : Ev → Option Out := (sSeq (sIf (bScal (bB (eOp pGt (eIxV 0 (eC (.int 0))) (eC (.int 1))))) (sSeq (sSet 3 (xE (eOp pMod (eIxV 0 (eC (.int 0))) (eVar 1)))) (sSeq (sSetI 0 (eOp pFdiv (eIxV 0 (eC (.int 0))) (eVar 1)) (eC (.int 0))) (sRetX (xVar 3)))) sNil) (sSeq (sSetI 0 (eX (xOps pAdd (eIxV 0 (eC (.int 2))) (eC (.int 1)))) (eC (.int 2))) (sSeq (sSet 2 (xE (eOp pMod (eOp pPow (eX (xOps pAdd (eIxV 0 (eC (.int 1))) (eOp pMul (eC (.int 15485867)) (eIxV 0 (eC (.int 2)))))) (eC (.int 5))) (eC (.int 2147483647))))) (sSeq (sSet 3 (xE (eOp pFdiv (eOp pMod (eOp pPow (eX (xOps pAdd (eVar 2) (eOp pMul (eC (.int 7919)) (eIxV 0 (eC (.int 2)))))) (eC (.int 3))) (eC (.int 2147483629))) (eC (.int 32))))) (sRetX (xE (eOp pMod (eVar 3) (eVar 1))))))))
def fn_law_pick : List PyData → List PyData → Option (Sl × List PyData) := fnB 1 2 bd_law_pick
theorem ok_law_pick (T : Top K mg) : OkAt P w K mg base 1 "_law_pick" s_law_pick ["deck", "size"] (spB K fn_law_pick) := by
  obtain ⟨f, fd, F, b, g⟩ := T.d_law_pick
  have hs : SS K [] _ bd_law_pick := (ss_seq (ss_if (st_scal (st_t (se_op sr_gt (se_ixv se_int) se_int))) (ss_seq (ss_set (sx_e (se_op sr_mod (se_ixv se_int) se_var))) (ss_seq (ss_setI (se_op sr_fdiv (se_ixv se_int) se_var) se_int) (ss_retX sx_var))) ss_nil) (ss_seq (ss_setI (se_x (sx_ops sr_add (se_ixv se_int) se_int)) se_int) (ss_seq (ss_set (sx_e (se_op sr_mod (se_op sr_pow (se_x (sx_ops sr_add (se_ixv se_int) (se_op sr_mul se_int (se_ixv se_int)))) se_int) se_int))) (ss_seq (ss_set (sx_e (se_op sr_fdiv (se_op sr_mod (se_op sr_pow (se_x (sx_ops sr_add se_var (se_op sr_mul se_int (se_ixv se_int)))) se_int) se_int) se_int))) (ss_retX (sx_e (se_op sr_mod se_var se_var)))))))
  exact ⟨f, fd, F, b, g, okB hs F sc_law_pick rfl rfl (fun cdv A outer s H E hr => (pss_cons (ps_if (pt_cmpR op_gt (pe_ix ix_seq (pv 0) pe_int (fun _ _ => rfl)) pe_int (nomark _)) (pss_cons (ps_set (i := 3) sc_law_pick.nd rfl (by first | exact Or.inl rfl | exact Or.inr rfl) (pe_op op_mod (pe_ix ix_seq (pv 0) pe_int (fun _ _ => rfl)) (pv 1))) (pss_cons (ps_asg (pe_op op_fdiv (pe_ix ix_seq (pv 0) pe_int (fun _ _ => rfl)) (pv 1)) (pg_sub (pv 0) pe_int set_list)) (pss_one (ps_ret (pv 3))))) pss_nil) (pss_cons (ps_asg (pe_op op_addA (pe_ix ix_seq (pv 0) pe_int (fun _ _ => rfl)) pe_int) (pg_sub (pv 0) pe_int set_list)) (pss_cons (ps_set (i := 2) sc_law_pick.nd rfl (by first | exact Or.inl rfl | exact Or.inr rfl) (pe_op op_mod (pe_op op_pow (pe_op op_addA (pe_ix ix_seq (pv 0) pe_int (fun _ _ => rfl)) (pe_op op_mul pe_int (pe_ix ix_seq (pv 0) pe_int (fun _ _ => rfl)))) pe_int) pe_int)) (pss_cons (ps_set (i := 3) sc_law_pick.nd rfl (by first | exact Or.inl rfl | exact Or.inr rfl) (pe_op op_fdiv (pe_op op_mod (pe_op op_pow (pe_op op_addA (pv 2) (pe_op op_mul pe_int (pe_ix ix_seq (pv 0) pe_int (fun _ _ => rfl)))) pe_int) pe_int) pe_int)) (pss_one (ps_ret (pe_op op_mod (pv 3) (pv 1)))))))))⟩

abbrev s_law_heights : Stmt := topS 31
abbrev N_law_heights : List Str := ["deck", "many", "top", "found", "turn", "height"]
theorem sc_law_heights : FnScope N_law_heights ["deck", "many", "top"] (defScope s_law_heights) := ⟨rfl, rfl, rfl, by decide +kernel, rfl, by decide +kernel, by decide +kernel⟩
def bd_law_heights : Ev → Option Out := (sSeq (sSet 3 (xLst aNil)) (sSeq (sFor (iR1 (aCons (eVar 1) aNil)) (gN 4) (sSeq (sSet 5 (xFnB 0 fn_law_pick (aCons (eX (xOps pAdd (eVar 2) (eC (.int 1)))) aNil))) (sSeq (wloop (bScal (bB (eOp (pIn false) (eVar 5) (eVar 3)))) (sSet 5 (xE (eOp pMod (eX (xOps pAdd (eVar 5) (eC (.int 1)))) (eX (xOps pAdd (eVar 2) (eC (.int 1))))))) 64) (sApp 3 (eVar 5))))) (sRetX (xE (eCall pTuple (aCons (eVar 3) aNil))))))
def fn_law_heights : List PyData → List PyData → Option (Sl × List PyData) := fnB 2 3 bd_law_heights
theorem ok_law_heights (T : Top K mg) : OkAt P w K mg base 2 "_law_heights" s_law_heights ["deck", "many", "top"] (spB K fn_law_heights) := by
  obtain ⟨f, fd, F, b, g⟩ := T.d_law_heights
  obtain ⟨f_law_pick, fd_law_pick, F_law_pick, b_law_pick, g_law_pick, G_law_pick⟩ := ok_law_pick (P := P) (w := w) (base := base) T
  have hs : SS K [] _ bd_law_heights := (ss_seq (ss_set (sx_lst sa_nil)) (ss_seq (ss_for (si_rng1 (sa_cons se_var sa_nil)) sg_name (ss_seq (ss_set (sx_fnB (sa_cons (se_x (sx_ops sr_add se_var se_int)) sa_nil))) (ss_seq (ss_while 64 (st_scal (st_t (se_op sr_in se_var se_var))) (ss_set (sx_e (se_op sr_mod (se_x (sx_ops sr_add se_var se_int)) (se_x (sx_ops sr_add se_var se_int)))))) (ss_app se_var)))) (ss_retX (sx_e (se_callB sr_tuple (sa_cons se_var sa_nil))))))
  exact ⟨f, fd, F, b, g, okB hs F sc_law_heights rfl rfl (fun cdv A outer s H E hr => (pss_cons (ps_set (i := 3) sc_law_heights.nd rfl (by first | exact Or.inl rfl | exact Or.inr rfl) (pe_lst pa_nil)) (pss_cons (ps_for PassesOwn.never rfl (pi_range1 (by rfl) T.n_range (pa_cons (pv 1) pa_nil)) (pg_name (i := 4) sc_law_heights.nd rfl (by first | exact Or.inl rfl | exact Or.inr rfl)) (pss_cons (ps_set (i := 5) sc_law_heights.nd rfl (by first | exact Or.inl rfl | exact Or.inr rfl) (pe_call G_law_pick (hr.mono (by decide)) (by rfl) g_law_pick F_law_pick.kp b_law_pick .nil pass0 (pa_cons (pv 0) (pa_cons (pe_op op_addA (pv 2) pe_int) pa_nil)))) (pss_cons (ps_while PassesOwn.never (pt_cmpR (op_inA (hu65 hr)) (pv 5) (pv 3) (by rfl)) (pss_one (ps_set (i := 5) sc_law_heights.nd rfl (by first | exact Or.inl rfl | exact Or.inr rfl) (pe_op op_mod (pe_op op_addA (pv 5) pe_int) (pe_op op_addA (pv 2) pe_int))))) (pss_one (ps_expr (pe_bm PySem.F.plainAttrs_list PySem.F.slot_list_append PySem.F.type_list_append mt_append (pv 3) (pa_cons (pv 5) pa_nil))))))) (pss_one (ps_ret (pe_callTy c_tuple (by rfl) T.n_tuple boot_tuple (pa_cons (pv 3) pa_nil)))))))⟩

abbrev s_law_pairs : Stmt := topS 33
abbrev N_law_pairs : List Str := ["many", "found", "one", "other"]
theorem sc_law_pairs : FnScope N_law_pairs ["many"] (defScope s_law_pairs) := ⟨rfl, rfl, rfl, by decide +kernel, rfl, by decide +kernel, by decide +kernel⟩
def bd_law_pairs : Ev → Option Out := (sSeq (sSet 1 (xLst aNil)) (sSeq (sFor (iR1 (aCons (eVar 0) aNil)) (gN 2) (sSet 1 (xOps pAdd (eVar 1) (eX (xLc (iR2 (aCons (eX (xOps pAdd (eVar 2) (eC (.int 1)))) (aCons (eVar 0) aNil))) (gN 3) bYes (eTup (aCons (eVar 2) (aCons (eVar 3) aNil))) [3]))))) (sRetX (xVar 1))))
def fn_law_pairs : List PyData → Option Sl := fnS 1 3 bd_law_pairs
theorem ok_law_pairs (T : Top K mg) : OkAt P w K mg base 1 "_law_pairs" s_law_pairs ["many"] (spS K fn_law_pairs) := by
  obtain ⟨f, fd, F, b, g⟩ := T.d_law_pairs
  have hs : SS K [] _ bd_law_pairs := (ss_seq (ss_set (sx_lst sa_nil)) (ss_seq (ss_for (si_rng1 (sa_cons se_var sa_nil)) sg_name (ss_set (sx_ops sr_add se_var (se_x (sx_lc (by decide) (si_rng2 (sa_cons (se_x (sx_ops sr_add se_var se_int)) (sa_cons se_var sa_nil))) sg_name (lcl_name (by decide)) mn_name st_yes (se_tup (sa_cons se_var (sa_cons se_var sa_nil)))))))) (ss_retX sx_var)))
  exact ⟨f, fd, F, b, g, okS hs F sc_law_pairs rfl rfl (fun cdv A outer s H E hr => (pss_cons (ps_set (i := 1) sc_law_pairs.nd rfl (by first | exact Or.inl rfl | exact Or.inr rfl) (pe_lst pa_nil)) (pss_cons (ps_for PassesOwn.never rfl (pi_range1 (by rfl) T.n_range (pa_cons (pv 0) pa_nil)) (pg_name (i := 2) sc_law_pairs.nd rfl (by first | exact Or.inl rfl | exact Or.inr rfl)) (pss_one (ps_set (i := 1) sc_law_pairs.nd rfl (by first | exact Or.inl rfl | exact Or.inr rfl) (pe_op op_addA (pv 1) (pe_lc (own := [("other", 3)]) rfl sc_law_pairs.nd (pi_range2 (by rfl) T.n_range (pa_cons (pe_op op_addA (pv 2) pe_int) (pa_cons (pv 0) pa_nil))) (blkOk_by (N := N_law_pairs) (sc := defScope s_law_pairs) (by decide +kernel)) (fun _ _ _ _ _ => (pg_name (i := 3) sc_law_pairs.nd rfl (by first | exact Or.inl rfl | exact Or.inr rfl))) (fun _ _ _ _ _ => pts_nil) (fun _ _ _ _ _ => (pe_tup (pa_cons (pv 2) (pa_cons (pv 3) pa_nil))))))))) (pss_one (ps_ret (pv 1))))))⟩

abbrev s_law_one : Stmt := topS 26
abbrev N_law_one : List Str := ["deck", "some"]
theorem sc_law_one : FnScope N_law_one ["deck", "some"] (defScope s_law_one) := ⟨rfl, rfl, rfl, by decide +kernel, rfl, by decide +kernel, by decide +kernel⟩
def bd_law_one : Ev → Option Out := (sRetX (xE (eIxV 1 (eX (xFnB 0 fn_law_pick (aCons (eCall pLen (aCons (eVar 1) aNil)) aNil))))))
def fn_law_one : List PyData → List PyData → Option (Sl × List PyData) := fnB 1 0 bd_law_one
theorem ok_law_one (T : Top K mg) : OkAt P w K mg base 2 "_law_one" s_law_one ["deck", "some"] (spB K fn_law_one) := by
  obtain ⟨f, fd, F, b, g⟩ := T.d_law_one
  obtain ⟨f_law_pick, fd_law_pick, F_law_pick, b_law_pick, g_law_pick, G_law_pick⟩ := ok_law_pick (P := P) (w := w) (base := base) T
  have hs : SS K [] _ bd_law_one := (ss_retX (sx_e (se_ixv (se_x (sx_fnB (sa_cons (se_callB sr_len (sa_cons se_var sa_nil)) sa_nil))))))
  exact ⟨f, fd, F, b, g, okB hs F sc_law_one rfl rfl (fun cdv A outer s H E hr => (pss_one (ps_ret (pe_ix ix_seq (pv 1) (pe_call G_law_pick (hr.mono (by decide)) (by rfl) g_law_pick F_law_pick.kp b_law_pick .nil pass0 (pa_cons (pv 0) (pa_cons (pe_callB c_len (by rfl) T.n_len PySem.boot_len (pa_cons (pv 1) pa_nil)) pa_nil))) (fun _ _ => rfl)))))⟩

abbrev s_law_bent : Stmt := topS 34
abbrev N_law_bent : List Str := ["deck", "many", "lot", "pairs", "found", "turn", "pair"]
theorem sc_law_bent : FnScope N_law_bent ["deck", "many", "lot"] (defScope s_law_bent) := ⟨rfl, rfl, rfl, by decide +kernel, rfl, by decide +kernel, by decide +kernel⟩
def bd_law_bent : Ev → Option Out := (sSeq (sSet 3 (xFn fn_law_pairs (aCons (eVar 1) aNil))) (sSeq (sSet 4 (xCall pList (aCons (eVar 2) aNil))) (sSeq (sFor (iR1 (aCons (eX (xOps pAdd (eC (.int 1)) (eX (xFnB 0 fn_law_pick (aCons (eC (.int 2)) aNil))))) aNil)) (gN 5) (sIf (bB (eOp pNe (eVar 3) (eX (xLst aNil)))) (sSeq (sSet 6 (xFnB 0 fn_law_one (aCons (eVar 3) aNil))) (sIf (bScal (bB (eOp (pIn false) (eVar 6) (eVar 4)))) (sRem 4 (eVar 6)) (sApp 4 (eVar 6)))) sNil)) (sRetX (xE (eCall pTuple (aCons (eX (xCall pSortB (aCons (eVar 4) aNil))) aNil)))))))
def fn_law_bent : List PyData → List PyData → Option (Sl × List PyData) := fnB 2 4 bd_law_bent
theorem ok_law_bent (T : Top K mg) : OkAt P w K mg base 3 "_law_bent" s_law_bent ["deck", "many", "lot"] (spB K fn_law_bent) := by
  obtain ⟨f, fd, F, b, g⟩ := T.d_law_bent
  obtain ⟨f_law_pairs, fd_law_pairs, F_law_pairs, b_law_pairs, g_law_pairs, G_law_pairs⟩ := ok_law_pairs (P := P) (w := w) (base := base) T
  obtain ⟨f_law_pick, fd_law_pick, F_law_pick, b_law_pick, g_law_pick, G_law_pick⟩ := ok_law_pick (P := P) (w := w) (base := base) T
  obtain ⟨f_law_one, fd_law_one, F_law_one, b_law_one, g_law_one, G_law_one⟩ := ok_law_one (P := P) (w := w) (base := base) T
  have hs : SS K [] _ bd_law_bent := (ss_seq (ss_set (sx_fn (sa_cons se_var sa_nil))) (ss_seq (ss_set (sx_callB sr_list (sa_cons se_var sa_nil))) (ss_seq (ss_for (si_rng1 (sa_cons (se_x (sx_ops sr_add se_int (se_x (sx_fnB (sa_cons se_int sa_nil))))) sa_nil)) sg_name (ss_if (st_t (se_op sr_ne se_var (se_x (sx_lst sa_nil)))) (ss_seq (ss_set (sx_fnB (sa_cons se_var sa_nil))) (ss_if (st_scal (st_t (se_op sr_in se_var se_var))) (ss_rem se_var) (ss_app se_var))) ss_nil)) (ss_retX (sx_e (se_callB sr_tuple (sa_cons (se_x (sx_callB sr_sortB (sa_cons se_var sa_nil))) sa_nil)))))))
  exact ⟨f, fd, F, b, g, okB hs F sc_law_bent rfl rfl (fun cdv A outer s H E hr => (pss_cons (ps_set (i := 3) sc_law_bent.nd rfl (by first | exact Or.inl rfl | exact Or.inr rfl) (pe_call G_law_pairs (hr.mono (by decide)) (by rfl) g_law_pairs F_law_pairs.kp b_law_pairs .nil pass0 (pa_cons (pv 1) pa_nil))) (pss_cons (ps_set (i := 4) sc_law_bent.nd rfl (by first | exact Or.inl rfl | exact Or.inr rfl) (pe_callTy c_list (by rfl) T.n_list boot_list (pa_cons (pv 2) pa_nil))) (pss_cons (ps_for PassesOwn.never rfl (pi_range1 (by rfl) T.n_range (pa_cons (pe_op op_addA pe_int (pe_call G_law_pick (hr.mono (by decide)) (by rfl) g_law_pick F_law_pick.kp b_law_pick .nil pass0 (pa_cons (pv 0) (pa_cons pe_int pa_nil)))) pa_nil)) (pg_name (i := 5) sc_law_bent.nd rfl (by first | exact Or.inl rfl | exact Or.inr rfl)) (pss_one (ps_if (pt_cmpR (op_neD hr.units) (pv 3) (pe_lst pa_nil) (nomark _)) (pss_cons (ps_set (i := 6) sc_law_bent.nd rfl (by first | exact Or.inl rfl | exact Or.inr rfl) (pe_call G_law_one (hr.mono (by decide)) (by rfl) g_law_one F_law_one.kp b_law_one .nil pass0 (pa_cons (pv 0) (pa_cons (pv 3) pa_nil)))) (pss_one (ps_if (pt_cmpR (op_inA (hu65 hr)) (pv 6) (pv 4) (by rfl)) (pss_one (ps_expr (pe_bm PySem.F.plainAttrs_list PySem.F.slot_list_remove PySem.F.type_list_remove (mt_rem (hu65 hr)) (pv 4) (pa_cons (pv 6) pa_nil)))) (pss_one (ps_expr (pe_bm PySem.F.plainAttrs_list PySem.F.slot_list_append PySem.F.type_list_append mt_append (pv 4) (pa_cons (pv 6) pa_nil))))))) pss_nil))) (pss_one (ps_ret (pe_callTy c_tuple (by rfl) T.n_tuple boot_tuple (pa_cons (pe_callB (cr_sortedB (hu65 hr)) (by rfl) T.n_sorted boot_sorted (pa_cons (pv 4) pa_nil)) pa_nil))))))))⟩

abbrev s_law_bars : Stmt := topS 35
abbrev N_law_bars : List Str := ["many", "lot", "found", "one", "other", "amid_so", "third", "fourth", "house"]
theorem sc_law_bars : FnScope N_law_bars ["many", "lot"] (defScope s_law_bars) := ⟨rfl, rfl, rfl, by decide +kernel, rfl, by decide +kernel, by decide +kernel⟩
def bd_law_bars : Ev → Option Out := (sSeq (sSet 2 (xLc (iR1 (aCons (eOp pSub (eVar 0) (eC (.int 1))) aNil)) (gN 3) (bB (eOp (pIn true) (eTup (aCons (eVar 3) (aCons (eX (xOps pAdd (eVar 3) (eC (.int 1)))) aNil))) (eVar 1))) (eTup (aCons (eC (.str "apart")) (aCons (eVar 3) (aCons (eX (xOps pAdd (eVar 3) (eC (.int 1)))) aNil)))) [3])) (sSeq (sFor (iAny (eVar 1)) (gT 2 (gsCons (gN 3) (gsCons (gN 4) gsNil))) (sFor (iAny (eVar 1)) (gT 2 (gsCons (gN 6) (gsCons (gN 7) gsNil))) (sIf (bAnd (bB (eOp pGt (eVar 6) (eVar 3))) (bAnd (bB (eOp pLt (eVar 6) (eVar 4))) (bB (eOp pGt (eVar 7) (eVar 4))))) (sApp 2 (eTup (aCons (eC (.str "cross")) (aCons (eVar 3) (aCons (eVar 4) (aCons (eVar 6) (aCons (eVar 7) aNil))))))) sNil))) (sSeq (sFor (iAny (eVar 1)) (gT 2 (gsCons (gN 3) (gsCons (gN 4) gsNil))) (sSeq (sSet 5 (xLc (iR2 (aCons (eX (xOps pAdd (eVar 3) (eC (.int 1)))) (aCons (eVar 4) aNil))) (gN 8) (bB (eOp (pIn false) (eTup (aCons (eVar 3) (aCons (eVar 8) aNil))) (eVar 1))) (eVar 8) [8])) (sIf (bAnd (bB (eOp pGt (eOp pSub (eVar 4) (eVar 3)) (eC (.int 1)))) (bB (eOp pEq (eX (xLc (iAny (eVar 5)) (gN 8) (bB (eOp (pIn false) (eTup (aCons (eVar 8) (aCons (eVar 4) aNil))) (eVar 1))) (eVar 8) [8])) (eX (xLst aNil))))) (sApp 2 (eTup (aCons (eC (.str "alone")) (aCons (eVar 3) (aCons (eVar 4) aNil))))) sNil))) (sRetX (xVar 2)))))
def fn_law_bars : List PyData → Option Sl := fnS 2 7 bd_law_bars
theorem ok_law_bars (T : Top K mg) : OkAt P w K mg base 1 "_law_bars" s_law_bars ["many", "lot"] (spS K fn_law_bars) := by
  obtain ⟨f, fd, F, b, g⟩ := T.d_law_bars
  have hs : SS K [] _ bd_law_bars := (ss_seq (ss_set (sx_lc (by decide) (si_rng1 (sa_cons (se_op sr_sub se_var se_int) sa_nil)) sg_name (lcl_name (by decide)) mn_name (st_t (se_op sr_notIn (se_tup (sa_cons se_var (sa_cons (se_x (sx_ops sr_add se_var se_int)) sa_nil))) se_var)) (se_tup (sa_cons se_str (sa_cons se_var (sa_cons (se_x (sx_ops sr_add se_var se_int)) sa_nil)))))) (ss_seq (ss_for (si_any se_var) (sg_tup (sgs_cons sg_name (sgs_cons sg_name sgs_nil))) (ss_for (si_any se_var) (sg_tup (sgs_cons sg_name (sgs_cons sg_name sgs_nil))) (ss_if (st_and (st_t (se_op sr_gt se_var se_var)) (st_and (st_t (se_op sr_lt se_var se_var)) (st_t (se_op sr_gt se_var se_var)))) (ss_app (se_tup (sa_cons se_str (sa_cons se_var (sa_cons se_var (sa_cons se_var (sa_cons se_var sa_nil))))))) ss_nil))) (ss_seq (ss_for (si_any se_var) (sg_tup (sgs_cons sg_name (sgs_cons sg_name sgs_nil))) (ss_seq (ss_set (sx_lc (by decide) (si_rng2 (sa_cons (se_x (sx_ops sr_add se_var se_int)) (sa_cons se_var sa_nil))) sg_name (lcl_name (by decide)) mn_name (st_t (se_op sr_in (se_tup (sa_cons se_var (sa_cons se_var sa_nil))) se_var)) se_var)) (ss_if (st_and (st_t (se_op sr_gt (se_op sr_sub se_var se_var) se_int)) (st_t (se_op sr_eq (se_x (sx_lc (by decide) (si_any se_var) sg_name (lcl_name (by decide)) mn_name (st_t (se_op sr_in (se_tup (sa_cons se_var (sa_cons se_var sa_nil))) se_var)) se_var)) (se_x (sx_lst sa_nil))))) (ss_app (se_tup (sa_cons se_str (sa_cons se_var (sa_cons se_var sa_nil))))) ss_nil))) (ss_retX sx_var))))
  exact ⟨f, fd, F, b, g, okS hs F sc_law_bars rfl rfl (fun cdv A outer s H E hr => (pss_cons (ps_setLc (i := 2) (own := [("one", 3)]) rfl sc_law_bars.nd rfl rfl (sw_true rfl rfl rfl (by decide +kernel)) (pi_range1 (by rfl) T.n_range (pa_cons (pe_op op_sub (pv 0) pe_int) pa_nil)) (blkOk_by (N := N_law_bars) (sc := defScope s_law_bars) (by decide +kernel)) (fun _ _ _ _ _ => (pg_name (i := 3) sc_law_bars.nd rfl (by first | exact Or.inl rfl | exact Or.inr rfl))) (fun _ _ _ _ _ => (pts_one (pt_cmpR (op_notInA (hu65 hr)) (pe_tup (pa_cons (pv 3) (pa_cons (pe_op op_addA (pv 3) pe_int) pa_nil))) (pv 1) (by rfl)))) (fun _ _ _ _ _ => (pe_tup (pa_cons pe_str (pa_cons (pv 3) (pa_cons (pe_op op_addA (pv 3) pe_int) pa_nil)))))) (pss_cons (ps_for PassesOwn.never rfl (pi_any (pv 1)) (pg_tup rfl (pgs_cons (pg_name (i := 3) sc_law_bars.nd rfl (by first | exact Or.inl rfl | exact Or.inr rfl)) (pgs_cons (pg_name (i := 4) sc_law_bars.nd rfl (by first | exact Or.inl rfl | exact Or.inr rfl)) pgs_nil))) (pss_one (ps_for PassesOwn.never rfl (pi_any (pv 1)) (pg_tup rfl (pgs_cons (pg_name (i := 6) sc_law_bars.nd rfl (by first | exact Or.inl rfl | exact Or.inr rfl)) (pgs_cons (pg_name (i := 7) sc_law_bars.nd rfl (by first | exact Or.inl rfl | exact Or.inr rfl)) pgs_nil))) (pss_one (ps_if (PW.pt (pw_and (pt_cmpR op_gt (pv 6) (pv 3) (nomark _)) (pw_and (pt_cmpR (op_ltA hr.units0) (pv 6) (pv 4) (nomark _)) (pw_and1 (pt_cmpR op_gt (pv 7) (pv 4) (nomark _)))))) (pss_one (ps_expr (pe_bm PySem.F.plainAttrs_list PySem.F.slot_list_append PySem.F.type_list_append mt_append (pv 2) (pa_cons (pe_tup (pa_cons pe_str (pa_cons (pv 3) (pa_cons (pv 4) (pa_cons (pv 6) (pa_cons (pv 7) pa_nil)))))) pa_nil)))) pss_nil))))) (pss_cons (ps_for PassesOwn.never rfl (pi_any (pv 1)) (pg_tup rfl (pgs_cons (pg_name (i := 3) sc_law_bars.nd rfl (by first | exact Or.inl rfl | exact Or.inr rfl)) (pgs_cons (pg_name (i := 4) sc_law_bars.nd rfl (by first | exact Or.inl rfl | exact Or.inr rfl)) pgs_nil))) (pss_cons (ps_setLc (i := 5) (own := [("house", 8)]) rfl sc_law_bars.nd rfl rfl (sw_true rfl rfl rfl (by decide +kernel)) (pi_range2 (by rfl) T.n_range (pa_cons (pe_op op_addA (pv 3) pe_int) (pa_cons (pv 4) pa_nil))) (blkOk_by (N := N_law_bars) (sc := defScope s_law_bars) (by decide +kernel)) (fun _ _ _ _ _ => (pg_name (i := 8) sc_law_bars.nd rfl (by first | exact Or.inl rfl | exact Or.inr rfl))) (fun _ _ _ _ _ => (pts_one (pt_cmpR (op_inA (hu65 hr)) (pe_tup (pa_cons (pv 3) (pa_cons (pv 8) pa_nil))) (pv 1) (by rfl)))) (fun _ _ _ _ _ => (pv 8))) (pss_one (ps_if (PW.pt (pw_and (pt_cmpR op_gt (pe_op op_sub (pv 4) (pv 3)) pe_int (nomark _)) (pw_and1 (pt_cmpR (op_eqD hr.units) (pe_lc (own := [("house", 8)]) rfl sc_law_bars.nd (pi_any (pv 5)) (blkOk_by (N := N_law_bars) (sc := defScope s_law_bars) (by decide +kernel)) (fun _ _ _ _ _ => (pg_name (i := 8) sc_law_bars.nd rfl (by first | exact Or.inl rfl | exact Or.inr rfl))) (fun _ _ _ _ _ => (pts_one (pt_cmpR (op_inA (hu65 hr)) (pe_tup (pa_cons (pv 8) (pa_cons (pv 4) pa_nil))) (pv 1) (by rfl)))) (fun _ _ _ _ _ => (pv 8))) (pe_lst pa_nil) (nomark _))))) (pss_one (ps_expr (pe_bm PySem.F.plainAttrs_list PySem.F.slot_list_append PySem.F.type_list_append mt_append (pv 2) (pa_cons (pe_tup (pa_cons pe_str (pa_cons (pv 3) (pa_cons (pv 4) pa_nil)))) pa_nil)))) pss_nil)))) (pss_one (ps_ret (pv 2)))))))⟩

abbrev s_law_sort : Stmt := topS 27
abbrev N_law_sort : List Str := ["thing"]
theorem sc_law_sort : FnScope N_law_sort ["thing"] (defScope s_law_sort) := ⟨rfl, rfl, rfl, by decide +kernel, rfl, by decide +kernel, by decide +kernel⟩
def bd_law_sort : Ev → Option Out := (sSeq (sIf (bTru (eUn (pIsi .bool) (eVar 0))) (sRetX (xE (eC (.int 1)))) sNil) (sSeq (sIf (bTru (eUn (pIsi .int) (eVar 0))) (sRetX (xE (eC (.int 2)))) sNil) (sSeq (sIf (bTru (eUn (pIsi .str) (eVar 0))) (sRetX (xE (eC (.int 3)))) sNil) (sSeq (sIf (bTru (eUn (pIsi .list) (eVar 0))) (sRetX (xE (eC (.int 4)))) sNil) (sRetX (xE (eIf (bTru (eUn (pIsi .tuple) (eVar 0))) (eC (.int 5)) (eC (.int 6)))))))))
def fn_law_sort : List PyData → Option Sl := fnS 1 0 bd_law_sort
theorem ok_law_sort (T : Top K mg) : OkAt P w K mg base 1 "_law_sort" s_law_sort ["thing"] (spS K fn_law_sort) := by
  obtain ⟨f, fd, F, b, g⟩ := T.d_law_sort
  have hs : SS K [] _ bd_law_sort := (ss_seq (ss_if (st_tru (se_isi .bool se_var)) (ss_retX (sx_e se_int)) ss_nil) (ss_seq (ss_if (st_tru (se_isi .int se_var)) (ss_retX (sx_e se_int)) ss_nil) (ss_seq (ss_if (st_tru (se_isi .str se_var)) (ss_retX (sx_e se_int)) ss_nil) (ss_seq (ss_if (st_tru (se_isi .list se_var)) (ss_retX (sx_e se_int)) ss_nil) (ss_retX (sx_e (se_if (st_tru (se_isi .tuple se_var)) se_int se_int)))))))
  exact ⟨f, fd, F, b, g, okS hs F sc_law_sort rfl rfl (fun cdv A outer s H E hr => (pss_cons (ps_if (pt_tru (pe_callB call_isi (by rfl) T.n_isinstance boot_isinstance (pa_cons (pv 0) (pa_cons (pe_bltn (v := .ty "bool") (by rfl) T.n_bool boot_bool rfl) pa_nil)))) (pss_one (ps_ret pe_int)) pss_nil) (pss_cons (ps_if (pt_tru (pe_callB call_isi (by rfl) T.n_isinstance boot_isinstance (pa_cons (pv 0) (pa_cons (pe_bltn (v := .ty "int") (by rfl) T.n_int boot_int rfl) pa_nil)))) (pss_one (ps_ret pe_int)) pss_nil) (pss_cons (ps_if (pt_tru (pe_callB call_isi (by rfl) T.n_isinstance boot_isinstance (pa_cons (pv 0) (pa_cons (pe_bltn (v := .ty "str") (by rfl) T.n_str boot_str rfl) pa_nil)))) (pss_one (ps_ret pe_int)) pss_nil) (pss_cons (ps_if (pt_tru (pe_callB call_isi (by rfl) T.n_isinstance boot_isinstance (pa_cons (pv 0) (pa_cons (pe_bltn (v := .ty "list") (by rfl) T.n_list boot_list rfl) pa_nil)))) (pss_one (ps_ret pe_int)) pss_nil) (pss_one (ps_ret (pe_ifExp (pt_tru (pe_callB call_isi (by rfl) T.n_isinstance boot_isinstance (pa_cons (pv 0) (pa_cons (pe_bltn (v := .ty "tuple") (by rfl) T.n_tuple boot_tuple rfl) pa_nil)))) pe_int pe_int))))))))⟩

abbrev s_law_same : Stmt := topS 28
abbrev N_law_same : List Str := ["told", "due", "k", "part"]
theorem sc_law_same : FnScope N_law_same ["told", "due"] (defScope s_law_same) := ⟨rfl, rfl, rfl, by decide +kernel, rfl, by decide +kernel, by decide +kernel⟩
def bd_law_same (R : List PyData → Option Sl) : Ev → Option Out := (sSeq (sIf (bB (eOp pNe (eX (xFn fn_law_sort (aCons (eVar 0) aNil))) (eX (xFn fn_law_sort (aCons (eVar 1) aNil))))) (sRetX (xE (eC (.bool false)))) sNil) (sSeq (sIf (bAnd (bB (eOp pGt (eX (xFn fn_law_sort (aCons (eVar 0) aNil))) (eC (.int 3)))) (bB (eOp pLt (eX (xFn fn_law_sort (aCons (eVar 0) aNil))) (eC (.int 6))))) (sSeq (sIf (bB (eOp pNe (eCall pLen (aCons (eVar 0) aNil)) (eCall pLen (aCons (eVar 1) aNil)))) (sRetX (xE (eC (.bool false)))) sNil) (sRetX (xE (eOp pEq (eX (xLc (iEn (eVar 0)) (gT 2 (gsCons (gN 2) (gsCons (gN 3) gsNil))) (bNot (bTru (eX (xFn R (aCons (eVar 3) (aCons (eIxV 1 (eVar 2)) aNil)))))) (eVar 2) [2, 3])) (eX (xLst aNil)))))) sNil) (sRetX (xE (eOp pEq (eVar 0) (eVar 1))))))
def fn_law_same : Nat → List PyData → Option Sl
  | 0 => fun _ => none
  | k + 1 => fnS 2 2 (bd_law_same (fn_law_same k))
theorem ok_law_same (T : Top K mg) : ∀ k, OkAt P w K mg base (2 + k) "_law_same" s_law_same ["told", "due"] (spS K (fn_law_same k))
  | 0 => by
    obtain ⟨f, fd, F, b, g⟩ := T.d_law_same
    exact ⟨f, fd, F, b, g, ok0 F sc_law_same⟩
  | k + 1 => by
    obtain ⟨f, fd, F, b, g⟩ := T.d_law_same
    obtain ⟨f_law_same, fd_law_same, F_law_same, b_law_same, g_law_same, G_law_same⟩ := ok_law_same T k
    obtain ⟨f_law_sort, fd_law_sort, F_law_sort, b_law_sort, g_law_sort, G_law_sort⟩ := ok_law_sort (P := P) (w := w) (base := base) T
    have hs : SS K [] _ (bd_law_same (fn_law_same k)) := (ss_seq (ss_if (st_t (se_op sr_ne (se_x (sx_fn (sa_cons se_var sa_nil))) (se_x (sx_fn (sa_cons se_var sa_nil))))) (ss_retX (sx_e se_bl)) ss_nil) (ss_seq (ss_if (st_and (st_t (se_op sr_gt (se_x (sx_fn (sa_cons se_var sa_nil))) se_int)) (st_t (se_op sr_lt (se_x (sx_fn (sa_cons se_var sa_nil))) se_int))) (ss_seq (ss_if (st_t (se_op sr_ne (se_callB sr_len (sa_cons se_var sa_nil)) (se_callB sr_len (sa_cons se_var sa_nil)))) (ss_retX (sx_e se_bl)) ss_nil) (ss_retX (sx_e (se_op sr_eq (se_x (sx_lc (by decide) (si_enum se_var) (sg_tup (sgs_cons sg_name (sgs_cons sg_name sgs_nil))) (lcl_tup (lcls_cons mn_name (mns_cons mn_name mns_nil) (lcl_name (by decide)) (lcls_cons mn_name mns_nil (lcl_name (by decide)) lcls_nil))) (mn_tup (mns_cons mn_name (mns_cons mn_name mns_nil))) (st_not (st_tru (se_x (sx_fn (sa_cons se_var (sa_cons (se_ixv se_var) sa_nil)))))) se_var)) (se_x (sx_lst sa_nil)))))) ss_nil) (ss_retX (sx_e (se_op sr_eq se_var se_var)))))
    exact ⟨f, fd, F, b, g, okS hs F sc_law_same rfl rfl (fun cdv A outer s H E hr => (pss_cons (ps_if (pt_cmpR (op_neD hr.units) (pe_call G_law_sort (hr.mono (show 1 ≤ 2 + k by omega)) (by rfl) g_law_sort F_law_sort.kp b_law_sort .nil pass0 (pa_cons (pv 0) pa_nil)) (pe_call G_law_sort (hr.mono (show 1 ≤ 2 + k by omega)) (by rfl) g_law_sort F_law_sort.kp b_law_sort .nil pass0 (pa_cons (pv 1) pa_nil)) (nomark _)) (pss_one (ps_ret pe_bl)) pss_nil) (pss_cons (ps_if (PW.pt (pw_and (pt_cmpR op_gt (pe_call G_law_sort (hr.mono (show 1 ≤ 2 + k by omega)) (by rfl) g_law_sort F_law_sort.kp b_law_sort .nil pass0 (pa_cons (pv 0) pa_nil)) pe_int (nomark _)) (pw_and1 (pt_cmpR (op_ltA hr.units0) (pe_call G_law_sort (hr.mono (show 1 ≤ 2 + k by omega)) (by rfl) g_law_sort F_law_sort.kp b_law_sort .nil pass0 (pa_cons (pv 0) pa_nil)) pe_int (nomark _))))) (pss_cons (ps_if (pt_cmpR (op_neD hr.units) (pe_callB c_len (by rfl) T.n_len PySem.boot_len (pa_cons (pv 0) pa_nil)) (pe_callB c_len (by rfl) T.n_len PySem.boot_len (pa_cons (pv 1) pa_nil)) (nomark _)) (pss_one (ps_ret pe_bl)) pss_nil) (pss_one (ps_ret (pe_cmpR (op_eqD hr.units) (pe_lc (own := [("k", 2), ("part", 3)]) rfl sc_law_same.nd (pi_enumA (by rfl) T.n_enumerate (pa_cons (pv 0) pa_nil)) (blkOk_by (N := N_law_same) (sc := defScope s_law_same) (by decide +kernel)) (fun _ _ _ _ _ => (pg_tup rfl (pgs_cons (pg_name (i := 2) sc_law_same.nd rfl (by first | exact Or.inl rfl | exact Or.inr rfl)) (pgs_cons (pg_name (i := 3) sc_law_same.nd rfl (by first | exact Or.inl rfl | exact Or.inr rfl)) pgs_nil)))) (fun _ _ _ _ _ => (pts_one (pt_not (pt_tru (pe_call G_law_same hr (by rfl) g_law_same F_law_same.kp b_law_same .nil pass0 (pa_cons (pv 3) (pa_cons (pe_ix ix_seq (pv 1) (pv 2) (fun _ _ => rfl)) pa_nil))))))) (fun _ _ _ _ _ => (pv 2))) (pe_lst pa_nil) (nomark _))))) pss_nil) (pss_one (ps_ret (pe_cmpR (op_eqD hr.units) (pv 0) (pv 1) (nomark _)))))))⟩

abbrev s_law_odd : Stmt := topS 29
abbrev N_law_odd : List Str := ["deck", "some"]
theorem sc_law_odd : FnScope N_law_odd ["deck"] (defScope s_law_odd) := ⟨rfl, rfl, rfl, by decide +kernel, rfl, by decide +kernel, by decide +kernel⟩
def bd_law_odd : Ev → Option Out := (sSeq (sSet 1 (xLst (aCons (eC .none) (aCons (eC (.bool true)) (aCons (eC (.str "")) (aCons (eC (.str "a")) (aCons (eTup aNil) (aCons (eX (xLst aNil)) (aCons (eTup (aCons (eTup aNil) aNil)) (aCons (eC (.int 7)) (aCons (eUn pNeg (eC (.int 1))) (aCons (eOp pPow (eC (.int 10)) (eC (.int 30))) (aCons (eTup (aCons (eC (.int 1)) (aCons (eC (.int 2)) aNil))) (aCons (eTup (aCons (eTup (aCons (eC (.int 0)) (aCons (eC (.int 1)) aNil))) aNil)) (aCons (eTup (aCons (eTup (aCons (eC (.int 0)) (aCons (eC (.int 1)) aNil))) (aCons (eTup (aCons (eC (.int 1)) (aCons (eC (.int 2)) aNil))) aNil))) (aCons (eTup (aCons (eC (.str "apart")) (aCons (eC (.int 0)) (aCons (eC (.int 1)) aNil)))) aNil)))))))))))))))) (sRetX (xFnB 0 fn_law_one (aCons (eVar 1) aNil))))
def fn_law_odd : List PyData → List PyData → Option (Sl × List PyData) := fnB 0 1 bd_law_odd
theorem ok_law_odd (T : Top K mg) : OkAt P w K mg base 3 "_law_odd" s_law_odd ["deck"] (spB K fn_law_odd) := by
  obtain ⟨f, fd, F, b, g⟩ := T.d_law_odd
  obtain ⟨f_law_one, fd_law_one, F_law_one, b_law_one, g_law_one, G_law_one⟩ := ok_law_one (P := P) (w := w) (base := base) T
  have hs : SS K [] _ bd_law_odd := (ss_seq (ss_set (sx_lst (sa_cons se_non (sa_cons se_bl (sa_cons se_str (sa_cons se_str (sa_cons (se_tup sa_nil) (sa_cons (se_x (sx_lst sa_nil)) (sa_cons (se_tup (sa_cons (se_tup sa_nil) sa_nil)) (sa_cons se_int (sa_cons (se_un sr_neg se_int) (sa_cons (se_op sr_pow se_int se_int) (sa_cons (se_tup (sa_cons se_int (sa_cons se_int sa_nil))) (sa_cons (se_tup (sa_cons (se_tup (sa_cons se_int (sa_cons se_int sa_nil))) sa_nil)) (sa_cons (se_tup (sa_cons (se_tup (sa_cons se_int (sa_cons se_int sa_nil))) (sa_cons (se_tup (sa_cons se_int (sa_cons se_int sa_nil))) sa_nil))) (sa_cons (se_tup (sa_cons se_str (sa_cons se_int (sa_cons se_int sa_nil)))) sa_nil)))))))))))))))) (ss_retX (sx_fnB (sa_cons se_var sa_nil))))
  exact ⟨f, fd, F, b, g, okB hs F sc_law_odd rfl rfl (fun cdv A outer s H E hr => (pss_cons (ps_set (i := 1) sc_law_odd.nd rfl (by first | exact Or.inl rfl | exact Or.inr rfl) (pe_lst (pa_cons pe_non (pa_cons pe_bl (pa_cons pe_str (pa_cons pe_str (pa_cons (pe_tup pa_nil) (pa_cons (pe_lst pa_nil) (pa_cons (pe_tup (pa_cons (pe_tup pa_nil) pa_nil)) (pa_cons pe_int (pa_cons (pe_un un_neg pe_int) (pa_cons (pe_op op_pow pe_int pe_int) (pa_cons (pe_tup (pa_cons pe_int (pa_cons pe_int pa_nil))) (pa_cons (pe_tup (pa_cons (pe_tup (pa_cons pe_int (pa_cons pe_int pa_nil))) pa_nil)) (pa_cons (pe_tup (pa_cons (pe_tup (pa_cons pe_int (pa_cons pe_int pa_nil))) (pa_cons (pe_tup (pa_cons pe_int (pa_cons pe_int pa_nil))) pa_nil))) (pa_cons (pe_tup (pa_cons pe_str (pa_cons pe_int (pa_cons pe_int pa_nil)))) pa_nil)))))))))))))))) (pss_one (ps_ret (pe_call G_law_one (hr.mono (by decide)) (by rfl) g_law_one F_law_one.kp b_law_one .nil pass0 (pa_cons (pv 0) (pa_cons (pv 1) pa_nil)))))))⟩

abbrev s_law_spoilt : Stmt := topS 30
abbrev N_law_spoilt : List Str := ["deck", "thing", "rows", "at", "other"]
theorem sc_law_spoilt : FnScope N_law_spoilt ["deck", "thing"] (defScope s_law_spoilt) := ⟨rfl, rfl, rfl, by decide +kernel, rfl, by decide +kernel, by decide +kernel⟩
def bd_law_spoilt (R : List PyData → List PyData → Option (Sl × List PyData)) : Ev → Option Out := (sSeq (sIf (bAnd (bTru (eUn pIsiS (eVar 1))) (bAnd (bB (eOp pGt (eCall pLen (aCons (eVar 1) aNil)) (eC (.int 0)))) (bB (eOp pGt (eX (xFnB 0 fn_law_pick (aCons (eC (.int 5)) aNil))) (eC (.int 0)))))) (sSeq (sSet 2 (xCall pList (aCons (eVar 1) aNil))) (sSeq (sSet 3 (xFnB 0 fn_law_pick (aCons (eScal (eCall pLen (aCons (eVar 2) aNil))) aNil))) (sSeq (sSetI 2 (eX (xFnB 0 R (aCons (eIxV 2 (eVar 3)) aNil))) (eVar 3)) (sRetX (xE (eIf (bTru (eUn (pIsi .tuple) (eVar 1))) (eCall pTuple (aCons (eVar 2) aNil)) (eVar 2))))))) sNil) (sSeq (sIf (bTru (eUn pIsiS (eVar 1))) (sSeq (sSet 4 (xE (eIf (bTru (eUn (pIsi .tuple) (eVar 1))) (eX (xCall pList (aCons (eVar 1) aNil))) (eCall pTuple (aCons (eVar 1) aNil))))) (sRetX (xE (eOp pIx (eX (xLst (aCons (eVar 4) (aCons (eX (xOps pAdd (eVar 1) (eX (xSl (eVar 1) oNo (oSome (eC (.int 1))))))) (aCons (eX (xSl (eVar 1) (oSome (eC (.int 1))) oNo)) (aCons (eX (xRev (eVar 1))) (aCons (eC .none) aNil))))))) (eX (xFnB 0 fn_law_pick (aCons (eC (.int 5)) aNil))))))) sNil) (sSeq (sIf (bTru (eUn (pIsi .int) (eVar 1))) (sRetX (xE (eOp pIx (eX (xLst (aCons (eX (xOps pAdd (eVar 1) (eC (.int 1)))) (aCons (eOp pSub (eVar 1) (eC (.int 1))) (aCons (eC (.bool true)) (aCons (eC .none) (aCons (eC (.int 0)) (aCons (eOp pPow (eC (.int 10)) (eC (.int 9))) (aCons (eCall pStrI (aCons (eVar 1) aNil)) aNil))))))))) (eX (xFnB 0 fn_law_pick (aCons (eC (.int 7)) aNil)))))) sNil) (sRetX (xE (eOp pIx (eX (xLst (aCons (eC .none) (aCons (eC (.int 7)) (aCons (eC (.str "n")) (aCons (eC (.str "")) (aCons (eC (.str "apart")) (aCons (eC (.str "cross")) (aCons (eC (.str "alone")) (aCons (eC (.str "row")) aNil)))))))))) (eX (xFnB 0 fn_law_pick (aCons (eC (.int 8)) aNil)))))))))
def fn_law_spoilt : Nat → List PyData → List PyData → Option (Sl × List PyData)
  | 0 => fun _ _ => none
  | k + 1 => fnB 1 3 (bd_law_spoilt (fn_law_spoilt k))
theorem ok_law_spoilt (T : Top K mg) : ∀ k, OkAt P w K mg base (2 + k) "_law_spoilt" s_law_spoilt ["deck", "thing"] (spB K (fn_law_spoilt k))
  | 0 => by
    obtain ⟨f, fd, F, b, g⟩ := T.d_law_spoilt
    exact ⟨f, fd, F, b, g, ok0B F sc_law_spoilt⟩
  | k + 1 => by
    obtain ⟨f, fd, F, b, g⟩ := T.d_law_spoilt
    obtain ⟨f_law_spoilt, fd_law_spoilt, F_law_spoilt, b_law_spoilt, g_law_spoilt, G_law_spoilt⟩ := ok_law_spoilt T k
    obtain ⟨f_law_pick, fd_law_pick, F_law_pick, b_law_pick, g_law_pick, G_law_pick⟩ := ok_law_pick (P := P) (w := w) (base := base) T
    have hs : SS K [] _ (bd_law_spoilt (fn_law_spoilt k)) := (ss_seq (ss_if (st_and (st_tru (se_isiS se_var)) (st_and (st_t (se_op sr_gt (se_callB sr_len (sa_cons se_var sa_nil)) se_int)) (st_t (se_op sr_gt (se_x (sx_fnB (sa_cons se_int sa_nil))) se_int)))) (ss_seq (ss_set (sx_callB sr_list (sa_cons se_var sa_nil))) (ss_seq (ss_set (sx_fnB (sa_cons (se_scal (se_callB sr_len (sa_cons se_var sa_nil))) sa_nil))) (ss_seq (ss_setI (se_x (sx_fnB (sa_cons (se_ixv se_var) sa_nil))) se_var) (ss_retX (sx_e (se_if (st_tru (se_isi .tuple se_var)) (se_callB sr_tuple (sa_cons se_var sa_nil)) se_var)))))) ss_nil) (ss_seq (ss_if (st_tru (se_isiS se_var)) (ss_seq (ss_set (sx_e (se_if (st_tru (se_isi .tuple se_var)) (se_x (sx_callB sr_list (sa_cons se_var sa_nil))) (se_callB sr_tuple (sa_cons se_var sa_nil))))) (ss_retX (sx_e (se_op sr_ix (se_x (sx_lst (sa_cons se_var (sa_cons (se_x (sx_ops sr_add se_var (se_x (sx_slice se_var so_no (so_some se_int))))) (sa_cons (se_x (sx_slice se_var (so_some se_int) so_no)) (sa_cons (se_x (sx_rev se_var)) (sa_cons se_non sa_nil))))))) (se_x (sx_fnB (sa_cons se_int sa_nil))))))) ss_nil) (ss_seq (ss_if (st_tru (se_isi .int se_var)) (ss_retX (sx_e (se_op sr_ix (se_x (sx_lst (sa_cons (se_x (sx_ops sr_add se_var se_int)) (sa_cons (se_op sr_sub se_var se_int) (sa_cons se_bl (sa_cons se_non (sa_cons se_int (sa_cons (se_op sr_pow se_int se_int) (sa_cons (se_callB sr_strI (sa_cons se_var sa_nil)) sa_nil))))))))) (se_x (sx_fnB (sa_cons se_int sa_nil)))))) ss_nil) (ss_retX (sx_e (se_op sr_ix (se_x (sx_lst (sa_cons se_non (sa_cons se_int (sa_cons se_str (sa_cons se_str (sa_cons se_str (sa_cons se_str (sa_cons se_str (sa_cons se_str sa_nil)))))))))) (se_x (sx_fnB (sa_cons se_int sa_nil)))))))))
    exact ⟨f, fd, F, b, g, okB hs F sc_law_spoilt rfl rfl (fun cdv A outer s H E hr => (pss_cons (ps_if (PW.pt (pw_and (pt_tru (pe_callB call_isiT (by rfl) T.n_isinstance boot_isinstance (pa_cons (pv 1) (pa_cons (pe_tup (pa_cons (pe_bltn (v := .ty "tuple") (by rfl) T.n_tuple boot_tuple rfl) (pa_cons (pe_bltn (v := .ty "list") (by rfl) T.n_list boot_list rfl) pa_nil))) pa_nil)))) (pw_and (pt_cmpR op_gt (pe_callB c_len (by rfl) T.n_len PySem.boot_len (pa_cons (pv 1) pa_nil)) pe_int (nomark _)) (pw_and1 (pt_cmpR op_gt (pe_call G_law_pick (hr.mono (show 1 ≤ 2 + k by omega)) (by rfl) g_law_pick F_law_pick.kp b_law_pick .nil pass0 (pa_cons (pv 0) (pa_cons pe_int pa_nil))) pe_int (nomark _)))))) (pss_cons (ps_set (i := 2) sc_law_spoilt.nd rfl (by first | exact Or.inl rfl | exact Or.inr rfl) (pe_callTy c_list (by rfl) T.n_list boot_list (pa_cons (pv 1) pa_nil))) (pss_cons (ps_set (i := 3) sc_law_spoilt.nd rfl (by first | exact Or.inl rfl | exact Or.inr rfl) (pe_call G_law_pick (hr.mono (show 1 ≤ 2 + k by omega)) (by rfl) g_law_pick F_law_pick.kp b_law_pick .nil pass0 (pa_cons (pv 0) (pa_cons (pe_callB c_len (by rfl) T.n_len PySem.boot_len (pa_cons (pv 2) pa_nil)) pa_nil)))) (pss_cons (ps_asg (pe_call G_law_spoilt hr (by rfl) g_law_spoilt F_law_spoilt.kp b_law_spoilt .nil pass0 (pa_cons (pv 0) (pa_cons (pe_ix ix_seq (pv 2) (pv 3) (fun _ _ => rfl)) pa_nil))) (pg_sub (pv 2) (pv 3) set_list)) (pss_one (ps_ret (pe_ifExp (pt_tru (pe_callB call_isi (by rfl) T.n_isinstance boot_isinstance (pa_cons (pv 1) (pa_cons (pe_bltn (v := .ty "tuple") (by rfl) T.n_tuple boot_tuple rfl) pa_nil)))) (pe_callTy c_tuple (by rfl) T.n_tuple boot_tuple (pa_cons (pv 2) pa_nil)) (pv 2))))))) pss_nil) (pss_cons (ps_if (pt_tru (pe_callB call_isiT (by rfl) T.n_isinstance boot_isinstance (pa_cons (pv 1) (pa_cons (pe_tup (pa_cons (pe_bltn (v := .ty "tuple") (by rfl) T.n_tuple boot_tuple rfl) (pa_cons (pe_bltn (v := .ty "list") (by rfl) T.n_list boot_list rfl) pa_nil))) pa_nil)))) (pss_cons (ps_set (i := 4) sc_law_spoilt.nd rfl (by first | exact Or.inl rfl | exact Or.inr rfl) (pe_ifExp (pt_tru (pe_callB call_isi (by rfl) T.n_isinstance boot_isinstance (pa_cons (pv 1) (pa_cons (pe_bltn (v := .ty "tuple") (by rfl) T.n_tuple boot_tuple rfl) pa_nil)))) (pe_callTy c_list (by rfl) T.n_list boot_list (pa_cons (pv 1) pa_nil)) (pe_callTy c_tuple (by rfl) T.n_tuple boot_tuple (pa_cons (pv 1) pa_nil)))) (pss_one (ps_ret (pe_ix ix_seq (pe_lst (pa_cons (pv 4) (pa_cons (pe_op op_addA (pv 1) (pe_slice sl_X (pv 1) po_none (po_some pe_int))) (pa_cons (pe_slice sl_X (pv 1) (po_some pe_int) po_none) (pa_cons (pe_revS (pv 1)) (pa_cons pe_non pa_nil)))))) (pe_call G_law_pick (hr.mono (show 1 ≤ 2 + k by omega)) (by rfl) g_law_pick F_law_pick.kp b_law_pick .nil pass0 (pa_cons (pv 0) (pa_cons pe_int pa_nil))) (fun _ _ => rfl))))) pss_nil) (pss_cons (ps_if (pt_tru (pe_callB call_isi (by rfl) T.n_isinstance boot_isinstance (pa_cons (pv 1) (pa_cons (pe_bltn (v := .ty "int") (by rfl) T.n_int boot_int rfl) pa_nil)))) (pss_one (ps_ret (pe_ix ix_seq (pe_lst (pa_cons (pe_op op_addA (pv 1) pe_int) (pa_cons (pe_op op_sub (pv 1) pe_int) (pa_cons pe_bl (pa_cons pe_non (pa_cons pe_int (pa_cons (pe_op op_pow pe_int pe_int) (pa_cons (pe_callTy call_strI (by rfl) T.n_str boot_str (pa_cons (pv 1) pa_nil)) pa_nil)))))))) (pe_call G_law_pick (hr.mono (show 1 ≤ 2 + k by omega)) (by rfl) g_law_pick F_law_pick.kp b_law_pick .nil pass0 (pa_cons (pv 0) (pa_cons pe_int pa_nil))) (fun _ _ => rfl)))) pss_nil) (pss_one (ps_ret (pe_ix ix_seq (pe_lst (pa_cons pe_non (pa_cons pe_int (pa_cons pe_str (pa_cons pe_str (pa_cons pe_str (pa_cons pe_str (pa_cons pe_str (pa_cons pe_str pa_nil))))))))) (pe_call G_law_pick (hr.mono (show 1 ≤ 2 + k by omega)) (by rfl) g_law_pick F_law_pick.kp b_law_pick .nil pass0 (pa_cons (pv 0) (pa_cons pe_int pa_nil))) (fun _ _ => rfl))))))))⟩

abbrev s_bars : Stmt := topS 17
abbrev N_bars : List Str := ["many", "lot", "thing", "part"]
theorem sc_bars : FnScope N_bars ["many", "lot", "thing"] (defScope s_bars) := ⟨rfl, rfl, rfl, by decide +kernel, rfl, by decide +kernel, by decide +kernel⟩
def bd_bars : Ev → Option Out := (sSeq (sExpr (eX (xFn fn_check_many_and_lot (aCons (eVar 0) (aCons (eVar 1) aNil))))) (sSeq (sIf (bNot (bTru (eUn (pIsi .tuple) (eVar 2)))) (sRetX (xE (eC (.bool false)))) sNil) (sSeq (sIf (bNot (bTru (eCall pAll (aCons (eX (xLc (iAny (eX (xSl (eVar 2) (oSome (eC (.int 1))) oNo))) (gN 3) bYes (eX (xFn fn_is_whole (aCons (eVar 3) aNil))) [3])) aNil)))) (sRetX (xE (eC (.bool false)))) sNil) (sRetX (xE (eOp (pIn false) (eVar 2) (eX (xFn fn_all_bars (aCons (eVar 0) (aCons (eVar 1) aNil))))))))))
def fn_bars : List PyData → Option Sl := fnS 3 1 bd_bars
theorem ok_bars (T : Top K mg) : OkAt P w K mg base 8 "bars" s_bars ["many", "lot", "thing"] (spS K fn_bars) := by
  obtain ⟨f, fd, F, b, g⟩ := T.d_bars
  obtain ⟨f_check_many_and_lot, fd_check_many_and_lot, F_check_many_and_lot, b_check_many_and_lot, g_check_many_and_lot, G_check_many_and_lot⟩ := ok_check_many_and_lot (P := P) (w := w) (base := base) T
  obtain ⟨f_is_whole, fd_is_whole, F_is_whole, b_is_whole, g_is_whole, G_is_whole⟩ := ok_is_whole (P := P) (w := w) (base := base) T
  obtain ⟨f_all_bars, fd_all_bars, F_all_bars, b_all_bars, g_all_bars, G_all_bars⟩ := ok_all_bars (P := P) (w := w) (base := base) T
  have hs : SS K [] _ bd_bars := (ss_seq (ss_expr (se_x (sx_fn (sa_cons se_var (sa_cons se_var sa_nil))))) (ss_seq (ss_if (st_not (st_tru (se_isi .tuple se_var))) (ss_retX (sx_e se_bl)) ss_nil) (ss_seq (ss_if (st_not (st_tru (se_callB sr_all (sa_cons (se_x (sx_lc (by decide) (si_any (se_x (sx_slice se_var (so_some se_int) so_no))) sg_name (lcl_name (by decide)) mn_name st_yes (se_x (sx_fn (sa_cons se_var sa_nil))))) sa_nil)))) (ss_retX (sx_e se_bl)) ss_nil) (ss_retX (sx_e (se_op sr_in se_var (se_x (sx_fn (sa_cons se_var (sa_cons se_var sa_nil))))))))))
  exact ⟨f, fd, F, b, g, okS hs F sc_bars rfl rfl (fun cdv A outer s H E hr => (pss_cons (ps_expr (pe_call G_check_many_and_lot (hr.mono (by decide)) (by rfl) g_check_many_and_lot F_check_many_and_lot.kp b_check_many_and_lot .nil pass0 (pa_cons (pv 0) (pa_cons (pv 1) pa_nil)))) (pss_cons (ps_if (pt_not (pt_tru (pe_callB call_isi (by rfl) T.n_isinstance boot_isinstance (pa_cons (pv 2) (pa_cons (pe_bltn (v := .ty "tuple") (by rfl) T.n_tuple boot_tuple rfl) pa_nil))))) (pss_one (ps_ret pe_bl)) pss_nil) (pss_cons (ps_if (pt_not (pt_tru (pe_callB (cr_all rfl) (by rfl) T.n_all boot_all (pa_cons (pe_lc (own := [("part", 3)]) rfl sc_bars.nd (pi_any (pe_slice sl_X (pv 2) (po_some pe_int) po_none)) (blkOk_by (N := N_bars) (sc := defScope s_bars) (by decide +kernel)) (fun _ _ _ _ _ => (pg_name (i := 3) sc_bars.nd rfl (by first | exact Or.inl rfl | exact Or.inr rfl))) (fun _ _ _ _ _ => pts_nil) (fun _ _ _ _ _ => (pe_call G_is_whole (hr.mono (by decide)) (by rfl) g_is_whole F_is_whole.kp b_is_whole .nil pass0 (pa_cons (pv 3) pa_nil)))) pa_nil)))) (pss_one (ps_ret pe_bl)) pss_nil) (pss_one (ps_ret (pe_cmpR (op_inA (hu65 hr)) (pv 2) (pe_call G_all_bars (hr.mono (by decide)) (by rfl) g_all_bars F_all_bars.kp b_all_bars .nil pass0 (pa_cons (pv 0) (pa_cons (pv 1) pa_nil))) (by rfl))))))))⟩

abbrev s_law : Stmt := topS 36
abbrev N_law : List Str := ["script", "cell", "deck", "many", "lot", "drawn", "paths", "here", "every", "some", "turn", "thing", "four_so", "good", "pair", "k", "one"]
theorem sc_law : FnScope N_law ["script"] (defScope s_law) := ⟨rfl, rfl, rfl, by decide +kernel, rfl, by decide +kernel, by decide +kernel⟩
def bd_law : Ev → Option Out := (sSeq (sFor (iAny (eX (xSl (eX (xOps pAdd (eX (xLst (aCons (eC (.int 0)) aNil))) (eVar 0))) oNo (oSome (eC (.int 10)))))) (gN 1) (sSeq (sSet 2 (xFn fn_law_deck (aCons (eVar 1) (aCons (eC (.int 3)) aNil)))) (sSeq (sSet 3 (xOps pAdd (eC (.int 2)) (eX (xFnB 2 fn_law_pick (aCons (eC (.int 11)) aNil))))) (sSeq (sSet 4 (xFn fn_law_seen (aCons (eX (xFnB 2 fn_law_heights (aCons (eVar 3) (aCons (eOp pPow (eC (.int 10)) (eC (.int 9))) aNil)))) aNil))) (sSeq (sSet 5 (xE (eCall pTuple (aCons (eX (xLc (iAny (eX (xFn fn_law_pairs (aCons (eVar 3) aNil)))) (gN 14) (bB (eOp pGt (eX (xFnB 2 fn_law_pick (aCons (eC (.int 3)) aNil))) (eC (.int 0)))) (eVar 14) [14])) aNil)))) (sSeq (sSet 6 (xE (eCall pTuple (aCons (eX (xLc (iAny (eX (xFn fn_law_pairs (aCons (eVar 3) aNil)))) (gN 14) (bOr (bB (eOp pEq (eIxV 14 (eC (.int 1))) (eX (xOps pAdd (eIxV 14 (eC (.int 0))) (eC (.int 1)))))) (bB (eOp pEq (eX (xFnB 2 fn_law_pick (aCons (eC (.int 5)) aNil))) (eC (.int 0))))) (eVar 14) [14])) aNil)))) (sFor (iAny (eX (xLst (aCons (eVar 4) (aCons (eX (xFnB 2 fn_law_bent (aCons (eVar 3) (aCons (eVar 4) aNil)))) (aCons (eX (xFnB 2 fn_law_bent (aCons (eVar 3) (aCons (eVar 4) aNil)))) (aCons (eVar 5) (aCons (eVar 6) aNil)))))))) (gN 7) (sSeq (sSet 8 (xFn fn_law_bars (aCons (eVar 3) (aCons (eVar 7) aNil)))) (sSeq (sIf (bNot (bTru (eX (xFn (fn_law_same 4) (aCons (eX (xFn fn_what_bars (aCons (eVar 3) (aCons (eVar 7) aNil)))) (aCons (eIf (bB (eOp pNe (eVar 8) (eX (xLst aNil)))) (eIxV 8 (eC (.int 0))) (eC .none)) aNil)))))) (sRetX (xE (eC (.bool false)))) sNil) (sSeq (sSet 9 (xLst (aCons (eC .none) (aCons (eTup aNil) (aCons (eTup (aCons (eC (.str "apart")) (aCons (eC (.int 0)) (aCons (eC (.int 1)) aNil)))) (aCons (eTup (aCons (eC (.str "alone")) (aCons (eC (.int 0)) (aCons (eOp pSub (eVar 3) (eC (.int 1))) aNil)))) (aCons (eX (xLst (aCons (eC (.str "apart")) (aCons (eC (.int 0)) (aCons (eC (.int 1)) aNil))))) (aCons (eTup (aCons (eC (.str "cross")) (aCons (eC (.int 0)) (aCons (eC (.int 1)) (aCons (eC (.int 2)) (aCons (eC (.int 3)) aNil)))))) aNil)))))))) (sSeq (sApp 9 (eX (xFnB 2 fn_law_odd aNil))) (sSeq (sIf (bB (eOp pNe (eVar 8) (eX (xLst aNil)))) (sSeq (sSet 11 (xFnB 2 fn_law_one (aCons (eVar 8) aNil))) (sSet 9 (xOps pAdd (eVar 9) (eX (xLst (aCons (eVar 11) (aCons (eIxV 8 (eUn pNeg (eC (.int 1)))) (aCons (eX (xCall pList (aCons (eVar 11) aNil))) (aCons (eX (xFnB 2 (fn_law_spoilt 3) (aCons (eVar 11) aNil))) (aCons (eX (xOps pAdd (eTup (aCons (eC (.str "Cross")) aNil)) (eX (xSl (eVar 11) (oSome (eC (.int 1))) oNo)))) aNil)))))))))) sNil) (sSeq (sFor (iR1 (aCons (eC (.int 6)) aNil)) (gN 10) (sSeq (sSet 12 (xCall pSortB (aCons (eX (xLc (iR1 (aCons (eC (.int 4)) aNil)) (gN 15) bYes (eX (xFnB 2 fn_law_pick (aCons (eVar 3) aNil))) [15])) aNil))) (sSeq (sApp 9 (eTup (aCons (eC (.str "cross")) (aCons (eIxV 12 (eC (.int 0))) (aCons (eIxV 12 (eC (.int 2))) (aCons (eIxV 12 (eC (.int 1))) (aCons (eIxV 12 (eC (.int 3))) aNil))))))) (sApp 9 (eTup (aCons (eX (xFnB 2 fn_law_one (aCons (eX (xLst (aCons (eC (.str "apart")) (aCons (eC (.str "alone")) aNil)))) aNil))) (aCons (eIxV 12 (eC (.int 0))) (aCons (eIxV 12 (eC (.int 1))) aNil)))))))) (sFor (iAny (eVar 9)) (gN 11) (sSeq (sSet 13 (xE (eOp pNe (eX (xLc (iAny (eVar 8)) (gN 16) (bTru (eX (xFn (fn_law_same 4) (aCons (eVar 16) (aCons (eVar 11) aNil))))) (eVar 16) [16])) (eX (xLst aNil))))) (sIf (bNot (bTru (eX (xFn (fn_law_same 4) (aCons (eX (xFn fn_bars (aCons (eVar 3) (aCons (eVar 7) (aCons (eVar 11) aNil))))) (aCons (eVar 13) aNil)))))) (sRetX (xE (eC (.bool false)))) sNil)))))))))))))))) (sRetX (xE (eOp pEq (eX (xFn fn_what_bars (aCons (eC (.int 4)) (aCons (eTup (aCons (eTup (aCons (eC (.int 0)) (aCons (eC (.int 1)) aNil))) (aCons (eTup (aCons (eC (.int 0)) (aCons (eC (.int 2)) aNil))) (aCons (eTup (aCons (eC (.int 1)) (aCons (eC (.int 2)) aNil))) (aCons (eTup (aCons (eC (.int 1)) (aCons (eC (.int 3)) aNil))) (aCons (eTup (aCons (eC (.int 2)) (aCons (eC (.int 3)) aNil))) aNil)))))) aNil)))) (eTup (aCons (eC (.str "cross")) (aCons (eC (.int 0)) (aCons (eC (.int 2)) (aCons (eC (.int 1)) (aCons (eC (.int 3)) aNil))))))))))
def fn_law : List PyData → Option Sl := fnS 1 16 bd_law
theorem ok_law (T : Top K mg) : OkAt P w K mg base 9 "law" s_law ["script"] (spS K fn_law) := by
  obtain ⟨f, fd, F, b, g⟩ := T.d_law
  obtain ⟨f_law_deck, fd_law_deck, F_law_deck, b_law_deck, g_law_deck, G_law_deck⟩ := ok_law_deck (P := P) (w := w) (base := base) T
  obtain ⟨f_law_pick, fd_law_pick, F_law_pick, b_law_pick, g_law_pick, G_law_pick⟩ := ok_law_pick (P := P) (w := w) (base := base) T
  obtain ⟨f_law_seen, fd_law_seen, F_law_seen, b_law_seen, g_law_seen, G_law_seen⟩ := ok_law_seen (P := P) (w := w) (base := base) T
  obtain ⟨f_law_heights, fd_law_heights, F_law_heights, b_law_heights, g_law_heights, G_law_heights⟩ := ok_law_heights (P := P) (w := w) (base := base) T
  obtain ⟨f_law_pairs, fd_law_pairs, F_law_pairs, b_law_pairs, g_law_pairs, G_law_pairs⟩ := ok_law_pairs (P := P) (w := w) (base := base) T
  obtain ⟨f_law_bent, fd_law_bent, F_law_bent, b_law_bent, g_law_bent, G_law_bent⟩ := ok_law_bent (P := P) (w := w) (base := base) T
  obtain ⟨f_law_bars, fd_law_bars, F_law_bars, b_law_bars, g_law_bars, G_law_bars⟩ := ok_law_bars (P := P) (w := w) (base := base) T
  obtain ⟨f_law_same, fd_law_same, F_law_same, b_law_same, g_law_same, G_law_same⟩ := ok_law_same (P := P) (w := w) (base := base) T 4
  obtain ⟨f_what_bars, fd_what_bars, F_what_bars, b_what_bars, g_what_bars, G_what_bars⟩ := ok_what_bars (P := P) (w := w) (base := base) T
  obtain ⟨f_law_odd, fd_law_odd, F_law_odd, b_law_odd, g_law_odd, G_law_odd⟩ := ok_law_odd (P := P) (w := w) (base := base) T
  obtain ⟨f_law_one, fd_law_one, F_law_one, b_law_one, g_law_one, G_law_one⟩ := ok_law_one (P := P) (w := w) (base := base) T
  obtain ⟨f_law_spoilt, fd_law_spoilt, F_law_spoilt, b_law_spoilt, g_law_spoilt, G_law_spoilt⟩ := ok_law_spoilt (P := P) (w := w) (base := base) T 3
  obtain ⟨f_bars, fd_bars, F_bars, b_bars, g_bars, G_bars⟩ := ok_bars (P := P) (w := w) (base := base) T
  have hs : SS K [] _ bd_law := (ss_seq (ss_for (si_any (se_x (sx_slice (se_x (sx_ops sr_add (se_x (sx_lst (sa_cons se_int sa_nil))) se_var)) so_no (so_some se_int)))) sg_name (ss_seq (ss_set (sx_fn (sa_cons se_var (sa_cons se_int sa_nil)))) (ss_seq (ss_set (sx_ops sr_add se_int (se_x (sx_fnB (sa_cons se_int sa_nil))))) (ss_seq (ss_set (sx_fn (sa_cons (se_x (sx_fnB (sa_cons se_var (sa_cons (se_op sr_pow se_int se_int) sa_nil)))) sa_nil))) (ss_seq (ss_set (sx_e (se_callB sr_tuple (sa_cons (se_x (sx_lc (by decide) (si_any (se_x (sx_fn (sa_cons se_var sa_nil)))) sg_name (lcl_name (by decide)) mn_name (st_t (se_op sr_gt (se_x (sx_fnB (sa_cons se_int sa_nil))) se_int)) se_var)) sa_nil)))) (ss_seq (ss_set (sx_e (se_callB sr_tuple (sa_cons (se_x (sx_lc (by decide) (si_any (se_x (sx_fn (sa_cons se_var sa_nil)))) sg_name (lcl_name (by decide)) mn_name (st_or (st_t (se_op sr_eq (se_ixv se_int) (se_x (sx_ops sr_add (se_ixv se_int) se_int)))) (st_t (se_op sr_eq (se_x (sx_fnB (sa_cons se_int sa_nil))) se_int))) se_var)) sa_nil)))) (ss_for (si_any (se_x (sx_lst (sa_cons se_var (sa_cons (se_x (sx_fnB (sa_cons se_var (sa_cons se_var sa_nil)))) (sa_cons (se_x (sx_fnB (sa_cons se_var (sa_cons se_var sa_nil)))) (sa_cons se_var (sa_cons se_var sa_nil)))))))) sg_name (ss_seq (ss_set (sx_fn (sa_cons se_var (sa_cons se_var sa_nil)))) (ss_seq (ss_if (st_not (st_tru (se_x (sx_fn (sa_cons (se_x (sx_fn (sa_cons se_var (sa_cons se_var sa_nil)))) (sa_cons (se_if (st_t (se_op sr_ne se_var (se_x (sx_lst sa_nil)))) (se_ixv se_int) se_non) sa_nil)))))) (ss_retX (sx_e se_bl)) ss_nil) (ss_seq (ss_set (sx_lst (sa_cons se_non (sa_cons (se_tup sa_nil) (sa_cons (se_tup (sa_cons se_str (sa_cons se_int (sa_cons se_int sa_nil)))) (sa_cons (se_tup (sa_cons se_str (sa_cons se_int (sa_cons (se_op sr_sub se_var se_int) sa_nil)))) (sa_cons (se_x (sx_lst (sa_cons se_str (sa_cons se_int (sa_cons se_int sa_nil))))) (sa_cons (se_tup (sa_cons se_str (sa_cons se_int (sa_cons se_int (sa_cons se_int (sa_cons se_int sa_nil)))))) sa_nil)))))))) (ss_seq (ss_app (se_x (sx_fnB sa_nil))) (ss_seq (ss_if (st_t (se_op sr_ne se_var (se_x (sx_lst sa_nil)))) (ss_seq (ss_set (sx_fnB (sa_cons se_var sa_nil))) (ss_set (sx_ops sr_add se_var (se_x (sx_lst (sa_cons se_var (sa_cons (se_ixv (se_un sr_neg se_int)) (sa_cons (se_x (sx_callB sr_list (sa_cons se_var sa_nil))) (sa_cons (se_x (sx_fnB (sa_cons se_var sa_nil))) (sa_cons (se_x (sx_ops sr_add (se_tup (sa_cons se_str sa_nil)) (se_x (sx_slice se_var (so_some se_int) so_no)))) sa_nil)))))))))) ss_nil) (ss_seq (ss_for (si_rng1 (sa_cons se_int sa_nil)) sg_name (ss_seq (ss_set (sx_callB sr_sortB (sa_cons (se_x (sx_lc (by decide) (si_rng1 (sa_cons se_int sa_nil)) sg_name (lcl_name (by decide)) mn_name st_yes (se_x (sx_fnB (sa_cons se_var sa_nil))))) sa_nil))) (ss_seq (ss_app (se_tup (sa_cons se_str (sa_cons (se_ixv se_int) (sa_cons (se_ixv se_int) (sa_cons (se_ixv se_int) (sa_cons (se_ixv se_int) sa_nil))))))) (ss_app (se_tup (sa_cons (se_x (sx_fnB (sa_cons (se_x (sx_lst (sa_cons se_str (sa_cons se_str sa_nil)))) sa_nil))) (sa_cons (se_ixv se_int) (sa_cons (se_ixv se_int) sa_nil)))))))) (ss_for (si_any se_var) sg_name (ss_seq (ss_set (sx_e (se_op sr_ne (se_x (sx_lc (by decide) (si_any se_var) sg_name (lcl_name (by decide)) mn_name (st_tru (se_x (sx_fn (sa_cons se_var (sa_cons se_var sa_nil))))) se_var)) (se_x (sx_lst sa_nil))))) (ss_if (st_not (st_tru (se_x (sx_fn (sa_cons (se_x (sx_fn (sa_cons se_var (sa_cons se_var (sa_cons se_var sa_nil))))) (sa_cons se_var sa_nil)))))) (ss_retX (sx_e se_bl)) ss_nil)))))))))))))))) (ss_retX (sx_e (se_op sr_eq (se_x (sx_fn (sa_cons se_int (sa_cons (se_tup (sa_cons (se_tup (sa_cons se_int (sa_cons se_int sa_nil))) (sa_cons (se_tup (sa_cons se_int (sa_cons se_int sa_nil))) (sa_cons (se_tup (sa_cons se_int (sa_cons se_int sa_nil))) (sa_cons (se_tup (sa_cons se_int (sa_cons se_int sa_nil))) (sa_cons (se_tup (sa_cons se_int (sa_cons se_int sa_nil))) sa_nil)))))) sa_nil)))) (se_tup (sa_cons se_str (sa_cons se_int (sa_cons se_int (sa_cons se_int (sa_cons se_int sa_nil))))))))))
  exact ⟨f, fd, F, b, g, okS hs F sc_law rfl rfl (fun cdv A outer s H E hr => (pss_cons (ps_for PassesOwn.never rfl (pi_any (pe_slice sl_X (pe_op op_addA (pe_lst (pa_cons pe_int pa_nil)) (pv 0)) po_none (po_some pe_int))) (pg_name (i := 1) sc_law.nd rfl (by first | exact Or.inl rfl | exact Or.inr rfl)) (pss_cons (ps_set (i := 2) sc_law.nd rfl (by first | exact Or.inl rfl | exact Or.inr rfl) (pe_call G_law_deck (hr.mono (by decide)) (by rfl) g_law_deck F_law_deck.kp b_law_deck .nil pass0 (pa_cons (pv 1) (pa_cons pe_int pa_nil)))) (pss_cons (ps_set (i := 3) sc_law.nd rfl (by first | exact Or.inl rfl | exact Or.inr rfl) (pe_op op_addA pe_int (pe_call G_law_pick (hr.mono (by decide)) (by rfl) g_law_pick F_law_pick.kp b_law_pick .nil pass0 (pa_cons (pv 2) (pa_cons pe_int pa_nil))))) (pss_cons (ps_set (i := 4) sc_law.nd rfl (by first | exact Or.inl rfl | exact Or.inr rfl) (pe_call G_law_seen (hr.mono (by decide)) (by rfl) g_law_seen F_law_seen.kp b_law_seen .nil pass0 (pa_cons (pe_call G_law_heights (hr.mono (by decide)) (by rfl) g_law_heights F_law_heights.kp b_law_heights .nil pass0 (pa_cons (pv 2) (pa_cons (pv 3) (pa_cons (pe_op op_pow pe_int pe_int) pa_nil)))) pa_nil))) (pss_cons (ps_set (i := 5) sc_law.nd rfl (by first | exact Or.inl rfl | exact Or.inr rfl) (pe_callTy c_tuple (by rfl) T.n_tuple boot_tuple (pa_cons (pe_lc (own := [("pair", 14)]) rfl sc_law.nd (pi_any (pe_call G_law_pairs (hr.mono (by decide)) (by rfl) g_law_pairs F_law_pairs.kp b_law_pairs .nil pass0 (pa_cons (pv 3) pa_nil))) (blkOk_by (N := N_law) (sc := defScope s_law) (by decide +kernel)) (fun _ _ _ _ _ => (pg_name (i := 14) sc_law.nd rfl (by first | exact Or.inl rfl | exact Or.inr rfl))) (fun _ _ _ _ _ => (pts_one (pt_cmpR op_gt (pe_call G_law_pick (hr.mono (by decide)) (by rfl) g_law_pick F_law_pick.kp b_law_pick .nil pass0 (pa_cons (pv 2) (pa_cons pe_int pa_nil))) pe_int (nomark _)))) (fun _ _ _ _ _ => (pv 14))) pa_nil))) (pss_cons (ps_set (i := 6) sc_law.nd rfl (by first | exact Or.inl rfl | exact Or.inr rfl) (pe_callTy c_tuple (by rfl) T.n_tuple boot_tuple (pa_cons (pe_lc (own := [("pair", 14)]) rfl sc_law.nd (pi_any (pe_call G_law_pairs (hr.mono (by decide)) (by rfl) g_law_pairs F_law_pairs.kp b_law_pairs .nil pass0 (pa_cons (pv 3) pa_nil))) (blkOk_by (N := N_law) (sc := defScope s_law) (by decide +kernel)) (fun _ _ _ _ _ => (pg_name (i := 14) sc_law.nd rfl (by first | exact Or.inl rfl | exact Or.inr rfl))) (fun _ _ _ _ _ => (pts_one (PW.pt (pw_or (pt_cmpR (op_eqD hr.units) (pe_ix ix_seq (pv 14) pe_int (fun _ _ => rfl)) (pe_op op_addA (pe_ix ix_seq (pv 14) pe_int (fun _ _ => rfl)) pe_int) (nomark _)) (pw_or1 (pt_cmpR (op_eqD hr.units) (pe_call G_law_pick (hr.mono (by decide)) (by rfl) g_law_pick F_law_pick.kp b_law_pick .nil pass0 (pa_cons (pv 2) (pa_cons pe_int pa_nil))) pe_int (nomark _))))))) (fun _ _ _ _ _ => (pv 14))) pa_nil))) (pss_one (ps_for PassesOwn.never rfl (pi_any (pe_lst (pa_cons (pv 4) (pa_cons (pe_call G_law_bent (hr.mono (by decide)) (by rfl) g_law_bent F_law_bent.kp b_law_bent .nil pass0 (pa_cons (pv 2) (pa_cons (pv 3) (pa_cons (pv 4) pa_nil)))) (pa_cons (pe_call G_law_bent (hr.mono (by decide)) (by rfl) g_law_bent F_law_bent.kp b_law_bent .nil pass0 (pa_cons (pv 2) (pa_cons (pv 3) (pa_cons (pv 4) pa_nil)))) (pa_cons (pv 5) (pa_cons (pv 6) pa_nil))))))) (pg_name (i := 7) sc_law.nd rfl (by first | exact Or.inl rfl | exact Or.inr rfl)) (pss_cons (ps_set (i := 8) sc_law.nd rfl (by first | exact Or.inl rfl | exact Or.inr rfl) (pe_call G_law_bars (hr.mono (by decide)) (by rfl) g_law_bars F_law_bars.kp b_law_bars .nil pass0 (pa_cons (pv 3) (pa_cons (pv 7) pa_nil)))) (pss_cons (ps_if (pt_not (pt_tru (pe_call G_law_same (hr.mono (by decide)) (by rfl) g_law_same F_law_same.kp b_law_same .nil pass0 (pa_cons (pe_call G_what_bars (hr.mono (by decide)) (by rfl) g_what_bars F_what_bars.kp b_what_bars .nil pass0 (pa_cons (pv 3) (pa_cons (pv 7) pa_nil))) (pa_cons (pe_ifExp (pt_cmpR (op_neD hr.units) (pv 8) (pe_lst pa_nil) (nomark _)) (pe_ix ix_seq (pv 8) pe_int (fun _ _ => rfl)) pe_non) pa_nil))))) (pss_one (ps_ret pe_bl)) pss_nil) (pss_cons (ps_set (i := 9) sc_law.nd rfl (by first | exact Or.inl rfl | exact Or.inr rfl) (pe_lst (pa_cons pe_non (pa_cons (pe_tup pa_nil) (pa_cons (pe_tup (pa_cons pe_str (pa_cons pe_int (pa_cons pe_int pa_nil)))) (pa_cons (pe_tup (pa_cons pe_str (pa_cons pe_int (pa_cons (pe_op op_sub (pv 3) pe_int) pa_nil)))) (pa_cons (pe_lst (pa_cons pe_str (pa_cons pe_int (pa_cons pe_int pa_nil)))) (pa_cons (pe_tup (pa_cons pe_str (pa_cons pe_int (pa_cons pe_int (pa_cons pe_int (pa_cons pe_int pa_nil)))))) pa_nil)))))))) (pss_cons (ps_expr (pe_bm PySem.F.plainAttrs_list PySem.F.slot_list_append PySem.F.type_list_append mt_append (pv 9) (pa_cons (pe_call G_law_odd (hr.mono (by decide)) (by rfl) g_law_odd F_law_odd.kp b_law_odd .nil pass0 (pa_cons (pv 2) pa_nil)) pa_nil))) (pss_cons (ps_if (pt_cmpR (op_neD hr.units) (pv 8) (pe_lst pa_nil) (nomark _)) (pss_cons (ps_set (i := 11) sc_law.nd rfl (by first | exact Or.inl rfl | exact Or.inr rfl) (pe_call G_law_one (hr.mono (by decide)) (by rfl) g_law_one F_law_one.kp b_law_one .nil pass0 (pa_cons (pv 2) (pa_cons (pv 8) pa_nil)))) (pss_one (ps_set (i := 9) sc_law.nd rfl (by first | exact Or.inl rfl | exact Or.inr rfl) (pe_op op_addA (pv 9) (pe_lst (pa_cons (pv 11) (pa_cons (pe_ix ix_seq (pv 8) (pe_un un_neg pe_int) (fun _ _ => rfl)) (pa_cons (pe_callTy c_list (by rfl) T.n_list boot_list (pa_cons (pv 11) pa_nil)) (pa_cons (pe_call G_law_spoilt (hr.mono (by decide)) (by rfl) g_law_spoilt F_law_spoilt.kp b_law_spoilt .nil pass0 (pa_cons (pv 2) (pa_cons (pv 11) pa_nil))) (pa_cons (pe_op op_addA (pe_tup (pa_cons pe_str pa_nil)) (pe_slice sl_X (pv 11) (po_some pe_int) po_none)) pa_nil)))))))))) pss_nil) (pss_cons (ps_for PassesOwn.never rfl (pi_range1 (by rfl) T.n_range (pa_cons pe_int pa_nil)) (pg_name (i := 10) sc_law.nd rfl (by first | exact Or.inl rfl | exact Or.inr rfl)) (pss_cons (ps_set (i := 12) sc_law.nd rfl (by first | exact Or.inl rfl | exact Or.inr rfl) (pe_callB (cr_sortedB (hu65 hr)) (by rfl) T.n_sorted boot_sorted (pa_cons (pe_lc (own := [("k", 15)]) rfl sc_law.nd (pi_range1 (by rfl) T.n_range (pa_cons pe_int pa_nil)) (blkOk_by (N := N_law) (sc := defScope s_law) (by decide +kernel)) (fun _ _ _ _ _ => (pg_name (i := 15) sc_law.nd rfl (by first | exact Or.inl rfl | exact Or.inr rfl))) (fun _ _ _ _ _ => pts_nil) (fun _ _ _ _ _ => (pe_call G_law_pick (hr.mono (by decide)) (by rfl) g_law_pick F_law_pick.kp b_law_pick .nil pass0 (pa_cons (pv 2) (pa_cons (pv 3) pa_nil))))) pa_nil))) (pss_cons (ps_expr (pe_bm PySem.F.plainAttrs_list PySem.F.slot_list_append PySem.F.type_list_append mt_append (pv 9) (pa_cons (pe_tup (pa_cons pe_str (pa_cons (pe_ix ix_seq (pv 12) pe_int (fun _ _ => rfl)) (pa_cons (pe_ix ix_seq (pv 12) pe_int (fun _ _ => rfl)) (pa_cons (pe_ix ix_seq (pv 12) pe_int (fun _ _ => rfl)) (pa_cons (pe_ix ix_seq (pv 12) pe_int (fun _ _ => rfl)) pa_nil)))))) pa_nil))) (pss_one (ps_expr (pe_bm PySem.F.plainAttrs_list PySem.F.slot_list_append PySem.F.type_list_append mt_append (pv 9) (pa_cons (pe_tup (pa_cons (pe_call G_law_one (hr.mono (by decide)) (by rfl) g_law_one F_law_one.kp b_law_one .nil pass0 (pa_cons (pv 2) (pa_cons (pe_lst (pa_cons pe_str (pa_cons pe_str pa_nil))) pa_nil))) (pa_cons (pe_ix ix_seq (pv 12) pe_int (fun _ _ => rfl)) (pa_cons (pe_ix ix_seq (pv 12) pe_int (fun _ _ => rfl)) pa_nil)))) pa_nil))))))) (pss_one (ps_for PassesOwn.never rfl (pi_any (pv 9)) (pg_name (i := 11) sc_law.nd rfl (by first | exact Or.inl rfl | exact Or.inr rfl)) (pss_cons (ps_set (i := 13) sc_law.nd rfl (by first | exact Or.inl rfl | exact Or.inr rfl) (pe_cmpR (op_neD hr.units) (pe_lc (own := [("one", 16)]) rfl sc_law.nd (pi_any (pv 8)) (blkOk_by (N := N_law) (sc := defScope s_law) (by decide +kernel)) (fun _ _ _ _ _ => (pg_name (i := 16) sc_law.nd rfl (by first | exact Or.inl rfl | exact Or.inr rfl))) (fun _ _ _ _ _ => (pts_one (pt_tru (pe_call G_law_same (hr.mono (by decide)) (by rfl) g_law_same F_law_same.kp b_law_same .nil pass0 (pa_cons (pv 16) (pa_cons (pv 11) pa_nil)))))) (fun _ _ _ _ _ => (pv 16))) (pe_lst pa_nil) (nomark _))) (pss_one (ps_if (pt_not (pt_tru (pe_call G_law_same (hr.mono (by decide)) (by rfl) g_law_same F_law_same.kp b_law_same .nil pass0 (pa_cons (pe_call G_bars (hr.mono (by decide)) (by rfl) g_bars F_bars.kp b_bars .nil pass0 (pa_cons (pv 3) (pa_cons (pv 7) (pa_cons (pv 11) pa_nil)))) (pa_cons (pv 13) pa_nil))))) (pss_one (ps_ret pe_bl)) pss_nil))))))))))))))))))) (pss_one (ps_ret (pe_cmpR (op_eqD hr.units) (pe_call G_what_bars (hr.mono (by decide)) (by rfl) g_what_bars F_what_bars.kp b_what_bars .nil pass0 (pa_cons pe_int (pa_cons (pe_tup (pa_cons (pe_tup (pa_cons pe_int (pa_cons pe_int pa_nil))) (pa_cons (pe_tup (pa_cons pe_int (pa_cons pe_int pa_nil))) (pa_cons (pe_tup (pa_cons pe_int (pa_cons pe_int pa_nil))) (pa_cons (pe_tup (pa_cons pe_int (pa_cons pe_int pa_nil))) (pa_cons (pe_tup (pa_cons pe_int (pa_cons pe_int pa_nil))) pa_nil)))))) pa_nil))) (pe_tup (pa_cons pe_str (pa_cons pe_int (pa_cons pe_int (pa_cons pe_int (pa_cons pe_int pa_nil)))))) (nomark _))))))⟩
end
theorem top_mk {K : PySem.W.Frag} {mg : Str → Option Value} {h : Heap} (X : K.In h) (G : h.Ns mainGlobals mg) (f_n_all : PySem.W.nsIn K mainGlobals "all" = some none) (f_n_any : PySem.W.nsIn K mainGlobals "any" = some none) (f_n_bool : PySem.W.nsIn K mainGlobals "bool" = some none) (f_n_enumerate : PySem.W.nsIn K mainGlobals "enumerate" = some none) (f_n_int : PySem.W.nsIn K mainGlobals "int" = some none) (f_n_isinstance : PySem.W.nsIn K mainGlobals "isinstance" = some none) (f_n_len : PySem.W.nsIn K mainGlobals "len" = some none) (f_n_list : PySem.W.nsIn K mainGlobals "list" = some none) (f_n_max : PySem.W.nsIn K mainGlobals "max" = some none) (f_n_min : PySem.W.nsIn K mainGlobals "min" = some none) (f_n_range : PySem.W.nsIn K mainGlobals "range" = some none) (f_n_set : PySem.W.nsIn K mainGlobals "set" = some none) (f_n_sorted : PySem.W.nsIn K mainGlobals "sorted" = some none) (f_n_str : PySem.W.nsIn K mainGlobals "str" = some none) (f_n_sum : PySem.W.nsIn K mainGlobals "sum" = some none) (f_n_tuple : PySem.W.nsIn K mainGlobals "tuple" = some none) (f_n_zip : PySem.W.nsIn K mainGlobals "zip" = some none) (f_c_MOST_HOUSES : CstF K "MOST_HOUSES" 12) (f_law_deck : FnF K "_law_deck" (topS 24)) (f_law_seen : FnF K "_law_seen" (topS 32)) (f_is_whole : FnF K "is_whole" (topS 6)) (f_is_whole_within : FnF K "is_whole_within" (topS 7)) (f_is_many : FnF K "is_many" (topS 8)) (f_check_many : FnF K "check_many" (topS 12)) (f_is_place : FnF K "is_place" (topS 9)) (f_is_pair : FnF K "is_pair" (topS 10)) (f_is_lot : FnF K "is_lot" (topS 11)) (f_check_lot : FnF K "check_lot" (topS 13)) (f_check_many_and_lot : FnF K "check_many_and_lot" (topS 14)) (f_both_see_one_between : FnF K "both_see_one_between" (topS 22)) (f_bars_alone : FnF K "bars_alone" (topS 21)) (f_bars_apart : FnF K "bars_apart" (topS 19)) (f_bars_cross : FnF K "bars_cross" (topS 20)) (f_all_bars : FnF K "all_bars" (topS 18)) (f_what_bars : FnF K "what_bars" (topS 16)) (f_law_pick : FnF K "_law_pick" (topS 25)) (f_law_heights : FnF K "_law_heights" (topS 31)) (f_law_pairs : FnF K "_law_pairs" (topS 33)) (f_law_one : FnF K "_law_one" (topS 26)) (f_law_bent : FnF K "_law_bent" (topS 34)) (f_law_bars : FnF K "_law_bars" (topS 35)) (f_law_sort : FnF K "_law_sort" (topS 27)) (f_law_same : FnF K "_law_same" (topS 28)) (f_law_odd : FnF K "_law_odd" (topS 29)) (f_law_spoilt : FnF K "_law_spoilt" (topS 30)) (f_bars : FnF K "bars" (topS 17)) (f_law : FnF K "law" (topS 36)) : Top K mg where
  n_all := PySem.W.mg_none_of X G f_n_all
  n_any := PySem.W.mg_none_of X G f_n_any
  n_bool := PySem.W.mg_none_of X G f_n_bool
  n_enumerate := PySem.W.mg_none_of X G f_n_enumerate
  n_int := PySem.W.mg_none_of X G f_n_int
  n_isinstance := PySem.W.mg_none_of X G f_n_isinstance
  n_len := PySem.W.mg_none_of X G f_n_len
  n_list := PySem.W.mg_none_of X G f_n_list
  n_max := PySem.W.mg_none_of X G f_n_max
  n_min := PySem.W.mg_none_of X G f_n_min
  n_range := PySem.W.mg_none_of X G f_n_range
  n_set := PySem.W.mg_none_of X G f_n_set
  n_sorted := PySem.W.mg_none_of X G f_n_sorted
  n_str := PySem.W.mg_none_of X G f_n_str
  n_sum := PySem.W.mg_none_of X G f_n_sum
  n_tuple := PySem.W.mg_none_of X G f_n_tuple
  n_zip := PySem.W.mg_none_of X G f_n_zip
  c_MOST_HOUSES := f_c_MOST_HOUSES.at X G
  d_law_deck := f_law_deck.at X G (fun _ _ _ _ _ _ us hl => match us, hl with | [_, _], _ => rfl)
  d_law_seen := f_law_seen.at X G (fun _ _ _ _ _ _ us hl => match us, hl with | [_], _ => rfl)
  d_is_whole := f_is_whole.at X G (fun _ _ _ _ _ _ us hl => match us, hl with | [_], _ => rfl)
  d_is_whole_within := f_is_whole_within.at X G (fun _ _ _ _ _ _ us hl => match us, hl with | [_, _, _], _ => rfl)
  d_is_many := f_is_many.at X G (fun _ _ _ _ _ _ us hl => match us, hl with | [_], _ => rfl)
  d_check_many := f_check_many.at X G (fun _ _ _ _ _ _ us hl => match us, hl with | [_], _ => rfl)
  d_is_place := f_is_place.at X G (fun _ _ _ _ _ _ us hl => match us, hl with | [_, _], _ => rfl)
  d_is_pair := f_is_pair.at X G (fun _ _ _ _ _ _ us hl => match us, hl with | [_, _], _ => rfl)
  d_is_lot := f_is_lot.at X G (fun _ _ _ _ _ _ us hl => match us, hl with | [_, _], _ => rfl)
  d_check_lot := f_check_lot.at X G (fun _ _ _ _ _ _ us hl => match us, hl with | [_, _, _], _ => rfl)
  d_check_many_and_lot := f_check_many_and_lot.at X G (fun _ _ _ _ _ _ us hl => match us, hl with | [_, _], _ => rfl)
  d_both_see_one_between := f_both_see_one_between.at X G (fun _ _ _ _ _ _ us hl => match us, hl with | [_, _, _], _ => rfl)
  d_bars_alone := f_bars_alone.at X G (fun _ _ _ _ _ _ us hl => match us, hl with | [_], _ => rfl)
  d_bars_apart := f_bars_apart.at X G (fun _ _ _ _ _ _ us hl => match us, hl with | [_, _], _ => rfl)
  d_bars_cross := f_bars_cross.at X G (fun _ _ _ _ _ _ us hl => match us, hl with | [_], _ => rfl)
  d_all_bars := f_all_bars.at X G (fun _ _ _ _ _ _ us hl => match us, hl with | [_, _], _ => rfl)
  d_what_bars := f_what_bars.at X G (fun _ _ _ _ _ _ us hl => match us, hl with | [_, _], _ => rfl)
  d_law_pick := f_law_pick.at X G (fun _ _ _ _ _ _ us hl => match us, hl with | [_, _], _ => rfl)
  d_law_heights := f_law_heights.at X G (fun _ _ _ _ _ _ us hl => match us, hl with | [_, _, _], _ => rfl)
  d_law_pairs := f_law_pairs.at X G (fun _ _ _ _ _ _ us hl => match us, hl with | [_], _ => rfl)
  d_law_one := f_law_one.at X G (fun _ _ _ _ _ _ us hl => match us, hl with | [_, _], _ => rfl)
  d_law_bent := f_law_bent.at X G (fun _ _ _ _ _ _ us hl => match us, hl with | [_, _, _], _ => rfl)
  d_law_bars := f_law_bars.at X G (fun _ _ _ _ _ _ us hl => match us, hl with | [_, _], _ => rfl)
  d_law_sort := f_law_sort.at X G (fun _ _ _ _ _ _ us hl => match us, hl with | [_], _ => rfl)
  d_law_same := f_law_same.at X G (fun _ _ _ _ _ _ us hl => match us, hl with | [_, _], _ => rfl)
  d_law_odd := f_law_odd.at X G (fun _ _ _ _ _ _ us hl => match us, hl with | [_], _ => rfl)
  d_law_spoilt := f_law_spoilt.at X G (fun _ _ _ _ _ _ us hl => match us, hl with | [_, _], _ => rfl)
  d_bars := f_bars.at X G (fun _ _ _ _ _ _ us hl => match us, hl with | [_, _, _], _ => rfl)
  d_law := f_law.at X G (fun _ _ _ _ _ _ us hl => match us, hl with | [_], _ => rfl)
theorem all_mk {l : PySem.W.OpenLaw} {K : PySem.W.Frag} {w : World} {mg : Str → Option Value} {fa : Addr} {h : Heap} (X : K.In h) (G : h.Ns mainGlobals mg) (hfa : mg "law" = some (.ref fa)) (T : Top K mg) :
    ∃ fd : FuncData, (∀ (s : Shared) (v : Value), BindsTo s fd ⟨[v], []⟩ [("script", v)]) ∧ ∀ base : Heap, K.In base → base.Ns mainGlobals mg → FnOk l.prog w K mg base CX0 9 fa fd ["script"] (spS K fn_law) := by
  obtain ⟨f, fd, F, b, g⟩ := T.d_law
  rw [g] at hfa
  cases hfa
  refine ⟨fd, fun s v => ?_, fun base _ _ => ?_⟩
  · obtain ⟨oc, od, kV, doc, pm, an, cdv, ct, osl, rfl, l, c⟩ := F.ex
    exact .of_eq rfl
  · obtain ⟨f', fd', F', b', g', G'⟩ := ok_law (P := l.prog) (w := w) (base := base) T
    rw [g] at g'
    cases g'
    obtain ⟨oc, od, kV, doc, pm, an, cdv, ct, osl, rfl, l1, c⟩ := F.ex
    obtain ⟨oc, od, kV, doc, pm, an, cdv, ct, osl, rfl, l2, c⟩ := F'.ex
    rw [l1] at l2
    cases l2
    exact G'
end VG
end
section
set_option maxRecDepth 100000
set_option maxHeartbeats 2000000
set_option linter.all false
namespace VM
open PySem VL VG L2 PyProof.Rows
/-! ### data that == may read -/
theorem canAll {ds : List PyData} : PyData.canLayAll0 ds = ds.all PyData.canLay0 := by
  induction ds with
  | nil => simp [PyData.canLayAll0]
  | cons a r ih => simp [PyData.canLayAll0, ih]
theorem depthAll_le {n : Nat} {ds : List PyData} : PyData.depthAll ds ≤ n ↔ ∀ d ∈ ds, d.depth ≤ n := by
  induction ds with
  | nil => simp [PyData.depthAll]
  | cons a r ih => simp [PyData.depthAll, ih, Nat.max_le]
/-- data of at most n within one another, its texts good -/
def Shp (n : Nat) (d : PyData) : Prop := d.canLay0 = true ∧ d.depth ≤ n
theorem Shp.mono {n m : Nat} {d : PyData} (h : Shp n d) (e : n ≤ m) : Shp m d := ⟨h.1, Nat.le_trans h.2 e⟩
theorem Shp.ok {n : Nat} {d : PyData} (h : Shp n d) (e : n ≤ 64) : SeqAt.shaped d = true := by
  unfold SeqAt.shaped
  rw [h.1, decide_eq_true (Nat.le_trans h.2 e)]
  rfl
theorem shp_list {n : Nat} {ds : List PyData} : Shp (n + 1) (.list ds) ↔ ∀ d ∈ ds, Shp n d := by
  unfold Shp
  simp only [PyData.canLay0, PyData.depth, canAll, List.all_eq_true, Nat.add_le_add_iff_right, depthAll_le]
  exact ⟨fun h d m => ⟨h.1 d m, h.2 d m⟩, fun h => ⟨fun d m => (h d m).1, fun d m => (h d m).2⟩⟩
theorem shp_tup {n : Nat} {ds : List PyData} : Shp (n + 1) (.tuple ds) ↔ ∀ d ∈ ds, Shp n d := by
  unfold Shp
  simp only [PyData.canLay0, PyData.depth, canAll, List.all_eq_true, Nat.add_le_add_iff_right, depthAll_le]
  exact ⟨fun h d m => ⟨h.1 d m, h.2 d m⟩, fun h => ⟨fun d m => (h d m).1, fun d m => (h d m).2⟩⟩
theorem shp_int {n : Nat} {i : Int} : Shp n (.int i) := ⟨by simp [PyData.canLay0], by simp [PyData.depth]⟩
theorem shp_bool {n : Nat} {i : Bool} : Shp n (.bool i) := ⟨by simp [PyData.canLay0], by simp [PyData.depth]⟩
theorem shp_none {n : Nat} : Shp n .none := ⟨by simp [PyData.canLay0], by simp [PyData.depth]⟩
theorem shp_str {n : Nat} {x : Str} (h : (PyData.str x).canLay0 = true) : Shp n (.str x) := ⟨h, by simp [PyData.depth]⟩
theorem shp_empty {n : Nat} : Shp (n + 1) (.list []) := shp_list.mpr fun d m => absurd m (by simp)
theorem strOk_of (x : String) : PyData.strOk (Str.ofString x) = true := by
  rw [Str.ofString_eq_toList]
  unfold PyData.strOk
  rw [List.all_toArray, List.all_eq_true]
  intro c hc
  obtain ⟨a, _, rfl⟩ := List.mem_map.mp hc
  refine decide_eq_true ?_
  rcases a.valid with h | h
  · have h : a.val.toNat < 0xd800 := h
    show a.val.toNat < _
    omega
  · exact h.2
theorem shp_txt {n : Nat} (x : String) : Shp n (.str (Str.ofString x)) := shp_str (by simp only [PyData.canLay0]; exact strOk_of x)
/-! ### the mathematics of sights -/
def mid (ns : List Int) (i j : Nat) : List Int := (ns.drop (i + 1)).take (j - (i + 1))
def at0 (ns : List Int) (i : Nat) : Int := ns.getD i 0
def lower (ns : List Int) (i j : Nat) : Int := if at0 ns j < at0 ns i then at0 ns j else at0 ns i
def sees (ns : List Int) (i j : Nat) : Bool := (mid ns i j).all fun h => decide (h < lower ns i j)
def rowTo (ns : List Int) (i m : Nat) : List (Nat × Nat) := ((List.range m).filter fun k => sees ns i (i + 1 + k)).map fun k => (i, i + 1 + k)
def seenTo (ns : List Int) (i : Nat) : List (Nat × Nat) := (List.range i).flatMap fun i => rowTo ns i (ns.length - (i + 1))
def seen (ns : List Int) : List (Nat × Nat) := seenTo ns ns.length
def pairD (p : Nat × Nat) : PyData := .tuple [.int p.1, .int p.2]
def lotD (ps : List (Nat × Nat)) : PyData := .tuple (ps.map pairD)
theorem rowTo_succ (ns : List Int) (i m : Nat) : rowTo ns i (m + 1) = if sees ns i (i + 1 + m) = true then rowTo ns i m ++ [(i, i + 1 + m)] else rowTo ns i m := by
  unfold rowTo
  rw [List.range_succ, List.filter_append, List.map_append, List.filter_cons]
  split <;> simp
theorem seenTo_succ (ns : List Int) (i : Nat) : seenTo ns (i + 1) = seenTo ns i ++ rowTo ns i (ns.length - (i + 1)) := by
  unfold seenTo
  rw [List.range_succ, List.flatMap_append]
  simp
theorem rowTo_len (ns : List Int) (i m : Nat) : (rowTo ns i m).length ≤ m := by
  unfold rowTo
  rw [List.length_map]
  exact Nat.le_trans (List.length_filter_le _ _) (by rw [List.length_range]; exact Nat.le_refl _)
theorem seenTo_len (ns : List Int) (h : ns.length ≤ 12) : ∀ i, (seenTo ns i).length ≤ i * 12
  | 0 => Nat.le_refl _
  | i + 1 => by
    rw [seenTo_succ, List.length_append]
    have a := seenTo_len ns h i
    have b := rowTo_len ns i (ns.length - (i + 1))
    omega
theorem shp_pair {n : Nat} (p : Nat × Nat) : Shp (n + 1) (pairD p) := shp_tup.mpr fun d hd => by
  simp only [List.mem_cons, List.not_mem_nil, or_false] at hd
  rcases hd with h | h <;> rw [h] <;> exact shp_int
theorem shp_lot {n : Nat} (ps : List (Nat × Nat)) : Shp (n + 2) (lotD ps) := shp_tup.mpr fun d hd => by
  obtain ⟨p, _, rfl⟩ := List.mem_map.mp hd
  exact shp_pair p
theorem shp_eqv {n : Nat} {d : PyData} (h : Shp n d) : PyData.eqv d d = true := SeqAt.eqv_refl d h.1
def sawAt (ns : List Int) (i j : Nat) : Prop := ∀ k, i < k → k < j → at0 ns k < at0 ns i ∧ at0 ns k < at0 ns j
theorem at0_of {ns : List Int} {k : Nat} (h : k < ns.length) : ns[k]? = some (at0 ns k) := by
  unfold at0
  rw [List.getD_eq_getElem?_getD, List.getElem?_eq_getElem h]
  rfl
theorem mid_at {ns : List Int} {i j t : Nat} (hj : j < ns.length) : (mid ns i j)[t]? = if t < j - (i + 1) then some (at0 ns (i + 1 + t)) else none := by
  unfold mid
  rw [List.getElem?_take]
  split
  · rw [List.getElem?_drop, at0_of (by omega)]
  · rfl
theorem low_lt {ns : List Int} {i j : Nat} {h : Int} : h < lower ns i j ↔ h < at0 ns i ∧ h < at0 ns j := by
  unfold lower
  split <;> omega
theorem sees_saw {ns : List Int} {i j : Nat} (hj : j < ns.length) : sees ns i j = true ↔ sawAt ns i j := by
  unfold sees
  rw [List.all_eq_true]
  constructor
  · intro h k h1 h2
    have e := mid_at (ns := ns) (i := i) (j := j) (t := k - (i + 1)) hj
    rw [if_pos (by omega), show i + 1 + (k - (i + 1)) = k by omega] at e
    exact low_lt.mp (of_decide_eq_true (h _ (List.mem_of_getElem? e)))
  · intro h x hx
    obtain ⟨t, ht⟩ := List.mem_iff_getElem?.mp hx
    rw [mid_at hj] at ht
    split at ht
    · obtain rfl := Option.some.inj ht
      exact decide_eq_true (low_lt.mpr (h _ (by omega) (by omega)))
    · cases ht
theorem mem_seen {ns : List Int} {p : Nat × Nat} : p ∈ seen ns ↔ p.1 < p.2 ∧ p.2 < ns.length ∧ sawAt ns p.1 p.2 := by
  unfold seen seenTo
  rw [List.mem_flatMap]
  constructor
  · rintro ⟨i, hi, hp⟩
    unfold rowTo at hp
    obtain ⟨k, hk, rfl⟩ := List.mem_map.mp hp
    obtain ⟨h1, h2⟩ := List.mem_filter.mp hk
    have h1 := List.mem_range.mp h1
    have hj : i + 1 + k < ns.length := by omega
    exact ⟨show i < i + 1 + k by omega, hj, (sees_saw hj).mp h2⟩
  · rintro ⟨h1, h2, h3⟩
    refine ⟨p.1, List.mem_range.mpr (by omega), ?_⟩
    unfold rowTo
    refine List.mem_map.mpr ⟨p.2 - (p.1 + 1), List.mem_filter.mpr ⟨List.mem_range.mpr (by omega), ?_⟩, ?_⟩
    · rw [show p.1 + 1 + (p.2 - (p.1 + 1)) = p.2 by omega]
      exact (sees_saw h2).mpr h3
    · rw [show p.1 + 1 + (p.2 - (p.1 + 1)) = p.2 by omega]
theorem at0_inj {ns : List Int} (hn : ns.Nodup) {i j : Nat} (hi : i < ns.length) (hj : j < ns.length) (e : at0 ns i = at0 ns j) : i = j := by
  have h1 := at0_of hi
  have h2 := at0_of hj
  rw [e] at h1
  exact (List.getElem?_inj hi hn).mp (h1.trans h2.symm)
/-- the highest of a stretch -/
theorem top_of (f : Nat → Int) (a : Nat) : ∀ n : Nat, ∃ k, a < k ∧ k ≤ a + 1 + n ∧ ∀ l, a < l → l ≤ a + 1 + n → f l ≤ f k
  | 0 => ⟨a + 1, by omega, by omega, fun l h1 h2 => by
      obtain rfl : l = a + 1 := by omega
      exact Int.le_refl _⟩
  | n + 1 => by
    obtain ⟨k, h1, h2, h3⟩ := top_of f a n
    by_cases h : f k < f (a + 1 + (n + 1))
    · refine ⟨a + 1 + (n + 1), by omega, by omega, fun l g1 g2 => ?_⟩
      by_cases e : l = a + 1 + (n + 1)
      · subst e
        exact Int.le_refl _
      · have := h3 l g1 (by omega)
        omega
    · refine ⟨k, h1, by omega, fun l g1 g2 => ?_⟩
      by_cases e : l = a + 1 + (n + 1)
      · subst e
        omega
      · exact h3 l g1 (by omega)
theorem seen_both {ns : List Int} (hn : ns.Nodup) {a b : Nat} (h : (a, b) ∈ seen ns) (hab : a + 1 < b) : ∃ k, a < k ∧ k < b ∧ (a, k) ∈ seen ns ∧ (k, b) ∈ seen ns := by
  obtain ⟨h1, h2, h3⟩ := mem_seen.mp h
  have h2 : b < ns.length := h2
  have h3 : sawAt ns a b := h3
  obtain ⟨k, k1, k2, k3⟩ := top_of (at0 ns) a (b - (a + 2))
  have hk : k < b := by omega
  have lt : ∀ l, a < l → l < b → l ≠ k → at0 ns l < at0 ns k := fun l l1 l2 ne => by
    have g := k3 l l1 (by omega)
    have g2 : at0 ns l ≠ at0 ns k := fun e => ne (at0_inj hn (by omega) (by omega) e)
    omega
  refine ⟨k, k1, hk, mem_seen.mpr ⟨k1, by show k < _; omega, fun l l1 l2 => ?_⟩, mem_seen.mpr ⟨hk, h2, fun l l1 l2 => ?_⟩⟩
  · have l1 : a < l := l1
    have l2 : l < k := l2
    exact ⟨(h3 l l1 (by omega)).1, lt l l1 (by omega) (by omega)⟩
  · have l1 : k < l := l1
    have l2 : l < b := l2
    exact ⟨lt l (by omega) l2 (by omega), (h3 l (by omega) l2).2⟩
theorem seen_next {ns : List Int} {i : Nat} (h : i + 1 < ns.length) : (i, i + 1) ∈ seen ns := mem_seen.mpr ⟨Nat.lt_succ_self _, h, fun k k1 k2 => by
  have k1 : i < k := k1
  have k2 : k < i + 1 := k2
  omega⟩
def ltPair (p q : Nat × Nat) : Prop := p.1 < q.1 ∨ (p.1 = q.1 ∧ p.2 < q.2)
theorem seen_sorted (ns : List Int) : (seen ns).Pairwise ltPair := by
  unfold seen seenTo
  refine List.pairwise_flatMap.mpr ⟨fun i _ => ?_, ?_⟩
  · unfold rowTo
    rw [List.pairwise_map]
    refine List.Pairwise.imp (fun {a b} (h : a < b) => .inr ⟨rfl, by show i + 1 + a < i + 1 + b; omega⟩) (List.Pairwise.sublist List.filter_sublist List.pairwise_lt_range)
  · refine List.Pairwise.imp (fun {a b} (h : a < b) x hx y hy => .inl ?_) List.pairwise_lt_range
    unfold rowTo at hx hy
    obtain ⟨_, _, rfl⟩ := List.mem_map.mp hx
    obtain ⟨_, _, rfl⟩ := List.mem_map.mp hy
    exact h
end VM
end
section
set_option Elab.async false
set_option linter.all false
set_option maxRecDepth 100000
set_option maxHeartbeats 4000000
namespace VM
open PySem VL VG L2
/-! ### the deck -/
def DeckOk (k : Nat) (ds : List PyData) : Prop := ∃ a b c : Int, ds = [.int a, .int b, .int c] ∧ 0 ≤ b ∧ b < 2147483579 ∧ 0 ≤ c ∧ c ≤ (k : Int) ∧ k ≤ 100000
theorem DeckOk.mono {k l : Nat} {ds : List PyData} (h : DeckOk k ds) (e : k ≤ l) (e2 : l ≤ 100000) : DeckOk l ds := by
  obtain ⟨a, b, c, h1, h2, h3, h4, h5, h6⟩ := h
  exact ⟨a, b, c, h1, h2, h3, h4, by omega, e2⟩
theorem deck_eq (c : Int) : ∃ ds, DeckOk 3 ds ∧ fn_law_deck [.int c, .int 3] = some (.ow ds) := by
  have m1 : 0 ≤ c % 2147483579 := Int.emod_nonneg _ (by decide)
  have m2 : c % 2147483579 < 2147483579 := Int.emod_lt_of_pos _ (by decide)
  by_cases h : (1000000000000000000 : Int) ≤ c
  · refine ⟨_, ⟨c - 1000000000000000000, c % 2147483579, 3, rfl, m1, m2, by decide, by decide, by decide⟩, ?_⟩
    simp [fn_law_deck, fnS, bd_law_deck, sSeq, sIf, sRetX, xLst, aCons, aNil, bB, eOp, eVar, eC, bnd, put, pGe, pInt, pPow, bPow, pSub, pMod, bMod, yes2, sz, h]
  · refine ⟨_, ⟨0, c % 2147483579, 3, rfl, m1, m2, by decide, by decide, by decide⟩, ?_⟩
    simp [fn_law_deck, fnS, bd_law_deck, sSeq, sIf, sNil, sRetX, xLst, aCons, aNil, bB, eOp, eVar, eC, bnd, put, pGe, pInt, pPow, bPow, pSub, pMod, bMod, yes2, sz, h]
theorem pick_eq {k : Nat} {ds : List PyData} {n : Int} (hd : DeckOk k ds) (hk : k < 100000) (n0 : 0 < n) (n1 : n < 1073741824) : ∃ (r : Int) (ds' : List PyData), 0 ≤ r ∧ r < n ∧ DeckOk (k + 1) ds' ∧ fn_law_pick ds [.int n] = some (.sh (.int r), ds') := by
  obtain ⟨a, b, c, rfl, h1, h2, h3, h4, h5⟩ := hd
  by_cases h : (1 : Int) < a
  · refine ⟨a % n, [.int (a / n), .int b, .int c], Int.emod_nonneg _ (by omega), Int.emod_lt_of_pos _ n0, ⟨_, _, _, rfl, h1, h2, h3, by omega, by omega⟩, ?_⟩
    simp [fn_law_pick, fnB, bd_law_pick, lentOf, sSeq, sIf, sNil, sRetX, sSet, sSetI, setOwn, ownOf, ixN, atI, eIxV, bScal, froz, frz1, xE, xVar, xOps, eX, aCons, aNil, bB, eOp, eVar, eC, bnd, put, pGt, pInt, pPow, bPow, pSub, pMod, bMod, pFdiv, bDiv, pAdd, pIx, seqOf, yes2, sz, h, n0, n1]
  · have b0 : Nat.blt (15485867 : Int).natAbs 18446744073709551616 = true := by decide
    have b1 : Nat.blt (b + 15485867 * (c + 1)).natAbs 18446744073709551616 = true := Nat.blt_eq.mpr (by omega)
    have b2 : ∀ x : Int, 0 ≤ x → x < 2147483647 → Nat.blt (x + 7919 * (c + 1)).natAbs 18446744073709551616 = true := fun x _ _ => Nat.blt_eq.mpr (by omega)
    have b3 := b2 ((b + 15485867 * (c + 1)) ^ 5 % 2147483647) (Int.emod_nonneg _ (by decide)) (Int.emod_lt_of_pos _ (by decide))
    refine ⟨(((b + 15485867 * (c + 1)) ^ 5 % 2147483647 + 7919 * (c + 1)) ^ 3 % 2147483629 / 32) % n, [.int a, .int b, .int (c + 1)], Int.emod_nonneg _ (by omega), Int.emod_lt_of_pos _ n0, ⟨_, _, _, rfl, h1, h2, by omega, by omega, by omega⟩, ?_⟩
    simp [fn_law_pick, fnB, bd_law_pick, lentOf, sSeq, sIf, sNil, sRetX, sSet, sSetI, setOwn, ownOf, ixN, atI, eIxV, bScal, froz, frz1, xE, xVar, xOps, eX, aCons, aNil, bB, eOp, eVar, eC, bnd, put, pGt, pInt, pPow, bPow, pSub, pMod, bMod, pFdiv, bDiv, pMul, bMul, pAdd, pIx, seqOf, yes2, sz, h, b0, b1, b3, n0, n1]
theorem atI_ok {ds : List PyData} {r : Int} (h0 : 0 ≤ r) (h1 : r < ds.length) : ∃ d, d ∈ ds ∧ atI ds r = some d := by
  obtain ⟨n, rfl⟩ := Int.eq_ofNat_of_zero_le h0
  have hn : n < ds.length := by omega
  exact ⟨ds[n], List.getElem_mem hn, atI_nat (List.getElem?_eq_getElem hn)⟩
theorem one_eq {k : Nat} {ds xs : List PyData} (hd : DeckOk k ds) (hk : k < 100000) (n0 : 0 < xs.length) (n1 : xs.length < 1073741824) : ∃ (d : PyData) (ds' : List PyData), d ∈ xs ∧ DeckOk (k + 1) ds' ∧ fn_law_one ds [.list xs] = some (.sh d, ds') := by
  obtain ⟨r, ds', r0, r1, h1, h2⟩ := pick_eq hd hk (n := (xs.length : Int)) (by omega) (by omega)
  obtain ⟨d, m, e⟩ := atI_ok r0 r1
  refine ⟨d, ds', m, h1, ?_⟩
  simp [fn_law_one, fnB, bd_law_one, sRetX, xE, eIxV, seqOf, eX, xFnB, ownOf, aCons, aNil, eCall, eVar, bnd, put, pLen, h2, setOwn, lentOf, e]
end VM
end
section
set_option Elab.async false
set_option linter.all false
set_option maxRecDepth 100000
set_option maxHeartbeats 4000000
namespace VM
open PySem VL VG L2
/-! ### loops -/
theorem loop_upto {fg : PyData → Ev → Option Ev} {fb : Ev → Option Out} {P : Nat → Ev → Prop} : ∀ (n : Nat) (a : Int) (k : Nat), (∀ i e, k ≤ i → i < k + n → P i e → ∃ e1 e2, fg (.int (a + ((i - k : Nat) : Int))) e = some e1 ∧ fb e1 = some (.nx e2) ∧ P (i + 1) e2) → ∀ e, P k e → ∃ e', loop fg fb (upto a n) e = some (.nx e') ∧ P (k + n) e'
  | 0, a, k, _, e, h => ⟨e, rfl, h⟩
  | n + 1, a, k, st, e, h => by
    obtain ⟨e1, e2, h1, h2, h3⟩ := st k e (Nat.le_refl k) (by omega) h
    rw [show a + ((k - k : Nat) : Int) = a by omega] at h1
    obtain ⟨e', h4, h5⟩ := loop_upto n (a + 1) (k + 1) (fun i e hi hn hp => by
      obtain ⟨e1, e2, g1, g2, g3⟩ := st i e (by omega) (by omega) hp
      rw [show a + ((i - k : Nat) : Int) = a + 1 + ((i - (k + 1) : Nat) : Int) by omega] at g1
      exact ⟨e1, e2, g1, g2, g3⟩) e2 h3
    refine ⟨e', ?_, by rw [show k + (n + 1) = k + 1 + n by omega]; exact h5⟩
    show (match fg (.int a) e with | none => none | some e1 => match fb e1 with | none => none | some (.nx e2) => loop fg fb (upto (a + 1) n) e2 | some (.rt s e2) => some (.rt s e2)) = _
    rw [h1]
    show (match fb e1 with | none => none | some (.nx e2) => loop fg fb (upto (a + 1) n) e2 | some (.rt s e2) => some (.rt s e2)) = _
    rw [h2]
    exact h4
theorem loop_range {fg : PyData → Ev → Option Ev} {fb : Ev → Option Out} {P : Nat → Ev → Prop} (n : Nat) (st : ∀ i e, i < n → P i e → ∃ e1 e2, fg (.int (i : Int)) e = some e1 ∧ fb e1 = some (.nx e2) ∧ P (i + 1) e2) (e : Ev) (h : P 0 e) : ∃ e', loop fg fb (upto 0 n) e = some (.nx e') ∧ P n e' := by
  obtain ⟨e', h1, h2⟩ := loop_upto (P := P) n 0 0 (fun i e _ hi hp => by
    obtain ⟨e1, e2, g1, g2⟩ := st i e (by omega) hp
    refine ⟨e1, e2, ?_, g2⟩
    rw [show (0 : Int) + ((i - 0 : Nat) : Int) = (i : Int) by omega]
    exact g1) e h
  exact ⟨e', h1, by rw [Nat.zero_add] at h2; exact h2⟩
theorem loop_list {fg : PyData → Ev → Option Ev} {fb : Ev → Option Out} {P : List PyData → Ev → Prop} (st : ∀ d ds e, P (d :: ds) e → ∃ e1 e2, fg d e = some e1 ∧ fb e1 = some (.nx e2) ∧ P ds e2) : ∀ (ds : List PyData) (e : Ev), P ds e → ∃ e', loop fg fb ds e = some (.nx e') ∧ P [] e'
  | [], e, h => ⟨e, rfl, h⟩
  | d :: ds, e, h => by
    obtain ⟨e1, e2, h1, h2, h3⟩ := st d ds e h
    obtain ⟨e', h4, h5⟩ := loop_list st ds e2 h3
    refine ⟨e', ?_, h5⟩
    show (match fg d e with | none => none | some e1 => match fb e1 with | none => none | some (.nx e2) => loop fg fb ds e2 | some (.rt s e2) => some (.rt s e2)) = _
    rw [h1]
    show (match fb e1 with | none => none | some (.nx e2) => loop fg fb ds e2 | some (.rt s e2) => some (.rt s e2)) = _
    rw [h2]
    exact h4
theorem seq_nx {f g : Ev → Option Out} {e e1 : Ev} (h : f e = some (.nx e1)) : sSeq f g e = g e1 := by unfold sSeq; rw [h]
theorem seq_rt {f g : Ev → Option Out} {e e1 : Ev} {x : Sl} (h : f e = some (.rt x e1)) : sSeq f g e = some (.rt x e1) := by unfold sSeq; rw [h]
theorem for_of {fi : M (List PyData)} {fg : PyData → Ev → Option Ev} {fb : Ev → Option Out} {e e1 : Ev} {ds : List PyData} (h : fi e = some (ds, e1)) : sFor fi fg fb e = loop fg fb ds e1 := by unfold sFor; rw [h]; rfl
theorem iR1_eq {fa : M (List PyData)} {e e1 : Ev} {j : Int} (a : fa e = some ([.int j], e1)) (i0 : inR j = true) : iR1 fa e = some (upto 0 j.toNat, e1) := by
  unfold iR1
  rw [a]
  unfold bnd
  simp only []
  rw [if_pos i0]
theorem iR2_eq {fa : M (List PyData)} {e e1 : Ev} {i j : Int} (a : fa e = some ([.int i, .int j], e1)) (i0 : inR i = true ∧ inR j = true) : iR2 fa e = some (upto i (j - i).toNat, e1) := by
  unfold iR2
  rw [a]
  unfold bnd
  simp only []
  rw [if_pos i0]
theorem inR_nat {m : Nat} (h : m ≤ 100000) : inR (m : Int) = true := by
  unfold inR
  rw [Bool.and_eq_true, decide_eq_true_eq, decide_eq_true_eq]
  omega
theorem inR_int {m : Int} (h0 : -100000 ≤ m) (h : m ≤ 100000) : inR m = true := by
  unfold inR
  rw [Bool.and_eq_true, decide_eq_true_eq, decide_eq_true_eq]
  omega
theorem iR1_nat {fa : M (List PyData)} {e e1 : Ev} {m : Nat} (a : fa e = some ([.int (m : Int)], e1)) (h : m ≤ 100000) : iR1 fa e = some (upto 0 m, e1) := iR1_eq a (inR_nat h)
theorem sz_of {n : Nat} (h : n ≤ 1000000) : sz n = true := sz_mono (n := 1000000) (by decide) h
/-! ### heights -/
theorem mods_apart {h T : Int} {i j : Nat} (hij : i < j) (hj : (j : Int) < T) : (h + i) % T ≠ (h + j) % T := fun e => by
  have z : ((h + j) - (h + i)) % T = 0 := Int.emod_eq_emod_iff_emod_sub_eq_zero.mp e.symm
  rw [show (h + (j : Int)) - (h + i) = (j : Int) - i by omega, Int.emod_eq_of_lt (by omega) (by omega)] at z
  omega
theorem len_le_sub : ∀ {l m : List Int}, l.Nodup → (∀ x ∈ l, x ∈ m) → l.length ≤ m.length
  | [], _, _, _ => Nat.zero_le _
  | a :: r, m, h, s => by
    obtain ⟨h1, h2⟩ := List.nodup_cons.mp h
    have hm : a ∈ m := s a List.mem_cons_self
    have := len_le_sub (l := r) (m := m.erase a) h2 fun x hx => (List.mem_erase_of_ne fun (e : x = a) => h1 (e ▸ hx)).mpr (s x (List.mem_cons_of_mem _ hx))
    have h4 := List.length_erase_of_mem hm
    have h5 := List.length_pos_of_mem hm
    rw [List.length_cons]
    omega
theorem mods_few {ns : List Int} {h T : Int} {j : Nat} (hl : (ns.length : Int) < T) (hj : j ≤ ns.length) (hm : ∀ k, k ≤ j → (h + (k : Nat)) % T ∈ ns) : j + 1 ≤ ns.length := by
  have nd : ((List.range (j + 1)).map fun k => (h + (k : Nat)) % T).Nodup := by
    unfold List.Nodup
    rw [List.pairwise_map, List.pairwise_iff_getElem]
    intro a b ha hb hab
    rw [List.length_range] at ha hb
    rw [List.getElem_range, List.getElem_range]
    exact mods_apart hab (by omega)
  have := len_le_sub nd fun x hx => by
    obtain ⟨k, hk, rfl⟩ := List.mem_map.mp hx
    exact hm k (by have := List.mem_range.mp hk; omega)
  rw [List.length_map, List.length_range] at this
  exact this
theorem shp_i (i : Int) : SeqAt.shaped (.int i) = true := by simp [SeqAt.shaped, PyData.canLay0, PyData.depth]
theorem pIn_ints {neg : Bool} {h : Int} {ns : List Int} : pIn neg (.int h) (.list (ns.map PyData.int)) = some (.bool (xor neg (decide (h ∈ ns)))) := by
  unfold pIn
  simp only []
  rw [if_pos ⟨shp_i h, (Shp.ok (n := 1) (shp_list.mpr fun d hd => by obtain ⟨i, _, rfl⟩ := List.mem_map.mp hd; exact shp_int) (by decide))⟩]
  have e : ((ns.map PyData.int).any fun z => PyData.eqv z (.int h)) = decide (h ∈ ns) := by
    rw [List.any_map]
    refine Bool.eq_iff_iff.mpr ?_
    simp only [List.any_eq_true, decide_eq_true_eq, Function.comp]
    constructor
    · rintro ⟨y, hy, e⟩
      rw [PyData.eqv, beq_iff_eq] at e
      exact e ▸ hy
    · intro hm
      exact ⟨h, hm, by rw [PyData.eqv]; exact beq_self_eq_true h⟩
  rw [e]
def hE (ds : List PyData) (m top : Int) (ns : List Int) (t : Sl) (h : Sl) : Ev := [.bw ds, .sh (.int m), .sh (.int top), .ow (ns.map PyData.int), t, h]
theorem hC_eq {ds : List PyData} {m top h : Int} {ns : List Int} {t : Sl} (ht : ∀ d, t ≠ .bw d) : (bScal (bB (eOp (pIn false) (eVar 5) (eVar 3)))) (hE ds m top ns t (.sh (.int h))) = some (decide (h ∈ ns), hE ds m top ns t (.sh (.int h))) := by
  have p : pIn false (.int h) (.list (ns.map PyData.int)) = some (.bool (decide (h ∈ ns))) := by
    rw [pIn_ints]
    simp
  show bScal _ _ = _
  simp [bScal, bB, eOp, eVar, hE, froz, frz1, bnd, put, p]
theorem hB_eq {ds : List PyData} {m top h : Int} {ns : List Int} {t : Sl} (h0 : 0 < top + 1) : (sSet 5 (xE (eOp pMod (eX (xOps pAdd (eVar 5) (eC (.int 1)))) (eX (xOps pAdd (eVar 2) (eC (.int 1))))))) (hE ds m top ns t (.sh (.int h))) = some (.nx (hE ds m top ns t (.sh (.int ((h + 1) % (top + 1)))))) := by
  show sSet _ _ _ = _
  simp [sSet, xE, eOp, eX, xOps, eVar, eC, hE, bnd, put, pAdd, pMod, pInt, bMod, h0]
theorem while_eq {ds : List PyData} {m top r : Int} {ns : List Int} {t : Sl} (ht : ∀ d, t ≠ .bw d) (hl : (ns.length : Int) < top + 1) : ∀ (f j : Nat), ns.length ≤ f + j → j ≤ ns.length → (∀ k, k < j → (r + (k : Nat)) % (top + 1) ∈ ns) →
    ∃ h, h ∉ ns ∧ 0 ≤ h ∧ h < top + 1 ∧ wloop (bScal (bB (eOp (pIn false) (eVar 5) (eVar 3)))) (sSet 5 (xE (eOp pMod (eX (xOps pAdd (eVar 5) (eC (.int 1)))) (eX (xOps pAdd (eVar 2) (eC (.int 1))))))) f (hE ds m top ns t (.sh (.int ((r + j) % (top + 1))))) = some (.nx (hE ds m top ns t (.sh (.int h))))
  | f, j, hf, hj, hk => by
    have m1 := Int.emod_nonneg (r + j) (show top + 1 ≠ 0 by omega)
    have m2 := Int.emod_lt_of_pos (r + j) (show 0 < top + 1 by omega)
    by_cases c : (r + j) % (top + 1) ∈ ns
    · have hall : ∀ k, k ≤ j → (r + (k : Nat)) % (top + 1) ∈ ns := fun k hkj => by
        by_cases z : k < j
        · exact hk k z
        · rw [show k = j by omega]; exact c
      have hj1 := mods_few hl hj hall
      cases f with
      | zero => omega
      | succ f =>
        obtain ⟨h, h1, h2, h3, h4⟩ := while_eq ht hl f (j + 1) (by omega) hj1 (fun k hk => hall k (by omega))
        refine ⟨h, h1, h2, h3, ?_⟩
        have e1 := hC_eq (ds := ds) (m := m) (top := top) (h := (r + j) % (top + 1)) (ns := ns) ht
        rw [decide_eq_true c] at e1
        have e2 := hB_eq (ds := ds) (m := m) (top := top) (h := (r + j) % (top + 1)) (ns := ns) (t := t) (by omega)
        rw [Int.emod_add_emod, show r + j + 1 = r + ((j + 1 : Nat) : Int) by omega] at e2
        unfold wloop
        rw [e1]
        simp only []
        rw [e2]
        exact h4
    · refine ⟨_, c, m1, m2, ?_⟩
      have e1 := hC_eq (ds := ds) (m := m) (top := top) (h := (r + j) % (top + 1)) (ns := ns) ht
      rw [decide_eq_false c] at e1
      cases f with
      | zero =>
        unfold wloop
        rw [e1]
      | succ f =>
        unfold wloop
        rw [e1]
theorem h_pick {ds ds2 : List PyData} {m r top : Int} {ns : List Int} {t h : Sl} (g : fn_law_pick ds [.int (top + 1)] = some (.sh (.int r), ds2)) :
    sSet 5 (xFnB 0 fn_law_pick (aCons (eX (xOps pAdd (eVar 2) (eC (.int 1)))) aNil)) (hE ds m top ns t h) = some (.nx (hE ds2 m top ns t (.sh (.int r)))) := by
  simp [sSet, xFnB, ownOf, aCons, aNil, eX, xOps, eVar, eC, bnd, put, pAdd, g, setOwn, hE]
theorem h_app {ds : List PyData} {m top h : Int} {ns : List Int} {t : Sl} (hl : ns.length ≤ 1000000) : sApp 3 (eVar 5) (hE ds m top ns t (.sh (.int h))) = some (.nx (hE ds m top (ns ++ [h]) t (.sh (.int h)))) := by
  simp [sApp, ownOf, eVar, bnd, hE, setOwn, sz_of hl]
theorem heights_eq {k m : Nat} {top : Int} {ds : List PyData} (t0 : 11 < top) (t1 : top + 1 < 1073741824) (hd : DeckOk k ds) (hk : k + 12 < 100000) (hm : m ≤ 12) : ∃ (ns : List Int) (ds' : List PyData), ns.length = m ∧ ns.Nodup ∧ DeckOk (k + 12) ds' ∧ fn_law_heights ds [.int (m : Int), .int top] = some (.sh (.tuple (ns.map PyData.int)), ds') := by
  obtain ⟨e', L1, ns, ds', t, h, rfl, h1, h2, h3⟩ := loop_range (fg := gN 4) (fb := sSeq (sSet 5 (xFnB 0 fn_law_pick (aCons (eX (xOps pAdd (eVar 2) (eC (.int 1)))) aNil))) (sSeq (wloop (bScal (bB (eOp (pIn false) (eVar 5) (eVar 3)))) (sSet 5 (xE (eOp pMod (eX (xOps pAdd (eVar 5) (eC (.int 1)))) (eX (xOps pAdd (eVar 2) (eC (.int 1))))))) 64) (sApp 3 (eVar 5))))
    (P := fun i e => ∃ (ns : List Int) (ds' : List PyData) (t h : Sl), e = hE ds' m top ns t h ∧ DeckOk (k + i) ds' ∧ ns.length = i ∧ ns.Nodup) m (fun i e hi hp => by
      obtain ⟨ns, ds', t, h, rfl, h1, h2, h3⟩ := hp
      obtain ⟨r, ds2, r0, r1, g1, g2⟩ := pick_eq h1 (by omega) (n := top + 1) (by omega) (by omega)
      obtain ⟨x, x1, x2, x3, x4⟩ := while_eq (ds := ds2) (m := m) (top := top) (r := r) (ns := ns) (t := .sh (.int i)) (fun d z => by cases z) (by omega) 64 0 (by omega) (by omega) (fun k hk => absurd hk (by omega))
      rw [show (r + ((0 : Nat) : Int)) % (top + 1) = r by rw [Int.emod_eq_of_lt] <;> omega] at x4
      refine ⟨hE ds' m top ns (.sh (.int i)) h, hE ds2 m top (ns ++ [x]) (.sh (.int i)) (.sh (.int x)), rfl, ?_, ns ++ [x], ds2, _, _, rfl, g1, ?_, ?_⟩
      · rw [seq_nx (h_pick g2), seq_nx x4]
        exact h_app (by omega)
      · rw [List.length_append, h2]
        rfl
      · exact List.nodup_append.mpr ⟨h3, by simp, fun a ha b hb e => x1 (by rw [← List.mem_singleton.mp hb, ← e]; exact ha)⟩) (hE ds m top [] .un .un) ⟨[], ds, _, _, rfl, hd, rfl, List.nodup_nil⟩
  refine ⟨ns, ds', h2, h3, h1.mono (by omega) (by omega), ?_⟩
  have e0 : bd_law_heights [.bw ds, .sh (.int m), .sh (.int top), .un, .un, .un] = some (.rt (.sh (.tuple (ns.map PyData.int))) ((hE ds' m top ns t h).set 3 (.sh (.list (ns.map PyData.int))))) := by
    have e2 : sSet 3 (xLst aNil) [.bw ds, .sh (.int m), .sh (.int top), .un, .un, .un] = some (.nx (hE ds m top [] .un .un)) := by simp [sSet, xLst, aNil, bnd, hE, sz]
    have e1 : sFor (iR1 (aCons (eVar 1) aNil)) (gN 4) (sSeq (sSet 5 (xFnB 0 fn_law_pick (aCons (eX (xOps pAdd (eVar 2) (eC (.int 1)))) aNil))) (sSeq (wloop (bScal (bB (eOp (pIn false) (eVar 5) (eVar 3)))) (sSet 5 (xE (eOp pMod (eX (xOps pAdd (eVar 5) (eC (.int 1)))) (eX (xOps pAdd (eVar 2) (eC (.int 1))))))) 64) (sApp 3 (eVar 5)))) (hE ds m top [] .un .un) = some (.nx (hE ds' m top ns t h)) := by
      have i1 : iR1 (aCons (eVar 1) aNil) (hE ds m top [] .un .un) = some (upto 0 m, hE ds m top [] .un .un) := iR1_nat (by simp [aCons, aNil, eVar, bnd, hE]) (by omega)
      rw [for_of i1]
      exact L1
    unfold bd_law_heights
    rw [seq_nx e2, seq_nx e1]
    simp [sRetX, xE, eCall, aCons, aNil, eVar, bnd, put, pTuple, hE]
  simp [fn_law_heights, fnB, e0, lentOf, hE]
theorem heights_eqB {k m : Nat} {top : Int} {ds : List PyData} (t0 : 11 < top) (t1 : top + 1 < 1073741824) (hd : DeckOk k ds) (hk : k + 12 < 100000) (hm : m ≤ 12) : ∃ (ns : List Int) (ds' : List PyData), ns.length = m ∧ ns.Nodup ∧ (∀ h ∈ ns, 0 ≤ h ∧ h ≤ top) ∧ DeckOk (k + 12) ds' ∧ fn_law_heights ds [.int (m : Int), .int top] = some (.sh (.tuple (ns.map PyData.int)), ds') := by
  obtain ⟨e', L1, ns, ds', t, h, rfl, h1, h2, h3, h5⟩ := loop_range (fg := gN 4) (fb := sSeq (sSet 5 (xFnB 0 fn_law_pick (aCons (eX (xOps pAdd (eVar 2) (eC (.int 1)))) aNil))) (sSeq (wloop (bScal (bB (eOp (pIn false) (eVar 5) (eVar 3)))) (sSet 5 (xE (eOp pMod (eX (xOps pAdd (eVar 5) (eC (.int 1)))) (eX (xOps pAdd (eVar 2) (eC (.int 1))))))) 64) (sApp 3 (eVar 5))))
    (P := fun i e => ∃ (ns : List Int) (ds' : List PyData) (t h : Sl), e = hE ds' m top ns t h ∧ DeckOk (k + i) ds' ∧ ns.length = i ∧ ns.Nodup ∧ ∀ h ∈ ns, 0 ≤ h ∧ h ≤ top) m (fun i e hi hp => by
      obtain ⟨ns, ds', t, h, rfl, h1, h2, h3, h5⟩ := hp
      obtain ⟨r, ds2, r0, r1, g1, g2⟩ := pick_eq h1 (by omega) (n := top + 1) (by omega) (by omega)
      obtain ⟨x, x1, x2, x3, x4⟩ := while_eq (ds := ds2) (m := m) (top := top) (r := r) (ns := ns) (t := .sh (.int i)) (fun d z => by cases z) (by omega) 64 0 (by omega) (by omega) (fun k hk => absurd hk (by omega))
      rw [show (r + ((0 : Nat) : Int)) % (top + 1) = r by rw [Int.emod_eq_of_lt] <;> omega] at x4
      refine ⟨hE ds' m top ns (.sh (.int i)) h, hE ds2 m top (ns ++ [x]) (.sh (.int i)) (.sh (.int x)), rfl, ?_, ns ++ [x], ds2, _, _, rfl, g1, ?_, ?_, fun a ha => (List.mem_append.mp ha).elim (h5 a) fun hb => by
          rw [List.mem_singleton.mp hb]
          omega⟩
      · rw [seq_nx (h_pick g2), seq_nx x4]
        exact h_app (by omega)
      · rw [List.length_append, h2]
        rfl
      · exact List.nodup_append.mpr ⟨h3, by simp, fun a ha b hb e => x1 (by rw [← List.mem_singleton.mp hb, ← e]; exact ha)⟩) (hE ds m top [] .un .un) ⟨[], ds, _, _, rfl, hd, rfl, List.nodup_nil, fun a ha => (by cases ha)⟩
  refine ⟨ns, ds', h2, h3, h5, h1.mono (by omega) (by omega), ?_⟩
  have e0 : bd_law_heights [.bw ds, .sh (.int m), .sh (.int top), .un, .un, .un] = some (.rt (.sh (.tuple (ns.map PyData.int))) ((hE ds' m top ns t h).set 3 (.sh (.list (ns.map PyData.int))))) := by
    have e2 : sSet 3 (xLst aNil) [.bw ds, .sh (.int m), .sh (.int top), .un, .un, .un] = some (.nx (hE ds m top [] .un .un)) := by simp [sSet, xLst, aNil, bnd, hE, sz]
    have e1 : sFor (iR1 (aCons (eVar 1) aNil)) (gN 4) (sSeq (sSet 5 (xFnB 0 fn_law_pick (aCons (eX (xOps pAdd (eVar 2) (eC (.int 1)))) aNil))) (sSeq (wloop (bScal (bB (eOp (pIn false) (eVar 5) (eVar 3)))) (sSet 5 (xE (eOp pMod (eX (xOps pAdd (eVar 5) (eC (.int 1)))) (eX (xOps pAdd (eVar 2) (eC (.int 1))))))) 64) (sApp 3 (eVar 5)))) (hE ds m top [] .un .un) = some (.nx (hE ds' m top ns t h)) := by
      have i1 : iR1 (aCons (eVar 1) aNil) (hE ds m top [] .un .un) = some (upto 0 m, hE ds m top [] .un .un) := iR1_nat (by simp [aCons, aNil, eVar, bnd, hE]) (by omega)
      rw [for_of i1]
      exact L1
    unfold bd_law_heights
    rw [seq_nx e2, seq_nx e1]
    simp [sRetX, xE, eCall, aCons, aNil, eVar, bnd, put, pTuple, hE]
  simp [fn_law_heights, fnB, e0, lentOf, hE]
end VM
end
section
set_option Elab.async false
set_option linter.all false
set_option maxRecDepth 100000
set_option maxHeartbeats 4000000
namespace VM
open PySem VL VG L2
/-! ### pieces -/
section
variable {e e1 e2 e3 : Ev}
theorem op_ev {g : PyData → PyData → Option PyData} {fa fb : M PyData} {a b d : PyData} (ha : fa e = some (a, e1)) (hb : fb e1 = some (b, e2)) (hg : g a b = some d) : eOp g fa fb e = some (d, e2) := by
  unfold eOp
  rw [ha]
  simp only [bnd]
  rw [hb]
  simp only [hg, put]
theorem bB_ev {f : M PyData} {b : Bool} (h : f e = some (.bool b, e1)) : bB f e = some (b, e1) := by
  unfold bB
  rw [h]
  rfl
theorem x_ow {f : M Sl} {ds : List PyData} (h : f e = some (.ow ds, e1)) : eX f e = some (.list ds, e1) := by
  unfold eX
  rw [h]
  rfl
theorem x_sh {f : M Sl} {d : PyData} (h : f e = some (.sh d, e1)) : eX f e = some (d, e1) := by
  unfold eX
  rw [h]
  rfl
theorem xE_ev {f : M PyData} {d : PyData} (h : f e = some (d, e1)) : xE f e = some (.sh d, e1) := by
  unfold xE
  rw [h]
  rfl
theorem lst0 : eX (xLst aNil) e = some (.list [], e) := rfl
theorem set_ev {i : Nat} {f : M Sl} {x : Sl} (h : f e = some (x, e1)) : sSet i f e = some (.nx (e1.set i x)) := by
  unfold sSet
  rw [h]
  rfl
theorem if_ev {c : M Bool} {f g : Ev → Option Out} {b : Bool} (h : c e = some (b, e1)) : sIf c f g e = if b = true then f e1 else g e1 := by
  unfold sIf
  rw [h]
  rfl
theorem if_t {c : M Bool} {f g : Ev → Option Out} (h : c e = some (true, e1)) : sIf c f g e = f e1 := if_ev h
theorem if_f {c : M Bool} {f g : Ev → Option Out} (h : c e = some (false, e1)) : sIf c f g e = g e1 := if_ev h
theorem ret_ev {f : M Sl} {x : Sl} (h : f e = some (x, e1)) : sRetX f e = some (.rt x e1) := by
  unfold sRetX
  rw [h]
  rfl
theorem fn_ev {F : List PyData → Option Sl} {fa : M (List PyData)} {ds : List PyData} {x : Sl} (h : fa e = some (ds, e1)) (hF : F ds = some x) : xFn F fa e = some (x, e1) := by
  unfold xFn
  rw [h]
  simp only [bnd, hF, put]
theorem tup2_ev {fa fb : M PyData} {a b : PyData} (ha : fa e = some (a, e1)) (hb : fb e1 = some (b, e2)) : eTup (aCons fa (aCons fb aNil)) e = some (.tuple [a, b], e2) := by
  unfold eTup aCons
  rw [ha]
  simp only [bnd]
  rw [hb]
  rfl
theorem fnS_rt {n m : Nat} {f : Ev → Option Out} {ds : List PyData} {x : Sl} (hl : ds.length = n) (h : f (ds.map Sl.sh ++ List.replicate m .un) = some (.rt x e1)) : fnS n m f ds = some x := by
  unfold fnS
  rw [if_pos hl, h]
theorem fnS_nx {n m : Nat} {f : Ev → Option Out} {ds : List PyData} (hl : ds.length = n) (h : f (ds.map Sl.sh ++ List.replicate m .un) = some (.nx e1)) : fnS n m f ds = some (.sh .none) := by
  unfold fnS
  rw [if_pos hl, h]
theorem app_ev {i : Nat} {f : M PyData} {d : PyData} {ds ds' : List PyData} (h0 : ownOf e[i]? = some ds') (h : f e = some (d, e1)) (h1 : ownOf e1[i]? = some ds) (hz : ds.length ≤ 1000000) : sApp i f e = some (.nx (setOwn e1 i (ds ++ [d]))) := by
  unfold sApp
  rw [h0]
  simp only []
  rw [h]
  simp only [bnd]
  rw [h1]
  simp only []
  rw [if_pos (sz_of hz)]
end
/-! ### comprehensions -/
section
variable {α : Type} {fg : PyData → Ev → Option Ev} {ft : M Bool} {fe : M PyData} {vs : List Nat} {e0 : Ev} {D : α → PyData} {E1 : α → Ev} {b : α → Bool} {y : α → PyData}
theorem cloop_eq : ∀ xs : List α, (∀ x ∈ xs, fg (D x) e0 = some (E1 x)) → (∀ x ∈ xs, ft (E1 x) = some (b x, E1 x)) → (∀ x ∈ xs, b x = true → fe (E1 x) = some (y x, E1 x)) → (∀ x ∈ xs, wipeE vs (E1 x) = e0) →
    cloop fg ft fe vs (xs.map D) e0 = some ((xs.filter b).map y, e0)
  | [], _, _, _, _ => rfl
  | x :: xs, h1, h2, h3, h4 => by
    have ih := cloop_eq xs (fun z hz => h1 z (List.mem_cons_of_mem _ hz)) (fun z hz => h2 z (List.mem_cons_of_mem _ hz)) (fun z hz => h3 z (List.mem_cons_of_mem _ hz)) (fun z hz => h4 z (List.mem_cons_of_mem _ hz))
    have g1 := h1 x List.mem_cons_self
    have g2 := h2 x List.mem_cons_self
    have g3 := h3 x List.mem_cons_self
    have g4 := h4 x List.mem_cons_self
    rw [List.map_cons, cloop, g1]
    simp only []
    rw [g2]
    cases hb : b x with
    | true =>
      simp only [bnd, if_true]
      rw [g3 hb]
      simp only [bnd]
      rw [g4, ih]
      simp [hb]
    | false =>
      simp only [bnd]
      rw [if_neg (by decide), g4, ih]
      simp [hb]
theorem lc_eq {fi : M (List PyData)} {e e1 e3 : Ev} {ds : List PyData} {xs : List α} (h0 : fi e = some (ds, e1)) (hd : ds = xs.map D) (hl : xs.length ≤ 1000000) (hw : wipeE vs e1 = e0) (hr : rest e1 vs e0 = some e3)
    (h1 : ∀ x ∈ xs, fg (D x) e0 = some (E1 x)) (h2 : ∀ x ∈ xs, ft (E1 x) = some (b x, E1 x)) (h3 : ∀ x ∈ xs, b x = true → fe (E1 x) = some (y x, E1 x)) (h4 : ∀ x ∈ xs, wipeE vs (E1 x) = e0) :
    xLc fi fg ft fe vs e = some (.ow ((xs.filter b).map y), e3) := by
  have c := cloop_eq (vs := vs) (D := D) xs h1 h2 h3 h4
  unfold xLc
  rw [h0]
  simp only [bnd]
  rw [hd, hw, c]
  simp only []
  rw [if_pos (sz_of (by rw [List.length_map]; exact Nat.le_trans (List.length_filter_le _ _) hl)), hr]
end
theorem upto_map (a : Int) : ∀ n : Nat, upto a n = (List.range n).map fun k : Nat => PyData.int (a + (k : Int))
  | 0 => rfl
  | n + 1 => by
    rw [List.range_succ_eq_map, List.map_cons, List.map_map, upto, upto_map (a + 1) n]
    congr 1
    · simp
    · refine List.map_congr_left fun k _ => ?_
      show PyData.int _ = PyData.int _
      congr 1
      show a + 1 + (k : Int) = a + ((k + 1 : Nat) : Int)
      omega
/-! ### places -/
theorem at_map {ns : List Int} {i : Nat} (h : i < ns.length) : atI (ns.map PyData.int) (i : Int) = some (.int (at0 ns i)) := by
  refine atI_nat ?_
  rw [List.getElem?_map, at0_of h]
  rfl
theorem cut_mid {ns : List Int} {i j : Nat} (h1 : i < j) (h2 : j ≤ ns.length) : cutD (ns.map PyData.int) (some ((i : Int) + 1)) (some (j : Int)) = (mid ns i j).map PyData.int := by
  unfold cutD mid
  rw [show (i : Int) + 1 = ((i + 1 : Nat) : Int) by omega, HT.sIx_nat, HT.sIx_nat, List.length_map, Nat.min_eq_left (show i + 1 ≤ ns.length by omega), Nat.min_eq_left h2, List.map_take, List.map_drop]
theorem shp_ints (ns : List Int) : SeqAt.shaped (.list (ns.map PyData.int)) = true := Shp.ok (n := 1) (shp_list.mpr fun d hd => by obtain ⟨i, _, rfl⟩ := List.mem_map.mp hd; exact shp_int) (by decide)
theorem eqv_nil (ds : List PyData) : PyData.eqv (.list ds) (.list []) = ds.isEmpty := by
  cases ds with
  | nil => simp [PyData.eqv, PyData.eqvAll]
  | cons a r => simp [PyData.eqv, PyData.eqvAll]
theorem pEq_nil {ds : List PyData} (h : SeqAt.shaped (.list ds) = true) : pEq (.list ds) (.list []) = some (.bool ds.isEmpty) := by
  unfold pEq
  rw [if_pos ⟨h, by decide⟩, eqv_nil]
/-! ### sights as the law looks for them -/
theorem mem_mid {ns : List Int} {i j : Nat} {h : Int} (hm : h ∈ mid ns i j) : ∃ k, i < k ∧ k < j ∧ ns[k]? = some h := by
  unfold mid at hm
  obtain ⟨m, hm⟩ := List.mem_iff_getElem?.mp hm
  rw [List.getElem?_take] at hm
  split at hm
  · rw [List.getElem?_drop] at hm
    exact ⟨i + 1 + m, by omega, by omega, hm⟩
  · cases hm
theorem sees_law {ns : List Int} (hn : ns.Nodup) {i j : Nat} (h1 : i < j) (h2 : j < ns.length) : ((mid ns i j).filter fun h => decide (lower ns i j < h)).isEmpty = sees ns i j := by
  have key : ∀ h ∈ mid ns i j, decide (h < lower ns i j) = !decide (lower ns i j < h) := fun h hm => by
    obtain ⟨k, k1, k2, hk⟩ := mem_mid hm
    have hk' := at0_of (show k < ns.length by omega)
    rw [hk] at hk'
    have hk' := Option.some.inj hk'
    have n1 : h ≠ at0 ns i := fun e => by
      have := at0_inj hn (show k < ns.length by omega) (show i < ns.length by omega) (by rw [← hk']; exact e)
      omega
    have n2 : h ≠ at0 ns j := fun e => by
      have := at0_inj hn (show k < ns.length by omega) h2 (by rw [← hk']; exact e)
      omega
    have n3 : h ≠ lower ns i j := by
      unfold lower
      split <;> assumption
    by_cases c : h < lower ns i j
    · rw [decide_eq_true c, decide_eq_false (by omega)]
      rfl
    · rw [decide_eq_false c, decide_eq_true (by omega)]
      rfl
  unfold sees
  rw [Bool.eq_iff_iff, List.isEmpty_iff, List.filter_eq_nil_iff, List.all_eq_true]
  constructor
  · intro h x hx
    rw [key x hx]
    have := h x hx
    simpa using this
  · intro h x hx
    have := h x hx
    rw [key x hx] at this
    simpa using this
def sE (ns : List Int) (F : List PyData) (a b c : Sl) : Ev := [.sh (.tuple (ns.map PyData.int)), .ow F, a, b, c, .un]
theorem s_low {ns : List Int} {F : List PyData} {i j : Nat} {c : Sl} (hi : i < ns.length) (hj : j < ns.length) :
    sSet 4 (xE (eCall pMin2 (aCons (eIxV 0 (eVar 2)) (aCons (eIxV 0 (eVar 3)) aNil)))) (sE ns F (.sh (.int i)) (.sh (.int j)) c) = some (.nx (sE ns F (.sh (.int i)) (.sh (.int j)) (.sh (.int (lower ns i j))))) := by
  simp [sSet, xE, eCall, aCons, aNil, eIxV, seqOf, eVar, bnd, put, pMin2, sE, at_map hi, at_map hj, lower]
theorem s_lc {ns : List Int} {F : List PyData} {i j : Nat} {l : Int} (hij : i < j) (hj : j < ns.length) (hl : ns.length ≤ 12) :
    xLc (iAny (eX (xSl (eVar 0) (oSome (eX (xOps pAdd (eVar 2) (eC (.int 1))))) (oSome (eVar 3))))) (gN 5) (bB (eOp pGt (eVar 5) (eVar 4))) (eVar 5) [5] (sE ns F (.sh (.int i)) (.sh (.int j)) (.sh (.int l))) =
      some (.ow (((mid ns i j).filter fun h => decide (l < h)).map PyData.int), sE ns F (.sh (.int i)) (.sh (.int j)) (.sh (.int l))) := by
  have h0 : iAny (eX (xSl (eVar 0) (oSome (eX (xOps pAdd (eVar 2) (eC (.int 1))))) (oSome (eVar 3)))) (sE ns F (.sh (.int i)) (.sh (.int j)) (.sh (.int l))) = some ((mid ns i j).map PyData.int, sE ns F (.sh (.int i)) (.sh (.int j)) (.sh (.int l))) := by
    simp [iAny, eX, xSl, eVar, oSome, xOps, eC, bnd, put, pAdd, pSl, seqD, sE, cut_mid hij (Nat.le_of_lt hj)]
  have hm : (mid ns i j).length ≤ 1000000 := by
    unfold mid
    rw [List.length_take, List.length_drop]
    omega
  exact lc_eq (D := PyData.int) (E1 := fun h => [.sh (.tuple (ns.map PyData.int)), .ow F, .sh (.int i), .sh (.int j), .sh (.int l), .sh (.int h)]) (b := fun h => decide (l < h)) (y := PyData.int) h0 rfl hm rfl rfl (fun _ _ => rfl)
    (fun x _ => by simp [bB, eOp, eVar, bnd, put, pGt, pInt, yes2]) (fun x _ _ => by simp [eVar]) (fun _ _ => rfl)
theorem s_turn {ns : List Int} (hn : ns.Nodup) {F : List PyData} {i j : Nat} {c : Sl} (hij : i < j) (hj : j < ns.length) (hl : ns.length ≤ 12) (hF : F.length ≤ 1000000) :
    (sSeq (sSet 4 (xE (eCall pMin2 (aCons (eIxV 0 (eVar 2)) (aCons (eIxV 0 (eVar 3)) aNil))))) (sIf (bB (eOp pEq (eX (xLc (iAny (eX (xSl (eVar 0) (oSome (eX (xOps pAdd (eVar 2) (eC (.int 1))))) (oSome (eVar 3))))) (gN 5) (bB (eOp pGt (eVar 5) (eVar 4))) (eVar 5) [5])) (eX (xLst aNil)))) (sApp 1 (eTup (aCons (eVar 2) (aCons (eVar 3) aNil)))) sNil)) (sE ns F (.sh (.int i)) (.sh (.int j)) c) =
      some (.nx (sE ns (if sees ns i j = true then F ++ [pairD (i, j)] else F) (.sh (.int i)) (.sh (.int j)) (.sh (.int (lower ns i j))))) := by
  rw [seq_nx (s_low (by omega) hj)]
  have p := pEq_nil (shp_ints ((mid ns i j).filter fun h => decide (lower ns i j < h)))
  have q : (((mid ns i j).filter fun h => decide (lower ns i j < h)).map PyData.int).isEmpty = sees ns i j := by
    rw [List.isEmpty_map, sees_law hn hij hj]
  rw [q] at p
  have t : bB (eOp pEq (eX (xLc (iAny (eX (xSl (eVar 0) (oSome (eX (xOps pAdd (eVar 2) (eC (.int 1))))) (oSome (eVar 3))))) (gN 5) (bB (eOp pGt (eVar 5) (eVar 4))) (eVar 5) [5])) (eX (xLst aNil))) (sE ns F (.sh (.int i)) (.sh (.int j)) (.sh (.int (lower ns i j)))) = some (sees ns i j, sE ns F (.sh (.int i)) (.sh (.int j)) (.sh (.int (lower ns i j)))) := by
    exact bB_ev (op_ev (x_ow (s_lc hij hj hl)) lst0 p)
  rw [if_ev t]
  cases sees ns i j with
  | true =>
    rw [if_pos rfl, if_pos rfl]
    exact app_ev (i := 1) (ds := F) (ds' := F) (e1 := sE ns F (.sh (.int i)) (.sh (.int j)) (.sh (.int (lower ns i j)))) rfl (tup2_ev rfl rfl) rfl hF
  | false =>
    rw [if_neg (by decide), if_neg (by decide)]
    rfl
end VM
end
section
set_option Elab.async false
set_option linter.all false
set_option maxRecDepth 100000
set_option maxHeartbeats 4000000
namespace VM
open PySem VL VG L2
theorem len_ev {i : Nat} {e : Ev} {ns : List Int} (h : e[i]? = some (.sh (.tuple (ns.map PyData.int)))) : eCall pLen (aCons (eVar i) aNil) e = some (.int (ns.length : Nat), e) := by
  simp [eCall, aCons, aNil, eVar, h, bnd, put, pLen]
theorem row_eq {ns : List Int} (hn : ns.Nodup) (hl : ns.length ≤ 12) {i : Nat} (hi : i < ns.length) {b c : Sl} : ∃ b' c', sFor (iR2 (aCons (eX (xOps pAdd (eVar 2) (eC (.int 1)))) (aCons (eCall pLen (aCons (eVar 0) aNil)) aNil))) (gN 3) (sSeq (sSet 4 (xE (eCall pMin2 (aCons (eIxV 0 (eVar 2)) (aCons (eIxV 0 (eVar 3)) aNil))))) (sIf (bB (eOp pEq (eX (xLc (iAny (eX (xSl (eVar 0) (oSome (eX (xOps pAdd (eVar 2) (eC (.int 1))))) (oSome (eVar 3))))) (gN 5) (bB (eOp pGt (eVar 5) (eVar 4))) (eVar 5) [5])) (eX (xLst aNil)))) (sApp 1 (eTup (aCons (eVar 2) (aCons (eVar 3) aNil)))) sNil)) (sE ns ((seenTo ns i).map pairD) (.sh (.int i)) b c) =
    some (.nx (sE ns ((seenTo ns (i + 1)).map pairD) (.sh (.int i)) b' c')) := by
  have a1 : aCons (eX (xOps pAdd (eVar 2) (eC (.int 1)))) (aCons (eCall pLen (aCons (eVar 0) aNil)) aNil) (sE ns ((seenTo ns i).map pairD) (.sh (.int i)) b c) = some ([.int ((i : Int) + 1), .int (ns.length : Nat)], sE ns ((seenTo ns i).map pairD) (.sh (.int i)) b c) := by
    simp [aCons, aNil, eX, xOps, eVar, eC, bnd, put, pAdd, eCall, pLen, sE]
  have r1 := iR2_eq a1 ⟨inR_int (by omega) (by omega), inR_nat (by omega)⟩
  rw [for_of r1]
  rw [show ((ns.length : Int) - ((i : Int) + 1)).toNat = ns.length - (i + 1) by omega]
  obtain ⟨e', L1, b', c', rfl⟩ := loop_upto (fg := gN 3) (fb := sSeq (sSet 4 (xE (eCall pMin2 (aCons (eIxV 0 (eVar 2)) (aCons (eIxV 0 (eVar 3)) aNil))))) (sIf (bB (eOp pEq (eX (xLc (iAny (eX (xSl (eVar 0) (oSome (eX (xOps pAdd (eVar 2) (eC (.int 1))))) (oSome (eVar 3))))) (gN 5) (bB (eOp pGt (eVar 5) (eVar 4))) (eVar 5) [5])) (eX (xLst aNil)))) (sApp 1 (eTup (aCons (eVar 2) (aCons (eVar 3) aNil)))) sNil))
    (P := fun k e => ∃ b c, e = sE ns ((seenTo ns i ++ rowTo ns i k).map pairD) (.sh (.int i)) b c) (ns.length - (i + 1)) ((i : Int) + 1) 0 (fun k e _ hk hp => by
      obtain ⟨b, c, rfl⟩ := hp
      have hF : ((seenTo ns i ++ rowTo ns i k).map pairD).length ≤ 1000000 := by
        rw [List.length_map, List.length_append]
        have h1 := seenTo_len ns hl i
        have h2 := rowTo_len ns i k
        omega
      refine ⟨sE ns ((seenTo ns i ++ rowTo ns i k).map pairD) (.sh (.int i)) (.sh (.int ((i + 1 + k : Nat) : Int))) c, _, ?_, s_turn hn (show i < i + 1 + k by omega) (by omega) hl hF, .sh (.int ((i + 1 + k : Nat) : Int)), .sh (.int (lower ns i (i + 1 + k))), ?_⟩
      · rw [show (i : Int) + 1 + ((k - 0 : Nat) : Int) = ((i + 1 + k : Nat) : Int) by omega]
        rfl
      · rw [rowTo_succ]
        split
        · rw [← List.append_assoc, List.map_append (l₂ := [(i, i + 1 + k)])]
          rfl
        · rfl) (sE ns ((seenTo ns i).map pairD) (.sh (.int i)) b c) ⟨b, c, by rw [show rowTo ns i 0 = [] from rfl, List.append_nil]⟩
  refine ⟨b', c', ?_⟩
  rw [L1, Nat.zero_add, seenTo_succ]
theorem seen_fn {ns : List Int} (hn : ns.Nodup) (hl : ns.length ≤ 12) : fn_law_seen [.tuple (ns.map PyData.int)] = some (.sh (lotD (seen ns))) := by
  have s0 : sSet 1 (xLst aNil) [.sh (.tuple (ns.map PyData.int)), .un, .un, .un, .un, .un] = some (.nx (sE ns [] .un .un .un)) := rfl
  obtain ⟨e', L1, a', b', c', rfl⟩ := loop_range (fg := gN 2) (fb := sFor (iR2 (aCons (eX (xOps pAdd (eVar 2) (eC (.int 1)))) (aCons (eCall pLen (aCons (eVar 0) aNil)) aNil))) (gN 3) (sSeq (sSet 4 (xE (eCall pMin2 (aCons (eIxV 0 (eVar 2)) (aCons (eIxV 0 (eVar 3)) aNil))))) (sIf (bB (eOp pEq (eX (xLc (iAny (eX (xSl (eVar 0) (oSome (eX (xOps pAdd (eVar 2) (eC (.int 1))))) (oSome (eVar 3))))) (gN 5) (bB (eOp pGt (eVar 5) (eVar 4))) (eVar 5) [5])) (eX (xLst aNil)))) (sApp 1 (eTup (aCons (eVar 2) (aCons (eVar 3) aNil)))) sNil)))
    (P := fun i e => ∃ a b c, e = sE ns ((seenTo ns i).map pairD) a b c) ns.length (fun i e hi hp => by
      obtain ⟨a, b, c, rfl⟩ := hp
      obtain ⟨b', c', h⟩ := row_eq hn hl hi (b := b) (c := c)
      exact ⟨sE ns ((seenTo ns i).map pairD) (.sh (.int i)) b c, _, rfl, h, _, b', c', rfl⟩) (sE ns [] .un .un .un) ⟨_, _, _, rfl⟩
  have i1 : iR1 (aCons (eCall pLen (aCons (eVar 0) aNil)) aNil) (sE ns [] .un .un .un) = some (upto 0 ns.length, sE ns [] .un .un .un) := iR1_nat (by simp [aCons, aNil, eVar, bnd, eCall, put, pLen, sE]) (by omega)
  have e0 : bd_law_seen [.sh (.tuple (ns.map PyData.int)), .un, .un, .un, .un, .un] = some (.rt (.sh (lotD (seen ns))) ((sE ns ((seenTo ns ns.length).map pairD) a' b' c').set 1 (.sh (.list ((seenTo ns ns.length).map pairD))))) := by
    unfold bd_law_seen
    rw [seq_nx s0, seq_nx ((for_of i1).trans L1)]
    simp [sRetX, xE, eCall, aCons, aNil, eVar, bnd, put, pTuple, sE, lotD, seen]
  exact fnS_rt (n := 1) (m := 5) rfl e0
end VM
end
section
set_option Elab.async false
set_option linter.all false
set_option maxRecDepth 100000
set_option maxHeartbeats 4000000
namespace VM
open PySem VL VG L2
abbrev Lot := List (Nat × Nat)
theorem call1_ev {g : List PyData → Option PyData} {fa : M PyData} {a d : PyData} {e e1 : Ev} (ha : fa e = some (a, e1)) (hg : g [a] = some d) : eCall g (aCons fa aNil) e = some (d, e1) := by
  unfold eCall aCons
  rw [ha]
  simp only [bnd, aNil, hg, put]
/-! ### lots -/
structure LotOk (m : Nat) (L : List (Nat × Nat)) : Prop where
  s : L.Pairwise ltPair
  w : ∀ p ∈ L, p.1 < p.2 ∧ p.2 < m
theorem eqv_pair (p : Nat × Nat) (x y : Nat) : PyData.eqv (pairD p) (.tuple [.int (x : Int), .int (y : Int)]) = decide (p = (x, y)) := by
  obtain ⟨a, b⟩ := p
  simp only [pairD, PyData.eqv, PyData.eqvAll, Bool.and_true]
  rw [Bool.eq_iff_iff, Bool.and_eq_true, beq_iff_eq, beq_iff_eq, decide_eq_true_eq, Prod.mk.injEq]
  omega
theorem any_pair (L : List (Nat × Nat)) (x y : Nat) : ((L.map pairD).any fun z => PyData.eqv z (.tuple [.int (x : Int), .int (y : Int)])) = decide ((x, y) ∈ L) := by
  rw [List.any_map, Bool.eq_iff_iff, List.any_eq_true, decide_eq_true_eq]
  constructor
  · rintro ⟨p, hp, e⟩
    have e : PyData.eqv (pairD p) (.tuple [.int (x : Int), .int (y : Int)]) = true := e
    rw [eqv_pair, decide_eq_true_eq] at e
    rw [← e]
    exact hp
  · intro h
    refine ⟨(x, y), h, ?_⟩
    show PyData.eqv (pairD (x, y)) (.tuple [.int (x : Int), .int (y : Int)]) = true
    rw [eqv_pair, decide_eq_true rfl]
theorem in_lot {neg : Bool} {L : List (Nat × Nat)} {x y : Nat} {a b : Int} (ha : a = (x : Int)) (hb : b = (y : Int)) : pIn neg (.tuple [.int a, .int b]) (lotD L) = some (.bool (xor neg (decide ((x, y) ∈ L)))) := by
  subst ha hb
  unfold pIn lotD
  simp only []
  rw [if_pos ⟨Shp.ok (n := 1) (shp_pair (x, y)) (by decide), Shp.ok (n := 2) (shp_lot L) (by decide)⟩, any_pair]
section
variable {α β : Type} {fg fg1 : PyData → Ev → Option Ev} {fi1 : M (List PyData)} {ft1 : M Bool} {fe : M PyData} {vs vs1 : List Nat} {e0 : Ev} {D : α → PyData} {D1 : β → PyData} {E1 : α → Ev} {E2 : α → β → Ev} {ys : α → List β} {b : α → β → Bool} {y : α → β → PyData}
theorem cloop2_eq : ∀ xs : List α, (∀ x ∈ xs, fg (D x) e0 = some (E1 x)) → (∀ x ∈ xs, fi1 (E1 x) = some ((ys x).map D1, E1 x)) → (∀ x ∈ xs, wipeE vs1 (E1 x) = E1 x) → (∀ x ∈ xs, wipeE vs (E1 x) = e0) →
    (∀ x ∈ xs, ∀ z ∈ ys x, fg1 (D1 z) (E1 x) = some (E2 x z)) → (∀ x ∈ xs, ∀ z ∈ ys x, ft1 (E2 x z) = some (b x z, E2 x z)) → (∀ x ∈ xs, ∀ z ∈ ys x, b x z = true → fe (E2 x z) = some (y x z, E2 x z)) → (∀ x ∈ xs, ∀ z ∈ ys x, wipeE vs1 (E2 x z) = E1 x) →
    cloop2 fg bYes fi1 fg1 ft1 fe vs vs1 (xs.map D) e0 = some (xs.flatMap fun x => ((ys x).filter (b x)).map (y x), e0)
  | [], _, _, _, _, _, _, _, _ => rfl
  | x :: xs, h1, h2, h3, h4, h5, h6, h7, h8 => by
    have ih := cloop2_eq xs (fun z hz => h1 z (List.mem_cons_of_mem _ hz)) (fun z hz => h2 z (List.mem_cons_of_mem _ hz)) (fun z hz => h3 z (List.mem_cons_of_mem _ hz)) (fun z hz => h4 z (List.mem_cons_of_mem _ hz)) (fun z hz => h5 z (List.mem_cons_of_mem _ hz)) (fun z hz => h6 z (List.mem_cons_of_mem _ hz)) (fun z hz => h7 z (List.mem_cons_of_mem _ hz)) (fun z hz => h8 z (List.mem_cons_of_mem _ hz))
    have hm : x ∈ x :: xs := List.mem_cons_self
    have c := cloop_eq (vs := vs1) (D := D1) (ys x) (h5 x hm) (h6 x hm) (h7 x hm) (h8 x hm)
    rw [List.map_cons, cloop2, h1 x hm]
    simp only [bYes, bnd, if_true]
    rw [h2 x hm]
    simp only []
    rw [h3 x hm, c]
    simp only []
    rw [h4 x hm, ih]
    rfl
theorem lc2_eq {fi : M (List PyData)} {e e1 e3 : Ev} {ds : List PyData} {xs : List α} (h0 : fi e = some (ds, e1)) (hd : ds = xs.map D) (hl : (xs.flatMap fun x => ((ys x).filter (b x)).map (y x)).length ≤ 1000000) (hw : wipeE vs e1 = e0) (hr : rest e1 vs e0 = some e3)
    (h1 : ∀ x ∈ xs, fg (D x) e0 = some (E1 x)) (h2 : ∀ x ∈ xs, fi1 (E1 x) = some ((ys x).map D1, E1 x)) (h3 : ∀ x ∈ xs, wipeE vs1 (E1 x) = E1 x) (h4 : ∀ x ∈ xs, wipeE vs (E1 x) = e0)
    (h5 : ∀ x ∈ xs, ∀ z ∈ ys x, fg1 (D1 z) (E1 x) = some (E2 x z)) (h6 : ∀ x ∈ xs, ∀ z ∈ ys x, ft1 (E2 x z) = some (b x z, E2 x z)) (h7 : ∀ x ∈ xs, ∀ z ∈ ys x, b x z = true → fe (E2 x z) = some (y x z, E2 x z)) (h8 : ∀ x ∈ xs, ∀ z ∈ ys x, wipeE vs1 (E2 x z) = E1 x) :
    xLc2 fi fg bYes fi1 fg1 ft1 fe vs vs1 e = some (.ow (xs.flatMap fun x => ((ys x).filter (b x)).map (y x)), e3) := by
  have c := cloop2_eq (vs := vs) (vs1 := vs1) (D := D) (D1 := D1) xs h1 h2 h3 h4 h5 h6 h7 h8
  unfold xLc2
  rw [h0]
  simp only [bnd]
  rw [hd, hw, c]
  simp only []
  rw [if_pos (sz_of hl), hr]
end
theorem flat_len {α β : Type} {f : α → List β} {n : Nat} : ∀ xs : List α, (∀ x ∈ xs, (f x).length ≤ n) → (xs.flatMap f).length ≤ xs.length * n
  | [], _ => Nat.zero_le _
  | x :: xs, h => by
    rw [List.flatMap_cons, List.length_append, List.length_cons, Nat.add_mul, Nat.one_mul]
    have h1 := h x List.mem_cons_self
    have h2 := flat_len xs fun z hz => h z (List.mem_cons_of_mem _ hz)
    omega
theorem andT_ev {fa fb : M PyData} {a b : Bool} {e : Ev} (ha : fa e = some (.bool a, e)) (hb : fb e = some (.bool b, e)) : eAndT fa fb e = some (.bool (a && b), e) := by
  unfold eAndT
  rw [ha]
  cases a
  · rfl
  · simp only [bnd, pTru, hb, Bool.true_and]
theorem and_ev {f g : M Bool} {a b : Bool} {e : Ev} (hf : f e = some (a, e)) (hg : g e = some (b, e)) : bAnd f g e = some (a && b, e) := by
  unfold bAnd
  rw [hf]
  cases a
  · rfl
  · simp only [bnd, if_true, Bool.true_and, hg]
theorem notT_ev {f : M PyData} {b : Bool} {e e1 : Ev} (h : f e = some (.bool b, e1)) : bNot (bTru f) e = some (!b, e1) := by
  unfold bNot bTru
  rw [h]
  rfl
theorem gt_ev {fa fb : M PyData} {a b : Int} {e : Ev} {c : Bool} (ha : fa e = some (.int a, e)) (hb : fb e = some (.int b, e)) (hc : decide (b < a) = c) : bB (eOp pGt fa fb) e = some (c, e) := bB_ev (op_ev ha hb (by rw [← hc]; rfl))
theorem lt_ev {fa fb : M PyData} {a b : Int} {e : Ev} {c : Bool} (ha : fa e = some (.int a, e)) (hb : fb e = some (.int b, e)) (hc : decide (a < b) = c) : bB (eOp pLt fa fb) e = some (c, e) := bB_ev (op_ev ha hb (by rw [← hc]; rfl))
theorem dec_iff {p q : Prop} [Decidable p] [Decidable q] (h : p ↔ q) : decide p = decide q := decide_eq_decide.mpr h
theorem ops_ev {g : PyData → PyData → Option Sl} {fa fb : M PyData} {a b : PyData} {x : Sl} {e e1 e2 : Ev} (ha : fa e = some (a, e1)) (hb : fb e1 = some (b, e2)) (hg : g a b = some x) : xOps g fa fb e = some (x, e2) := by
  unfold xOps
  rw [ha]
  simp only [bnd]
  rw [hb]
  simp only [hg, put]
theorem cat_ev {xs ys : List PyData} (h : xs.length + ys.length ≤ 1000000) : pAdd (.list xs) (.list ys) = some (.ow (xs ++ ys)) := by
  unfold pAdd
  simp only []
  rw [if_pos (sz_of h)]
theorem loop_mapN {α : Type} {fg : PyData → Ev → Option Ev} {fb : Ev → Option Out} {D : α → PyData} {P : List α → Ev → Prop} (N : Nat) : ∀ (xs pre : List α), pre.length + xs.length ≤ N → (∀ pre x e, x ∈ xs → pre.length < N → P pre e → ∃ e1 e2, fg (D x) e = some e1 ∧ fb e1 = some (.nx e2) ∧ P (pre ++ [x]) e2) → ∀ e, P pre e → ∃ e', loop fg fb (xs.map D) e = some (.nx e') ∧ P (pre ++ xs) e'
  | [], pre, _, _, e, h => ⟨e, rfl, by rw [List.append_nil]; exact h⟩
  | x :: xs, pre, hN, st, e, h => by
    rw [List.length_cons] at hN
    obtain ⟨e1, e2, h1, h2, h3⟩ := st pre x e List.mem_cons_self (by omega) h
    obtain ⟨e', h4, h5⟩ := loop_mapN N xs (pre ++ [x]) (by rw [List.length_append, List.length_singleton]; omega) (fun pre z e hz hp => st pre z e (List.mem_cons_of_mem _ hz) hp) e2 h3
    refine ⟨e', ?_, by rw [List.append_assoc] at h5; exact h5⟩
    show (match fg (D x) e with | none => none | some e1 => match fb e1 with | none => none | some (.nx e2) => loop fg fb (xs.map D) e2 | some (.rt s e2) => some (.rt s e2)) = _
    rw [h1]
    show (match fb e1 with | none => none | some (.nx e2) => loop fg fb (xs.map D) e2 | some (.rt s e2) => some (.rt s e2)) = _
    rw [h2]
    exact h4
theorem loop_map {α : Type} {fg : PyData → Ev → Option Ev} {fb : Ev → Option Out} {D : α → PyData} {P : List α → Ev → Prop} (xs : List α) (st : ∀ pre x e, x ∈ xs → pre.length < xs.length → P pre e → ∃ e1 e2, fg (D x) e = some e1 ∧ fb e1 = some (.nx e2) ∧ P (pre ++ [x]) e2) (e : Ev) (h : P [] e) : ∃ e', loop fg fb (xs.map D) e = some (.nx e') ∧ P xs e' :=
  loop_mapN (P := P) xs.length xs [] (by simp) st e h
theorem any_lot {i : Nat} {e : Ev} {L : Lot} (h : e[i]? = some (.sh (lotD L))) : iAny (eVar i) e = some (L.map pairD, e) := by
  simp [iAny, eVar, h, bnd, put, seqD, lotD]
theorem ltT_pair (p q : Nat × Nat) : ltT (pairD p) (pairD q) = (if p.1 = q.1 then decide (p.2 < q.2) else decide (p.1 < q.1)) := by
  have e1 : ((p.1 : Int) == (q.1 : Int)) = decide (p.1 = q.1) := by
    rw [Bool.eq_iff_iff, beq_iff_eq, decide_eq_true_eq]
    omega
  have e2 : ((p.2 : Int) == (q.2 : Int)) = decide (p.2 = q.2) := by
    rw [Bool.eq_iff_iff, beq_iff_eq, decide_eq_true_eq]
    omega
  simp only [pairD, ltT, ltTA, PyData.eqv, e1, e2]
  by_cases c : p.1 = q.1
  · rw [if_pos c, decide_eq_true c]
    by_cases d : p.2 = q.2
    · rw [decide_eq_true d]
      simp [d]
    · rw [decide_eq_false d]
      simp only []
      exact dec_iff (by omega)
  · rw [if_neg c, decide_eq_false c]
    simp only []
    exact dec_iff (by omega)
def unP : PyData → Nat × Nat
  | .tuple [.int a, .int b] => (a.toNat, b.toNat)
  | _ => (0, 0)
theorem unP_pair (p : Nat × Nat) : unP (pairD p) = p := by
  show ((p.1 : Int).toNat, (p.2 : Int).toNat) = p
  rw [Int.toNat_natCast, Int.toNat_natCast]
theorem od_pair (p : Nat × Nat) : od 1 (pairD p) = true := rfl
theorem sort_lot {M : Lot} (nd : M.Nodup) : ∃ L' : Lot, sortD (M.map pairD) = L'.map pairD ∧ L'.Perm M ∧ L'.Pairwise ltPair := by
  have sp := sort_perm (M.map pairD)
  have ss := sort_sorted (n := 1) (l := M.map pairD) fun x hx => by
    obtain ⟨p, _, rfl⟩ := List.mem_map.mp hx
    exact od_pair p
  have e1 : ((sortD (M.map pairD)).map unP).map pairD = sortD (M.map pairD) := by
    rw [List.map_map]
    refine (List.map_congr_left fun d hd => ?_).trans (List.map_id _)
    obtain ⟨p, _, rfl⟩ := List.mem_map.mp (sp.mem_iff.mp hd)
    show pairD (unP (pairD p)) = pairD p
    rw [unP_pair]
  have e2 : ((sortD (M.map pairD)).map unP).Perm M := by
    have := sp.map unP
    rw [List.map_map] at this
    have e : M.map (unP ∘ pairD) = M := (List.map_congr_left fun p _ => unP_pair p).trans (List.map_id _)
    rw [e] at this
    exact this
  refine ⟨(sortD (M.map pairD)).map unP, e1.symm, e2, ?_⟩
  have nd2 := e2.nodup_iff.mpr nd
  rw [← e1, List.pairwise_map] at ss
  refine List.Pairwise.imp₂ (fun a b h hn => ?_) ss nd2
  have h : ltT (pairD b) (pairD a) = false := h
  rw [ltT_pair] at h
  have hn : a ≠ b := hn
  unfold ltPair
  split at h
  · rename_i c
    have := of_decide_eq_false h
    have : a.2 ≠ b.2 := fun z => hn (Prod.ext c.symm z)
    omega
  · have := of_decide_eq_false h
    omega
theorem shp_prs (M : Lot) : SeqAt.shaped (.list (M.map pairD)) = true := Shp.ok (n := 2) (shp_list.mpr fun d hd => by obtain ⟨p, _, rfl⟩ := List.mem_map.mp hd; exact shp_pair p) (by decide)
def ordD (ns : List Int) : PyData := .tuple (ns.map PyData.int)
theorem pIn_tup {neg : Bool} {h : Int} {ns : List Int} : pIn neg (.int h) (ordD ns) = some (.bool (xor neg (decide (h ∈ ns)))) := by
  have := pIn_ints (neg := neg) (h := h) (ns := ns)
  unfold pIn ordD at *
  simp only [] at this ⊢
  rw [if_pos ⟨shp_i h, shp_ints ns⟩] at this
  rw [if_pos ⟨shp_i h, Shp.ok (n := 1) (shp_tup.mpr fun d hd => by obtain ⟨i, _, rfl⟩ := List.mem_map.mp hd; exact shp_int) (by decide)⟩]
  exact this
/-! ### _law_orders -/
/-! ### _law_by_lots -/
theorem eqv_lots : ∀ A B : Lot, PyData.eqvAll (A.map pairD) (B.map pairD) = decide (A = B)
  | [], [] => by simp [PyData.eqvAll]
  | [], _ :: _ => by simp [PyData.eqvAll]
  | _ :: _, [] => by simp [PyData.eqvAll]
  | p :: A, q :: B => by
    rw [List.map_cons, List.map_cons, PyData.eqvAll, eqv_lots A B]
    have : PyData.eqv (pairD p) (pairD q) = decide (p = q) := eqv_pair p q.1 q.2
    rw [this, Bool.eq_iff_iff, Bool.and_eq_true, decide_eq_true_eq, decide_eq_true_eq, decide_eq_true_eq, List.cons.injEq]
theorem eqv_lot (A B : Lot) : PyData.eqv (lotD A) (lotD B) = decide (A = B) := by
  unfold lotD
  rw [PyData.eqv, eqv_lots]
theorem keyNs_lot : ∀ L : Lot, (keyNs (L.map pairD)).isSome = true
  | [] => rfl
  | p :: L => by
    have ih := keyNs_lot L
    obtain ⟨ks, h⟩ := Option.isSome_iff_exists.mp ih
    rw [List.map_cons]
    have e : keyN (pairD p) = some (.tup [.num p.1, .num p.2]) := by simp [pairD, keyN, keyNs]
    rw [keyNs, e, h]
    rfl
theorem depth_lot (L : Lot) : (lotD L).depth ≤ 2 := (shp_lot (n := 0) L).2
theorem keyOk_lot (L : Lot) : keyOk (lotD L) = true := by
  obtain ⟨ks, h⟩ := Option.isSome_iff_exists.mp (keyNs_lot L)
  have e : keyN (lotD L) = some (.tup ks) := by
    unfold lotD
    rw [keyN, h]
  unfold keyOk
  rw [e, Nat.ble_eq_true_of_le (Nat.le_trans (depth_lot L) (by decide))]
  rfl
theorem look_mem : ∀ {kvs : List (PyData × PyData)} {d v : PyData}, lookD kvs d = some v → ∃ p ∈ kvs, p.2 = v
  | [], _, _, h => by cases h
  | (d', v') :: kvs, d, v, h => by
    rw [lookD] at h
    split at h
    · cases h
      exact ⟨_, List.mem_cons_self, rfl⟩
    · obtain ⟨p, hp, e⟩ := look_mem h
      exact ⟨p, List.mem_cons_of_mem _ hp, e⟩
end VM
end
section
set_option Elab.async false
set_option linter.all false
set_option maxRecDepth 100000
set_option maxHeartbeats 4000000
namespace VM
open PySem VL VG L2
def gd (ds : List PyData) (k : Nat) : PyData := ds.getD k .none
section
variable {e e1 e2 e3 : Ev}
theorem pNe_same {d : PyData} {n : Nat} (h : Shp n d) (hn : n ≤ 64) : pNe d d = some (.bool false) := by
  unfold pNe
  rw [if_pos ⟨h.ok hn, h.ok hn⟩, SeqAt.eqv_refl d h.1]
  rfl
theorem fnB_ev {i : Nat} {F : List PyData → List PyData → Option (Sl × List PyData)} {fa : M (List PyData)} {ds d0 dk dk' : List PyData} {x : Sl} (h0 : ownOf e[i]? = some d0) (ha : fa e = some (ds, e1)) (h1 : ownOf e1[i]? = some dk) (hF : F dk ds = some (x, dk')) : xFnB i F fa e = some (x, setOwn e1 i dk') := by
  unfold xFnB
  rw [h0]
  simp only []
  rw [ha]
  simp only [bnd]
  rw [h1]
  simp only [hF]
theorem args2 {fa fb : M PyData} {a b : PyData} (ha : fa e = some (a, e1)) (hb : fb e1 = some (b, e2)) : aCons fa (aCons fb aNil) e = some ([a, b], e2) := by
  unfold aCons
  rw [ha]
  simp only [bnd]
  rw [hb]
  rfl
theorem args1 {fa : M PyData} {a : PyData} (ha : fa e = some (a, e1)) : aCons fa aNil e = some ([a], e1) := by
  unfold aCons
  rw [ha]
  rfl
theorem or_f {f g : M Bool} (hf : f e = some (false, e1)) (hg : g e1 = some (false, e2)) : bOr f g e = some (false, e2) := by
  unfold bOr
  rw [hf]
  exact hg
end
theorem tru_ev {f : M PyData} {b : Bool} {e e1 : Ev} (h : f e = some (.bool b, e1)) : bTru f e = some (b, e1) := by
  unfold bTru
  rw [h]
  rfl
theorem enum_map : ∀ (ds : List PyData) (n : Nat), enumD n ds = (List.range ds.length).map fun k : Nat => PyData.tuple [.int ((n + k : Nat) : Int), gd ds k]
  | [], _ => rfl
  | d :: ds, n => by
    rw [enumD, enum_map ds (n + 1), List.length_cons, List.range_succ_eq_map, List.map_cons, List.map_map]
    congr 1
    refine List.map_congr_left fun k _ => ?_
    show PyData.tuple [.int ((n + 1 + k : Nat) : Int), gd ds k] = PyData.tuple [.int ((n + (k + 1) : Nat) : Int), gd (d :: ds) (k + 1)]
    rw [show n + 1 + k = n + (k + 1) by omega]
    rfl
theorem gd_mem {ds : List PyData} {k : Nat} (h : k < ds.length) : gd ds k ∈ ds ∧ atI ds (k : Int) = some (gd ds k) := by
  have e : gd ds k = ds[k] := by
    unfold gd
    rw [List.getD_eq_getElem?_getD, List.getElem?_eq_getElem h]
    rfl
  rw [e]
  exact ⟨List.getElem_mem h, atI_nat (List.getElem?_eq_getElem h)⟩
theorem pEq_same {d : PyData} {n : Nat} (h : Shp n d) (hn : n ≤ 64) : pEq d d = some (.bool true) := by
  unfold pEq
  rw [if_pos ⟨h.ok hn, h.ok hn⟩, SeqAt.eqv_refl d h.1]
/-- one step -/
def plD (ks : List Nat) : PyData := .tuple (ks.map fun k : Nat => PyData.int (k : Int))
end VM
end
section
set_option Elab.async false
set_option linter.all false
set_option maxRecDepth 100000
set_option maxHeartbeats 4000000
namespace VM
open PySem VL VG L2
theorem filter_yes {α : Type} : ∀ l : List α, (l.filter fun _ => true) = l
  | [] => rfl
  | a :: l => by rw [List.filter_cons_of_pos rfl, filter_yes l]
theorem bls_map : ∀ bs : List Bool, blsOf (bs.map PyData.bool) = some bs
  | [] => rfl
  | b :: bs => by
    rw [List.map_cons, blsOf, bls_map bs]
theorem pAll_map (bs : List Bool) : pAll [.list (bs.map PyData.bool)] = some (.bool (bs.all id)) := by
  unfold pAll pBls
  simp only []
  rw [bls_map]
theorem pAny_map (bs : List Bool) : pAny [.list (bs.map PyData.bool)] = some (.bool (bs.any id)) := by
  unfold pAny pBls
  simp only []
  rw [bls_map]
/-! ### checks -/
theorem place_fn {m x : Nat} (h : x < m) : fn_is_place [.int (m : Int), .int (x : Int)] = some (.sh (.bool true)) := by
  have h1 : (x : Int) ≤ (m : Int) - 1 := by omega
  simp [fn_is_place, fnS, bd_is_place, sRetX, xFn, aCons, aNil, eVar, eC, eOp, bnd, put, pSub, pInt, yes2, fn_is_whole_within, bd_is_whole_within, xE, eAndT, eX, fn_is_whole, bd_is_whole, eUn, pIsi, isDct, isT, eNot, bB, pTru, eChain, pLe, h1]
theorem pair_fn {m : Nat} {p : Nat × Nat} (h1 : p.1 < p.2) (h2 : p.2 < m) : fn_is_pair [.int (m : Int), pairD p] = some (.sh (.bool true)) := by
  have q1 := place_fn (m := m) (x := p.1) (by omega)
  have q2 := place_fn (m := m) (x := p.2) h2
  have n2 : pNe (.int 2) (.int 2) = some (.bool false) := rfl
  have h3 : (p.1 : Int) < (p.2 : Int) := by omega
  simp [fn_is_pair, fnS, bd_is_pair, sSeq, sIf, sNil, sAsg, sRetX, xE, bOr, bNot, bTru, eUn, pIsi, isDct, isT, eVar, eC, eOp, eCall, aCons, aNil, bnd, put, pTru, bB, pLen, pairD, gT, gsCons, gsNil, gN, eAndT, eX, xFn, q1, q2, pLt, n2, h3]
theorem zip_lot : ∀ L M : List (Nat × Nat), zipD (L.map pairD) (M.map pairD) = (L.zip M).map fun x => PyData.tuple [pairD x.1, pairD x.2]
  | [], _ => by simp [zipD]
  | _ :: _, [] => by simp [zipD]
  | p :: L, q :: M => by
    show zipD (pairD p :: L.map pairD) (pairD q :: M.map pairD) = _
    rw [zipD, zip_lot L M]
    rfl
theorem cut_one (L : List (Nat × Nat)) : cutD (L.map pairD) (some 1) none = (L.drop 1).map pairD := by
  unfold cutD
  rw [show (1 : Int) = ((1 : Nat) : Int) from rfl, HT.sIx_nat, HT.sIx_none, List.length_map]
  cases L with
  | nil => rfl
  | cons a r =>
    have : min 1 (a :: r).length = 1 := by rw [List.length_cons]; omega
    rw [this, ← List.map_drop, List.take_of_length_le (by rw [List.length_map, List.length_drop]; omega)]
theorem lt_pair {p q : Nat × Nat} (h : ltPair p q) : pLt (pairD p) (pairD q) = some (.bool true) := by
  show some (PyData.bool (HT.lexLt [(p.1 : Int), (p.2 : Int)] [(q.1 : Int), (q.2 : Int)])) = _
  have : HT.lexLt [(p.1 : Int), (p.2 : Int)] [(q.1 : Int), (q.2 : Int)] = true := by
    rcases h with h | ⟨h1, h2⟩
    · have e : (p.1 : Int) < q.1 := by omega
      have n : ¬ (p.1 : Int) = q.1 := by omega
      simp [HT.lexLt, e, n, h]
    · have e : (p.1 : Int) = q.1 := by omega
      have e2 : (p.2 : Int) < q.2 := by omega
      have n : ¬ (p.2 : Int) = q.2 := by omega
      simp [HT.lexLt, h1, e2, n, h2]
  rw [this]
theorem zip_lt {L : List (Nat × Nat)} (h : L.Pairwise ltPair) : ∀ x ∈ L.zip (L.drop 1), ltPair x.1 x.2 := fun x hx => by
  obtain ⟨i, hi⟩ := List.mem_iff_getElem?.mp hx
  rw [List.getElem?_zip_eq_some, List.getElem?_drop] at hi
  obtain ⟨h1, h2⟩ := hi
  obtain ⟨l1, g1⟩ := List.getElem?_eq_some_iff.mp h1
  obtain ⟨l2, g2⟩ := List.getElem?_eq_some_iff.mp h2
  have := List.pairwise_iff_getElem.mp h i (1 + i) l1 l2 (by omega)
  rw [g1, g2] at this
  exact this
def lE (m : Nat) (L : List (Nat × Nat)) (a b c : Sl) : Ev := [.sh (.int m), .sh (lotD L), a, b, c]
theorem lot_fn {m : Nat} {L : List (Nat × Nat)} (h : LotOk m L) (hl : L.length ≤ 1000) : fn_is_lot [.int (m : Int), lotD L] = some (.sh (.bool true)) := by
  have l1 : xLc (iAny (eVar 1)) (gN 2) bYes (eX (xFn fn_is_pair (aCons (eVar 0) (aCons (eVar 2) aNil)))) [2] (lE m L .un .un .un) = some (.ow ((L.filter fun _ => true).map fun _ => PyData.bool true), lE m L .un .un .un) :=
    lc_eq (D := pairD) (E1 := fun p => lE m L (.sh (pairD p)) .un .un) (b := fun _ => true) (y := fun _ => PyData.bool true) rfl rfl (by omega) rfl rfl (fun _ _ => rfl) (fun _ _ => rfl) (fun p hp _ => x_sh (fn_ev rfl (pair_fn (h.w p hp).1 (h.w p hp).2))) (fun _ _ => rfl)
  have l2 : xLc (iZp (eVar 1) (eX (xSl (eVar 1) (oSome (eC (.int 1))) oNo))) (gT 2 (gsCons (gN 3) (gsCons (gN 4) gsNil))) bYes (eOp pLt (eVar 3) (eVar 4)) [3, 4] (lE m L .un .un .un) = some (.ow (((L.zip (L.drop 1)).filter fun _ => true).map fun _ => PyData.bool true), lE m L .un .un .un) := by
    have h0 : iZp (eVar 1) (eX (xSl (eVar 1) (oSome (eC (.int 1))) oNo)) (lE m L .un .un .un) = some ((L.zip (L.drop 1)).map fun x => PyData.tuple [pairD x.1, pairD x.2], lE m L .un .un .un) := by
      have c := cut_one L
      have z := zip_lot L (L.drop 1)
      simp [iZp, eX, xSl, eVar, oSome, oNo, eC, bnd, put, pSl, lE, lotD, c]
      simpa using z
    refine lc_eq (D := fun x : (Nat × Nat) × (Nat × Nat) => PyData.tuple [pairD x.1, pairD x.2]) (E1 := fun x => lE m L .un (.sh (pairD x.1)) (.sh (pairD x.2))) (b := fun _ => true) (y := fun _ => PyData.bool true) h0 rfl ?_ rfl rfl (fun _ _ => rfl) (fun _ _ => rfl) (fun x hx _ => op_ev rfl rfl (lt_pair (zip_lt h.s x hx))) (fun _ _ => rfl)
    rw [List.length_zip]
    omega
  have a1 : ∀ {α : Type} (xs : List α), pAll [.list ((xs.filter fun _ => true).map fun _ => PyData.bool true)] = some (.bool true) := fun xs => by
    have := pAll_map ((xs.filter fun _ => true).map fun _ => true)
    rw [List.map_map] at this
    have e : ((xs.filter fun _ => true).map fun _ => true).all id = true := by simp
    rw [e] at this
    exact this
  have c1 : eCall pAll (aCons (eX (xLc (iAny (eVar 1)) (gN 2) bYes (eX (xFn fn_is_pair (aCons (eVar 0) (aCons (eVar 2) aNil)))) [2])) aNil) (lE m L .un .un .un) = some (.bool true, lE m L .un .un .un) := by
    exact call1_ev (x_ow l1) (a1 _)
  have c2 : eCall pAll (aCons (eX (xLc (iZp (eVar 1) (eX (xSl (eVar 1) (oSome (eC (.int 1))) oNo))) (gT 2 (gsCons (gN 3) (gsCons (gN 4) gsNil))) bYes (eOp pLt (eVar 3) (eVar 4)) [3, 4])) aNil) (lE m L .un .un .un) = some (.bool true, lE m L .un .un .un) := by
    exact call1_ev (x_ow l2) (a1 _)
  have t0 : bNot (bTru (eUn (pIsi .tuple) (eVar 1))) (lE m L .un .un .un) = some (false, lE m L .un .un .un) := rfl
  have t1 : bNot (bTru (eCall pAll (aCons (eX (xLc (iAny (eVar 1)) (gN 2) bYes (eX (xFn fn_is_pair (aCons (eVar 0) (aCons (eVar 2) aNil)))) [2])) aNil))) (lE m L .un .un .un) = some (false, lE m L .un .un .un) := by
    unfold bNot bTru
    rw [c1]
    rfl
  refine fnS_rt (n := 2) (m := 3) (e1 := lE m L .un .un .un) rfl ?_
  show bd_is_lot (lE m L .un .un .un) = _
  unfold bd_is_lot
  rw [seq_nx (e1 := lE m L .un .un .un) (by rw [if_f t0]; rfl), seq_nx (e1 := lE m L .un .un .un) (by rw [if_f t1]; rfl)]
  exact ret_ev (xE_ev c2)
end VM
end
section
set_option Elab.async false
set_option linter.all false
set_option maxRecDepth 100000
set_option maxHeartbeats 4000000
namespace VM
open PySem VL VG L2
/-! ### checks -/
theorem many_fn {m : Nat} (h1 : 1 ≤ m) (h2 : m ≤ 12) : fn_check_many [.int (m : Int)] = some (.sh .none) := by
  have g1 : (1 : Int) ≤ (m : Int) := by omega
  have g2 : (m : Int) ≤ 12 := by omega
  simp [fn_check_many, fnS, bd_check_many, sIf, sNil, bNot, bTru, eX, xFn, aCons, aNil, eVar, bnd, put, pTru, fn_is_many, bd_is_many, sRetX, eC, fn_is_whole_within, bd_is_whole_within, xE, eAndT, fn_is_whole, bd_is_whole, eUn, pIsi, isDct, isT, eNot, bB, eChain, pLe, pInt, yes2, g1, g2]
theorem lotck_fn {m : Nat} {L : Lot} {s : Str} (h : LotOk m L) (hl : L.length ≤ 1000) : fn_check_lot [.int (m : Int), lotD L, .str s] = some (.sh .none) := by
  have q2 := lot_fn h hl
  simp [fn_check_lot, fnS, bd_check_lot, sIf, sNil, bNot, bTru, eX, xFn, aCons, aNil, eVar, bnd, put, pTru, q2]
/-! ### sure -/
/-! ### lots -/
theorem check_fn {m : Nat} {L : List (Nat × Nat)} (h1 : 1 ≤ m) (h2 : m ≤ 12) (h : LotOk m L) (hl : L.length ≤ 1000) : fn_check_many_and_lot [.int (m : Int), lotD L] = some (.sh .none) := by
  have q1 := many_fn h1 h2
  have q2 := lot_fn h hl
  have q3 : fn_check_lot [.int (m : Int), lotD L, .str "lot"] = some (.sh .none) := by
    simp [fn_check_lot, fnS, bd_check_lot, sIf, sNil, bNot, bTru, eX, xFn, aCons, aNil, eVar, bnd, put, pTru, q2]
  simp [fn_check_many_and_lot, fnS, bd_check_many_and_lot, sSeq, sExpr, eX, xFn, aCons, aNil, eVar, eC, bnd, put, q1, q3]
/-! ### what bars a lot -/
def apB (L : Lot) (k : Nat) : Bool := xor true (decide ((k, k + 1) ∈ L))
def apart (m : Nat) (L : Lot) : List Nat := (List.range (m - 1)).filter (apB L)
def crB (p q : Nat × Nat) : Bool := decide (p.1 < q.1) && (decide (q.1 < p.2) && decide (p.2 < q.2))
def boB (L : Lot) (a b k : Nat) : Bool := decide ((a, a + 1 + k) ∈ L) && decide ((a + 1 + k, b) ∈ L)
def both (L : Lot) (a b : Nat) : Bool := ((List.range (b - (a + 1))).map (boB L a b)).any id
def alB (L : Lot) (p : Nat × Nat) : Bool := decide (p.1 + 1 < p.2) && !both L p.1 p.2
def free (m : Nat) (L : Lot) : Bool := (apart m L).isEmpty && (L.all fun p => (L.filter (crB p)).isEmpty) && (L.filter (alB L)).isEmpty
def apD (k : Nat) : PyData := .tuple [.str "apart", .int (0 + (k : Int)), .int (0 + (k : Int) + 1)]
def crD (p q : Nat × Nat) : PyData := .tuple [.str "cross", .int p.1, .int p.2, .int q.1, .int q.2]
def alD (p : Nat × Nat) : PyData := .tuple [.str "alone", .int p.1, .int p.2]
theorem toN1 {m : Nat} (h : 1 ≤ m) : ((m : Int) - 1).toNat = m - 1 := by omega
theorem apart_fn {m : Nat} {L : Lot} (h1 : 1 ≤ m) (h2 : m ≤ 12) : fn_bars_apart [.int (m : Int), lotD L] = some (.ow ((apart m L).map apD)) := by
  have r0 : iR1 (aCons (eOp pSub (eVar 0) (eC (.int 1))) aNil) [.sh (.int m), .sh (lotD L), .un] = some (upto 0 (m - 1), [.sh (.int m), .sh (lotD L), .un]) := by
    rw [← toN1 h1]
    exact iR1_eq rfl (inR_int (by omega) (by omega))
  have l := lc_eq (fg := gN 2) (ft := bB (eOp (pIn true) (eTup (aCons (eVar 2) (aCons (eX (xOps pAdd (eVar 2) (eC (.int 1)))) aNil))) (eVar 1))) (fe := eTup (aCons (eC (.str "apart")) (aCons (eVar 2) (aCons (eX (xOps pAdd (eVar 2) (eC (.int 1)))) aNil)))) (vs := [2])
    (E1 := fun k : Nat => [.sh (.int m), .sh (lotD L), .sh (.int (0 + (k : Int)))]) (b := apB L) (y := apD) r0 (upto_map 0 (m - 1)) (by rw [List.length_range]; omega) rfl rfl (fun _ _ => rfl)
    (fun k _ => bB_ev (op_ev (tup2_ev rfl rfl) rfl (in_lot (x := k) (y := k + 1) (by omega) (by omega)))) (fun _ _ _ => rfl) (fun _ _ => rfl)
  exact fnS_rt (n := 2) (m := 1) rfl (ret_ev l)
section
variable {α β : Type} {fg fg1 : PyData → Ev → Option Ev} {fi1 : M (List PyData)} {ft1 : M Bool} {fe : M PyData} {vs vs1 : List Nat} {e0 : Ev} {D : α → PyData} {D1 : β → PyData} {E1 : α → Ev} {E2 : α → β → Ev} {ys : α → List β} {b : α → β → Bool} {y : α → β → PyData}
end
def crosses (L : Lot) : List PyData := L.flatMap fun p => (L.filter (crB p)).map (crD p)
theorem crosses_len {L : Lot} (h : L.length ≤ 200) : (crosses L).length ≤ 40000 := by
  have := flat_len (f := fun p => (L.filter (crB p)).map (crD p)) (n := 200) L fun p _ => by
    rw [List.length_map]
    exact Nat.le_trans (List.length_filter_le _ _) h
  unfold crosses
  omega
theorem three_ev {L : Lot} {p q : Nat × Nat} : bThree pLt pLt pLt (eVar 1) (eVar 3) (eVar 2) (eVar 4) [.sh (lotD L), .sh (.int p.1), .sh (.int p.2), .sh (.int q.1), .sh (.int q.2)] = some (crB p q, [.sh (lotD L), .sh (.int p.1), .sh (.int p.2), .sh (.int q.1), .sh (.int q.2)]) := by
  have d1 : decide ((p.1 : Int) < q.1) = decide (p.1 < q.1) := by rw [decide_eq_decide]; omega
  have d2 : decide ((q.1 : Int) < p.2) = decide (q.1 < p.2) := by rw [decide_eq_decide]; omega
  have d3 : decide ((p.2 : Int) < q.2) = decide (p.2 < q.2) := by rw [decide_eq_decide]; omega
  have v1 : pLt (.int p.1) (.int q.1) = some (.bool (decide (p.1 < q.1))) := by rw [← d1]; rfl
  have v2 : pLt (.int q.1) (.int p.2) = some (.bool (decide (q.1 < p.2))) := by rw [← d2]; rfl
  have v3 : pLt (.int p.2) (.int q.2) = some (.bool (decide (p.2 < q.2))) := by rw [← d3]; rfl
  unfold crB
  cases c1 : decide (p.1 < q.1) <;> cases c2 : decide (q.1 < p.2) <;> cases c3 : decide (p.2 < q.2) <;> rw [c1] at v1 <;> rw [c2] at v2 <;> rw [c3] at v3 <;> simp [bThree, eVar, bnd, v1, v2, v3]
theorem cross_fn {L : Lot} (h : L.length ≤ 200) : fn_bars_cross [lotD L] = some (.ow (crosses L)) := by
  have l := lc2_eq (fi := iAny (eVar 0)) (e := [.sh (lotD L), .un, .un, .un, .un]) (fg := gT 2 (gsCons (gN 1) (gsCons (gN 2) gsNil))) (fi1 := iAny (eVar 0)) (fg1 := gT 2 (gsCons (gN 3) (gsCons (gN 4) gsNil))) (ft1 := bThree pLt pLt pLt (eVar 1) (eVar 3) (eVar 2) (eVar 4)) (fe := eTup (aCons (eC (.str "cross")) (aCons (eVar 1) (aCons (eVar 2) (aCons (eVar 3) (aCons (eVar 4) aNil)))))) (vs := [1, 2, 3, 4]) (vs1 := [3, 4])
    (D := pairD) (D1 := pairD) (xs := L) (E1 := fun p : Nat × Nat => [.sh (lotD L), .sh (.int p.1), .sh (.int p.2), .un, .un]) (E2 := fun (p q : Nat × Nat) => [.sh (lotD L), .sh (.int p.1), .sh (.int p.2), .sh (.int q.1), .sh (.int q.2)]) (ys := fun _ => L) (b := crB) (y := crD)
    rfl rfl (Nat.le_trans (crosses_len h) (by decide)) rfl rfl (fun _ _ => rfl) (fun _ _ => rfl) (fun _ _ => rfl) (fun _ _ => rfl) (fun _ _ _ _ => rfl) (fun _ _ _ _ => three_ev) (fun _ _ _ _ _ => rfl) (fun _ _ _ _ => rfl)
  exact fnS_rt (n := 1) (m := 4) rfl (ret_ev l)
theorem both_fn {L : Lot} {a b : Nat} (ha : a ≤ 1000) (hb : b ≤ 1000) : fn_both_see_one_between [lotD L, .int (a : Int), .int (b : Int)] = some (.sh (.bool (both L a b))) := by
  have r0 : iR2 (aCons (eX (xOps pAdd (eVar 1) (eC (.int 1)))) (aCons (eVar 2) aNil)) [.sh (lotD L), .sh (.int a), .sh (.int b), .un] = some (upto ((a : Int) + 1) ((b : Int) - ((a : Int) + 1)).toNat, [.sh (lotD L), .sh (.int a), .sh (.int b), .un]) := by
    exact iR2_eq rfl ⟨inR_int (by omega) (by omega), inR_nat (by omega)⟩
  have l := lc_eq (fg := gN 3) (ft := bYes) (fe := eAndT (eOp (pIn false) (eTup (aCons (eVar 1) (aCons (eVar 3) aNil))) (eVar 0)) (eOp (pIn false) (eTup (aCons (eVar 3) (aCons (eVar 2) aNil))) (eVar 0))) (vs := [3])
    (E1 := fun k : Nat => [.sh (lotD L), .sh (.int a), .sh (.int b), .sh (.int ((a : Int) + 1 + (k : Int)))]) (b := fun _ => true) (y := fun k => PyData.bool (boB L a b k)) r0 (upto_map ((a : Int) + 1) _) (by rw [List.length_range]; omega) rfl rfl (fun _ _ => rfl)
    (fun _ _ => rfl) (fun k _ _ => by
      have h1 : pIn false (.tuple [.int (a : Int), .int ((a : Int) + 1 + (k : Int))]) (lotD L) = some (.bool (decide ((a, a + 1 + k) ∈ L))) := by
        rw [in_lot (x := a) (y := a + 1 + k) rfl (by omega)]
        simp
      have h2 : pIn false (.tuple [.int ((a : Int) + 1 + (k : Int)), .int (b : Int)]) (lotD L) = some (.bool (decide ((a + 1 + k, b) ∈ L))) := by
        rw [in_lot (x := a + 1 + k) (y := b) (by omega) rfl]
        simp
      exact andT_ev (op_ev (tup2_ev rfl rfl) rfl h1) (op_ev (tup2_ev rfl rfl) rfl h2)) (fun _ _ => rfl)
  have p := pAny_map (((List.range ((b : Int) - ((a : Int) + 1)).toNat).filter fun _ => true).map (boB L a b))
  rw [List.map_map] at p
  have e : (((List.range ((b : Int) - ((a : Int) + 1)).toNat).filter fun _ => true).map (boB L a b)).any id = both L a b := by
    rw [List.filter_eq_self.mpr (fun _ _ => rfl), show ((b : Int) - ((a : Int) + 1)).toNat = b - (a + 1) by omega]
    rfl
  rw [e] at p
  exact fnS_rt (n := 3) (m := 1) rfl (ret_ev (xE_ev (call1_ev (x_ow l) p)))
theorem alone_fn {L : Lot} (h : L.length ≤ 200) (hp : ∀ p ∈ L, p.1 ≤ 1000 ∧ p.2 ≤ 1000) : fn_bars_alone [lotD L] = some (.ow ((L.filter (alB L)).map alD)) := by
  have l := lc_eq (fi := iAny (eVar 0)) (e := [.sh (lotD L), .un, .un]) (fg := gT 2 (gsCons (gN 1) (gsCons (gN 2) gsNil))) (ft := bAnd (bB (eOp pGt (eVar 2) (eX (xOps pAdd (eVar 1) (eC (.int 1)))))) (bNot (bTru (eX (xFn fn_both_see_one_between (aCons (eVar 0) (aCons (eVar 1) (aCons (eVar 2) aNil)))))))) (fe := eTup (aCons (eC (.str "alone")) (aCons (eVar 1) (aCons (eVar 2) aNil)))) (vs := [1, 2])
    (D := pairD) (xs := L) (E1 := fun p : Nat × Nat => [.sh (lotD L), .sh (.int p.1), .sh (.int p.2)]) (b := alB L) (y := alD) rfl rfl (by omega) rfl rfl (fun _ _ => rfl)
    (fun p hm => and_ev (gt_ev (a := p.2) (b := (p.1 : Int) + 1) rfl rfl (dec_iff (by omega))) (notT_ev (x_sh (fn_ev (ds := [lotD L, .int p.1, .int p.2]) rfl (both_fn (hp p hm).1 (hp p hm).2))))) (fun _ _ _ => rfl) (fun _ _ => rfl)
  exact fnS_rt (n := 1) (m := 2) rfl (ret_ev l)
def bars (m : Nat) (L : Lot) : List PyData := ((apart m L).map apD ++ crosses L) ++ (L.filter (alB L)).map alD
theorem all_fn {m : Nat} {L : Lot} (h1 : 1 ≤ m) (h2 : m ≤ 12) (h : L.length ≤ 200) (hp : ∀ p ∈ L, p.1 ≤ 1000 ∧ p.2 ≤ 1000) : fn_all_bars [.int (m : Int), lotD L] = some (.ow (bars m L)) := by
  have l1 : ((apart m L).map apD).length ≤ 12 := by
    rw [List.length_map]
    exact Nat.le_trans (List.length_filter_le _ _) (by rw [List.length_range]; omega)
  have l2 := crosses_len h
  have l3 : ((L.filter (alB L)).map alD).length ≤ 200 := by
    rw [List.length_map]
    exact Nat.le_trans (List.length_filter_le _ _) h
  refine fnS_rt (n := 2) (m := 0) (e1 := [.sh (.int m), .sh (lotD L)]) rfl (ret_ev (ops_ev (x_ow (ops_ev (x_ow (fn_ev (ds := [.int m, lotD L]) rfl (apart_fn h1 h2))) (x_ow (fn_ev (ds := [lotD L]) rfl (cross_fn h))) (cat_ev (by omega)))) (x_ow (fn_ev (ds := [lotD L]) rfl (alone_fn h hp))) (cat_ev (by rw [List.length_append]; omega))))
theorem bars_free (m : Nat) (L : Lot) : (bars m L).isEmpty = free m L := by
  unfold bars free crosses
  rw [Bool.eq_iff_iff]
  simp only [List.isEmpty_iff, List.append_eq_nil_iff, List.map_eq_nil_iff, List.flatMap_eq_nil_iff, Bool.and_eq_true, List.all_eq_true]
theorem bars_tup {m : Nat} {L : Lot} {d : PyData} (h : d ∈ bars m L) : isN d = false := by
  unfold bars crosses at h
  simp only [List.mem_append, List.mem_map, List.mem_flatMap] at h
  rcases h with (⟨_, _, rfl⟩ | ⟨_, _, _, _, rfl⟩) | ⟨_, _, rfl⟩ <;> rfl
theorem ixv_ev {i : Nat} {fk : M PyData} {e e1 : Ev} {ds0 ds : List PyData} {k : Int} {d : PyData} (h0 : seqOf e[i]? = some ds0) (hk : fk e = some (.int k, e1)) (h1 : seqOf e1[i]? = some ds) (ha : atI ds k = some d) : eIxV i fk e = some (d, e1) := by
  unfold eIxV
  rw [h0]
  simp only []
  rw [hk]
  simp only [bnd]
  rw [h1]
  simp only []
  rw [ha]
  rfl
/-! ### how many trees and orders there can be -/
/-! ### sums of data -/
/-! ### TreeCount -/
/-! ### OrderCount -/
end VM
end
section
set_option Elab.async false
set_option linter.all false
set_option maxRecDepth 100000
set_option maxHeartbeats 4000000
namespace VM
open PySem VL VG L2
/-! ### sorted pairs -/
theorem pSort_lot {M : Lot} : pSortB [.list (M.map pairD)] = some (sortD (M.map pairD)) := by
  unfold pSortB
  simp only []
  cases M with
  | nil => rfl
  | cons p M =>
    have h0 : odAll 0 ((p :: M).map pairD) = false := rfl
    have h1 : odAll 1 ((p :: M).map pairD) = true := List.all_eq_true.mpr fun d hd => by obtain ⟨q, _, rfl⟩ := List.mem_map.mp hd; exact od_pair q
    have h2 : isTupB ((p :: M).map pairD) = true := by
      unfold isTupB
      rw [Bool.or_eq_true]
      exact .inl (List.all_eq_true.mpr fun d hd => by obtain ⟨q, _, rfl⟩ := List.mem_map.mp hd; rfl)
    have h3 : odOf ((p :: M).map pairD) = some 1 := by
      unfold odOf
      rw [h0, h1]
      rfl
    rw [h0, h2, h3]
    rfl
/-! ### in, remove -/
theorem in_prs {M : Lot} {p : Nat × Nat} : pIn false (pairD p) (.list (M.map pairD)) = some (.bool (decide (p ∈ M))) := by
  unfold pIn
  simp only []
  rw [if_pos ⟨Shp.ok (n := 1) (shp_pair p) (by decide), shp_prs M⟩]
  have := any_pair M p.1 p.2
  show some (PyData.bool (xor false ((M.map pairD).any fun z => PyData.eqv z (.tuple [.int (p.1 : Int), .int (p.2 : Int)])))) = _
  rw [this]
  simp
theorem plain_prs : ∀ M : Lot, PyData.plainAll (M.map pairD) = true
  | [] => by simp [PyData.plainAll]
  | p :: M => by
    have := plain_prs M
    simp [PyData.plainAll, PyData.plain, pairD] at this ⊢
    exact this
theorem erase_map {α β : Type} (f : α → β) : ∀ (l : List α) (j : Nat), (l.map f).eraseIdx j = (l.eraseIdx j).map f
  | [], _ => rfl
  | _ :: _, 0 => rfl
  | a :: l, j + 1 => by
    show f a :: (l.map f).eraseIdx j = f a :: (l.eraseIdx j).map f
    rw [erase_map f l j]
theorem rem_prs {M : Lot} {p : Nat × Nat} (h : p ∈ M) : ∃ M' : Lot, remOf (M.map pairD) (pairD p) = some (M'.map pairD) ∧ M'.Sublist M := by
  have h1 : ∃ j, SeqAt.dataPlace (M.map pairD) (pairD p) = some j := by
    cases hj : SeqAt.dataPlace (M.map pairD) (pairD p) with
    | some j => exact ⟨j, rfl⟩
    | none =>
      unfold SeqAt.dataPlace at hj
      have := List.findIdx?_eq_none_iff.mp hj (pairD p) (List.mem_map_of_mem h)
      have z := eqv_pair p p.1 p.2
      rw [decide_eq_true rfl] at z
      have z : PyData.eqv (pairD p) (pairD p) = true := z
      rw [z] at this
      cases this
  obtain ⟨j, hj⟩ := h1
  refine ⟨M.eraseIdx j, ?_, List.eraseIdx_sublist _ _⟩
  unfold remOf
  rw [if_pos ⟨plain_prs M, by simp [PyData.plain, PyData.plainAll, pairD], by simp [PyData.depth, PyData.depthAll, pairD]⟩, hj]
  simp only []
  rw [erase_map]
end VM
end
section
set_option Elab.async false
set_option linter.all false
set_option maxRecDepth 100000
set_option maxHeartbeats 4000000
namespace VM
open PySem VL VG L2
def prs (m : Nat) : Lot := (List.range m).flatMap fun i => (List.range (m - (i + 1))).map fun k => (i, i + 1 + k)
theorem mem_prs {m : Nat} {p : Nat × Nat} : p ∈ prs m ↔ p.1 < p.2 ∧ p.2 < m := by
  unfold prs
  simp only [List.mem_flatMap, List.mem_range, List.mem_map]
  constructor
  · rintro ⟨i, hi, k, hk, rfl⟩
    show i < i + 1 + k ∧ i + 1 + k < m
    omega
  · rintro ⟨h1, h2⟩
    exact ⟨p.1, by omega, p.2 - (p.1 + 1), by omega, by rw [show p.1 + 1 + (p.2 - (p.1 + 1)) = p.2 by omega]⟩
theorem lpairs_fn : ∀ m : Nat, m ≤ 12 → fn_law_pairs [.int (m : Int)] = some (.ow ((prs m).map pairD))
  | 0, _ => by kernel_rfl
  | 1, _ => by kernel_rfl
  | 2, _ => by kernel_rfl
  | 3, _ => by kernel_rfl
  | 4, _ => by kernel_rfl
  | 5, _ => by kernel_rfl
  | 6, _ => by kernel_rfl
  | 7, _ => by kernel_rfl
  | 8, _ => by kernel_rfl
  | 9, _ => by kernel_rfl
  | 10, _ => by kernel_rfl
  | 11, _ => by kernel_rfl
  | 12, _ => by kernel_rfl
  | _ + 13, h => absurd h (by omega)
theorem prs_len : ∀ m : Nat, m ≤ 12 → (prs m).length ≤ 66
  | 0, _ => by decide
  | 1, _ => by decide
  | 2, _ => by decide
  | 3, _ => by decide
  | 4, _ => by decide
  | 5, _ => by decide
  | 6, _ => by decide
  | 7, _ => by decide
  | 8, _ => by decide
  | 9, _ => by decide
  | 10, _ => by decide
  | 11, _ => by decide
  | 12, _ => by decide
  | _ + 13, h => absurd h (by omega)
theorem lot_len {m : Nat} {L : Lot} (hm : m ≤ 12) (nd : L.Nodup) (h : ∀ p ∈ L, p.1 < p.2 ∧ p.2 < m) : L.length ≤ 66 := by
  have : ∀ {l k : Lot}, l.Nodup → (∀ x ∈ l, x ∈ k) → l.length ≤ k.length := by
    intro l
    induction l with
    | nil => intro k _ _; exact Nat.zero_le _
    | cons a r ih =>
      intro k h s
      obtain ⟨h1, h2⟩ := List.nodup_cons.mp h
      have hm : a ∈ k := s a List.mem_cons_self
      have := ih (k := k.erase a) h2 fun x hx => (List.mem_erase_of_ne fun (e : x = a) => h1 (e ▸ hx)).mpr (s x (List.mem_cons_of_mem _ hx))
      have h4 := List.length_erase_of_mem hm
      have h5 := List.length_pos_of_mem hm
      rw [List.length_cons]
      omega
  exact Nat.le_trans (this nd fun p hp => mem_prs.mpr (h p hp)) (prs_len m hm)
theorem lt_irr {p : Nat × Nat} : ¬ ltPair p p := by
  unfold ltPair
  omega
theorem LotOk.nd {m : Nat} {L : Lot} (h : LotOk m L) : L.Nodup := List.Pairwise.imp (fun {a b} hab (e : a = b) => lt_irr (e ▸ hab)) h.s
theorem LotOk.len {m : Nat} {L : Lot} (h : LotOk m L) (hm : m ≤ 12) : L.length ≤ 66 := lot_len hm h.nd h.w
/-! ### _law_bent -/
def tE (ds : List PyData) (m : Nat) (L : Lot) (x : Sl) (M : Lot) (a b : Sl) : Ev := [.bw ds, .sh (.int m), .sh (lotD L), x, .ow (M.map pairD), a, b]
structure MOk (m : Nat) (M : Lot) : Prop where
  nd : M.Nodup
  w : ∀ p ∈ M, p.1 < p.2 ∧ p.2 < m
abbrev bentB : Ev → Option Out := sIf (bB (eOp pNe (eVar 3) (eX (xLst aNil)))) (sSeq (sSet 6 (xFnB 0 fn_law_one (aCons (eVar 3) aNil))) (sIf (bScal (bB (eOp (pIn false) (eVar 6) (eVar 4)))) (sRem 4 (eVar 6)) (sApp 4 (eVar 6)))) sNil
theorem pNe_nil {ds : List PyData} (h : SeqAt.shaped (.list ds) = true) : pNe (.list ds) (.list []) = some (.bool (!ds.isEmpty)) := by
  unfold pNe
  rw [if_pos ⟨h, by decide⟩, eqv_nil]
theorem bent_turn {k m : Nat} {ds : List PyData} {L M : Lot} {x a b : Sl} (hd : DeckOk k ds) (hk : k < 100000) (hm : m ≤ 12) (hM : MOk m M) (hx : x = .ow ((prs m).map pairD) ∨ x = .sh (.list ((prs m).map pairD))) :
    ∃ ds' M' b', DeckOk (k + 1) ds' ∧ MOk m M' ∧ bentB (tE ds m L x M a b) = some (.nx (tE ds' m L (.sh (.list ((prs m).map pairD))) M' a b')) := by
  have v : eVar 3 (tE ds m L x M a b) = some (.list ((prs m).map pairD), tE ds m L (.sh (.list ((prs m).map pairD))) M a b) := by
    rcases hx with rfl | rfl <;> rfl
  have t : bB (eOp pNe (eVar 3) (eX (xLst aNil))) (tE ds m L x M a b) = some (!((prs m).map pairD).isEmpty, tE ds m L (.sh (.list ((prs m).map pairD))) M a b) := bB_ev (op_ev v lst0 (pNe_nil (shp_prs _)))
  show ∃ ds' M' b', DeckOk (k + 1) ds' ∧ MOk m M' ∧ sIf _ _ _ _ = _
  rw [if_ev t]
  by_cases c : prs m = []
  · rw [c]
    exact ⟨ds, M, b, hd.mono (by omega) (by omega), hM, rfl⟩
  · have ne : ((prs m).map pairD).isEmpty = false := by
      rw [List.isEmpty_map]
      cases h : prs m with
      | nil => exact absurd h c
      | cons _ _ => rfl
    have pl : 0 < ((prs m).map pairD).length := by
      rw [List.length_map]
      exact List.length_pos_iff.mpr c
    obtain ⟨d, ds', d1, d2, d3⟩ := one_eq hd hk pl (by rw [List.length_map]; have := prs_len m hm; omega)
    obtain ⟨p, hp, rfl⟩ := List.mem_map.mp d1
    have hp := mem_prs.mp hp
    have s1 : sSet 6 (xFnB 0 fn_law_one (aCons (eVar 3) aNil)) (tE ds m L (.sh (.list ((prs m).map pairD))) M a b) = some (.nx (tE ds' m L (.sh (.list ((prs m).map pairD))) M a (.sh (pairD p)))) := by
      simp [sSet, xFnB, ownOf, aCons, aNil, eVar, bnd, d3, setOwn, tE]
    have t2 : bScal (bB (eOp (pIn false) (eVar 6) (eVar 4))) (tE ds' m L (.sh (.list ((prs m).map pairD))) M a (.sh (pairD p))) = some (decide (p ∈ M), tE ds' m L (.sh (.list ((prs m).map pairD))) M a (.sh (pairD p))) := by
      have q : bB (eOp (pIn false) (eVar 6) (eVar 4)) (froz (tE ds' m L (.sh (.list ((prs m).map pairD))) M a (.sh (pairD p)))) = some (decide (p ∈ M), froz (tE ds' m L (.sh (.list ((prs m).map pairD))) M a (.sh (pairD p)))) := bB_ev (op_ev rfl rfl in_prs)
      unfold bScal
      rw [q]
      rfl
    rw [ne]
    rw [if_pos (by decide), seq_nx s1, if_ev t2]
    by_cases hm2 : p ∈ M
    · obtain ⟨M', r1, r2⟩ := rem_prs hm2
      rw [decide_eq_true hm2, if_pos rfl]
      refine ⟨ds', M', .sh (pairD p), d2, ⟨hM.nd.sublist r2, fun q hq => hM.w q (r2.subset hq)⟩, ?_⟩
      simp [sRem, ownOf, eVar, bnd, r1, setOwn, tE]
    · rw [decide_eq_false hm2, if_neg (by decide)]
      have nl := lot_len hm hM.nd hM.w
      refine ⟨ds', M ++ [p], .sh (pairD p), d2, ⟨List.nodup_append.mpr ⟨hM.nd, by simp, fun a ha b hb e => hm2 (by rw [← List.mem_singleton.mp hb, ← e]; exact ha)⟩, fun q hq => ?_⟩, ?_⟩
      · rcases List.mem_append.mp hq with z | z
        · exact hM.w q z
        · rw [List.mem_singleton.mp z]
          exact hp
      · have := app_ev (i := 4) (f := eVar 6) (ds := M.map pairD) (ds' := M.map pairD) (d := pairD p) (e := tE ds' m L (.sh (.list ((prs m).map pairD))) M a (.sh (pairD p))) (e1 := tE ds' m L (.sh (.list ((prs m).map pairD))) M a (.sh (pairD p))) rfl rfl rfl (by rw [List.length_map]; omega)
        rw [this]
        simp [setOwn, tE]
theorem bent_fn {k m : Nat} {ds : List PyData} {L : Lot} (hd : DeckOk k ds) (hk : k + 5 < 100000) (hm : m ≤ 12) (h : LotOk m L) : ∃ L' ds', LotOk m L' ∧ DeckOk (k + 3) ds' ∧ fn_law_bent ds [.int (m : Int), lotD L] = some (.sh (lotD L'), ds') := by
  obtain ⟨r, ds1, r0, r1, d1, d2⟩ := pick_eq hd (by omega) (n := 2) (by decide) (by decide)
  have e1 : sSet 3 (xFn fn_law_pairs (aCons (eVar 1) aNil)) [.bw ds, .sh (.int m), .sh (lotD L), .un, .un, .un, .un] = some (.nx [.bw ds, .sh (.int m), .sh (lotD L), .ow ((prs m).map pairD), .un, .un, .un]) := set_ev (i := 3) (e1 := [.bw ds, .sh (.int m), .sh (lotD L), .un, .un, .un, .un]) (fn_ev (ds := [.int m]) rfl (lpairs_fn m hm))
  have e2 : sSet 4 (xCall pList (aCons (eVar 2) aNil)) [.bw ds, .sh (.int m), .sh (lotD L), .ow ((prs m).map pairD), .un, .un, .un] = some (.nx (tE ds m L (.ow ((prs m).map pairD)) L .un .un)) := by
    simp [sSet, xCall, aCons, aNil, eVar, bnd, put, pList, tE, lotD]
  have e3 : aCons (eX (xOps pAdd (eC (.int 1)) (eX (xFnB 0 fn_law_pick (aCons (eC (.int 2)) aNil))))) aNil (tE ds m L (.ow ((prs m).map pairD)) L .un .un) = some ([.int (1 + r)], tE ds1 m L (.ow ((prs m).map pairD)) L .un .un) := by
    simp [aCons, aNil, eX, xOps, eC, xFnB, ownOf, bnd, d2, put, pAdd, setOwn, tE]
  have e4 := iR1_eq e3 (inR_int (by omega) (by omega))
  obtain ⟨e', L1, ds', M', x', a', b', rfl, g1, g2, g3⟩ := loop_range (fg := gN 5) (fb := bentB) (P := fun i e => ∃ ds' M' x a b, e = tE ds' m L x M' a b ∧ DeckOk (k + 1 + i) ds' ∧ MOk m M' ∧ (x = .ow ((prs m).map pairD) ∨ x = .sh (.list ((prs m).map pairD)))) (1 + r).toNat (fun i e hi hp => by
    obtain ⟨ds', M', x, a, b, rfl, g1, g2, g3⟩ := hp
    obtain ⟨ds2, M2, b2, q1, q2, q3⟩ := bent_turn (L := L) (a := .sh (.int i)) (b := b) g1 (by omega) hm g2 g3
    exact ⟨tE ds' m L x M' (.sh (.int i)) b, _, rfl, q3, ds2, M2, _, _, _, rfl, q1, q2, .inr rfl⟩) (tE ds1 m L (.ow ((prs m).map pairD)) L .un .un) ⟨ds1, L, _, _, _, rfl, d1, ⟨h.nd, h.w⟩, .inl rfl⟩
  obtain ⟨L', p1, p2, p3⟩ := sort_lot g2.nd
  refine ⟨L', ds', ⟨p3, fun p hp => g2.w p (p2.mem_iff.mp hp)⟩, g1.mono (by omega) (by omega), ?_⟩
  have e5 : sRetX (xE (eCall pTuple (aCons (eX (xCall pSortB (aCons (eVar 4) aNil))) aNil))) (tE ds' m L x' M' a' b') = some (.rt (.sh (lotD L')) ((tE ds' m L x' M' a' b').set 4 (.sh (.list (M'.map pairD))))) := by
    have q := pSort_lot (M := M')
    rw [p1] at q
    have q1 : eX (xCall pSortB (aCons (eVar 4) aNil)) (tE ds' m L x' M' a' b') = some (.list (L'.map pairD), (tE ds' m L x' M' a' b').set 4 (.sh (.list (M'.map pairD)))) := by
      refine x_ow ?_
      simp [xCall, aCons, aNil, eVar, bnd, put, q, tE]
    exact ret_ev (xE_ev (call1_ev q1 rfl))
  have e0 : bd_law_bent [.bw ds, .sh (.int m), .sh (lotD L), .un, .un, .un, .un] = some (.rt (.sh (lotD L')) ((tE ds' m L x' M' a' b').set 4 (.sh (.list (M'.map pairD))))) := by
    unfold bd_law_bent
    rw [seq_nx e1, seq_nx e2, seq_nx ((for_of e4).trans L1)]
    exact e5
  simp [fn_law_bent, fnB, e0, lentOf, tE]
end VM
end
section
set_option Elab.async false
set_option linter.all false
set_option maxRecDepth 100000
set_option maxHeartbeats 4000000
namespace VM
open PySem VL VG L2
/-! ### all lots of a small row -/
theorem prs_sorted (m : Nat) : (prs m).Pairwise ltPair := by
  unfold prs
  refine List.pairwise_flatMap.mpr ⟨fun i _ => ?_, ?_⟩
  · rw [List.pairwise_map]
    refine List.Pairwise.imp (fun {a b} (h : a < b) => .inr ⟨rfl, by show i + 1 + a < i + 1 + b; omega⟩) List.pairwise_lt_range
  · refine List.Pairwise.imp (fun {a b} (h : a < b) x hx y hy => .inl ?_) List.pairwise_lt_range
    obtain ⟨_, _, rfl⟩ := List.mem_map.mp hx
    obtain ⟨_, _, rfl⟩ := List.mem_map.mp hy
    exact h
theorem lt_tr {p q r : Nat × Nat} (h1 : ltPair p q) (h2 : ltPair q r) : ltPair p r := by
  unfold ltPair at *
  omega
theorem seen_ok (ns : List Int) : LotOk ns.length (seen ns) := ⟨seen_sorted ns, fun p hp => ⟨(mem_seen.mp hp).1, (mem_seen.mp hp).2.1⟩⟩
/-! ### the lots of all pairs -/
/-! ### _law_pairs -/
theorem LotOk.sub {m : Nat} {L M : Lot} (h : LotOk m L) (s : M.Sublist L) : LotOk m M := ⟨h.s.sublist s, fun p hp => h.w p (s.subset hp)⟩
/-! ### sorted(by_lots) -/
/-! ### the first of some lots -/
theorem perm_map_inv {α β : Type} {f : α → β} {l l2 : List β} (h : l.Perm l2) : ∀ M : List α, l2 = M.map f → ∃ L : List α, l = L.map f ∧ L.Perm M := by
  induction h with
  | nil =>
    intro M e
    exact ⟨M, e, List.Perm.refl _⟩
  | cons x h ih =>
    intro M e
    cases M with
    | nil => cases e
    | cons a M =>
      rw [List.map_cons] at e
      injection e with e1 e2
      obtain ⟨L, g1, g2⟩ := ih M e2
      exact ⟨a :: L, by rw [List.map_cons, ← g1, ← e1], g2.cons a⟩
  | swap x y l =>
    intro M e
    match M, e with
    | a :: b :: M, e =>
      rw [List.map_cons, List.map_cons] at e
      injection e with e1 e2
      injection e2 with e2 e3
      exact ⟨b :: a :: M, by rw [List.map_cons, List.map_cons, ← e1, ← e2, ← e3], List.Perm.swap a b M⟩
  | trans h1 h2 ih1 ih2 =>
    intro M e
    obtain ⟨L2, g1, g2⟩ := ih2 M e
    obtain ⟨L1, g3, g4⟩ := ih1 L2 g1
    exact ⟨L1, g3, g4.trans g2⟩
/-! ### pairs in their order -/
/-! ### lots in their order -/
/-! ### sorted lots -/
end VM
end
section
set_option Elab.async false
set_option linter.all false
set_option maxRecDepth 100000
set_option maxHeartbeats 4000000
namespace VM
open PySem VL VG L2
/-! ### what bars, told exactly -/
theorem what_fn {m : Nat} {L : Lot} (h1 : 1 ≤ m) (h2 : m ≤ 12) (h : LotOk m L) (hl : L.length ≤ 200) : fn_what_bars [.int (m : Int), lotD L] = some (.sh ((VM.bars m L).headD .none)) := by
  have hp : ∀ p ∈ L, p.1 ≤ 1000 ∧ p.2 ≤ 1000 := fun p hm => by
    have := h.w p hm
    omega
  have c := check_fn h1 h2 h (by omega)
  have a := all_fn h1 h2 hl hp
  have s1 : sExpr (eX (xFn fn_check_many_and_lot (aCons (eVar 0) (aCons (eVar 1) aNil)))) [.sh (.int m), .sh (lotD L), .un] = some (.nx [.sh (.int m), .sh (lotD L), .un]) := by
    unfold sExpr
    rw [x_sh (fn_ev (e := [.sh (.int m), .sh (lotD L), .un]) (ds := [.int m, lotD L]) rfl c)]
    rfl
  have s2 : sSet 2 (xFn fn_all_bars (aCons (eVar 0) (aCons (eVar 1) aNil))) [.sh (.int m), .sh (lotD L), .un] = some (.nx [.sh (.int m), .sh (lotD L), .ow (VM.bars m L)]) := set_ev (e1 := [.sh (.int m), .sh (lotD L), .un]) (i := 2) (x := .ow (VM.bars m L)) (fn_ev (ds := [.int m, lotD L]) rfl a)
  cases hb : VM.bars m L with
  | nil =>
    rw [hb] at s2
    refine fnS_rt (n := 2) (m := 1) (e1 := [.sh (.int m), .sh (lotD L), .sh (.list [])]) rfl ?_
    show bd_what_bars [.sh (.int m), .sh (lotD L), .un] = _
    unfold bd_what_bars
    rw [seq_nx s1, seq_nx s2]
    rfl
  | cons d r =>
    rw [hb] at s2
    refine fnS_rt (n := 2) (m := 1) (e1 := [.sh (.int m), .sh (lotD L), .sh (.list (d :: r))]) rfl ?_
    show bd_what_bars [.sh (.int m), .sh (lotD L), .un] = _
    unfold bd_what_bars
    rw [seq_nx s1, seq_nx s2]
    have at0' : atI (d :: r) 0 = some d := atI_nat (xs := d :: r) (j := 0) (v := d) rfl
    simp [sRetX, xE, eIf, bTru, eVar, bnd, put, pTru, eIxV, seqOf, eC, at0']
/-! ### sameness of kinds too -/
def sortN : PyData → Int
  | .bool _ => 1
  | .int _ => 2
  | .str _ => 3
  | .list _ => 4
  | .tuple _ => 5
  | _ => 6
theorem sort_fn {d : PyData} (nd : isDct d = false) : fn_law_sort [d] = some (.sh (.int (sortN d))) := by
  cases d with
  | dict _ => cases nd
  | _ => kernel_rfl
/-- a text or a number -/
inductive Leaf : PyData → Prop
  | int (i : Int) : Leaf (.int i)
  | str (x : Str) (h : PyData.strOk x = true) : Leaf (.str x)
def leafEq : PyData → PyData → Bool
  | .int i, .int j => decide (i = j)
  | .str x, .str y => decide (x = y)
  | _, _ => false
theorem pNe_int (a b : Int) : pNe (.int a) (.int b) = some (.bool (!decide (a = b))) := by
  unfold pNe
  rw [if_pos ⟨shp_i a, shp_i b⟩]
  simp only [PyData.eqv]
  congr 3
theorem pEq_leaf {x y : PyData} (hx : Leaf x) (hs : sortN x = sortN y) (sy : SeqAt.shaped y = true) : pEq x y = some (.bool (leafEq x y)) := by
  cases hx with
  | int i =>
    cases y with
    | int j =>
      unfold pEq
      rw [if_pos ⟨shp_i i, sy⟩]
      simp only [PyData.eqv, leafEq]
      congr 2
    | _ => simp [sortN] at hs
  | str x h =>
    cases y with
    | str z =>
      unfold pEq
      rw [if_pos ⟨(shp_str (n := 1) (by simp only [PyData.canLay0]; exact h)).ok (by decide), sy⟩]
      simp only [PyData.eqv, leafEq]
      congr 2
    | _ => simp [sortN] at hs
theorem leaf_nd {x : PyData} (h : Leaf x) : isDct x = false := by cases h <;> rfl
theorem leafEq_sort {x y : PyData} (h : Leaf x) (n : sortN x ≠ sortN y) : leafEq x y = false := by
  cases h with
  | int i => cases y <;> first | rfl | exact absurd rfl n
  | str s _ => cases y <;> first | rfl | exact absurd rfl n
theorem same_leaf {x y : PyData} (k : Nat) (hx : Leaf x) (ny : isDct y = false) (sy : SeqAt.shaped y = true) : fn_law_same (k + 1) [x, y] = some (.sh (.bool (leafEq x y))) := by
  have s1 := sort_fn (leaf_nd hx)
  have s2 := sort_fn ny
  have c1 : bB (eOp pNe (eX (xFn fn_law_sort (aCons (eVar 0) aNil))) (eX (xFn fn_law_sort (aCons (eVar 1) aNil)))) [.sh x, .sh y, .un, .un] = some (!decide (sortN x = sortN y), [.sh x, .sh y, .un, .un]) :=
    bB_ev (op_ev (x_sh (fn_ev (ds := [x]) rfl s1)) (x_sh (fn_ev (ds := [y]) rfl s2)) (pNe_int _ _))
  have few : sortN x ≤ 3 := by cases hx <;> simp [sortN]
  by_cases c : sortN x = sortN y
  · rw [decide_eq_true c] at c1
    have c2 : bAnd (bB (eOp pGt (eX (xFn fn_law_sort (aCons (eVar 0) aNil))) (eC (.int 3)))) (bB (eOp pLt (eX (xFn fn_law_sort (aCons (eVar 0) aNil))) (eC (.int 6)))) [.sh x, .sh y, .un, .un] = some (false, [.sh x, .sh y, .un, .un]) := by
      have g := gt_ev (c := false) (x_sh (fn_ev (e := [.sh x, .sh y, .un, .un]) (fa := aCons (eVar 0) aNil) (ds := [x]) rfl s1)) (fb := eC (.int 3)) (b := 3) rfl (decide_eq_false (by omega))
      unfold bAnd
      rw [g]
      rfl
    refine fnS_rt (n := 2) (m := 2) (e1 := [.sh x, .sh y, .un, .un]) rfl ?_
    show bd_law_same _ [.sh x, .sh y, .un, .un] = _
    unfold bd_law_same
    rw [seq_nx (e1 := [.sh x, .sh y, .un, .un]) (by rw [if_f c1]; rfl), seq_nx (e1 := [.sh x, .sh y, .un, .un]) (by rw [if_f c2]; rfl)]
    exact ret_ev (xE_ev (op_ev rfl rfl (pEq_leaf hx c sy)))
  · rw [decide_eq_false c] at c1
    rw [leafEq_sort hx c]
    refine fnS_rt (n := 2) (m := 2) (e1 := [.sh x, .sh y, .un, .un]) rfl ?_
    show bd_law_same _ [.sh x, .sh y, .un, .un] = _
    unfold bd_law_same
    rw [seq_rt (e1 := [.sh x, .sh y, .un, .un]) (by rw [if_t c1]; rfl)]
end VM
end
section
set_option Elab.async false
set_option linter.all false
set_option maxRecDepth 100000
set_option maxHeartbeats 4000000
namespace VM
open PySem VL VG L2
theorem same_diff {x y : PyData} (k : Nat) (nx : isDct x = false) (ny : isDct y = false) (n : sortN x ≠ sortN y) : fn_law_same (k + 1) [x, y] = some (.sh (.bool false)) := by
  have c1 : bB (eOp pNe (eX (xFn fn_law_sort (aCons (eVar 0) aNil))) (eX (xFn fn_law_sort (aCons (eVar 1) aNil)))) [.sh x, .sh y, .un, .un] = some (!decide (sortN x = sortN y), [.sh x, .sh y, .un, .un]) :=
    bB_ev (op_ev (x_sh (fn_ev (ds := [x]) rfl (sort_fn nx))) (x_sh (fn_ev (ds := [y]) rfl (sort_fn ny))) (pNe_int _ _))
  rw [decide_eq_false n] at c1
  refine fnS_rt (n := 2) (m := 2) (e1 := [.sh x, .sh y, .un, .un]) rfl ?_
  show bd_law_same _ [.sh x, .sh y, .un, .un] = _
  unfold bd_law_same
  rw [seq_rt (e1 := [.sh x, .sh y, .un, .un]) (by rw [if_t c1]; rfl)]
def leafAll : List PyData → List PyData → Bool
  | [], [] => true
  | a :: as, b :: bs => leafEq a b && leafAll as bs
  | _, _ => false
theorem leafAll_len : ∀ {as bs : List PyData}, leafAll as bs = true → as.length = bs.length
  | [], [], _ => rfl
  | a :: as, b :: bs, h => by
    simp only [leafAll, Bool.and_eq_true] at h
    rw [List.length_cons, List.length_cons, leafAll_len h.2]
  | [], _ :: _, h => by cases h
  | _ :: _, [], h => by cases h
theorem leafAll_range : ∀ {as bs : List PyData}, as.length = bs.length → ((List.range as.length).all fun k => leafEq (gd as k) (gd bs k)) = leafAll as bs
  | [], [], _ => rfl
  | a :: as, b :: bs, h => by
    rw [List.length_cons, List.length_cons] at h
    rw [List.length_cons, List.range_succ_eq_map, List.all_cons, List.all_map]
    show (leafEq a b && ((List.range as.length).all fun k => leafEq (gd as k) (gd bs k))) = (leafEq a b && leafAll as bs)
    rw [leafAll_range (by omega)]
  | [], _ :: _, h => by cases h
  | _ :: _, [], h => by cases h
def barSame (bs : List PyData) : PyData → Bool
  | .tuple ds => leafAll bs ds
  | _ => false
structure Fine (d : PyData) : Prop where
  s : Shp 8 d
  nd : isDct d = false
  t : ∀ ds, d = .tuple ds → ds.length ≤ 100 ∧ ∀ y ∈ ds, isDct y = false
theorem Fine.ok {d : PyData} (f : Fine d) : SeqAt.shaped d = true := f.s.ok (by decide)
theorem Fine.el {ds : List PyData} (f : Fine (.tuple ds)) : ∀ y ∈ ds, isDct y = false ∧ SeqAt.shaped y = true := fun y hy => ⟨(f.t ds rfl).2 y hy, ((shp_tup.mp f.s) y hy).ok (by decide)⟩
def smE (bs ds : List PyData) (a b : Sl) : Ev := [.sh (.tuple bs), .sh (.tuple ds), a, b]
theorem same_bar {bs : List PyData} {d : PyData} (k : Nat) (hb : ∀ x ∈ bs, Leaf x) (hl : bs.length ≤ 100) (f : Fine d) : fn_law_same (k + 2) [.tuple bs, d] = some (.sh (.bool (barSame bs d))) := by
  cases d with
  | tuple ds =>
    obtain ⟨dl, _⟩ := f.t ds rfl
    have s1 : fn_law_sort [.tuple bs] = some (.sh (.int 5)) := sort_fn (d := .tuple bs) rfl
    have s2 : fn_law_sort [.tuple ds] = some (.sh (.int 5)) := sort_fn (d := .tuple ds) rfl
    have c1 : bB (eOp pNe (eX (xFn fn_law_sort (aCons (eVar 0) aNil))) (eX (xFn fn_law_sort (aCons (eVar 1) aNil)))) (smE bs ds .un .un) = some (false, smE bs ds .un .un) :=
      bB_ev (op_ev (x_sh (fn_ev (ds := [.tuple bs]) rfl s1)) (x_sh (fn_ev (ds := [.tuple ds]) rfl s2)) (pNe_int 5 5))
    have c2 : bAnd (bB (eOp pGt (eX (xFn fn_law_sort (aCons (eVar 0) aNil))) (eC (.int 3)))) (bB (eOp pLt (eX (xFn fn_law_sort (aCons (eVar 0) aNil))) (eC (.int 6)))) (smE bs ds .un .un) = some (true, smE bs ds .un .un) :=
      and_ev (a := true) (b := true) (gt_ev (x_sh (fn_ev (e := smE bs ds .un .un) (fa := aCons (eVar 0) aNil) (ds := [.tuple bs]) rfl s1)) (fb := eC (.int 3)) (b := 3) rfl rfl) (lt_ev (x_sh (fn_ev (e := smE bs ds .un .un) (fa := aCons (eVar 0) aNil) (ds := [.tuple bs]) rfl s1)) (fb := eC (.int 6)) (b := 6) rfl rfl)
    have c3 : bB (eOp pNe (eCall pLen (aCons (eVar 0) aNil)) (eCall pLen (aCons (eVar 1) aNil))) (smE bs ds .un .un) = some (!decide ((bs.length : Int) = ds.length), smE bs ds .un .un) :=
      bB_ev (op_ev (call1_ev (a := .tuple bs) (d := .int (bs.length : Nat)) rfl rfl) (call1_ev (a := .tuple ds) (d := .int (ds.length : Nat)) rfl rfl) (pNe_int _ _))
    refine fnS_rt (n := 2) (m := 2) (e1 := smE bs ds .un .un) rfl ?_
    show bd_law_same _ (smE bs ds .un .un) = _
    unfold bd_law_same
    rw [seq_nx (e1 := smE bs ds .un .un) (by rw [if_f c1]; rfl)]
    by_cases c : bs.length = ds.length
    · rw [decide_eq_true (by omega)] at c3
      have l := lc_eq (fi := iEn (eVar 0)) (fg := gT 2 (gsCons (gN 2) (gsCons (gN 3) gsNil))) (ft := bNot (bTru (eX (xFn (fn_law_same (k + 1)) (aCons (eVar 3) (aCons (eIxV 1 (eVar 2)) aNil)))))) (fe := eVar 2) (vs := [2, 3]) (e := smE bs ds .un .un) (e3 := smE bs ds .un .un) (ds := enumD 0 bs)
        (D := fun k : Nat => PyData.tuple [.int ((0 + k : Nat) : Int), gd bs k]) (xs := List.range bs.length) (E1 := fun k : Nat => smE bs ds (.sh (.int ((0 + k : Nat) : Int))) (.sh (gd bs k))) (b := fun k => !leafEq (gd bs k) (gd ds k)) (y := fun k => PyData.int ((0 + k : Nat) : Int)) rfl (enum_map bs 0) (by rw [List.length_range]; omega) rfl rfl (fun _ _ => rfl) (fun j hj => ?_) (fun _ _ _ => rfl) (fun _ _ => rfl)
      · rw [seq_rt (e1 := smE bs ds .un .un) (x := .sh (.bool (leafAll bs ds))) ?_]
        · rfl
        rw [if_t c2, seq_nx (e1 := smE bs ds .un .un) (by rw [if_f c3]; rfl)]
        refine ret_ev (xE_ev (op_ev (x_ow l) (lst0) ?_))
        have sh : SeqAt.shaped (.list (((List.range bs.length).filter fun k => !leafEq (gd bs k) (gd ds k)).map fun k => PyData.int ((0 + k : Nat) : Int))) = true := Shp.ok (n := 1) (shp_list.mpr fun d hd => by
          obtain ⟨i, _, rfl⟩ := List.mem_map.mp hd
          exact shp_int) (by decide)
        rw [pEq_nil sh, ← leafAll_range c]
        congr 2
        rw [Bool.eq_iff_iff, List.isEmpty_iff, List.map_eq_nil_iff, List.filter_eq_nil_iff, List.all_eq_true]
        constructor
        · intro h k hk
          have := h k hk
          simpa using this
        · intro h k hk
          have := h k hk
          simp [this]
      · have j1 : j < bs.length := List.mem_range.mp hj
        have g1 := gd_mem j1
        have g2 := gd_mem (show j < ds.length by omega)
        have fe := f.el _ g2.1
        refine notT_ev (x_sh (fn_ev (ds := [gd bs j, gd ds j]) ?_ (same_leaf k (hb _ g1.1) fe.1 fe.2)))
        refine args2 rfl (ixv_ev (ds0 := ds) (ds := ds) (k := ((0 + j : Nat) : Int)) rfl rfl rfl ?_)
        rw [Nat.zero_add]
        exact g2.2
    · rw [decide_eq_false (by omega)] at c3
      have e : leafAll bs ds = false := by
        cases z : leafAll bs ds with
        | false => rfl
        | true => exact absurd (leafAll_len z) c
      rw [seq_rt (e1 := smE bs ds .un .un) (x := .sh (.bool false)) (by rw [if_t c2, seq_rt (e1 := smE bs ds .un .un) (by rw [if_t c3]; rfl)])]
      show _ = some (Out.rt (.sh (.bool (leafAll bs ds))) _)
      rw [e]
  | dict _ => cases f.nd
  | _ => exact same_diff (k + 1) rfl rfl (by simp [sortN])
end VM
end
section
set_option Elab.async false
set_option linter.all false
set_option maxRecDepth 100000
set_option maxHeartbeats 4000000
namespace VM
open PySem VL VG L2
/-! ### bars(many, lot, thing) -/
def isWh : PyData → Bool
  | .int _ => true
  | _ => false
theorem wh_fn {y : PyData} (nd : isDct y = false) : fn_is_whole [y] = some (.sh (.bool (isWh y))) := by
  cases y with
  | dict _ => cases nd
  | _ => kernel_rfl
theorem cut1 (ds : List PyData) : cutD ds (some 1) none = ds.drop 1 := by
  unfold cutD
  rw [show (1 : Int) = ((1 : Nat) : Int) from rfl, HT.sIx_nat, HT.sIx_none]
  cases ds with
  | nil => rfl
  | cons a r =>
    have : min 1 (a :: r).length = 1 := by rw [List.length_cons]; omega
    rw [this, List.take_of_length_le (by rw [List.length_drop]; omega)]
theorem apS : PyData.strOk ("apart" : Str) = true := strOk_of "apart"
theorem crS : PyData.strOk ("cross" : Str) = true := strOk_of "cross"
theorem alS : PyData.strOk ("alone" : Str) = true := strOk_of "alone"
def isBar (d : PyData) : Prop := ∃ (s : Str) (is : List Int), d = .tuple (.str s :: is.map .int) ∧ PyData.strOk s = true ∧ is.length ≤ 4 ∧ ∀ i ∈ is, 0 ≤ i ∧ i ≤ 1000
theorem bars_are {m : Nat} {L : Lot} {d : PyData} (hm : m ≤ 12) (hL : ∀ p ∈ L, p.1 ≤ 1000 ∧ p.2 ≤ 1000) (h : d ∈ VM.bars m L) : isBar d := by
  unfold VM.bars crosses at h
  simp only [List.mem_append, List.mem_map, List.mem_flatMap] at h
  rcases h with (⟨k, hk, rfl⟩ | ⟨p, hp, q, hq, rfl⟩) | ⟨p, hp, rfl⟩
  · have : k < m - 1 := List.mem_range.mp (List.mem_filter.mp hk).1
    refine ⟨"apart", [0 + (k : Int), 0 + (k : Int) + 1], rfl, apS, by simp, fun i hi => ?_⟩
    simp only [List.mem_cons, List.not_mem_nil, or_false] at hi
    omega
  · have h1 := hL p hp
    have h2 := hL q (List.mem_filter.mp hq).1
    refine ⟨"cross", [(p.1 : Int), (p.2 : Int), (q.1 : Int), (q.2 : Int)], rfl, crS, by simp, fun i hi => ?_⟩
    simp only [List.mem_cons, List.not_mem_nil, or_false] at hi
    omega
  · have h1 := hL p (List.mem_filter.mp hp).1
    refine ⟨"alone", [(p.1 : Int), (p.2 : Int)], rfl, alS, by simp, fun i hi => ?_⟩
    simp only [List.mem_cons, List.not_mem_nil, or_false] at hi
    omega
def unT : PyData → List PyData
  | .tuple ds => ds
  | _ => []
theorem isBar.leaf {d : PyData} (h : isBar d) : d = .tuple (unT d) ∧ (unT d).length ≤ 5 ∧ ∀ x ∈ unT d, Leaf x := by
  obtain ⟨s, is, rfl, hs, hl, _⟩ := h
  refine ⟨rfl, by show (is.map PyData.int).length + 1 ≤ 5; rw [List.length_map]; omega, fun x hx => ?_⟩
  rcases List.mem_cons.mp hx with z | z
  · rw [z]
    exact .str s hs
  · obtain ⟨i, _, rfl⟩ := List.mem_map.mp z
    exact .int i
theorem isBar.shp {d : PyData} (h : isBar d) : Shp 2 d := by
  obtain ⟨s, is, rfl, hs, hl, _⟩ := h
  refine shp_tup.mpr fun x hx => ?_
  rcases List.mem_cons.mp hx with z | z
  · rw [z]
    exact shp_str (by simp only [PyData.canLay0]; exact hs)
  · obtain ⟨i, _, rfl⟩ := List.mem_map.mp z
    exact shp_int
theorem eqv_wh : ∀ {is : List Int} {ds : List PyData}, (∀ y ∈ ds, isWh y = true) → PyData.eqvAll (is.map .int) ds = leafAll (is.map .int) ds
  | [], [], _ => by simp [PyData.eqvAll, leafAll]
  | [], _ :: _, _ => by simp [PyData.eqvAll, leafAll]
  | _ :: _, [], _ => by simp [PyData.eqvAll, leafAll]
  | i :: is, y :: ds, h => by
    have hy := h y List.mem_cons_self
    cases y with
    | int j =>
      have ih := eqv_wh (is := is) (ds := ds) fun z hz => h z (List.mem_cons_of_mem _ hz)
      simp only [List.map_cons, PyData.eqvAll, leafAll, PyData.eqv, leafEq, ih]
      rfl
    | _ => cases hy
theorem leaf_wh : ∀ {is : List Int} {ds : List PyData}, leafAll (is.map .int) ds = true → ∀ y ∈ ds, isWh y = true
  | [], [], _, _, hy => by cases hy
  | [], _ :: _, h, _, _ => by simp [leafAll] at h
  | _ :: _, [], h, _, _ => by simp [leafAll] at h
  | i :: is, z :: ds, h, y, hy => by
    simp only [List.map_cons, leafAll, Bool.and_eq_true] at h
    rcases List.mem_cons.mp hy with e | e
    · rw [e]
      cases z with
      | int j => rfl
      | _ => simp [leafEq] at h
    · exact leaf_wh h.2 y e
theorem bar_eqv {b : PyData} {ds : List PyData} (hb : isBar b) (h : ((ds.drop 1).map isWh).all id = true) : PyData.eqv b (.tuple ds) = barSame (unT b) (.tuple ds) := by
  obtain ⟨s, is, rfl, hs, hl, _⟩ := hb
  show PyData.eqv (.tuple (.str s :: is.map .int)) (.tuple ds) = leafAll (.str s :: is.map .int) ds
  cases ds with
  | nil => simp [PyData.eqv, PyData.eqvAll, leafAll]
  | cons y ys =>
    rw [List.all_map] at h
    have w : ∀ z ∈ ys, isWh z = true := fun z hz => List.all_eq_true.mp h z hz
    have e0 : PyData.eqv (.tuple (.str s :: is.map .int)) (.tuple (y :: ys)) = (PyData.eqv (.str s) y && PyData.eqvAll (is.map .int) ys) := by
      rw [PyData.eqv, PyData.eqvAll]
    have e1 : PyData.eqv (.str s) y = leafEq (.str s) y := by
      cases y with
      | str t =>
        rw [PyData.eqv]
        rfl
      | _ => simp [PyData.eqv, leafEq]
    rw [e0, e1, eqv_wh w]
    rfl
theorem bar_not {b : PyData} {ds : List PyData} (hb : isBar b) (h : ((ds.drop 1).map isWh).all id = false) : barSame (unT b) (.tuple ds) = false := by
  obtain ⟨s, is, rfl, hs, hl, _⟩ := hb
  show leafAll (.str s :: is.map .int) ds = false
  cases z : leafAll (.str s :: is.map .int) ds with
  | false => rfl
  | true =>
    cases ds with
    | nil => cases z
    | cons y ys =>
      simp only [leafAll, Bool.and_eq_true] at z
      have w := leaf_wh z.2
      rw [List.all_map] at h
      have : ((y :: ys).drop 1).all (id ∘ isWh) = true := List.all_eq_true.mpr fun x hx => w x hx
      rw [this] at h
      cases h
theorem any_same {α : Type} {p q : α → Bool} : ∀ {l : List α}, (∀ x ∈ l, p x = q x) → l.any p = l.any q
  | [], _ => rfl
  | a :: l, h => by
    rw [List.any_cons, List.any_cons, h a List.mem_cons_self, any_same fun x hx => h x (List.mem_cons_of_mem _ hx)]
def bE (m : Nat) (L : Lot) (d : PyData) (a : Sl) : Ev := [.sh (.int (m : Int)), .sh (lotD L), .sh d, a]
theorem bars_fn {m : Nat} {L : Lot} {d : PyData} (h1 : 1 ≤ m) (h2 : m ≤ 12) (h : LotOk m L) (hl : L.length ≤ 200) (f : Fine d) : fn_bars [.int (m : Int), lotD L, d] = some (.sh (.bool ((VM.bars m L).any fun b => barSame (unT b) d))) := by
  have hp : ∀ p ∈ L, p.1 ≤ 1000 ∧ p.2 ≤ 1000 := fun p hm => by
    have := h.w p hm
    omega
  have c := check_fn h1 h2 h (by omega)
  have a := all_fn h1 h2 hl hp
  have s1 : sExpr (eX (xFn fn_check_many_and_lot (aCons (eVar 0) (aCons (eVar 1) aNil)))) (bE m L d .un) = some (.nx (bE m L d .un)) := by
    unfold sExpr
    rw [x_sh (fn_ev (e := bE m L d .un) (ds := [.int m, lotD L]) rfl c)]
    rfl
  have nt : (∀ ds, d ≠ .tuple ds) → fn_bars [.int (m : Int), lotD L, d] = some (.sh (.bool ((VM.bars m L).any fun b => barSame (unT b) d))) := fun hd => by
    have e : ((VM.bars m L).any fun b => barSame (unT b) d) = false := List.any_eq_false.mpr fun b hb => by
      cases d with
      | tuple ds => exact absurd rfl (hd ds)
      | _ => exact fun z => by cases z
    have c2 : bNot (bTru (eUn (pIsi .tuple) (eVar 2))) (bE m L d .un) = some (true, bE m L d .un) := by
      cases d with
      | tuple ds => exact absurd rfl (hd ds)
      | dict _ => cases f.nd
      | _ => rfl
    rw [e]
    refine fnS_rt (n := 3) (m := 1) (e1 := bE m L d .un) rfl ?_
    show bd_bars (bE m L d .un) = _
    unfold bd_bars
    rw [seq_nx s1, seq_rt (e1 := bE m L d .un) (x := .sh (.bool false)) (by rw [if_t c2]; rfl)]
  cases d with
  | tuple ds =>
    obtain ⟨dl, nd⟩ := f.t ds rfl
    have s2 : sIf (bNot (bTru (eUn (pIsi .tuple) (eVar 2)))) (sRetX (xE (eC (.bool false)))) sNil (bE m L (.tuple ds) .un) = some (.nx (bE m L (.tuple ds) .un)) := rfl
    have cut := cut1 ds
    have l := lc_eq (fi := iAny (eX (xSl (eVar 2) (oSome (eC (.int 1))) oNo))) (fg := gN 3) (ft := bYes) (fe := eX (xFn fn_is_whole (aCons (eVar 3) aNil))) (vs := [3]) (e := bE m L (.tuple ds) .un) (e1 := bE m L (.tuple ds) .un) (e3 := bE m L (.tuple ds) .un) (ds := ds.drop 1)
      (D := id) (xs := ds.drop 1) (E1 := fun y => bE m L (.tuple ds) (.sh y)) (b := fun _ => true) (y := fun y => PyData.bool (isWh y)) (by simp [iAny, eX, xSl, eVar, oSome, oNo, eC, bnd, put, pSl, bE, cut, seqD]) (List.map_id _).symm (by rw [List.length_drop]; omega) rfl rfl (fun _ _ => rfl) (fun _ _ => rfl) (fun y hy _ => x_sh (fn_ev (ds := [y]) rfl (wh_fn (nd y (List.mem_of_mem_drop hy))))) (fun _ _ => rfl)
    rw [filter_yes] at l
    have pa : pAll [.list ((ds.drop 1).map fun y => PyData.bool (isWh y))] = some (.bool (((ds.drop 1).map isWh).all id)) := by
      have := pAll_map ((ds.drop 1).map isWh)
      rw [List.map_map] at this
      exact this
    have c3 := notT_ev (call1_ev (x_ow l) pa)
    refine fnS_rt (n := 3) (m := 1) (e1 := bE m L (.tuple ds) .un) rfl ?_
    show bd_bars (bE m L (.tuple ds) .un) = _
    unfold bd_bars
    rw [seq_nx s1, seq_nx s2]
    cases w : ((ds.drop 1).map isWh).all id with
    | true =>
      rw [w] at c3
      rw [seq_nx (e1 := bE m L (.tuple ds) .un) (by rw [if_f c3]; rfl)]
      refine ret_ev (xE_ev (op_ev (a := .tuple ds) (b := .list (VM.bars m L)) rfl (x_ow (fn_ev (ds := [.int m, lotD L]) rfl a)) ?_))
      have sb : SeqAt.shaped (.list (VM.bars m L)) = true := Shp.ok (n := 3) (shp_list.mpr fun b hb => (bars_are h2 hp hb).shp) (by decide)
      show (if SeqAt.shaped (.tuple ds) = true ∧ SeqAt.shaped (.list (VM.bars m L)) = true then some (PyData.bool (xor false ((VM.bars m L).any fun z => PyData.eqv z (.tuple ds)))) else none) = _
      rw [if_pos ⟨f.ok, sb⟩, Bool.false_xor]
      congr 2
      exact any_same fun b hb => bar_eqv (bars_are h2 hp hb) w
    | false =>
      rw [w] at c3
      have e : ((VM.bars m L).any fun b => barSame (unT b) (.tuple ds)) = false := List.any_eq_false.mpr fun b hb => by
        rw [bar_not (bars_are h2 hp hb) w]
        decide
      rw [e, seq_rt (e1 := bE m L (.tuple ds) .un) (x := .sh (.bool false)) (by rw [if_t c3]; rfl)]
  | dict _ => cases f.nd
  | _ => exact nt fun ds z => by cases z
end VM
end
section
set_option Elab.async false
set_option linter.all false
set_option maxRecDepth 100000
set_option maxHeartbeats 4000000
namespace VM
open PySem VL VG L2
/-! ### _law_bars -/
def gE (m : Nat) (L : Lot) (F : List PyData) (a3 a4 a5 a6 a7 : Sl) : Ev := [.sh (.int (m : Int)), .sh (lotD L), .ow F, a3, a4, a5, a6, a7, .un]
def gB0 : Ev → Option Out := sSet 2 (xLc (iR1 (aCons (eOp pSub (eVar 0) (eC (.int 1))) aNil)) (gN 3) (bB (eOp (pIn true) (eTup (aCons (eVar 3) (aCons (eX (xOps pAdd (eVar 3) (eC (.int 1)))) aNil))) (eVar 1))) (eTup (aCons (eC (.str "apart")) (aCons (eVar 3) (aCons (eX (xOps pAdd (eVar 3) (eC (.int 1)))) aNil)))) [3])
def gI : PyData → Ev → Option Ev := gT 2 (gsCons (gN 6) (gsCons (gN 7) gsNil))
def gO : PyData → Ev → Option Ev := gT 2 (gsCons (gN 3) (gsCons (gN 4) gsNil))
def gB1b : Ev → Option Out := sIf (bAnd (bB (eOp pGt (eVar 6) (eVar 3))) (bAnd (bB (eOp pLt (eVar 6) (eVar 4))) (bB (eOp pGt (eVar 7) (eVar 4))))) (sApp 2 (eTup (aCons (eC (.str "cross")) (aCons (eVar 3) (aCons (eVar 4) (aCons (eVar 6) (aCons (eVar 7) aNil))))))) sNil
def gB1 : Ev → Option Out := sFor (iAny (eVar 1)) gI gB1b
def gB2a : Ev → Option Out := sSet 5 (xLc (iR2 (aCons (eX (xOps pAdd (eVar 3) (eC (.int 1)))) (aCons (eVar 4) aNil))) (gN 8) (bB (eOp (pIn false) (eTup (aCons (eVar 3) (aCons (eVar 8) aNil))) (eVar 1))) (eVar 8) [8])
def gB2b : Ev → Option Out := sIf (bAnd (bB (eOp pGt (eOp pSub (eVar 4) (eVar 3)) (eC (.int 1)))) (bB (eOp pEq (eX (xLc (iAny (eVar 5)) (gN 8) (bB (eOp (pIn false) (eTup (aCons (eVar 8) (aCons (eVar 4) aNil))) (eVar 1))) (eVar 8) [8])) (eX (xLst aNil))))) (sApp 2 (eTup (aCons (eC (.str "alone")) (aCons (eVar 3) (aCons (eVar 4) aNil))))) sNil
theorem lbars_parts : bd_law_bars = sSeq gB0 (sSeq (sFor (iAny (eVar 1)) gO gB1) (sSeq (sFor (iAny (eVar 1)) gO (sSeq gB2a gB2b)) (sRetX (xVar 2)))) := rfl
section
variable {m : Nat} {L : Lot} {F : List PyData} {a3 a4 a5 a6 a7 : Sl}
theorem gB0_ev (h1 : 1 ≤ m) (h2 : m ≤ 12) : gB0 [.sh (.int (m : Int)), .sh (lotD L), .un, .un, .un, .un, .un, .un, .un] = some (.nx (gE m L ((apart m L).map apD) .un .un .un .un .un)) := by
  have r0 : iR1 (aCons (eOp pSub (eVar 0) (eC (.int 1))) aNil) [.sh (.int (m : Int)), .sh (lotD L), .un, .un, .un, .un, .un, .un, .un] = some (upto 0 (m - 1), [.sh (.int (m : Int)), .sh (lotD L), .un, .un, .un, .un, .un, .un, .un]) := by
    rw [← toN1 h1]
    exact iR1_eq rfl (inR_int (by omega) (by omega))
  have l := lc_eq (fg := gN 3) (ft := bB (eOp (pIn true) (eTup (aCons (eVar 3) (aCons (eX (xOps pAdd (eVar 3) (eC (.int 1)))) aNil))) (eVar 1))) (fe := eTup (aCons (eC (.str "apart")) (aCons (eVar 3) (aCons (eX (xOps pAdd (eVar 3) (eC (.int 1)))) aNil)))) (vs := [3])
    (E1 := fun k : Nat => [.sh (.int (m : Int)), .sh (lotD L), .un, .sh (.int (0 + (k : Int))), .un, .un, .un, .un, .un]) (b := apB L) (y := apD) r0 (upto_map 0 (m - 1)) (by rw [List.length_range]; omega) rfl rfl (fun _ _ => rfl)
    (fun k _ => bB_ev (op_ev (tup2_ev rfl rfl) rfl (in_lot (x := k) (y := k + 1) (by omega) (by omega)))) (fun _ _ _ => rfl) (fun _ _ => rfl)
  exact set_ev (i := 2) l
theorem gB1_ev {p : Nat × Nat} (hF : F.length ≤ 20000) (hl : L.length ≤ 200) : ∃ b6 b7, gB1 (gE m L F (.sh (.int (p.1 : Nat))) (.sh (.int (p.2 : Nat))) a5 a6 a7) = some (.nx (gE m L (F ++ (L.filter (crB p)).map (crD p)) (.sh (.int (p.1 : Nat))) (.sh (.int (p.2 : Nat))) a5 b6 b7)) := by
  obtain ⟨e', L1, b6, b7, rfl⟩ := loop_map (fg := gI) (fb := gB1b) (D := pairD) (P := fun pre e => ∃ b6 b7, e = gE m L (F ++ (pre.filter (crB p)).map (crD p)) (.sh (.int (p.1 : Nat))) (.sh (.int (p.2 : Nat))) a5 b6 b7) L (fun pre q e hq hpre h => by
    obtain ⟨b6, b7, rfl⟩ := h
    have fl : (F ++ (pre.filter (crB p)).map (crD p)).length ≤ 1000000 := by
      rw [List.length_append, List.length_map]
      have := List.length_filter_le (crB p) pre
      omega
    have c : bAnd (bB (eOp pGt (eVar 6) (eVar 3))) (bAnd (bB (eOp pLt (eVar 6) (eVar 4))) (bB (eOp pGt (eVar 7) (eVar 4)))) (gE m L (F ++ (pre.filter (crB p)).map (crD p)) (.sh (.int (p.1 : Nat))) (.sh (.int (p.2 : Nat))) a5 (.sh (.int (q.1 : Nat))) (.sh (.int (q.2 : Nat)))) = some (crB p q, gE m L (F ++ (pre.filter (crB p)).map (crD p)) (.sh (.int (p.1 : Nat))) (.sh (.int (p.2 : Nat))) a5 (.sh (.int (q.1 : Nat))) (.sh (.int (q.2 : Nat)))) :=
      and_ev (gt_ev (a := (q.1 : Nat)) (b := (p.1 : Nat)) rfl rfl (dec_iff (by omega))) (and_ev (lt_ev (a := (q.1 : Nat)) (b := (p.2 : Nat)) rfl rfl (dec_iff (by omega))) (gt_ev (a := (q.2 : Nat)) (b := (p.2 : Nat)) rfl rfl (dec_iff (by omega))))
    refine ⟨gE m L (F ++ (pre.filter (crB p)).map (crD p)) (.sh (.int (p.1 : Nat))) (.sh (.int (p.2 : Nat))) a5 (.sh (.int (q.1 : Nat))) (.sh (.int (q.2 : Nat))), gE m L (F ++ ((pre ++ [q]).filter (crB p)).map (crD p)) (.sh (.int (p.1 : Nat))) (.sh (.int (p.2 : Nat))) a5 (.sh (.int (q.1 : Nat))) (.sh (.int (q.2 : Nat))), rfl, ?_, _, _, rfl⟩
    unfold gB1b
    rw [if_ev c, List.filter_append]
    cases hc : crB p q with
    | true =>
      rw [if_pos rfl, show ([q] : Lot).filter (crB p) = [q] by simp [hc], List.map_append, ← List.append_assoc]
      exact app_ev (i := 2) (ds := F ++ (pre.filter (crB p)).map (crD p)) (ds' := F ++ (pre.filter (crB p)).map (crD p)) (d := crD p q) (e1 := gE m L (F ++ (pre.filter (crB p)).map (crD p)) (.sh (.int (p.1 : Nat))) (.sh (.int (p.2 : Nat))) a5 (.sh (.int (q.1 : Nat))) (.sh (.int (q.2 : Nat)))) rfl rfl rfl fl
    | false =>
      rw [if_neg (by decide), show ([q] : Lot).filter (crB p) = [] by simp [hc], List.append_nil]
      rfl) (gE m L F (.sh (.int (p.1 : Nat))) (.sh (.int (p.2 : Nat))) a5 a6 a7) ⟨a6, a7, by rw [List.filter_nil, List.map_nil, List.append_nil]⟩
  exact ⟨_, _, (for_of (any_lot (L := L) rfl)).trans L1⟩
theorem gF1_ev (hF : F.length ≤ 100) (hl : L.length ≤ 100) : ∃ b3 b4 b6 b7, sFor (iAny (eVar 1)) gO gB1 (gE m L F a3 a4 a5 a6 a7) = some (.nx (gE m L (F ++ crosses L) b3 b4 a5 b6 b7)) := by
  obtain ⟨e', L1, b3, b4, b6, b7, rfl⟩ := loop_map (fg := gO) (fb := gB1) (D := pairD) (P := fun pre e => ∃ b3 b4 b6 b7, e = gE m L (F ++ pre.flatMap fun p => (L.filter (crB p)).map (crD p)) b3 b4 a5 b6 b7) L (fun pre p e hp hpre h => by
    obtain ⟨b3, b4, b6, b7, rfl⟩ := h
    have fl : (F ++ pre.flatMap fun p => (L.filter (crB p)).map (crD p)).length ≤ 20000 := by
      rw [List.length_append]
      have := flat_len (n := 100) (f := fun p => (L.filter (crB p)).map (crD p)) pre fun x _ => by
        rw [List.length_map]
        exact Nat.le_trans (List.length_filter_le _ _) hl
      omega
    obtain ⟨c6, c7, h2⟩ := gB1_ev (m := m) (L := L) (p := p) (a5 := a5) (a6 := b6) (a7 := b7) fl (by omega)
    refine ⟨gE m L (F ++ pre.flatMap fun p => (L.filter (crB p)).map (crD p)) (.sh (.int (p.1 : Nat))) (.sh (.int (p.2 : Nat))) a5 b6 b7, _, rfl, h2, .sh (.int (p.1 : Nat)), .sh (.int (p.2 : Nat)), c6, c7, ?_⟩
    rw [List.flatMap_append, ← List.append_assoc, List.flatMap_cons, List.flatMap_nil, List.append_nil]) (gE m L F a3 a4 a5 a6 a7) ⟨a3, a4, a6, a7, by rw [List.flatMap_nil, List.append_nil]⟩
  exact ⟨_, _, _, _, (for_of (any_lot (L := L) rfl)).trans L1⟩
def amid (L : Lot) (p : Nat × Nat) : List Nat := (List.range (p.2 - (p.1 + 1))).filter fun k => decide ((p.1, p.1 + 1 + k) ∈ L)
def amD (p : Nat × Nat) (k : Nat) : PyData := .int ((p.1 : Int) + 1 + (k : Int))
theorem gB2a_ev {p : Nat × Nat} (hp : p.1 ≤ 1000 ∧ p.2 ≤ 1000) : gB2a (gE m L F (.sh (.int (p.1 : Nat))) (.sh (.int (p.2 : Nat))) a5 a6 a7) = some (.nx (gE m L F (.sh (.int (p.1 : Nat))) (.sh (.int (p.2 : Nat))) (.ow ((amid L p).map (amD p))) a6 a7)) := by
  have r0 : iR2 (aCons (eX (xOps pAdd (eVar 3) (eC (.int 1)))) (aCons (eVar 4) aNil)) (gE m L F (.sh (.int (p.1 : Nat))) (.sh (.int (p.2 : Nat))) a5 a6 a7) = some (upto ((p.1 : Int) + 1) ((p.2 : Int) - ((p.1 : Int) + 1)).toNat, gE m L F (.sh (.int (p.1 : Nat))) (.sh (.int (p.2 : Nat))) a5 a6 a7) :=
    iR2_eq rfl ⟨inR_int (by omega) (by omega), inR_nat (by omega)⟩
  rw [show ((p.2 : Int) - ((p.1 : Int) + 1)).toNat = p.2 - (p.1 + 1) by omega] at r0
  have l := lc_eq (fg := gN 8) (ft := bB (eOp (pIn false) (eTup (aCons (eVar 3) (aCons (eVar 8) aNil))) (eVar 1))) (fe := eVar 8) (vs := [8]) (e3 := gE m L F (.sh (.int (p.1 : Nat))) (.sh (.int (p.2 : Nat))) a5 a6 a7)
    (E1 := fun k : Nat => [.sh (.int (m : Int)), .sh (lotD L), .ow F, .sh (.int (p.1 : Nat)), .sh (.int (p.2 : Nat)), a5, a6, a7, .sh (.int ((p.1 : Int) + 1 + (k : Int)))]) (b := fun k => decide ((p.1, p.1 + 1 + k) ∈ L)) (y := amD p) r0 (upto_map ((p.1 : Int) + 1) _) (by rw [List.length_range]; omega) rfl rfl (fun _ _ => rfl)
    (fun k _ => bB_ev (op_ev (tup2_ev rfl rfl) rfl ?_)) (fun _ _ _ => rfl) (fun _ _ => rfl)
  · exact set_ev (i := 5) l
  · rw [in_lot (x := p.1) (y := p.1 + 1 + k) rfl (by omega)]
    simp
theorem gB2b_ev {p : Nat × Nat} (hp : p.1 ≤ 1000 ∧ p.2 ≤ 1000) (hF : F.length ≤ 30000) : ∃ b5, gB2b (gE m L F (.sh (.int (p.1 : Nat))) (.sh (.int (p.2 : Nat))) (.ow ((amid L p).map (amD p))) a6 a7) = some (.nx (gE m L (if alB L p = true then F ++ [alD p] else F) (.sh (.int (p.1 : Nat))) (.sh (.int (p.2 : Nat))) b5 a6 a7)) := by
  have c1 : bB (eOp pGt (eOp pSub (eVar 4) (eVar 3)) (eC (.int 1))) (gE m L F (.sh (.int (p.1 : Nat))) (.sh (.int (p.2 : Nat))) (.ow ((amid L p).map (amD p))) a6 a7) = some (decide (p.1 + 1 < p.2), gE m L F (.sh (.int (p.1 : Nat))) (.sh (.int (p.2 : Nat))) (.ow ((amid L p).map (amD p))) a6 a7) :=
    gt_ev (a := (p.2 : Int) - (p.1 : Int)) (b := 1) rfl rfl (dec_iff (by omega))
  by_cases c : p.1 + 1 < p.2
  · rw [decide_eq_true c] at c1
    have am : (amid L p).length ≤ 1000 := by
      unfold amid
      have := List.length_filter_le (fun k => decide ((p.1, p.1 + 1 + k) ∈ L)) (List.range (p.2 - (p.1 + 1)))
      rw [List.length_range] at this
      omega
    have l := lc_eq (fi := iAny (eVar 5)) (fg := gN 8) (ft := bB (eOp (pIn false) (eTup (aCons (eVar 8) (aCons (eVar 4) aNil))) (eVar 1))) (fe := eVar 8) (vs := [8]) (e := gE m L F (.sh (.int (p.1 : Nat))) (.sh (.int (p.2 : Nat))) (.ow ((amid L p).map (amD p))) a6 a7) (e1 := gE m L F (.sh (.int (p.1 : Nat))) (.sh (.int (p.2 : Nat))) (.sh (.list ((amid L p).map (amD p)))) a6 a7) (e3 := gE m L F (.sh (.int (p.1 : Nat))) (.sh (.int (p.2 : Nat))) (.sh (.list ((amid L p).map (amD p)))) a6 a7) (ds := (amid L p).map (amD p)) (D := amD p) (xs := amid L p)
      (E1 := fun k : Nat => [.sh (.int (m : Int)), .sh (lotD L), .ow F, .sh (.int (p.1 : Nat)), .sh (.int (p.2 : Nat)), .sh (.list ((amid L p).map (amD p))), a6, a7, .sh (amD p k)]) (b := fun k => decide ((p.1 + 1 + k, p.2) ∈ L)) (y := amD p) rfl rfl (by omega) rfl rfl (fun _ _ => rfl)
      (fun k _ => bB_ev (op_ev (a := .tuple [amD p k, .int (p.2 : Nat)]) (tup2_ev rfl rfl) rfl ?_)) (fun _ _ _ => rfl) (fun _ _ => rfl)
    · have sh : SeqAt.shaped (.list (((amid L p).filter fun k => decide ((p.1 + 1 + k, p.2) ∈ L)).map (amD p))) = true := Shp.ok (n := 1) (shp_list.mpr fun d hd => by
        obtain ⟨i, _, rfl⟩ := List.mem_map.mp hd
        exact shp_int) (by decide)
      have c2 := bB_ev (op_ev (x_ow l) lst0 (pEq_nil sh))
      have eb : ((((amid L p).filter fun k => decide ((p.1 + 1 + k, p.2) ∈ L)).map (amD p)).isEmpty) = !both L p.1 p.2 := by
        unfold both amid boB
        rw [Bool.eq_iff_iff, List.isEmpty_iff, List.map_eq_nil_iff, List.filter_filter, List.filter_eq_nil_iff, Bool.not_eq_true', List.any_map, List.any_eq_false]
        constructor
        · intro h k hk
          have := h k hk
          simp at this ⊢
          intro q1 q2
          exact this q2 q1
        · intro h k hk
          have := h k hk
          simp at this ⊢
          intro q1 q2
          exact this q2 q1
      rw [eb] at c2
      have cc : bAnd (bB (eOp pGt (eOp pSub (eVar 4) (eVar 3)) (eC (.int 1)))) (bB (eOp pEq (eX (xLc (iAny (eVar 5)) (gN 8) (bB (eOp (pIn false) (eTup (aCons (eVar 8) (aCons (eVar 4) aNil))) (eVar 1))) (eVar 8) [8])) (eX (xLst aNil)))) (gE m L F (.sh (.int (p.1 : Nat))) (.sh (.int (p.2 : Nat))) (.ow ((amid L p).map (amD p))) a6 a7) = some (!both L p.1 p.2, gE m L F (.sh (.int (p.1 : Nat))) (.sh (.int (p.2 : Nat))) (.sh (.list ((amid L p).map (amD p)))) a6 a7) := by
        unfold bAnd
        rw [c1]
        exact c2
      refine ⟨.sh (.list ((amid L p).map (amD p))), ?_⟩
      unfold gB2b
      rw [if_ev cc]
      have al : alB L p = !both L p.1 p.2 := by
        unfold alB
        rw [decide_eq_true c, Bool.true_and]
      rw [al]
      cases both L p.1 p.2 with
      | true => rfl
      | false =>
        rw [if_pos (show (!false) = true from rfl), if_pos (show (!false) = true from rfl)]
        exact app_ev (i := 2) (ds := F) (ds' := F) (d := alD p) (e1 := gE m L F (.sh (.int (p.1 : Nat))) (.sh (.int (p.2 : Nat))) (.sh (.list ((amid L p).map (amD p)))) a6 a7) rfl rfl rfl (by omega)
    · rw [show amD p k = .int ((p.1 : Int) + 1 + (k : Int)) from rfl, in_lot (x := p.1 + 1 + k) (y := p.2) (by omega) rfl]
      simp
  · rw [decide_eq_false c] at c1
    have al : alB L p = false := by
      unfold alB
      rw [decide_eq_false c, Bool.false_and]
    rw [al]
    refine ⟨.ow ((amid L p).map (amD p)), ?_⟩
    unfold gB2b
    rw [if_f (e1 := gE m L F (.sh (.int (p.1 : Nat))) (.sh (.int (p.2 : Nat))) (.ow ((amid L p).map (amD p))) a6 a7) (by unfold bAnd; rw [c1]; rfl)]
    rfl
theorem gF2_ev (hF : F.length ≤ 20000) (hl : L.length ≤ 100) (hp : ∀ p ∈ L, p.1 ≤ 1000 ∧ p.2 ≤ 1000) : ∃ b3 b4 b5, sFor (iAny (eVar 1)) gO (sSeq gB2a gB2b) (gE m L F a3 a4 a5 a6 a7) = some (.nx (gE m L (F ++ (L.filter (alB L)).map alD) b3 b4 b5 a6 a7)) := by
  obtain ⟨e', L1, b3, b4, b5, rfl⟩ := loop_map (fg := gO) (fb := sSeq gB2a gB2b) (D := pairD) (P := fun pre e => ∃ b3 b4 b5, e = gE m L (F ++ (pre.filter (alB L)).map alD) b3 b4 b5 a6 a7) L (fun pre p e hm hpre h => by
    obtain ⟨b3, b4, b5, rfl⟩ := h
    have fl : (F ++ (pre.filter (alB L)).map alD).length ≤ 30000 := by
      rw [List.length_append, List.length_map]
      have := List.length_filter_le (alB L) pre
      omega
    obtain ⟨c5, h2⟩ := gB2b_ev (m := m) (L := L) (p := p) (a6 := a6) (a7 := a7) (hp p hm) fl
    refine ⟨gE m L (F ++ (pre.filter (alB L)).map alD) (.sh (.int (p.1 : Nat))) (.sh (.int (p.2 : Nat))) b5 a6 a7, _, rfl, (seq_nx (gB2a_ev (hp p hm))).trans h2, .sh (.int (p.1 : Nat)), .sh (.int (p.2 : Nat)), c5, ?_⟩
    rw [List.filter_append]
    cases hc : alB L p with
    | true => rw [if_pos rfl, show ([p] : Lot).filter (alB L) = [p] by simp [hc], List.map_append, ← List.append_assoc]; rfl
    | false => rw [if_neg (by decide), show ([p] : Lot).filter (alB L) = [] by simp [hc], List.append_nil]) (gE m L F a3 a4 a5 a6 a7) ⟨a3, a4, a5, by rw [List.filter_nil, List.map_nil, List.append_nil]⟩
  exact ⟨_, _, _, (for_of (any_lot (L := L) rfl)).trans L1⟩
theorem lbars_fn (h1 : 1 ≤ m) (h2 : m ≤ 12) (hl : L.length ≤ 100) (hp : ∀ p ∈ L, p.1 ≤ 1000 ∧ p.2 ≤ 1000) : fn_law_bars [.int (m : Int), lotD L] = some (.ow (VM.bars m L)) := by
  have l1 : ((apart m L).map apD).length ≤ 12 := by
    rw [List.length_map]
    exact Nat.le_trans (List.length_filter_le _ _) (by rw [List.length_range]; omega)
  have l2 : ((apart m L).map apD ++ crosses L).length ≤ 20000 := by
    rw [List.length_append]
    have := flat_len (n := 100) (f := fun p => (L.filter (crB p)).map (crD p)) L fun x _ => by
      rw [List.length_map]
      exact Nat.le_trans (List.length_filter_le _ _) hl
    unfold crosses
    have : L.length * 100 ≤ 10000 := by omega
    omega
  obtain ⟨b3, b4, b6, b7, e1⟩ := gF1_ev (m := m) (L := L) (F := (apart m L).map apD) (a3 := .un) (a4 := .un) (a5 := .un) (a6 := .un) (a7 := .un) (by omega) hl
  obtain ⟨c3, c4, c5, e2⟩ := gF2_ev (m := m) (L := L) (F := (apart m L).map apD ++ crosses L) (a3 := b3) (a4 := b4) (a5 := .un) (a6 := b6) (a7 := b7) l2 hl hp
  refine fnS_rt (n := 2) (m := 7) (e1 := gE m L (VM.bars m L) c3 c4 c5 b6 b7 |>.set 2 .un) rfl ?_
  show bd_law_bars [.sh (.int (m : Int)), .sh (lotD L), .un, .un, .un, .un, .un, .un, .un] = _
  rw [lbars_parts, seq_nx (gB0_ev h1 h2), seq_nx e1, seq_nx e2]
  rfl
end
end VM
end
section
set_option Elab.async false
set_option linter.all false
set_option maxRecDepth 100000
set_option maxHeartbeats 4000000
namespace VM
open PySem VL VG L2
/-! ### things that are fine -/
def Leafy (x : PyData) : Prop := Shp 7 x ∧ isDct x = false
theorem fine_tup {ds : List PyData} (hl : ds.length ≤ 100) (h : ∀ x ∈ ds, Leafy x) : Fine (.tuple ds) := ⟨shp_tup.mpr fun x hx => (h x hx).1, rfl, fun es e => by
  cases e
  exact ⟨hl, fun y hy => (h y hy).2⟩⟩
theorem fine_list {ds : List PyData} (h : ∀ x ∈ ds, Leafy x) : Fine (.list ds) := ⟨shp_list.mpr fun x hx => (h x hx).1, rfl, fun es e => by cases e⟩
theorem leafy_int (i : Int) : Leafy (.int i) := ⟨shp_int, rfl⟩
theorem leafy_str {s : Str} (h : PyData.strOk s = true) : Leafy (.str s) := ⟨shp_str (by simp only [PyData.canLay0]; exact h), rfl⟩
theorem leafy_non : Leafy .none := ⟨shp_none, rfl⟩
theorem leafy_bool (b : Bool) : Leafy (.bool b) := ⟨shp_bool, rfl⟩
theorem leafy_txt (x : String) : Leafy (.str (Str.ofString x)) := leafy_str (strOk_of x)
theorem leaf_leafy {x : PyData} (h : Leaf x) : Leafy x := by
  cases h with
  | int i => exact leafy_int i
  | str s hs => exact leafy_str hs
theorem fine_leafy {x : PyData} (h : Leafy x) (n : ∀ ds, x ≠ .tuple ds) : Fine x := ⟨h.1.mono (by decide), h.2, fun ds e => absurd e (n ds)⟩
theorem bar_fine {b : PyData} (h : isBar b) : Fine b := by
  obtain ⟨e, l, q⟩ := h.leaf
  rw [e]
  exact fine_tup (by omega) fun x hx => leaf_leafy (q x hx)
/-! ### _law_spoilt of a text or a number -/
theorem acons_ev {fa : M PyData} {fr : M (List PyData)} {a : PyData} {as : List PyData} {e e1 e2 : Ev} (h : fa e = some (a, e1)) (hr : fr e1 = some (as, e2)) : aCons fa fr e = some (a :: as, e2) := by
  unfold aCons
  rw [h]
  simp only [bnd, hr]
theorem lst_ev {fa : M (List PyData)} {as : List PyData} {e e1 : Ev} (h : fa e = some (as, e1)) (hz : sz as.length = true) : xLst fa e = some (.ow as, e1) := by
  unfold xLst
  rw [h]
  show (if sz as.length = true then some (Sl.ow as, e1) else none) = _
  rw [if_pos hz]
def spE (dk : List PyData) (x : PyData) (a b c : Sl) : Ev := [.bw dk, .sh x, a, b, c]
theorem pick_of {k : Nat} {dk : List PyData} {n : Int} {x : PyData} {a b c : Sl} (hd : DeckOk k dk) (hk : k < 100000) (n0 : 0 < n) (n1 : n < 1000) {fe : M PyData} (hfe : ∀ e, fe e = some (.int n, e)) : ∃ (r : Int) (dk' : List PyData), 0 ≤ r ∧ r < n ∧ DeckOk (k + 1) dk' ∧ eX (xFnB 0 fn_law_pick (aCons fe aNil)) (spE dk x a b c) = some (.int r, spE dk' x a b c) := by
  obtain ⟨r, dk', r0, r1, o, p⟩ := pick_eq hd hk n0 (by omega)
  exact ⟨r, dk', r0, r1, o, x_sh (fnB_ev (i := 0) (d0 := dk) (dk := dk) (ds := [.int n]) (e1 := spE dk x a b c) rfl (args1 (hfe _)) rfl p)⟩
theorem one_of {k : Nat} {dk : List PyData} {n : Int} {x : PyData} {a b c : Sl} {fl : M PyData} {V : List PyData} {fe : M PyData} (hd : DeckOk k dk) (hk : k < 100000) (hV : fl (spE dk x a b c) = some (.list V, spE dk x a b c)) (hn : (V.length : Int) = n) (n0 : 0 < n) (n1 : n < 1000) (hfe : ∀ e, fe e = some (.int n, e)) :
    ∃ (y : PyData) (dk' : List PyData), y ∈ V ∧ DeckOk (k + 1) dk' ∧ eOp pIx fl (eX (xFnB 0 fn_law_pick (aCons fe aNil))) (spE dk x a b c) = some (y, spE dk' x a b c) := by
  obtain ⟨r, dk', r0, r1, o, p⟩ := pick_of (x := x) (a := a) (b := b) (c := c) hd hk n0 n1 hfe
  obtain ⟨y, hy, e⟩ := atI_ok (ds := V) r0 (by omega)
  exact ⟨y, dk', hy, o, op_ev hV p e⟩
theorem fnB_rt {n m : Nat} {f : Ev → Option Out} {d0 d1 ds : List PyData} {x : Sl} {e : Ev} (hl : ds.length = n) (h : f (.bw d0 :: (ds.map Sl.sh ++ List.replicate m .un)) = some (.rt x e)) (h0 : e[0]? = some (.bw d1)) : fnB n m f d0 ds = some (x, d1) := by
  unfold fnB
  rw [if_pos hl, h]
  show lentOf x e[0]? = _
  rw [h0]
  rfl
def small : PyData → Prop
  | .int i => 0 ≤ i ∧ i ≤ 1000
  | .str x => PyData.strOk x = true
  | _ => False
def spI : Ev → Option Out := sIf (bTru (eUn (pIsi .int) (eVar 1))) (sRetX (xE (eOp pIx (eX (xLst (aCons (eX (xOps pAdd (eVar 1) (eC (.int 1)))) (aCons (eOp pSub (eVar 1) (eC (.int 1))) (aCons (eC (.bool true)) (aCons (eC .none) (aCons (eC (.int 0)) (aCons (eOp pPow (eC (.int 10)) (eC (.int 9))) (aCons (eCall pStrI (aCons (eVar 1) aNil)) aNil))))))))) (eX (xFnB 0 fn_law_pick (aCons (eC (.int 7)) aNil)))))) sNil
def spS' : Ev → Option Out := sRetX (xE (eOp pIx (eX (xLst (aCons (eC .none) (aCons (eC (.int 7)) (aCons (eC (.str "n")) (aCons (eC (.str "")) (aCons (eC (.str "apart")) (aCons (eC (.str "cross")) (aCons (eC (.str "alone")) (aCons (eC (.str "row")) aNil)))))))))) (eX (xFnB 0 fn_law_pick (aCons (eC (.int 8)) aNil)))))
def spA (R : List PyData → List PyData → Option (Sl × List PyData)) : Ev → Option Out := sSeq (sSet 2 (xCall pList (aCons (eVar 1) aNil))) (sSeq (sSet 3 (xFnB 0 fn_law_pick (aCons (eScal (eCall pLen (aCons (eVar 2) aNil))) aNil))) (sSeq (sSetI 2 (eX (xFnB 0 R (aCons (eIxV 2 (eVar 3)) aNil))) (eVar 3)) (sRetX (xE (eIf (bTru (eUn (pIsi .tuple) (eVar 1))) (eCall pTuple (aCons (eVar 2) aNil)) (eVar 2))))))
def spC : M Bool := bAnd (bTru (eUn pIsiS (eVar 1))) (bAnd (bB (eOp pGt (eCall pLen (aCons (eVar 1) aNil)) (eC (.int 0)))) (bB (eOp pGt (eX (xFnB 0 fn_law_pick (aCons (eC (.int 5)) aNil))) (eC (.int 0)))))
def spB' : Ev → Option Out := sSeq (sSet 4 (xE (eIf (bTru (eUn (pIsi .tuple) (eVar 1))) (eX (xCall pList (aCons (eVar 1) aNil))) (eCall pTuple (aCons (eVar 1) aNil))))) (sRetX (xE (eOp pIx (eX (xLst (aCons (eVar 4) (aCons (eX (xOps pAdd (eVar 1) (eX (xSl (eVar 1) oNo (oSome (eC (.int 1))))))) (aCons (eX (xSl (eVar 1) (oSome (eC (.int 1))) oNo)) (aCons (eX (xRev (eVar 1))) (aCons (eC .none) aNil))))))) (eX (xFnB 0 fn_law_pick (aCons (eC (.int 5)) aNil))))))
theorem sp_parts (R : List PyData → List PyData → Option (Sl × List PyData)) : bd_law_spoilt R = sSeq (sIf spC (spA R) sNil) (sSeq (sIf (bTru (eUn pIsiS (eVar 1))) spB' sNil) (sSeq spI spS')) := rfl
theorem sp_leaf {k j : Nat} {dk : List PyData} {x : PyData} (hd : DeckOk k dk) (hk : k < 100000) (hx : small x) : ∃ (y : PyData) (dk' : List PyData), Leafy y ∧ DeckOk (k + 1) dk' ∧ fn_law_spoilt (j + 1) dk [x] = some (.sh y, dk') := by
  cases x with
  | int i =>
    have hi : 0 ≤ i ∧ i ≤ 1000 := hx
    have b1 : Nat.blt i.natAbs 1099511627776 = true := Nat.blt_eq.mpr (by omega)
    have e7 : eCall pStrI (aCons (eVar 1) aNil) (spE dk (.int i) .un .un .un) = some (.str (toString i), spE dk (.int i) .un .un .un) := call1_ev (a := .int i) rfl (by
      show (if Nat.blt i.natAbs 1099511627776 = true then some (PyData.str (toString i)) else none) = _
      rw [if_pos b1])
    have v := lst_ev (acons_ev (fa := eX (xOps pAdd (eVar 1) (eC (.int 1)))) (e := spE dk (.int i) .un .un .un) (e1 := spE dk (.int i) .un .un .un) (a := .int (i + 1)) rfl (acons_ev (fa := eOp pSub (eVar 1) (eC (.int 1))) (a := .int (i - 1)) rfl (acons_ev (fa := eC (.bool true)) rfl (acons_ev (fa := eC .none) rfl (acons_ev (fa := eC (.int 0)) rfl (acons_ev (fa := eOp pPow (eC (.int 10)) (eC (.int 9))) (a := .int 1000000000) (by kernel_rfl) (acons_ev e7 (show aNil _ = some ([], _) from rfl)))))))) (by rfl)
    obtain ⟨y, dk', hy, o, q⟩ := one_of (fe := eC (.int 7)) hd hk (x_ow v) (by rfl) (by decide) (by decide) (fun e => rfl)
    refine ⟨y, dk', ?_, o, fnB_rt (n := 1) (m := 3) (e := spE dk' (.int i) .un .un .un) rfl ?_ rfl⟩
    · simp only [List.mem_cons, List.not_mem_nil, or_false] at hy
      rcases hy with rfl | rfl | rfl | rfl | rfl | rfl | rfl
      · exact leafy_int _
      · exact leafy_int _
      · exact leafy_bool _
      · exact leafy_non
      · exact leafy_int _
      · exact leafy_int _
      · exact leafy_txt _
    · show bd_law_spoilt _ (spE dk (.int i) .un .un .un) = _
      rw [sp_parts, seq_nx (e1 := spE dk (.int i) .un .un .un) rfl, seq_nx (e1 := spE dk (.int i) .un .un .un) rfl, seq_rt (e1 := spE dk' (.int i) .un .un .un) (x := .sh y) ?_]
      unfold spI
      rw [if_t (e1 := spE dk (.int i) .un .un .un) rfl]
      exact ret_ev (xE_ev q)
  | str s =>
    have v : eX (xLst (aCons (eC .none) (aCons (eC (.int 7)) (aCons (eC (.str "n")) (aCons (eC (.str "")) (aCons (eC (.str "apart")) (aCons (eC (.str "cross")) (aCons (eC (.str "alone")) (aCons (eC (.str "row")) aNil))))))))) (spE dk (.str s) .un .un .un) = some (.list [.none, .int 7, .str "n", .str "", .str "apart", .str "cross", .str "alone", .str "row"], spE dk (.str s) .un .un .un) := rfl
    obtain ⟨y, dk', hy, o, q⟩ := one_of (fe := eC (.int 8)) hd hk v (by rfl) (by decide) (by decide) (fun e => rfl)
    refine ⟨y, dk', ?_, o, fnB_rt (n := 1) (m := 3) (e := spE dk' (.str s) .un .un .un) rfl ?_ rfl⟩
    · simp only [List.mem_cons, List.not_mem_nil, or_false] at hy
      rcases hy with rfl | rfl | rfl | rfl | rfl | rfl | rfl | rfl
      · exact leafy_non
      · exact leafy_int _
      · exact leafy_txt _
      · exact leafy_txt _
      · exact leafy_txt _
      · exact leafy_txt _
      · exact leafy_txt _
      · exact leafy_txt _
    · show bd_law_spoilt _ (spE dk (.str s) .un .un .un) = _
      rw [sp_parts, seq_nx (e1 := spE dk (.str s) .un .un .un) rfl, seq_nx (e1 := spE dk (.str s) .un .un .un) rfl, seq_nx (e1 := spE dk (.str s) .un .un .un) rfl]
      exact ret_ev (xE_ev q)
  | _ => cases hx
end VM
end
section
set_option Elab.async false
set_option linter.all false
set_option maxRecDepth 100000
set_option maxHeartbeats 4000000
namespace VM
open PySem VL VG L2
/-! ### _law_spoilt of what bars -/
theorem bar_small {b : PyData} (h : isBar b) : ∀ x ∈ unT b, small x := by
  obtain ⟨s, is, rfl, hs, hl, hi⟩ := h
  intro x hx
  rcases List.mem_cons.mp hx with z | z
  · rw [z]
    exact hs
  · obtain ⟨i, h2, rfl⟩ := List.mem_map.mp z
    exact hi i h2
theorem small_leafy {x : PyData} (h : small x) : Leafy x := by
  cases x with
  | int i => exact leafy_int i
  | str s => exact leafy_str h
  | _ => cases h
theorem ixN_of {n j : Nat} (h : j < n) : ixN n (j : Int) = some j := by
  unfold ixN
  rw [if_pos (by omega), if_pos (by omega)]
  rfl
theorem and_st {f g : M Bool} {b : Bool} {e e1 e2 : Ev} (hf : f e = some (true, e1)) (hg : g e1 = some (b, e2)) : bAnd f g e = some (b, e2) := by
  unfold bAnd
  rw [hf]
  exact hg
theorem sp_bar {k j : Nat} {dk : List PyData} {bs : List PyData} (hd : DeckOk k dk) (hk : k + 10 < 100000) (h0 : 0 < bs.length) (hl : bs.length ≤ 20) (hb : ∀ x ∈ bs, small x) : ∃ (y : PyData) (dk' : List PyData), Fine y ∧ DeckOk (k + 3) dk' ∧ fn_law_spoilt (j + 2) dk [.tuple bs] = some (.sh y, dk') := by
  obtain ⟨r, d1, r0, r1, o1, p1⟩ := pick_of (x := .tuple bs) (a := .un) (b := .un) (c := .un) (fe := eC (.int 5)) hd (by omega) (n := 5) (by decide) (by decide) (fun e => rfl)
  have cl : bB (eOp pGt (eCall pLen (aCons (eVar 1) aNil)) (eC (.int 0))) (spE dk (.tuple bs) .un .un .un) = some (true, spE dk (.tuple bs) .un .un .un) :=
    gt_ev (a := (bs.length : Nat)) (b := 0) (call1_ev (a := .tuple bs) (d := .int (bs.length : Nat)) rfl rfl) rfl (decide_eq_true (by omega))
  have cp : bB (eOp pGt (eX (xFnB 0 fn_law_pick (aCons (eC (.int 5)) aNil))) (eC (.int 0))) (spE dk (.tuple bs) .un .un .un) = some (decide ((0 : Int) < r), spE d1 (.tuple bs) .un .un .un) := bB_ev (op_ev p1 (b := .int 0) rfl rfl)
  have cc : spC (spE dk (.tuple bs) .un .un .un) = some (decide ((0 : Int) < r), spE d1 (.tuple bs) .un .un .un) := and_st (e1 := spE dk (.tuple bs) .un .un .un) rfl (and_st cl cp)
  by_cases c : (0 : Int) < r
  · rw [decide_eq_true c] at cc
    -- one place in it
    have e1 : sSet 2 (xCall pList (aCons (eVar 1) aNil)) (spE d1 (.tuple bs) .un .un .un) = some (.nx (spE d1 (.tuple bs) (.ow bs) .un .un)) := rfl
    obtain ⟨q, d2, q0, q1, o2, p2⟩ := pick_eq o1 (by omega) (n := (bs.length : Int)) (by omega) (by omega)
    obtain ⟨t, rfl⟩ := Int.eq_ofNat_of_zero_le q0
    have ht : t < bs.length := by omega
    have e2 : sSet 3 (xFnB 0 fn_law_pick (aCons (eScal (eCall pLen (aCons (eVar 2) aNil))) aNil)) (spE d1 (.tuple bs) (.ow bs) .un .un) = some (.nx (spE d2 (.tuple bs) (.ow bs) (.sh (.int (t : Nat))) .un)) :=
      set_ev (i := 3) (e1 := spE d2 (.tuple bs) (.ow bs) .un .un) (fnB_ev (i := 0) (d0 := d1) (dk := d1) (ds := [.int (bs.length : Nat)]) (e1 := spE d1 (.tuple bs) (.ow bs) .un .un) rfl (args1 (by
        unfold eScal
        rw [call1_ev (e := froz (spE d1 (.tuple bs) (.ow bs) .un .un)) (fa := eVar 2) (g := pLen) (a := .list bs) (d := .int (bs.length : Nat)) rfl rfl]
        rfl)) rfl p2)
    have g := gd_mem ht
    obtain ⟨y, d3, hy, o3, p3⟩ := sp_leaf (j := j) o2 (by omega) (hb _ g.1)
    have e3 : sSetI 2 (eX (xFnB 0 (fn_law_spoilt (j + 1)) (aCons (eIxV 2 (eVar 3)) aNil))) (eVar 3) (spE d2 (.tuple bs) (.ow bs) (.sh (.int (t : Nat))) .un) = some (.nx (spE d3 (.tuple bs) (.ow (bs.set t y)) (.sh (.int (t : Nat))) .un)) := by
      have ev : eX (xFnB 0 (fn_law_spoilt (j + 1)) (aCons (eIxV 2 (eVar 3)) aNil)) (spE d2 (.tuple bs) (.ow bs) (.sh (.int (t : Nat))) .un) = some (y, spE d3 (.tuple bs) (.ow bs) (.sh (.int (t : Nat))) .un) :=
        x_sh (fnB_ev (i := 0) (d0 := d2) (dk := d2) (ds := [gd bs t]) (e1 := spE d2 (.tuple bs) (.ow bs) (.sh (.int (t : Nat))) .un) rfl (args1 (ixv_ev (ds0 := bs) (ds := bs) (k := (t : Nat)) rfl rfl rfl g.2)) rfl p3)
      unfold sSetI
      rw [ev]
      show (match ixN bs.length (t : Int) with | none => none | some j => some (Out.nx (setOwn (spE d3 (.tuple bs) (.ow bs) (.sh (.int (t : Nat))) .un) 2 (bs.set j y)))) = _
      rw [ixN_of ht]
      rfl
    refine ⟨.tuple (bs.set t y), d3, fine_tup (by rw [List.length_set]; omega) (fun x hx => ?_), o3, fnB_rt (n := 1) (m := 3) (e := spE d3 (.tuple bs) (.sh (.list (bs.set t y))) (.sh (.int (t : Nat))) .un) rfl ?_ rfl⟩
    · rcases List.mem_or_eq_of_mem_set hx with z | z
      · exact small_leafy (hb x z)
      · rw [z]
        exact hy
    · show bd_law_spoilt _ (spE dk (.tuple bs) .un .un .un) = _
      rw [sp_parts, seq_rt (e1 := spE d3 (.tuple bs) (.sh (.list (bs.set t y))) (.sh (.int (t : Nat))) .un) (x := .sh (.tuple (bs.set t y))) ?_]
      rw [if_t cc]
      unfold spA
      rw [seq_nx e1, seq_nx e2, seq_nx e3]
      rfl
  · rw [decide_eq_false c] at cc
    have e1 : sSet 4 (xE (eIf (bTru (eUn (pIsi .tuple) (eVar 1))) (eX (xCall pList (aCons (eVar 1) aNil))) (eCall pTuple (aCons (eVar 1) aNil)))) (spE d1 (.tuple bs) .un .un .un) = some (.nx (spE d1 (.tuple bs) .un .un (.sh (.list bs)))) := rfl
    have cut0 : cutD bs none (some 1) = bs.take 1 := by
      unfold cutD
      rw [show (1 : Int) = ((1 : Nat) : Int) from rfl, HT.sIx_nat, HT.sIx_none, List.drop_zero, Nat.sub_zero, Nat.min_eq_left (by omega)]
    have z : sz (bs.length + (bs.take 1).length) = true := sz_of (by rw [List.length_take]; omega)
    have v2 : eX (xOps pAdd (eVar 1) (eX (xSl (eVar 1) oNo (oSome (eC (.int 1)))))) (spE d1 (.tuple bs) .un .un (.sh (.list bs))) = some (.tuple (bs ++ bs.take 1), spE d1 (.tuple bs) .un .un (.sh (.list bs))) := by
      have q : eX (xSl (eVar 1) oNo (oSome (eC (.int 1)))) (spE d1 (.tuple bs) .un .un (.sh (.list bs))) = some (.tuple (bs.take 1), spE d1 (.tuple bs) .un .un (.sh (.list bs))) := by
        refine x_sh ?_
        show some (Sl.sh (.tuple (cutD bs none (some 1))), spE d1 (.tuple bs) .un .un (.sh (.list bs))) = _
        rw [cut0]
      refine x_sh (ops_ev (a := .tuple bs) rfl q ?_)
      show (if sz (bs.length + (bs.take 1).length) = true then some (Sl.sh (.tuple (bs ++ bs.take 1))) else none) = _
      rw [if_pos z]
    have v3 : eX (xSl (eVar 1) (oSome (eC (.int 1))) oNo) (spE d1 (.tuple bs) .un .un (.sh (.list bs))) = some (.tuple (bs.drop 1), spE d1 (.tuple bs) .un .un (.sh (.list bs))) := by
      refine x_sh ?_
      show some (Sl.sh (.tuple (cutD bs (some 1) none)), spE d1 (.tuple bs) .un .un (.sh (.list bs))) = _
      rw [cut1]
    have v := lst_ev (acons_ev (fa := eVar 4) (e := spE d1 (.tuple bs) .un .un (.sh (.list bs))) (e1 := spE d1 (.tuple bs) .un .un (.sh (.list bs))) (a := .list bs) rfl (acons_ev v2 (acons_ev v3 (acons_ev (fa := eX (xRev (eVar 1))) (e1 := spE d1 (.tuple bs) .un .un (.sh (.list bs))) (a := .tuple bs.reverse) rfl (acons_ev (fa := eC .none) (a := .none) rfl (show aNil (spE d1 (.tuple bs) .un .un (.sh (.list bs))) = some ([], _) from rfl)))))) (by rfl)
    obtain ⟨y, d2, hy, o2, q⟩ := one_of (fe := eC (.int 5)) o1 (by omega) (x_ow v) (by rfl) (by decide) (by decide) (fun e => rfl)
    refine ⟨y, d2, ?_, o2.mono (by omega) (by omega), fnB_rt (n := 1) (m := 3) (e := spE d2 (.tuple bs) .un .un (.sh (.list bs))) rfl ?_ rfl⟩
    · have lf : ∀ x ∈ bs, Leafy x := fun x hx => small_leafy (hb x hx)
      simp only [List.mem_cons, List.not_mem_nil, or_false] at hy
      rcases hy with rfl | rfl | rfl | rfl | rfl
      · exact fine_list lf
      · refine fine_tup (by rw [List.length_append, List.length_take]; omega) fun x hx => ?_
        rcases List.mem_append.mp hx with w | w
        · exact lf x w
        · exact lf x (List.mem_of_mem_take w)
      · exact fine_tup (by rw [List.length_drop]; omega) fun x hx => lf x (List.mem_of_mem_drop hx)
      · exact fine_tup (by rw [List.length_reverse]; omega) fun x hx => lf x (List.mem_reverse.mp hx)
      · exact fine_leafy leafy_non fun ds z => by cases z
    · show bd_law_spoilt _ (spE dk (.tuple bs) .un .un .un) = _
      rw [sp_parts, seq_nx (e1 := spE d1 (.tuple bs) .un .un .un) (by rw [if_f cc]; rfl), seq_rt (e1 := spE d2 (.tuple bs) .un .un (.sh (.list bs))) (x := .sh y) ?_]
      rw [if_t (e1 := spE d1 (.tuple bs) .un .un .un) rfl]
      unfold spB'
      rw [seq_nx e1]
      exact ret_ev (xE_ev q)
/-! ### _law_odd -/
def oddL : List PyData := [.none, .bool true, .str "", .str "a", .tuple [], .list [], .tuple [.tuple []], .int 7, .int (-1), .int 1000000000000000000000000000000, .tuple [.int 1, .int 2], .tuple [.tuple [.int 0, .int 1]], .tuple [.tuple [.int 0, .int 1], .tuple [.int 1, .int 2]], .tuple [.str "apart", .int 0, .int 1]]
theorem leafy_tup {ds : List PyData} (h : ∀ x ∈ ds, Shp 6 x) : Leafy (.tuple ds) := ⟨shp_tup.mpr h, rfl⟩
theorem odd_fine : ∀ d ∈ oddL, Fine d := by
  intro d hd
  simp only [oddL, List.mem_cons, List.not_mem_nil, or_false] at hd
  have i6 : ∀ (is : List Int), ∀ x ∈ is.map PyData.int, Shp 6 x := fun is x hx => by
    obtain ⟨i, _, rfl⟩ := List.mem_map.mp hx
    exact shp_int
  rcases hd with rfl | rfl | rfl | rfl | rfl | rfl | rfl | rfl | rfl | rfl | rfl | rfl | rfl | rfl
  · exact fine_leafy leafy_non fun ds z => by cases z
  · exact fine_leafy (leafy_bool _) fun ds z => by cases z
  · exact fine_leafy (leafy_txt _) fun ds z => by cases z
  · exact fine_leafy (leafy_txt _) fun ds z => by cases z
  · exact fine_tup (by decide) fun x hx => by cases hx
  · exact fine_list fun x hx => by cases hx
  · exact fine_tup (by decide) fun x hx => by
      rw [List.mem_singleton.mp hx]
      exact leafy_tup fun y hy => by cases hy
  · exact fine_leafy (leafy_int _) fun ds z => by cases z
  · exact fine_leafy (leafy_int _) fun ds z => by cases z
  · exact fine_leafy (leafy_int _) fun ds z => by cases z
  · refine fine_tup (by decide) fun x hx => ?_
    simp only [List.mem_cons, List.not_mem_nil, or_false] at hx
    rcases hx with rfl | rfl <;> exact leafy_int _
  · refine fine_tup (by decide) fun x hx => ?_
    rw [List.mem_singleton.mp hx]
    exact leafy_tup (i6 [0, 1])
  · refine fine_tup (by decide) fun x hx => ?_
    simp only [List.mem_cons, List.not_mem_nil, or_false] at hx
    rcases hx with rfl | rfl
    · exact leafy_tup (i6 [0, 1])
    · exact leafy_tup (i6 [1, 2])
  · refine fine_tup (by decide) fun x hx => ?_
    simp only [List.mem_cons, List.not_mem_nil, or_false] at hx
    rcases hx with rfl | rfl | rfl
    · exact leafy_txt _
    · exact leafy_int _
    · exact leafy_int _
theorem odd_fn {k : Nat} {dk : List PyData} (hd : DeckOk k dk) (hk : k < 100000) : ∃ (y : PyData) (dk' : List PyData), Fine y ∧ DeckOk (k + 1) dk' ∧ fn_law_odd dk [] = some (.sh y, dk') := by
  obtain ⟨d, d1, hm, o1, p1⟩ := one_eq hd hk (xs := oddL) (by decide) (by decide)
  refine ⟨d, d1, odd_fine d hm, o1, fnB_rt (n := 0) (m := 1) (e := [.bw d1, .sh (.list oddL)]) rfl ?_ rfl⟩
  have e1 : (match bd_law_odd with | f => True) := trivial
  show bd_law_odd [.bw dk, .un] = _
  unfold bd_law_odd
  rw [seq_nx (e1 := [.bw dk, .ow oddL]) (by kernel_rfl)]
  exact ret_ev (fnB_ev (i := 0) (d0 := dk) (dk := dk) (ds := [.list oddL]) (e1 := [.bw dk, .sh (.list oddL)]) rfl rfl rfl p1)
end VM
end
section
set_option Elab.async false
set_option linter.all false
set_option maxRecDepth 100000
set_option maxHeartbeats 4000000
namespace VM
open PySem VL VG L2
/-! ### the law of k03, piece by piece -/
def lk1 : Ev → Option Out := (sSet 2 (xFn fn_law_deck (aCons (eVar 1) (aCons (eC (.int 3)) aNil))))
def lk2 : Ev → Option Out := (sSet 3 (xOps pAdd (eC (.int 2)) (eX (xFnB 2 fn_law_pick (aCons (eC (.int 11)) aNil)))))
def lk3 : Ev → Option Out := (sSet 4 (xFn fn_law_seen (aCons (eX (xFnB 2 fn_law_heights (aCons (eVar 3) (aCons (eOp pPow (eC (.int 10)) (eC (.int 9))) aNil)))) aNil)))
def lk4 : Ev → Option Out := (sSet 5 (xE (eCall pTuple (aCons (eX (xLc (iAny (eX (xFn fn_law_pairs (aCons (eVar 3) aNil)))) (gN 14) (bB (eOp pGt (eX (xFnB 2 fn_law_pick (aCons (eC (.int 3)) aNil))) (eC (.int 0)))) (eVar 14) [14])) aNil))))
def lk5 : Ev → Option Out := (sSet 6 (xE (eCall pTuple (aCons (eX (xLc (iAny (eX (xFn fn_law_pairs (aCons (eVar 3) aNil)))) (gN 14) (bOr (bB (eOp pEq (eIxV 14 (eC (.int 1))) (eX (xOps pAdd (eIxV 14 (eC (.int 0))) (eC (.int 1)))))) (bB (eOp pEq (eX (xFnB 2 fn_law_pick (aCons (eC (.int 5)) aNil))) (eC (.int 0))))) (eVar 14) [14])) aNil))))
def lk6I : M (List PyData) := (iAny (eX (xLst (aCons (eVar 4) (aCons (eX (xFnB 2 fn_law_bent (aCons (eVar 3) (aCons (eVar 4) aNil)))) (aCons (eX (xFnB 2 fn_law_bent (aCons (eVar 3) (aCons (eVar 4) aNil)))) (aCons (eVar 5) (aCons (eVar 6) aNil))))))))
def lh1 : Ev → Option Out := (sSet 8 (xFn fn_law_bars (aCons (eVar 3) (aCons (eVar 7) aNil))))
def lh2 : Ev → Option Out := (sIf (bNot (bTru (eX (xFn (fn_law_same 4) (aCons (eX (xFn fn_what_bars (aCons (eVar 3) (aCons (eVar 7) aNil)))) (aCons (eIf (bB (eOp pNe (eVar 8) (eX (xLst aNil)))) (eIxV 8 (eC (.int 0))) (eC .none)) aNil)))))) (sRetX (xE (eC (.bool false)))) sNil)
def lh3 : Ev → Option Out := (sSet 9 (xLst (aCons (eC .none) (aCons (eTup aNil) (aCons (eTup (aCons (eC (.str "apart")) (aCons (eC (.int 0)) (aCons (eC (.int 1)) aNil)))) (aCons (eTup (aCons (eC (.str "alone")) (aCons (eC (.int 0)) (aCons (eOp pSub (eVar 3) (eC (.int 1))) aNil)))) (aCons (eX (xLst (aCons (eC (.str "apart")) (aCons (eC (.int 0)) (aCons (eC (.int 1)) aNil))))) (aCons (eTup (aCons (eC (.str "cross")) (aCons (eC (.int 0)) (aCons (eC (.int 1)) (aCons (eC (.int 2)) (aCons (eC (.int 3)) aNil)))))) aNil))))))))
def lh4 : Ev → Option Out := (sApp 9 (eX (xFnB 2 fn_law_odd aNil)))
def lh5 : Ev → Option Out := (sIf (bB (eOp pNe (eVar 8) (eX (xLst aNil)))) (sSeq (sSet 11 (xFnB 2 fn_law_one (aCons (eVar 8) aNil))) (sSet 9 (xOps pAdd (eVar 9) (eX (xLst (aCons (eVar 11) (aCons (eIxV 8 (eUn pNeg (eC (.int 1)))) (aCons (eX (xCall pList (aCons (eVar 11) aNil))) (aCons (eX (xFnB 2 (fn_law_spoilt 3) (aCons (eVar 11) aNil))) (aCons (eX (xOps pAdd (eTup (aCons (eC (.str "Cross")) aNil)) (eX (xSl (eVar 11) (oSome (eC (.int 1))) oNo)))) aNil)))))))))) sNil)
def l6a : Ev → Option Out := (sSet 12 (xCall pSortB (aCons (eX (xLc (iR1 (aCons (eC (.int 4)) aNil)) (gN 15) bYes (eX (xFnB 2 fn_law_pick (aCons (eVar 3) aNil))) [15])) aNil)))
def l6b : Ev → Option Out := (sApp 9 (eTup (aCons (eC (.str "cross")) (aCons (eIxV 12 (eC (.int 0))) (aCons (eIxV 12 (eC (.int 2))) (aCons (eIxV 12 (eC (.int 1))) (aCons (eIxV 12 (eC (.int 3))) aNil)))))))
def l6c : Ev → Option Out := (sApp 9 (eTup (aCons (eX (xFnB 2 fn_law_one (aCons (eX (xLst (aCons (eC (.str "apart")) (aCons (eC (.str "alone")) aNil)))) aNil))) (aCons (eIxV 12 (eC (.int 0))) (aCons (eIxV 12 (eC (.int 1))) aNil)))))
def lh6 : Ev → Option Out := sFor (iR1 (aCons (eC (.int 6)) aNil)) (gN 10) (sSeq l6a (sSeq l6b l6c))
def l7a : Ev → Option Out := (sSet 13 (xE (eOp pNe (eX (xLc (iAny (eVar 8)) (gN 16) (bTru (eX (xFn (fn_law_same 4) (aCons (eVar 16) (aCons (eVar 11) aNil))))) (eVar 16) [16])) (eX (xLst aNil)))))
def l7b : Ev → Option Out := (sIf (bNot (bTru (eX (xFn (fn_law_same 4) (aCons (eX (xFn fn_bars (aCons (eVar 3) (aCons (eVar 7) (aCons (eVar 11) aNil))))) (aCons (eVar 13) aNil)))))) (sRetX (xE (eC (.bool false)))) sNil)
def lh7 : Ev → Option Out := sFor (iAny (eVar 9)) (gN 11) (sSeq l7a l7b)
def lhB : Ev → Option Out := sSeq lh1 (sSeq lh2 (sSeq lh3 (sSeq lh4 (sSeq lh5 (sSeq lh6 lh7)))))
def lk6 : Ev → Option Out := sFor lk6I (gN 7) lhB
def lkB : Ev → Option Out := sSeq lk1 (sSeq lk2 (sSeq lk3 (sSeq lk4 (sSeq lk5 lk6))))
def lkI : M (List PyData) := (iAny (eX (xSl (eX (xOps pAdd (eX (xLst (aCons (eC (.int 0)) aNil))) (eVar 0))) oNo (oSome (eC (.int 10))))))
def lkE : Ev → Option Out := (sRetX (xE (eOp pEq (eX (xFn fn_what_bars (aCons (eC (.int 4)) (aCons (eTup (aCons (eTup (aCons (eC (.int 0)) (aCons (eC (.int 1)) aNil))) (aCons (eTup (aCons (eC (.int 0)) (aCons (eC (.int 2)) aNil))) (aCons (eTup (aCons (eC (.int 1)) (aCons (eC (.int 2)) aNil))) (aCons (eTup (aCons (eC (.int 1)) (aCons (eC (.int 3)) aNil))) (aCons (eTup (aCons (eC (.int 2)) (aCons (eC (.int 3)) aNil))) aNil)))))) aNil)))) (eTup (aCons (eC (.str "cross")) (aCons (eC (.int 0)) (aCons (eC (.int 2)) (aCons (eC (.int 1)) (aCons (eC (.int 3)) aNil)))))))))
theorem law_parts : bd_law = sSeq (sFor lkI (gN 1) lkB) lkE := rfl

def kE (s c : PyData) (a2 a3 a4 a5 a6 a7 a8 a9 a10 a11 a12 a13 : Sl) : Ev := [.sh s, .sh c, a2, a3, a4, a5, a6, a7, a8, a9, a10, a11, a12, a13, .un, .un, .un]
theorem chk' {c : M Bool} {f : Ev → Option Out} {e e1 : Ev} (h : c e = some (false, e1)) : sIf c f sNil e = some (.nx e1) := by
  rw [if_f h]
  rfl
theorem if_evX {c : M Bool} {fa fb : M PyData} {b : Bool} {d : PyData} {e e1 e2 : Ev} (h : c e = some (b, e1)) (ht : b = true → fa e1 = some (d, e2)) (hf : b = false → fb e1 = some (d, e2)) : eIf c fa fb e = some (d, e2) := by
  unfold eIf
  rw [h]
  cases b with
  | true => exact ht rfl
  | false => exact hf rfl
theorem leafEq_self {x : PyData} (h : Leaf x) : leafEq x x = true := by cases h <;> simp [leafEq]
theorem leafAll_self : ∀ {bs : List PyData}, (∀ x ∈ bs, Leaf x) → leafAll bs bs = true
  | [], _ => rfl
  | a :: bs, h => by
    rw [leafAll, leafEq_self (h a List.mem_cons_self), leafAll_self fun x hx => h x (List.mem_cons_of_mem _ hx)]
    rfl
theorem same_self {b : PyData} (h : isBar b) : fn_law_same 4 [b, b] = some (.sh (.bool true)) := by
  obtain ⟨e, l, q⟩ := h.leaf
  have f := bar_fine h
  rw [e] at f ⊢
  rw [same_bar 2 q (by omega) f]
  show some (Sl.sh (.bool (leafAll (unT b) (unT b)))) = _
  rw [leafAll_self q]
theorem same_any {b d : PyData} (h : isBar b) (f : Fine d) : fn_law_same 4 [b, d] = some (.sh (.bool (barSame (unT b) d))) := by
  obtain ⟨e, l, q⟩ := h.leaf
  have := same_bar 2 q (by omega) f
  rw [← e] at this
  exact this
theorem same_bool (b : Bool) : fn_law_same 4 [.bool b, .bool b] = some (.sh (.bool true)) := by cases b <;> kernel_rfl
theorem same_none : fn_law_same 4 [.none, .none] = some (.sh (.bool true)) := by kernel_rfl
theorem atI_last {xs : List PyData} (h : xs ≠ []) : ∃ d ∈ xs, atI xs (-1) = some d := by
  have hl : 0 < xs.length := List.length_pos_iff.mpr h
  have hn : xs.length - 1 < xs.length := by omega
  refine ⟨xs[xs.length - 1], List.getElem_mem hn, ?_⟩
  unfold atI ixN
  rw [if_neg (by decide), if_pos (by omega)]
  show xs[((-1 : Int) + (xs.length : Nat)).toNat]? = _
  rw [show ((-1 : Int) + (xs.length : Nat)).toNat = xs.length - 1 by omega, List.getElem?_eq_getElem hn]
section
variable {s c : PyData} {m k : Nat} {L : Lot} {dk : List PyData} {BS S : List PyData} {a2 a3 a4 a5 a6 a7 a8 a9 a10 a11 a12 a13 : Sl}
theorem lh1_ev (h1 : 1 ≤ m) (h2 : m ≤ 12) (h : LotOk m L) (hl : L.length ≤ 100) : lh1 (kE s c a2 (.sh (.int m)) a4 a5 a6 (.sh (lotD L)) a8 a9 a10 a11 a12 a13) = some (.nx (kE s c a2 (.sh (.int m)) a4 a5 a6 (.sh (lotD L)) (.ow (VM.bars m L)) a9 a10 a11 a12 a13)) :=
  set_ev (i := 8) (e1 := kE s c a2 (.sh (.int m)) a4 a5 a6 (.sh (lotD L)) a8 a9 a10 a11 a12 a13) (fn_ev (ds := [.int (m : Int), lotD L]) rfl (lbars_fn h1 h2 hl fun p hm => by have := h.w p hm; omega))
theorem shp_bars (hB : ∀ b ∈ BS, isBar b) : SeqAt.shaped (.list BS) = true := Shp.ok (n := 3) (shp_list.mpr fun b hb => (hB b hb).shp) (by decide)
theorem ne8_ev (hB : ∀ b ∈ BS, isBar b) (h8 : a8 = .ow BS ∨ a8 = .sh (.list BS)) : bB (eOp pNe (eVar 8) (eX (xLst aNil))) (kE s c a2 a3 a4 a5 a6 a7 a8 a9 a10 a11 a12 a13) = some (!BS.isEmpty, kE s c a2 a3 a4 a5 a6 a7 (.sh (.list BS)) a9 a10 a11 a12 a13) := by
  rcases h8 with rfl | rfl <;> exact bB_ev (op_ev (e1 := kE s c a2 a3 a4 a5 a6 a7 (.sh (.list BS)) a9 a10 a11 a12 a13) (a := .list BS) rfl lst0 (pNe_nil (shp_bars hB)))
theorem lh2_ev (h1 : 1 ≤ m) (h2 : m ≤ 12) (h : LotOk m L) (hl : L.length ≤ 100) (hB : ∀ b ∈ VM.bars m L, isBar b) : lh2 (kE s c a2 (.sh (.int m)) a4 a5 a6 (.sh (lotD L)) (.ow (VM.bars m L)) a9 a10 a11 a12 a13) = some (.nx (kE s c a2 (.sh (.int m)) a4 a5 a6 (.sh (lotD L)) (.sh (.list (VM.bars m L))) a9 a10 a11 a12 a13)) := by
  have w := what_fn h1 h2 h (by omega)
  have n := ne8_ev (s := s) (c := c) (a2 := a2) (a3 := .sh (.int m)) (a4 := a4) (a5 := a5) (a6 := a6) (a7 := .sh (lotD L)) (a9 := a9) (a10 := a10) (a11 := a11) (a12 := a12) (a13 := a13) hB (.inl rfl)
  generalize VM.bars m L = BS at w n hB
  have e2 : eIf (bB (eOp pNe (eVar 8) (eX (xLst aNil)))) (eIxV 8 (eC (.int 0))) (eC .none) (kE s c a2 (.sh (.int m)) a4 a5 a6 (.sh (lotD L)) (.ow BS) a9 a10 a11 a12 a13) = some (BS.headD .none, kE s c a2 (.sh (.int m)) a4 a5 a6 (.sh (lotD L)) (.sh (.list BS)) a9 a10 a11 a12 a13) := by
    refine if_evX n (fun hb => ?_) fun hb => ?_
    · cases BS with
      | nil => cases hb
      | cons d r => exact ixv_ev (ds0 := d :: r) (ds := d :: r) (k := 0) rfl rfl rfl (atI_nat (xs := d :: r) (j := 0) (v := d) rfl)
    · cases BS with
      | nil => rfl
      | cons d r => cases hb
  have sm : fn_law_same 4 [BS.headD .none, BS.headD .none] = some (.sh (.bool true)) := by
    cases BS with
    | nil => exact same_none
    | cons d r => exact same_self (hB d List.mem_cons_self)
  exact chk' (notT_ev (b := true) (x_sh (fn_ev (args2 (e1 := kE s c a2 (.sh (.int m)) a4 a5 a6 (.sh (lotD L)) (.ow BS) a9 a10 a11 a12 a13) (x_sh (fn_ev (ds := [.int (m : Int), lotD L]) rfl w)) e2) sm)))
def S0 (m : Nat) : List PyData := [.none, .tuple [], .tuple [.str "apart", .int 0, .int 1], .tuple [.str "alone", .int 0, .int ((m : Int) - 1)], .list [.str "apart", .int 0, .int 1], .tuple [.str "cross", .int 0, .int 1, .int 2, .int 3]]
theorem lh3_ev : lh3 (kE s c a2 (.sh (.int (m : Int))) a4 a5 a6 a7 a8 a9 a10 a11 a12 a13) = some (.nx (kE s c a2 (.sh (.int (m : Int))) a4 a5 a6 a7 a8 (.ow (S0 m)) a10 a11 a12 a13)) := rfl
theorem fine_s {x : String} {is : List Int} (hl : is.length ≤ 90) : Fine (.tuple (.str (Str.ofString x) :: is.map .int)) := fine_tup (by rw [List.length_cons, List.length_map]; omega) fun y hy => by
  rcases List.mem_cons.mp hy with z | z
  · rw [z]
    exact leafy_txt x
  · obtain ⟨i, _, rfl⟩ := List.mem_map.mp z
    exact leafy_int i
theorem S0_fine : ∀ d ∈ S0 m, Fine d := by
  intro d hd
  simp only [S0, List.mem_cons, List.not_mem_nil, or_false] at hd
  rcases hd with rfl | rfl | rfl | rfl | rfl | rfl
  · exact fine_leafy leafy_non fun ds z => by cases z
  · exact fine_tup (by decide) fun x hx => by cases hx
  · exact fine_s (x := "apart") (is := [0, 1]) (by simp)
  · exact fine_s (x := "alone") (is := [0, (m : Int) - 1]) (by simp)
  · refine fine_list fun x hx => ?_
    simp only [List.mem_cons, List.not_mem_nil, or_false] at hx
    rcases hx with rfl | rfl | rfl
    · exact leafy_txt _
    · exact leafy_int _
    · exact leafy_int _
  · exact fine_s (x := "cross") (is := [0, 1, 2, 3]) (by simp)
theorem lh4_ev (hd : DeckOk k dk) (hk : k < 100000) (hS : ∀ d ∈ S, Fine d) (hl : S.length ≤ 1000) : ∃ S' dk', (∀ d ∈ S', Fine d) ∧ S'.length = S.length + 1 ∧ DeckOk (k + 1) dk' ∧ lh4 (kE s c (.ow dk) a3 a4 a5 a6 a7 a8 (.ow S) a10 a11 a12 a13) = some (.nx (kE s c (.ow dk') a3 a4 a5 a6 a7 a8 (.ow S') a10 a11 a12 a13)) := by
  obtain ⟨y, dk', fy, o, p⟩ := odd_fn hd hk
  refine ⟨S ++ [y], dk', fun d hm => ?_, by rw [List.length_append]; rfl, o, app_ev (i := 9) (ds := S) (ds' := S) (d := y) (e1 := kE s c (.ow dk') a3 a4 a5 a6 a7 a8 (.ow S) a10 a11 a12 a13) rfl (x_sh (fnB_ev (i := 2) (d0 := dk) (dk := dk) (ds := []) (e1 := kE s c (.ow dk) a3 a4 a5 a6 a7 a8 (.ow S) a10 a11 a12 a13) rfl rfl rfl p)) rfl (by omega)⟩
  rcases List.mem_append.mp hm with z | z
  · exact hS d z
  · rw [List.mem_singleton.mp z]
    exact fy
theorem lh5_ev (hd : DeckOk k dk) (hk : k + 100 < 100000) (hB : ∀ b ∈ BS, isBar b) (hbl : BS.length ≤ 100000) (hS : ∀ d ∈ S, Fine d) (hl : S.length ≤ 1000) : ∃ S' dk' b11, (∀ d ∈ S', Fine d) ∧ S'.length ≤ S.length + 5 ∧ DeckOk (k + 4) dk' ∧ lh5 (kE s c (.ow dk) a3 a4 a5 a6 a7 (.sh (.list BS)) (.ow S) a10 a11 a12 a13) = some (.nx (kE s c (.ow dk') a3 a4 a5 a6 a7 (.sh (.list BS)) (.ow S') a10 b11 a12 a13)) := by
  have n := ne8_ev (s := s) (c := c) (a2 := .ow dk) (a3 := a3) (a4 := a4) (a5 := a5) (a6 := a6) (a7 := a7) (a9 := .ow S) (a10 := a10) (a11 := a11) (a12 := a12) (a13 := a13) hB (.inr rfl)
  by_cases c0 : BS = []
  · refine ⟨S, dk, a11, hS, by omega, hd.mono (by omega) (by omega), ?_⟩
    rw [c0] at n ⊢
    unfold lh5
    rw [if_f n]
    rfl
  · have hb : (!BS.isEmpty) = true := by cases BS with | nil => exact absurd rfl c0 | cons a r => rfl
    rw [hb] at n
    have hlen : 0 < BS.length := List.length_pos_iff.mpr c0
    obtain ⟨b, d1, bm, o1, p1⟩ := one_eq hd (by omega) (xs := BS) hlen (by omega)
    obtain ⟨e, l5, q⟩ := (hB b bm).leaf
    have b0 : 0 < (unT b).length := by
      obtain ⟨st, is, rfl, _⟩ := hB b bm
      show 0 < (is.map PyData.int).length + 1
      omega
    obtain ⟨y, d2, fy, o2, p2⟩ := sp_bar (j := 1) o1 (by omega) b0 (by omega) (bar_small (hB b bm))
    rw [← e] at p2
    obtain ⟨z, zm, hz⟩ := atI_last c0
    have s1 : sSet 11 (xFnB 2 fn_law_one (aCons (eVar 8) aNil)) (kE s c (.ow dk) a3 a4 a5 a6 a7 (.sh (.list BS)) (.ow S) a10 a11 a12 a13) = some (.nx (kE s c (.ow d1) a3 a4 a5 a6 a7 (.sh (.list BS)) (.ow S) a10 (.sh b) a12 a13)) :=
      set_ev (i := 11) (e1 := kE s c (.ow d1) a3 a4 a5 a6 a7 (.sh (.list BS)) (.ow S) a10 a11 a12 a13) (fnB_ev (i := 2) (d0 := dk) (dk := dk) (ds := [.list BS]) (e1 := kE s c (.ow dk) a3 a4 a5 a6 a7 (.sh (.list BS)) (.ow S) a10 a11 a12 a13) rfl rfl rfl p1)
    have v2 : eIxV 8 (eUn pNeg (eC (.int 1))) (kE s c (.ow d1) a3 a4 a5 a6 a7 (.sh (.list BS)) (.sh (.list S)) a10 (.sh b) a12 a13) = some (z, kE s c (.ow d1) a3 a4 a5 a6 a7 (.sh (.list BS)) (.sh (.list S)) a10 (.sh b) a12 a13) := ixv_ev (ds0 := BS) (ds := BS) (k := -1) rfl rfl rfl hz
    have v3 : eX (xCall pList (aCons (eVar 11) aNil)) (kE s c (.ow d1) a3 a4 a5 a6 a7 (.sh (.list BS)) (.sh (.list S)) a10 (.sh b) a12 a13) = some (.list (unT b), kE s c (.ow d1) a3 a4 a5 a6 a7 (.sh (.list BS)) (.sh (.list S)) a10 (.sh b) a12 a13) := by
      rw [e]
      rfl
    have v4 : eX (xFnB 2 (fn_law_spoilt 3) (aCons (eVar 11) aNil)) (kE s c (.ow d1) a3 a4 a5 a6 a7 (.sh (.list BS)) (.sh (.list S)) a10 (.sh b) a12 a13) = some (y, kE s c (.ow d2) a3 a4 a5 a6 a7 (.sh (.list BS)) (.sh (.list S)) a10 (.sh b) a12 a13) :=
      x_sh (fnB_ev (i := 2) (d0 := d1) (dk := d1) (ds := [b]) (e1 := kE s c (.ow d1) a3 a4 a5 a6 a7 (.sh (.list BS)) (.sh (.list S)) a10 (.sh b) a12 a13) rfl rfl rfl p2)
    have v5 : eX (xOps pAdd (eTup (aCons (eC (.str "Cross")) aNil)) (eX (xSl (eVar 11) (oSome (eC (.int 1))) oNo))) (kE s c (.ow d2) a3 a4 a5 a6 a7 (.sh (.list BS)) (.sh (.list S)) a10 (.sh b) a12 a13) = some (.tuple ([.str "Cross"] ++ (unT b).drop 1), kE s c (.ow d2) a3 a4 a5 a6 a7 (.sh (.list BS)) (.sh (.list S)) a10 (.sh b) a12 a13) := by
      have qq : eX (xSl (eVar 11) (oSome (eC (.int 1))) oNo) (kE s c (.ow d2) a3 a4 a5 a6 a7 (.sh (.list BS)) (.sh (.list S)) a10 (.sh b) a12 a13) = some (.tuple ((unT b).drop 1), kE s c (.ow d2) a3 a4 a5 a6 a7 (.sh (.list BS)) (.sh (.list S)) a10 (.sh b) a12 a13) := by
        refine x_sh ?_
        rw [e]
        show some (Sl.sh (.tuple (cutD (unT b) (some 1) none)), _) = _
        rw [cut1]
        rfl
      refine x_sh (ops_ev (a := .tuple [.str "Cross"]) (e1 := kE s c (.ow d2) a3 a4 a5 a6 a7 (.sh (.list BS)) (.sh (.list S)) a10 (.sh b) a12 a13) rfl qq ?_)
      show (if sz (([PyData.str "Cross"] : List PyData).length + ((unT b).drop 1).length) = true then some (Sl.sh (.tuple ([.str "Cross"] ++ (unT b).drop 1))) else none) = _
      rw [if_pos (sz_of (by rw [List.length_drop]; simp only [List.length_singleton]; omega))]
    have v := lst_ev (acons_ev (fa := eVar 11) (e := kE s c (.ow d1) a3 a4 a5 a6 a7 (.sh (.list BS)) (.sh (.list S)) a10 (.sh b) a12 a13) (e1 := kE s c (.ow d1) a3 a4 a5 a6 a7 (.sh (.list BS)) (.sh (.list S)) a10 (.sh b) a12 a13) (a := b) rfl (acons_ev v2 (acons_ev v3 (acons_ev v4 (acons_ev v5 (show aNil (kE s c (.ow d2) a3 a4 a5 a6 a7 (.sh (.list BS)) (.sh (.list S)) a10 (.sh b) a12 a13) = some ([], _) from rfl)))))) (by rfl)
    have s2 := set_ev (i := 9) (ops_ev (g := pAdd) (fa := eVar 9) (e := kE s c (.ow d1) a3 a4 a5 a6 a7 (.sh (.list BS)) (.ow S) a10 (.sh b) a12 a13) (a := .list S) rfl (x_ow v) (cat_ev (by simp only [List.length_cons, List.length_nil]; omega)))
    refine ⟨S ++ [b, z, .list (unT b), y, .tuple ([.str "Cross"] ++ (unT b).drop 1)], d2, .sh b, fun d hm => ?_, by rw [List.length_append]; simp, o2, ?_⟩
    · rcases List.mem_append.mp hm with w | w
      · exact hS d w
      · have lf : ∀ x ∈ unT b, Leafy x := fun x hx => leaf_leafy (q x hx)
        simp only [List.mem_cons, List.not_mem_nil, or_false] at w
        rcases w with rfl | rfl | rfl | rfl | rfl
        · exact bar_fine (hB _ bm)
        · exact bar_fine (hB _ zm)
        · exact fine_list lf
        · exact fy
        · refine fine_tup (by rw [List.length_append, List.length_drop]; simp only [List.length_singleton]; omega) fun x hx => ?_
          rcases List.mem_append.mp hx with w | w
          · rw [List.mem_singleton.mp w]
            exact leafy_txt _
          · exact lf x (List.mem_of_mem_drop w)
    · unfold lh5
      rw [if_t n, seq_nx s1]
      exact s2
end
end VM
end
section
set_option Elab.async false
set_option linter.all false
set_option maxRecDepth 100000
set_option maxHeartbeats 4000000
namespace VM
open PySem VL VG L2
theorem cloop_ex {α : Type} {D : α → PyData} {fg : PyData → Ev → Option Ev} {ft : M Bool} {fe : M PyData} {vs : List Nat} {P : Nat → Ev → Prop} {R : PyData → Prop} (N : Nat) : ∀ (xs : List α) (n : Nat), n + xs.length ≤ N → (∀ x ∈ xs, ∀ n e, n < N → P n e → ∃ e1 e2 e3 d, fg (D x) e = some e1 ∧ ft e1 = some (true, e2) ∧ fe e2 = some (d, e3) ∧ R d ∧ P (n + 1) (wipeE vs e3)) → ∀ e, P n e →
    ∃ ds e', cloop fg ft fe vs (xs.map D) e = some (ds, e') ∧ (∀ d ∈ ds, R d) ∧ ds.length = xs.length ∧ P (n + xs.length) e'
  | [], n, _, _, e, h => ⟨[], e, rfl, (fun d hd => by cases hd), rfl, h⟩
  | x :: xs, n, hn, st, e, h => by
    rw [List.length_cons] at hn
    obtain ⟨e1, e2, e3, d, h1, h2, h3, h4, h5⟩ := st x List.mem_cons_self n e (by omega) h
    obtain ⟨ds, e', h6, h7, h8, h9⟩ := cloop_ex N xs (n + 1) (by omega) (fun z hz => st z (List.mem_cons_of_mem _ hz)) _ h5
    refine ⟨d :: ds, e', ?_, fun y hy => ?_, by rw [List.length_cons, h8, List.length_cons], by rw [List.length_cons, show n + (xs.length + 1) = n + 1 + xs.length by omega]; exact h9⟩
    · rw [List.map_cons, cloop, h1]
      simp only []
      rw [h2]
      simp only [bnd, if_true]
      rw [h3]
      simp only [bnd]
      rw [h6]
    · rcases List.mem_cons.mp hy with z | z
      · rw [z]
        exact h4
      · exact h7 y z
def kF (s c : PyData) (a2 a3 a4 a5 a6 a7 a8 a9 a10 a11 a12 a13 a14 a15 a16 : Sl) : Ev := [.sh s, .sh c, a2, a3, a4, a5, a6, a7, a8, a9, a10, a11, a12, a13, a14, a15, a16]
theorem int_map : ∀ {ds : List PyData}, (∀ d ∈ ds, ∃ i : Int, d = .int i) → ∃ is : List Int, ds = is.map .int
  | [], _ => ⟨[], rfl⟩
  | d :: ds, h => by
    obtain ⟨i, rfl⟩ := h d List.mem_cons_self
    obtain ⟨is, rfl⟩ := int_map fun x hx => h x (List.mem_cons_of_mem _ hx)
    exact ⟨i :: is, rfl⟩
theorem sort_int {is : List Int} : ∃ js : List Int, js.length = is.length ∧ pSortB [.list (is.map .int)] = some (js.map .int) := by
  obtain ⟨js, e, p⟩ := perm_map_inv (f := PyData.int) (sort_perm (is.map PyData.int)) is rfl
  have h0 : odAll 0 (is.map PyData.int) = true := List.all_eq_true.mpr fun d hd => by obtain ⟨q, _, rfl⟩ := List.mem_map.mp hd; rfl
  refine ⟨js, p.length_eq, ?_⟩
  unfold pSortB
  simp only []
  rw [if_pos h0, e]
section
variable {s c : PyData} {m k : Nat} {L : Lot} {dk : List PyData} {BS S : List PyData} {a2 a3 a4 a5 a6 a7 a8 a9 a10 a11 a12 a13 : Sl}
theorem pk4 (h1 : 1 ≤ m) (h2 : m ≤ 12) (hd : DeckOk k dk) (hk : k < 90000) : ∃ (is : List Int) (dk' : List PyData), is.length = 4 ∧ DeckOk (k + 4) dk' ∧ eX (xLc (iR1 (aCons (eC (.int 4)) aNil)) (gN 15) bYes (eX (xFnB 2 fn_law_pick (aCons (eVar 3) aNil))) [15]) (kE s c (.ow dk) (.sh (.int m)) a4 a5 a6 a7 a8 a9 a10 a11 a12 a13) = some (.list (is.map .int), kE s c (.ow dk') (.sh (.int m)) a4 a5 a6 a7 a8 a9 a10 a11 a12 a13) := by
  obtain ⟨ds, e', c1, c2, c3, dk', c4, rfl⟩ := cloop_ex (D := fun k : Nat => PyData.int (0 + (k : Int))) (fg := gN 15) (ft := bYes) (fe := eX (xFnB 2 fn_law_pick (aCons (eVar 3) aNil))) (vs := [15]) (P := fun n e => ∃ dk', DeckOk (k + n) dk' ∧ e = kF s c (.ow dk') (.sh (.int m)) a4 a5 a6 a7 a8 a9 a10 a11 a12 a13 .un .un .un) (R := fun d => ∃ i : Int, d = .int i) 4 (List.range 4) 0 (by rw [List.length_range]; omega) (fun x hx n e hn hp => by
    obtain ⟨dk', hdk, rfl⟩ := hp
    obtain ⟨r, d1, _, _, o1, p1⟩ := pick_eq (n := (m : Int)) hdk (by omega) (by omega) (by omega)
    exact ⟨kF s c (.ow dk') (.sh (.int m)) a4 a5 a6 a7 a8 a9 a10 a11 a12 a13 .un (.sh (.int (0 + (x : Int)))) .un, kF s c (.ow dk') (.sh (.int m)) a4 a5 a6 a7 a8 a9 a10 a11 a12 a13 .un (.sh (.int (0 + (x : Int)))) .un, kF s c (.ow d1) (.sh (.int m)) a4 a5 a6 a7 a8 a9 a10 a11 a12 a13 .un (.sh (.int (0 + (x : Int)))) .un, .int r, rfl, rfl, x_sh (fnB_ev (i := 2) (d0 := dk') (dk := dk') (ds := [.int (m : Int)]) (e1 := kF s c (.ow dk') (.sh (.int m)) a4 a5 a6 a7 a8 a9 a10 a11 a12 a13 .un (.sh (.int (0 + (x : Int)))) .un) rfl rfl rfl p1), ⟨r, rfl⟩, d1, o1, rfl⟩) (kF s c (.ow dk) (.sh (.int m)) a4 a5 a6 a7 a8 a9 a10 a11 a12 a13 .un .un .un) ⟨dk, hd, rfl⟩
  rw [List.length_range, Nat.zero_add] at c4
  rw [List.length_range] at c3
  obtain ⟨is, rfl⟩ := int_map c2
  refine ⟨is, dk', by rw [List.length_map] at c3; exact c3, c4, ?_⟩
  have h0 : iR1 (aCons (eC (.int 4)) aNil) (kE s c (.ow dk) (.sh (.int m)) a4 a5 a6 a7 a8 a9 a10 a11 a12 a13) = some ((List.range 4).map fun k : Nat => PyData.int (0 + (k : Int)), kE s c (.ow dk) (.sh (.int m)) a4 a5 a6 a7 a8 a9 a10 a11 a12 a13) := by
    rw [iR1_nat (m := 4) rfl (by omega), upto_map]
  have z : sz (is.map PyData.int).length = true := sz_of (by rw [c3]; omega)
  refine x_ow ?_
  unfold xLc
  rw [h0]
  simp only [bnd]
  have w : wipeE [15] (kE s c (.ow dk) (.sh (.int m)) a4 a5 a6 a7 a8 a9 a10 a11 a12 a13) = kF s c (.ow dk) (.sh (.int m)) a4 a5 a6 a7 a8 a9 a10 a11 a12 a13 .un .un .un := rfl
  rw [w, c1]
  simp only []
  rw [if_pos z]
  rfl
theorem l6a_ev (h1 : 1 ≤ m) (h2 : m ≤ 12) (hd : DeckOk k dk) (hk : k < 90000) : ∃ (a b c' d : Int) (dk' : List PyData), DeckOk (k + 4) dk' ∧ l6a (kE s c (.ow dk) (.sh (.int m)) a4 a5 a6 a7 a8 a9 a10 a11 a12 a13) = some (.nx (kE s c (.ow dk') (.sh (.int m)) a4 a5 a6 a7 a8 a9 a10 a11 (.ow [.int a, .int b, .int c', .int d]) a13)) := by
  obtain ⟨is, dk', l, o, p⟩ := pk4 (s := s) (c := c) (a4 := a4) (a5 := a5) (a6 := a6) (a7 := a7) (a8 := a8) (a9 := a9) (a10 := a10) (a11 := a11) (a12 := a12) (a13 := a13) h1 h2 hd hk
  obtain ⟨js, jl, q⟩ := sort_int (is := is)
  rw [l] at jl
  match js, jl, q with
  | [a, b, c', d], _, q =>
    refine ⟨a, b, c', d, dk', o, set_ev (i := 12) (e1 := kE s c (.ow dk') (.sh (.int m)) a4 a5 a6 a7 a8 a9 a10 a11 a12 a13) ?_⟩
    unfold xCall
    rw [args1 p]
    simp only [bnd]
    rw [q]
    rfl
theorem l6b_ev {a b c' d : Int} (hl : S.length ≤ 1000) : l6b (kE s c a2 a3 a4 a5 a6 a7 a8 (.ow S) a10 a11 (.ow [.int a, .int b, .int c', .int d]) a13) = some (.nx (kE s c a2 a3 a4 a5 a6 a7 a8 (.ow (S ++ [.tuple (.str "cross" :: [a, c', b, d].map .int)])) a10 a11 (.ow [.int a, .int b, .int c', .int d]) a13)) :=
  app_ev (i := 9) (ds := S) (ds' := S) (d := .tuple (.str "cross" :: [a, c', b, d].map .int)) (e1 := kE s c a2 a3 a4 a5 a6 a7 a8 (.ow S) a10 a11 (.ow [.int a, .int b, .int c', .int d]) a13) rfl rfl rfl (by omega)
theorem l6c_ev {a b c' d : Int} (hd : DeckOk k dk) (hk : k < 90000) (hl : S.length ≤ 1000) : ∃ x dk', (x = "apart" ∨ x = "alone") ∧ DeckOk (k + 1) dk' ∧ l6c (kE s c (.ow dk) a3 a4 a5 a6 a7 a8 (.ow S) a10 a11 (.ow [.int a, .int b, .int c', .int d]) a13) = some (.nx (kE s c (.ow dk') a3 a4 a5 a6 a7 a8 (.ow (S ++ [.tuple (.str (Str.ofString x) :: [a, b].map .int)])) a10 a11 (.ow [.int a, .int b, .int c', .int d]) a13)) := by
  obtain ⟨y, dk', ym, o, p⟩ := one_eq hd (by omega) (xs := [.str "apart", .str "alone"]) (by decide) (by decide)
  have e1 : eX (xFnB 2 fn_law_one (aCons (eX (xLst (aCons (eC (.str "apart")) (aCons (eC (.str "alone")) aNil)))) aNil)) (kE s c (.ow dk) a3 a4 a5 a6 a7 a8 (.ow S) a10 a11 (.ow [.int a, .int b, .int c', .int d]) a13) = some (y, kE s c (.ow dk') a3 a4 a5 a6 a7 a8 (.ow S) a10 a11 (.ow [.int a, .int b, .int c', .int d]) a13) :=
    x_sh (fnB_ev (i := 2) (d0 := dk) (dk := dk) (ds := [.list [.str "apart", .str "alone"]]) (e1 := kE s c (.ow dk) a3 a4 a5 a6 a7 a8 (.ow S) a10 a11 (.ow [.int a, .int b, .int c', .int d]) a13) rfl rfl rfl p)
  have e2 : eTup (aCons (eX (xFnB 2 fn_law_one (aCons (eX (xLst (aCons (eC (.str "apart")) (aCons (eC (.str "alone")) aNil)))) aNil))) (aCons (eIxV 12 (eC (.int 0))) (aCons (eIxV 12 (eC (.int 1))) aNil))) (kE s c (.ow dk) a3 a4 a5 a6 a7 a8 (.ow S) a10 a11 (.ow [.int a, .int b, .int c', .int d]) a13) = some (.tuple [y, .int a, .int b], kE s c (.ow dk') a3 a4 a5 a6 a7 a8 (.ow S) a10 a11 (.ow [.int a, .int b, .int c', .int d]) a13) := by
    have e3 := acons_ev e1 (show aCons (eIxV 12 (eC (.int 0))) (aCons (eIxV 12 (eC (.int 1))) aNil) (kE s c (.ow dk') a3 a4 a5 a6 a7 a8 (.ow S) a10 a11 (.ow [.int a, .int b, .int c', .int d]) a13) = some ([.int a, .int b], kE s c (.ow dk') a3 a4 a5 a6 a7 a8 (.ow S) a10 a11 (.ow [.int a, .int b, .int c', .int d]) a13) from rfl)
    unfold eTup
    rw [e3]
    rfl
  have e4 := app_ev (i := 9) (ds := S) (ds' := S) rfl e2 rfl (by omega)
  simp only [List.mem_cons, List.not_mem_nil, or_false] at ym
  rcases ym with rfl | rfl
  · exact ⟨"apart", dk', .inl rfl, o, e4⟩
  · exact ⟨"alone", dk', .inr rfl, o, e4⟩
theorem lh6_ev (h1 : 1 ≤ m) (h2 : m ≤ 12) (hd : DeckOk k dk) (hk : k < 80000) (hS : ∀ d ∈ S, Fine d) (hl : S.length ≤ 900) : ∃ S' dk' b10 b12, (∀ d ∈ S', Fine d) ∧ S'.length ≤ 1000 ∧ DeckOk (k + 60) dk' ∧ lh6 (kE s c (.ow dk) (.sh (.int m)) a4 a5 a6 a7 a8 (.ow S) a10 a11 a12 a13) = some (.nx (kE s c (.ow dk') (.sh (.int m)) a4 a5 a6 a7 a8 (.ow S') b10 a11 b12 a13)) := by
  obtain ⟨e', L1, S', dk', b10, b12, q1, q2, q3, rfl⟩ := loop_range (fg := gN 10) (fb := sSeq l6a (sSeq l6b l6c)) (P := fun i e => ∃ S' dk' b10 b12, (∀ d ∈ S', Fine d) ∧ S'.length ≤ S.length + 2 * i ∧ DeckOk (k + 5 * i) dk' ∧ e = kE s c (.ow dk') (.sh (.int m)) a4 a5 a6 a7 a8 (.ow S') b10 a11 b12 a13) 6 (fun i e hi hp => by
    obtain ⟨S', dk', b10, b12, q1, q2, q3, rfl⟩ := hp
    obtain ⟨a, b, c', d, d1, o1, p1⟩ := l6a_ev (s := s) (c := c) (a4 := a4) (a5 := a5) (a6 := a6) (a7 := a7) (a8 := a8) (a9 := .ow S') (a10 := .sh (.int (i : Int))) (a11 := a11) (a12 := b12) (a13 := a13) h1 h2 q3 (by omega)
    have p2 := l6b_ev (s := s) (c := c) (a2 := .ow d1) (a3 := .sh (.int m)) (a4 := a4) (a5 := a5) (a6 := a6) (a7 := a7) (a8 := a8) (a10 := .sh (.int (i : Int))) (a11 := a11) (a13 := a13) (S := S') (a := a) (b := b) (c' := c') (d := d) (by omega)
    obtain ⟨x, d2, _, o2, p3⟩ := l6c_ev (s := s) (c := c) (a3 := .sh (.int m)) (a4 := a4) (a5 := a5) (a6 := a6) (a7 := a7) (a8 := a8) (a10 := .sh (.int (i : Int))) (a11 := a11) (a13 := a13) (S := S' ++ [.tuple (.str "cross" :: [a, c', b, d].map .int)]) (a := a) (b := b) (c' := c') (d := d) o1 (by omega) (by rw [List.length_append]; simp only [List.length_singleton]; omega)
    refine ⟨kE s c (.ow dk') (.sh (.int m)) a4 a5 a6 a7 a8 (.ow S') (.sh (.int (i : Int))) a11 b12 a13, kE s c (.ow d2) (.sh (.int m)) a4 a5 a6 a7 a8 (.ow (S' ++ [.tuple (.str "cross" :: [a, c', b, d].map .int)] ++ [.tuple (.str (Str.ofString x) :: [a, b].map .int)])) (.sh (.int (i : Int))) a11 (.ow [.int a, .int b, .int c', .int d]) a13, rfl, ?_, _, d2, _, _, fun y hy => ?_, ?_, o2.mono (by omega) (by omega), rfl⟩
    · rw [seq_nx p1, seq_nx p2]
      exact p3
    · rcases List.mem_append.mp hy with hy | hy
      · rcases List.mem_append.mp hy with hy | hy
        · exact q1 y hy
        · rw [List.mem_singleton.mp hy]
          exact fine_s (x := "cross") (is := [a, c', b, d]) (by simp)
      · rw [List.mem_singleton.mp hy]
        exact fine_s (is := [a, b]) (by simp)
    · simp only [List.length_append, List.length_singleton]
      omega) (kE s c (.ow dk) (.sh (.int m)) a4 a5 a6 a7 a8 (.ow S) a10 a11 a12 a13) ⟨S, dk, a10, a12, hS, by omega, hd, rfl⟩
  refine ⟨S', dk', b10, b12, q1, by omega, q3.mono (by omega) (by omega), ?_⟩
  unfold lh6
  rw [for_of (iR1_nat (m := 6) rfl (by omega))]
  exact L1
theorem any_filt {B : List PyData} {p : PyData → Bool} : (!(B.filter p).isEmpty) = B.any p := by
  induction B with
  | nil => rfl
  | cons b r ih =>
    rw [List.any_cons, List.filter_cons]
    by_cases hc : p b = true
    · rw [if_pos hc, hc]
      rfl
    · rw [if_neg hc, (Bool.not_eq_true _).mp hc, Bool.false_or]
      exact ih
theorem l7a_ev {d : PyData} (hB : ∀ b ∈ BS, isBar b) (hbl : BS.length ≤ 100000) (f : Fine d) : l7a (kE s c a2 a3 a4 a5 a6 a7 (.sh (.list BS)) a9 a10 (.sh d) a12 a13) = some (.nx (kE s c a2 a3 a4 a5 a6 a7 (.sh (.list BS)) a9 a10 (.sh d) a12 (.sh (.bool (BS.any fun b => barSame (unT b) d))))) := by
  have q : eX (xLc (iAny (eVar 8)) (gN 16) (bTru (eX (xFn (fn_law_same 4) (aCons (eVar 16) (aCons (eVar 11) aNil))))) (eVar 16) [16]) (kE s c a2 a3 a4 a5 a6 a7 (.sh (.list BS)) a9 a10 (.sh d) a12 a13) = some (.list ((BS.filter fun b => barSame (unT b) d).map id), kE s c a2 a3 a4 a5 a6 a7 (.sh (.list BS)) a9 a10 (.sh d) a12 a13) := by
    refine x_ow (lc_eq (D := id) (xs := BS) (e1 := kE s c a2 a3 a4 a5 a6 a7 (.sh (.list BS)) a9 a10 (.sh d) a12 a13) (e0 := kE s c a2 a3 a4 a5 a6 a7 (.sh (.list BS)) a9 a10 (.sh d) a12 a13) (ds := BS) (E1 := fun b => kF s c a2 a3 a4 a5 a6 a7 (.sh (.list BS)) a9 a10 (.sh d) a12 a13 .un .un (.sh b)) (b := fun b => barSame (unT b) d) (y := id) rfl (by simp) (by omega) rfl rfl (fun _ _ => rfl) (fun b hb => ?_) (fun _ _ _ => rfl) (fun _ _ => rfl))
    exact tru_ev (x_sh (fn_ev (ds := [b, d]) rfl (same_any (hB b hb) f)))
  rw [List.map_id] at q
  have sh : SeqAt.shaped (.list (BS.filter fun b => barSame (unT b) d)) = true := shp_bars fun b hb => hB b (List.mem_filter.mp hb).1
  have e1 := set_ev (i := 13) (xE_ev (op_ev q (show eX (xLst aNil) _ = some (.list [], _) from lst0) (pNe_nil sh)))
  have z := any_filt (B := BS) (p := fun b => barSame (unT b) d)
  rw [z] at e1
  exact e1
end
end VM
end
section
set_option Elab.async false
set_option linter.all false
set_option maxRecDepth 100000
set_option maxHeartbeats 4000000
namespace VM
open PySem VL VG L2
theorem lots_len {m : Nat} {L : Lot} (h2 : m ≤ 12) (hl : L.length ≤ 200) : (VM.bars m L).length ≤ 100000 := by
  have l1 : ((apart m L).map apD).length ≤ 12 := by
    rw [List.length_map]
    exact Nat.le_trans (List.length_filter_le _ _) (by rw [List.length_range]; omega)
  have l2 := crosses_len hl
  have l3 : ((L.filter (alB L)).map alD).length ≤ 200 := by
    rw [List.length_map]
    exact Nat.le_trans (List.length_filter_le _ _) hl
  unfold VM.bars
  rw [List.length_append, List.length_append]
  omega
section
variable {s c : PyData} {m k : Nat} {L : Lot} {dk : List PyData} {BS S : List PyData} {a2 a3 a4 a5 a6 a7 a8 a9 a10 a11 a12 a13 : Sl}
theorem l7b_ev {d : PyData} {b : Bool} (h : fn_bars [.int (m : Int), lotD L, d] = some (.sh (.bool b))) : l7b (kE s c a2 (.sh (.int m)) a4 a5 a6 (.sh (lotD L)) a8 a9 a10 (.sh d) a12 (.sh (.bool b))) = some (.nx (kE s c a2 (.sh (.int m)) a4 a5 a6 (.sh (lotD L)) a8 a9 a10 (.sh d) a12 (.sh (.bool b)))) :=
  chk' (notT_ev (b := true) (x_sh (fn_ev (args2 (e1 := kE s c a2 (.sh (.int m)) a4 a5 a6 (.sh (lotD L)) a8 a9 a10 (.sh d) a12 (.sh (.bool b))) (x_sh (fn_ev (ds := [.int (m : Int), lotD L, d]) rfl h)) rfl) (same_bool b))))
theorem lh7_ev (h1 : 1 ≤ m) (h2 : m ≤ 12) (h : LotOk m L) (hl : L.length ≤ 100) (hB : ∀ b ∈ VM.bars m L, isBar b) (hS : ∀ d ∈ S, Fine d) : ∃ b11 b13, lh7 (kE s c a2 (.sh (.int m)) a4 a5 a6 (.sh (lotD L)) (.sh (.list (VM.bars m L))) (.ow S) a10 a11 a12 a13) = some (.nx (kE s c a2 (.sh (.int m)) a4 a5 a6 (.sh (lotD L)) (.sh (.list (VM.bars m L))) (.sh (.list S)) a10 b11 a12 b13)) := by
  obtain ⟨e', L1, _, b11, b13, rfl⟩ := loop_list (fg := gN 11) (fb := sSeq l7a l7b) (P := fun ds e => (∀ d ∈ ds, Fine d) ∧ ∃ b11 b13, e = kE s c a2 (.sh (.int m)) a4 a5 a6 (.sh (lotD L)) (.sh (.list (VM.bars m L))) (.sh (.list S)) a10 b11 a12 b13) (fun d ds e hp => by
    obtain ⟨hf, b11, b13, rfl⟩ := hp
    have f := hf d List.mem_cons_self
    have p1 := l7a_ev (s := s) (c := c) (a2 := a2) (a3 := .sh (.int m)) (a4 := a4) (a5 := a5) (a6 := a6) (a7 := .sh (lotD L)) (a9 := .sh (.list S)) (a10 := a10) (a12 := a12) (a13 := b13) hB (lots_len h2 (by omega)) f
    have p2 := l7b_ev (s := s) (c := c) (a2 := a2) (a4 := a4) (a5 := a5) (a6 := a6) (a8 := .sh (.list (VM.bars m L))) (a9 := .sh (.list S)) (a10 := a10) (a12 := a12) (bars_fn h1 h2 h (by omega) f)
    exact ⟨kE s c a2 (.sh (.int m)) a4 a5 a6 (.sh (lotD L)) (.sh (.list (VM.bars m L))) (.sh (.list S)) a10 (.sh d) a12 b13, _, rfl, (seq_nx p1).trans p2, fun x hx => hf x (List.mem_cons_of_mem _ hx), _, _, rfl⟩) S (kE s c a2 (.sh (.int m)) a4 a5 a6 (.sh (lotD L)) (.sh (.list (VM.bars m L))) (.sh (.list S)) a10 a11 a12 a13) ⟨hS, _, _, rfl⟩
  exact ⟨b11, b13, (for_of (e1 := kE s c a2 (.sh (.int m)) a4 a5 a6 (.sh (lotD L)) (.sh (.list (VM.bars m L))) (.sh (.list S)) a10 a11 a12 a13) rfl).trans L1⟩
theorem lhB_ev (h1 : 1 ≤ m) (h2 : m ≤ 12) (h : LotOk m L) (hd : DeckOk k dk) (hk : k < 70000) : ∃ dk' b8 b9 b10 b11 b12 b13, DeckOk (k + 100) dk' ∧ lhB (kE s c (.ow dk) (.sh (.int m)) a4 a5 a6 (.sh (lotD L)) a8 a9 a10 a11 a12 a13) = some (.nx (kE s c (.ow dk') (.sh (.int m)) a4 a5 a6 (.sh (lotD L)) b8 b9 b10 b11 b12 b13)) := by
  have hl := h.len h2
  have hB : ∀ b ∈ VM.bars m L, isBar b := fun b hb => bars_are h2 (fun p hp => by have := h.w p hp; omega) hb
  have e1 := lh1_ev (s := s) (c := c) (a2 := .ow dk) (a4 := a4) (a5 := a5) (a6 := a6) (a8 := a8) (a9 := a9) (a10 := a10) (a11 := a11) (a12 := a12) (a13 := a13) h1 h2 h (by omega)
  have e2 := lh2_ev (s := s) (c := c) (a2 := .ow dk) (a4 := a4) (a5 := a5) (a6 := a6) (a9 := a9) (a10 := a10) (a11 := a11) (a12 := a12) (a13 := a13) h1 h2 h (by omega) hB
  have e3 := lh3_ev (s := s) (c := c) (m := m) (a2 := .ow dk) (a4 := a4) (a5 := a5) (a6 := a6) (a7 := .sh (lotD L)) (a8 := .sh (.list (VM.bars m L))) (a9 := a9) (a10 := a10) (a11 := a11) (a12 := a12) (a13 := a13)
  obtain ⟨S1, d1, f1, l1, o1, e4⟩ := lh4_ev (s := s) (c := c) (a3 := .sh (.int m)) (a4 := a4) (a5 := a5) (a6 := a6) (a7 := .sh (lotD L)) (a8 := .sh (.list (VM.bars m L))) (a10 := a10) (a11 := a11) (a12 := a12) (a13 := a13) hd (by omega) (S0_fine (m := m)) (by show 6 ≤ 1000; omega)
  have l1 : S1.length = 7 := l1
  obtain ⟨S2, d2, b11, f2, l2, o2, e5⟩ := lh5_ev (s := s) (c := c) (a3 := .sh (.int m)) (a4 := a4) (a5 := a5) (a6 := a6) (a7 := .sh (lotD L)) (a10 := a10) (a11 := a11) (a12 := a12) (a13 := a13) o1 (by omega) hB (lots_len h2 (by omega)) f1 (by omega)
  obtain ⟨S3, d3, b10, b12, f3, l3, o3, e6⟩ := lh6_ev (s := s) (c := c) (a4 := a4) (a5 := a5) (a6 := a6) (a7 := .sh (lotD L)) (a8 := .sh (.list (VM.bars m L))) (a10 := a10) (a11 := b11) (a12 := a12) (a13 := a13) h1 h2 o2 (by omega) f2 (by omega)
  obtain ⟨b11', b13, e7⟩ := lh7_ev (s := s) (c := c) (a2 := .ow d3) (a4 := a4) (a5 := a5) (a6 := a6) (a10 := b10) (a11 := b11) (a12 := b12) (a13 := a13) h1 h2 h (by omega) hB f3
  refine ⟨d3, .sh (.list (VM.bars m L)), .sh (.list S3), b10, b11', b12, b13, o3.mono (by omega) (by omega), ?_⟩
  unfold lhB
  rw [seq_nx e1, seq_nx e2, seq_nx e3, seq_nx e4, seq_nx e5, seq_nx e6]
  exact e7
/-! ### some of the pairs -/
theorem cloop_sub {α : Type} {D : α → PyData} {fg : PyData → Ev → Option Ev} {ft : M Bool} {fe : M PyData} {vs : List Nat} {P : Nat → Ev → Prop} (N : Nat) : ∀ (xs : List α) (n : Nat), n + xs.length ≤ N → (∀ x ∈ xs, ∀ n e, n < N → P n e → ∃ e1 e2 b, fg (D x) e = some e1 ∧ ft e1 = some (b, e2) ∧ fe e2 = some (D x, e2) ∧ P (n + 1) (wipeE vs e2)) → ∀ e, P n e →
    ∃ (ys : List α) (e' : Ev), cloop fg ft fe vs (xs.map D) e = some (ys.map D, e') ∧ ys.Sublist xs ∧ P (n + xs.length) e'
  | [], n, _, _, e, h => ⟨[], e, rfl, List.Sublist.refl _, h⟩
  | x :: xs, n, hn, st, e, h => by
    rw [List.length_cons] at hn
    obtain ⟨e1, e2, b, h1, h2, h3, h5⟩ := st x List.mem_cons_self n e (by omega) h
    obtain ⟨ys, e', h6, h7, h9⟩ := cloop_sub N xs (n + 1) (by omega) (fun z hz => st z (List.mem_cons_of_mem _ hz)) _ h5
    have h9' : P (n + (x :: xs).length) e' := by rw [List.length_cons, show n + (xs.length + 1) = n + 1 + xs.length by omega]; exact h9
    cases b with
    | true =>
      refine ⟨x :: ys, e', ?_, h7.cons₂ x, h9'⟩
      rw [List.map_cons, cloop, h1]
      simp only []
      rw [h2]
      simp only [bnd, if_true]
      rw [h3]
      simp only [bnd]
      rw [h6]
      rfl
    | false =>
      refine ⟨ys, e', ?_, h7.cons x, h9'⟩
      rw [List.map_cons, cloop, h1]
      simp only []
      rw [h2]
      simp only [bnd]
      rw [if_neg (by decide), h6]
def subM (ft : M Bool) : M PyData := eCall pTuple (aCons (eX (xLc (iAny (eX (xFn fn_law_pairs (aCons (eVar 3) aNil)))) (gN 14) ft (eVar 14) [14])) aNil)
theorem sub_ev {ft : M Bool} (h2 : m ≤ 12) (hd : DeckOk k dk) (hk : k < 90000)
    (hf : ∀ p ∈ prs m, ∀ k dk, DeckOk k dk → k < 95000 → ∃ dk' b, DeckOk (k + 1) dk' ∧ ft (kF s c (.ow dk) (.sh (.int m)) a4 a5 a6 a7 a8 a9 a10 a11 a12 a13 (.sh (pairD p)) .un .un) = some (b, kF s c (.ow dk') (.sh (.int m)) a4 a5 a6 a7 a8 a9 a10 a11 a12 a13 (.sh (pairD p)) .un .un)) :
    ∃ (M : Lot) (dk' : List PyData), LotOk m M ∧ DeckOk (k + 66) dk' ∧ subM ft (kE s c (.ow dk) (.sh (.int m)) a4 a5 a6 a7 a8 a9 a10 a11 a12 a13) = some (lotD M, kE s c (.ow dk') (.sh (.int m)) a4 a5 a6 a7 a8 a9 a10 a11 a12 a13) := by
  have pl := prs_len m h2
  obtain ⟨ys, e', c1, c2, dk', c4, rfl⟩ := cloop_sub (D := pairD) (fg := gN 14) (ft := ft) (fe := eVar 14) (vs := [14]) (P := fun n e => ∃ dk', DeckOk (k + n) dk' ∧ e = kF s c (.ow dk') (.sh (.int m)) a4 a5 a6 a7 a8 a9 a10 a11 a12 a13 .un .un .un) 66 (prs m) 0 (by omega) (fun p hp n e hn h => by
    obtain ⟨dk', hdk, rfl⟩ := h
    obtain ⟨d1, b, o1, p1⟩ := hf p hp _ _ hdk (by omega)
    exact ⟨kF s c (.ow dk') (.sh (.int m)) a4 a5 a6 a7 a8 a9 a10 a11 a12 a13 (.sh (pairD p)) .un .un, _, b, rfl, p1, rfl, d1, o1, rfl⟩) (kF s c (.ow dk) (.sh (.int m)) a4 a5 a6 a7 a8 a9 a10 a11 a12 a13 .un .un .un) ⟨dk, hd, rfl⟩
  have ok : LotOk m (prs m) := ⟨prs_sorted m, fun p hp => mem_prs.mp hp⟩
  refine ⟨ys, dk', ok.sub c2, c4.mono (by omega) (by omega), ?_⟩
  have h0 : iAny (eX (xFn fn_law_pairs (aCons (eVar 3) aNil))) (kE s c (.ow dk) (.sh (.int m)) a4 a5 a6 a7 a8 a9 a10 a11 a12 a13) = some ((prs m).map pairD, kE s c (.ow dk) (.sh (.int m)) a4 a5 a6 a7 a8 a9 a10 a11 a12 a13) := by
    unfold iAny
    rw [x_ow (fn_ev (e1 := kE s c (.ow dk) (.sh (.int m)) a4 a5 a6 a7 a8 a9 a10 a11 a12 a13) (ds := [.int (m : Int)]) rfl (lpairs_fn m (by omega)))]
    rfl
  have z : sz (ys.map pairD).length = true := sz_of (by rw [List.length_map]; have := c2.length_le; omega)
  refine call1_ev (a := .list (ys.map pairD)) (x_ow ?_) rfl
  unfold xLc
  rw [h0]
  simp only [bnd]
  have w : wipeE [14] (kE s c (.ow dk) (.sh (.int m)) a4 a5 a6 a7 a8 a9 a10 a11 a12 a13) = kF s c (.ow dk) (.sh (.int m)) a4 a5 a6 a7 a8 a9 a10 a11 a12 a13 .un .un .un := rfl
  rw [w, c1]
  simp only []
  rw [if_pos z]
  rfl
theorem pEq_nat (a b : Nat) : pEq (.int (a : Int)) (.int (b : Int)) = some (.bool (decide (a = b))) := by
  have h : SeqAt.shaped (.int (a : Int)) = true ∧ SeqAt.shaped (.int (b : Int)) = true := ⟨shp_i _, shp_i _⟩
  unfold pEq
  rw [if_pos h]
  simp only [PyData.eqv]
  congr 2
  rw [Bool.eq_iff_iff, beq_iff_eq, decide_eq_true_eq]
  omega
theorem lk4_ev (h2 : m ≤ 12) (hd : DeckOk k dk) (hk : k < 90000) : ∃ (M : Lot) (dk' : List PyData), LotOk m M ∧ DeckOk (k + 66) dk' ∧ lk4 (kE s c (.ow dk) (.sh (.int m)) a4 a5 a6 a7 a8 a9 a10 a11 a12 a13) = some (.nx (kE s c (.ow dk') (.sh (.int m)) a4 (.sh (lotD M)) a6 a7 a8 a9 a10 a11 a12 a13)) := by
  obtain ⟨M, dk', ok, o, q⟩ := sub_ev (s := s) (c := c) (a4 := a4) (a5 := a5) (a6 := a6) (a7 := a7) (a8 := a8) (a9 := a9) (a10 := a10) (a11 := a11) (a12 := a12) (a13 := a13) (ft := bB (eOp pGt (eX (xFnB 2 fn_law_pick (aCons (eC (.int 3)) aNil))) (eC (.int 0)))) h2 hd hk (fun p hp k dk hd hk => by
    obtain ⟨r, d1, r0, r1, o1, p1⟩ := pick_eq (n := 3) hd (by omega) (by decide) (by decide)
    exact ⟨d1, decide (0 < r), o1, bB_ev (op_ev (x_sh (fnB_ev (i := 2) (d0 := dk) (dk := dk) (ds := [.int 3]) (e1 := kF s c (.ow dk) (.sh (.int m)) a4 a5 a6 a7 a8 a9 a10 a11 a12 a13 (.sh (pairD p)) .un .un) rfl rfl rfl p1)) rfl rfl)⟩)
  exact ⟨M, dk', ok, o, set_ev (i := 5) (xE_ev q)⟩
theorem lk5_ev (h2 : m ≤ 12) (hd : DeckOk k dk) (hk : k < 90000) : ∃ (M : Lot) (dk' : List PyData), LotOk m M ∧ DeckOk (k + 66) dk' ∧ lk5 (kE s c (.ow dk) (.sh (.int m)) a4 a5 a6 a7 a8 a9 a10 a11 a12 a13) = some (.nx (kE s c (.ow dk') (.sh (.int m)) a4 a5 (.sh (lotD M)) a7 a8 a9 a10 a11 a12 a13)) := by
  obtain ⟨M, dk', ok, o, q⟩ := sub_ev (s := s) (c := c) (a4 := a4) (a5 := a5) (a6 := a6) (a7 := a7) (a8 := a8) (a9 := a9) (a10 := a10) (a11 := a11) (a12 := a12) (a13 := a13) (ft := bOr (bB (eOp pEq (eIxV 14 (eC (.int 1))) (eX (xOps pAdd (eIxV 14 (eC (.int 0))) (eC (.int 1)))))) (bB (eOp pEq (eX (xFnB 2 fn_law_pick (aCons (eC (.int 5)) aNil))) (eC (.int 0))))) h2 hd hk (fun p hp k dk hd hk => by
    have v1 : bB (eOp pEq (eIxV 14 (eC (.int 1))) (eX (xOps pAdd (eIxV 14 (eC (.int 0))) (eC (.int 1))))) (kF s c (.ow dk) (.sh (.int m)) a4 a5 a6 a7 a8 a9 a10 a11 a12 a13 (.sh (pairD p)) .un .un) = some (decide (p.2 = p.1 + 1), kF s c (.ow dk) (.sh (.int m)) a4 a5 a6 a7 a8 a9 a10 a11 a12 a13 (.sh (pairD p)) .un .un) :=
      bB_ev (op_ev (a := .int (p.2 : Nat)) (b := .int ((p.1 + 1 : Nat) : Int)) (e1 := kF s c (.ow dk) (.sh (.int m)) a4 a5 a6 a7 a8 a9 a10 a11 a12 a13 (.sh (pairD p)) .un .un) rfl rfl (pEq_nat _ _))
    by_cases cc : p.2 = p.1 + 1
    · rw [decide_eq_true cc] at v1
      refine ⟨dk, true, hd.mono (by omega) (by omega), ?_⟩
      unfold bOr
      rw [v1]
      rfl
    · rw [decide_eq_false cc] at v1
      obtain ⟨r, d1, r0, r1, o1, p1⟩ := pick_eq (n := 5) hd (by omega) (by decide) (by decide)
      obtain ⟨n, rfl⟩ := Int.eq_ofNat_of_zero_le r0
      have v2 : bB (eOp pEq (eX (xFnB 2 fn_law_pick (aCons (eC (.int 5)) aNil))) (eC (.int 0))) (kF s c (.ow dk) (.sh (.int m)) a4 a5 a6 a7 a8 a9 a10 a11 a12 a13 (.sh (pairD p)) .un .un) = some (decide (n = 0), kF s c (.ow d1) (.sh (.int m)) a4 a5 a6 a7 a8 a9 a10 a11 a12 a13 (.sh (pairD p)) .un .un) :=
        bB_ev (op_ev (a := .int (n : Nat)) (b := .int ((0 : Nat) : Int)) (x_sh (fnB_ev (i := 2) (d0 := dk) (dk := dk) (ds := [.int 5]) (e1 := kF s c (.ow dk) (.sh (.int m)) a4 a5 a6 a7 a8 a9 a10 a11 a12 a13 (.sh (pairD p)) .un .un) rfl rfl rfl p1)) rfl (pEq_nat _ _))
      refine ⟨d1, decide (n = 0), o1, ?_⟩
      unfold bOr
      rw [v1]
      exact v2)
  exact ⟨M, dk', ok, o, set_ev (i := 6) (xE_ev q)⟩
/-! ### the lots gone through -/
theorem lk6I_ev {L4 L5 L6 : Lot} (h2 : m ≤ 12) (h4 : LotOk m L4) (h5 : LotOk m L5) (h6 : LotOk m L6) (hd : DeckOk k dk) (hk : k < 90000) : ∃ (G : List Lot) (dk' : List PyData), G.length = 5 ∧ (∀ L ∈ G, LotOk m L) ∧ DeckOk (k + 6) dk' ∧ lk6I (kE s c (.ow dk) (.sh (.int m)) (.sh (lotD L4)) (.sh (lotD L5)) (.sh (lotD L6)) a7 a8 a9 a10 a11 a12 a13) = some (G.map lotD, kE s c (.ow dk') (.sh (.int m)) (.sh (lotD L4)) (.sh (lotD L5)) (.sh (lotD L6)) a7 a8 a9 a10 a11 a12 a13) := by
  obtain ⟨M1, d1, k1, o1, p1⟩ := bent_fn hd (by omega) h2 h4
  obtain ⟨M2, d2, k2, o2, p2⟩ := bent_fn o1 (by omega) h2 h4
  have v1 : eX (xFnB 2 fn_law_bent (aCons (eVar 3) (aCons (eVar 4) aNil))) (kE s c (.ow dk) (.sh (.int m)) (.sh (lotD L4)) (.sh (lotD L5)) (.sh (lotD L6)) a7 a8 a9 a10 a11 a12 a13) = some (lotD M1, kE s c (.ow d1) (.sh (.int m)) (.sh (lotD L4)) (.sh (lotD L5)) (.sh (lotD L6)) a7 a8 a9 a10 a11 a12 a13) :=
    x_sh (fnB_ev (i := 2) (d0 := dk) (dk := dk) (ds := [.int (m : Int), lotD L4]) (e1 := kE s c (.ow dk) (.sh (.int m)) (.sh (lotD L4)) (.sh (lotD L5)) (.sh (lotD L6)) a7 a8 a9 a10 a11 a12 a13) rfl rfl rfl p1)
  have v2 : eX (xFnB 2 fn_law_bent (aCons (eVar 3) (aCons (eVar 4) aNil))) (kE s c (.ow d1) (.sh (.int m)) (.sh (lotD L4)) (.sh (lotD L5)) (.sh (lotD L6)) a7 a8 a9 a10 a11 a12 a13) = some (lotD M2, kE s c (.ow d2) (.sh (.int m)) (.sh (lotD L4)) (.sh (lotD L5)) (.sh (lotD L6)) a7 a8 a9 a10 a11 a12 a13) :=
    x_sh (fnB_ev (i := 2) (d0 := d1) (dk := d1) (ds := [.int (m : Int), lotD L4]) (e1 := kE s c (.ow d1) (.sh (.int m)) (.sh (lotD L4)) (.sh (lotD L5)) (.sh (lotD L6)) a7 a8 a9 a10 a11 a12 a13) rfl rfl rfl p2)
  refine ⟨[L4, M1, M2, L5, L6], d2, rfl, fun L hL => ?_, o2, ?_⟩
  · simp only [List.mem_cons, List.not_mem_nil, or_false] at hL
    rcases hL with rfl | rfl | rfl | rfl | rfl
    · exact h4
    · exact k1
    · exact k2
    · exact h5
    · exact h6
  · have v := lst_ev (acons_ev (fa := eVar 4) (a := lotD L4) (e := kE s c (.ow dk) (.sh (.int m)) (.sh (lotD L4)) (.sh (lotD L5)) (.sh (lotD L6)) a7 a8 a9 a10 a11 a12 a13) rfl (acons_ev v1 (acons_ev v2 (show aCons (eVar 5) (aCons (eVar 6) aNil) (kE s c (.ow d2) (.sh (.int m)) (.sh (lotD L4)) (.sh (lotD L5)) (.sh (lotD L6)) a7 a8 a9 a10 a11 a12 a13) = some ([lotD L5, lotD L6], kE s c (.ow d2) (.sh (.int m)) (.sh (lotD L4)) (.sh (lotD L5)) (.sh (lotD L6)) a7 a8 a9 a10 a11 a12 a13) from rfl)))) (by rfl)
    unfold lk6I iAny
    rw [x_ow v]
    rfl
theorem lk6_ev {L4 L5 L6 : Lot} (h1 : 1 ≤ m) (h2 : m ≤ 12) (h4 : LotOk m L4) (h5 : LotOk m L5) (h6 : LotOk m L6) (hd : DeckOk k dk) (hk : k < 50000) : ∃ b2 b7 b8 b9 b10 b11 b12 b13, lk6 (kE s c (.ow dk) (.sh (.int m)) (.sh (lotD L4)) (.sh (lotD L5)) (.sh (lotD L6)) a7 a8 a9 a10 a11 a12 a13) = some (.nx (kE s c b2 (.sh (.int m)) (.sh (lotD L4)) (.sh (lotD L5)) (.sh (lotD L6)) b7 b8 b9 b10 b11 b12 b13)) := by
  obtain ⟨G, d1, gl, gk, o1, i1⟩ := lk6I_ev (s := s) (c := c) (a7 := a7) (a8 := a8) (a9 := a9) (a10 := a10) (a11 := a11) (a12 := a12) (a13 := a13) h2 h4 h5 h6 hd (by omega)
  obtain ⟨e', L1, dk', b7, b8, b9, b10, b11, b12, b13, _, rfl⟩ := loop_map (D := lotD) (fg := gN 7) (fb := lhB) (P := fun pre e => ∃ dk' b7 b8 b9 b10 b11 b12 b13, DeckOk (k + 6 + 100 * pre.length) dk' ∧ e = kE s c (.ow dk') (.sh (.int m)) (.sh (lotD L4)) (.sh (lotD L5)) (.sh (lotD L6)) b7 b8 b9 b10 b11 b12 b13) G (fun pre L e hL hpre hp => by
    obtain ⟨dk', b7, b8, b9, b10, b11, b12, b13, o, rfl⟩ := hp
    obtain ⟨d2, c8, c9, c10, c11, c12, c13, o2, p2⟩ := lhB_ev (s := s) (c := c) (a4 := .sh (lotD L4)) (a5 := .sh (lotD L5)) (a6 := .sh (lotD L6)) (a8 := b8) (a9 := b9) (a10 := b10) (a11 := b11) (a12 := b12) (a13 := b13) h1 h2 (gk L hL) o (by omega)
    exact ⟨kE s c (.ow dk') (.sh (.int m)) (.sh (lotD L4)) (.sh (lotD L5)) (.sh (lotD L6)) (.sh (lotD L)) b8 b9 b10 b11 b12 b13, _, rfl, p2, d2, _, _, _, _, _, _, _, o2.mono (by rw [List.length_append, List.length_singleton]; omega) (by rw [List.length_append, List.length_singleton]; omega), rfl⟩) (kE s c (.ow d1) (.sh (.int m)) (.sh (lotD L4)) (.sh (lotD L5)) (.sh (lotD L6)) a7 a8 a9 a10 a11 a12 a13) ⟨d1, _, _, _, _, _, _, _, o1, rfl⟩
  exact ⟨_, _, _, _, _, _, _, _, (for_of i1).trans L1⟩
end
end VM
end
section
set_option Elab.async false
set_option linter.all false
set_option maxRecDepth 100000
set_option maxHeartbeats 4000000
namespace VM
open PySem VL VG L2
theorem lkE_ev {e : Ev} : lkE e = some (.rt (.sh (.bool true)) e) := by kernel_rfl
theorem cell_eq {s c' : PyData} {c : Int} {a2 a3 a4 a5 a6 a7 a8 a9 a10 a11 a12 a13 : Sl} (hc : c' = .int c) : ∃ b2 b3 b4 b5 b6 b7 b8 b9 b10 b11 b12 b13, lkB (kE s c' a2 a3 a4 a5 a6 a7 a8 a9 a10 a11 a12 a13) = some (.nx (kE s c' b2 b3 b4 b5 b6 b7 b8 b9 b10 b11 b12 b13)) := by
  subst hc
  obtain ⟨d0, p0, p1⟩ := deck_eq c
  have e1 : lk1 (kE s (.int c) a2 a3 a4 a5 a6 a7 a8 a9 a10 a11 a12 a13) = some (.nx (kE s (.int c) (.ow d0) a3 a4 a5 a6 a7 a8 a9 a10 a11 a12 a13)) := set_ev (i := 2) (e1 := kE s (.int c) a2 a3 a4 a5 a6 a7 a8 a9 a10 a11 a12 a13) (fn_ev (ds := [.int c, .int 3]) rfl p1)
  obtain ⟨r, d1, r0, r1, o1, p2⟩ := pick_eq (n := 11) p0 (by decide) (by decide) (by decide)
  obtain ⟨n, rfl⟩ := Int.eq_ofNat_of_zero_le r0
  obtain ⟨m, hm⟩ : ∃ m, m = 2 + n := ⟨_, rfl⟩
  have m1 : 2 ≤ m := by omega
  have m2 : m ≤ 12 := by omega
  have e2 : lk2 (kE s (.int c) (.ow d0) a3 a4 a5 a6 a7 a8 a9 a10 a11 a12 a13) = some (.nx (kE s (.int c) (.ow d1) (.sh (.int m)) a4 a5 a6 a7 a8 a9 a10 a11 a12 a13)) := by
    refine set_ev (i := 3) (e1 := kE s (.int c) (.ow d1) a3 a4 a5 a6 a7 a8 a9 a10 a11 a12 a13) (x := .sh (.int m)) (ops_ev (a := .int 2) (b := .int (n : Nat)) (e1 := kE s (.int c) (.ow d0) a3 a4 a5 a6 a7 a8 a9 a10 a11 a12 a13) rfl (x_sh (fnB_ev (i := 2) (d0 := d0) (dk := d0) (ds := [.int 11]) (e1 := kE s (.int c) (.ow d0) a3 a4 a5 a6 a7 a8 a9 a10 a11 a12 a13) rfl rfl rfl p2)) ?_)
    subst hm
    show some (Sl.sh (.int ((2 : Int) + (n : Int)))) = _
    congr 3
  obtain ⟨ns, d2, n1, n2, n5, o2, n4⟩ := heights_eqB (top := 1000000000) (m := m) (by decide) (by decide) o1 (by decide) m2
  have e3 : lk3 (kE s (.int c) (.ow d1) (.sh (.int m)) a4 a5 a6 a7 a8 a9 a10 a11 a12 a13) = some (.nx (kE s (.int c) (.ow d2) (.sh (.int m)) (.sh (lotD (seen ns))) a5 a6 a7 a8 a9 a10 a11 a12 a13)) := by
    have q : aCons (eVar 3) (aCons (eOp pPow (eC (.int 10)) (eC (.int 9))) aNil) (kE s (.int c) (.ow d1) (.sh (.int m)) a4 a5 a6 a7 a8 a9 a10 a11 a12 a13) = some ([.int (m : Int), .int 1000000000], (kE s (.int c) (.ow d1) (.sh (.int m)) a4 a5 a6 a7 a8 a9 a10 a11 a12 a13)) := args2 (e1 := (kE s (.int c) (.ow d1) (.sh (.int m)) a4 a5 a6 a7 a8 a9 a10 a11 a12 a13)) rfl (op_ev (a := .int 10) (b := .int 9) rfl rfl (by kernel_rfl))
    exact set_ev (i := 4) (e1 := kE s (.int c) (.ow d2) (.sh (.int m)) a4 a5 a6 a7 a8 a9 a10 a11 a12 a13) (fn_ev (ds := [.tuple (ns.map PyData.int)]) (args1 (x_sh (fnB_ev (i := 2) (d0 := d1) (dk := d1) (e1 := kE s (.int c) (.ow d1) (.sh (.int m)) a4 a5 a6 a7 a8 a9 a10 a11 a12 a13) rfl q rfl n4))) (seen_fn n2 (by omega)))
  have ok := seen_ok ns
  rw [n1] at ok
  generalize seen ns = L at e3 ok
  obtain ⟨M5, d3, k5, o3, e4⟩ := lk4_ev (s := s) (c := .int c) (a4 := .sh (lotD L)) (a5 := a5) (a6 := a6) (a7 := a7) (a8 := a8) (a9 := a9) (a10 := a10) (a11 := a11) (a12 := a12) (a13 := a13) m2 o2 (by omega)
  obtain ⟨M6, d4, k6, o4, e5⟩ := lk5_ev (s := s) (c := .int c) (a4 := .sh (lotD L)) (a5 := .sh (lotD M5)) (a6 := a6) (a7 := a7) (a8 := a8) (a9 := a9) (a10 := a10) (a11 := a11) (a12 := a12) (a13 := a13) m2 o3 (by omega)
  obtain ⟨b2, b7, b8, b9, b10, b11, b12, b13, e6⟩ := lk6_ev (s := s) (c := .int c) (a7 := a7) (a8 := a8) (a9 := a9) (a10 := a10) (a11 := a11) (a12 := a12) (a13 := a13) (by omega) m2 ok k5 k6 o4 (by omega)
  refine ⟨b2, .sh (.int m), .sh (lotD L), .sh (lotD M5), .sh (lotD M6), b7, b8, b9, b10, b11, b12, b13, ?_⟩
  unfold lkB
  rw [seq_nx e1, seq_nx e2, seq_nx e3, seq_nx e4, seq_nx e5]
  exact e6
theorem law_true (ns : List Int) (hl : ns.length ≤ 63) : fn_law [.list (ns.map PyData.int)] = some (.sh (.bool true)) := by
  obtain ⟨s, hs⟩ : ∃ s, s = PyData.list (ns.map PyData.int) := ⟨_, rfl⟩
  rw [← hs]
  obtain ⟨e', L1, a1, a2, a3, a4, a5, a6, a7, a8, a9, a10, a11, a12, a13, rfl⟩ := loop_map (D := PyData.int) (fg := gN 1) (fb := lkB) (P := fun _ e => ∃ a1 a2 a3 a4 a5 a6 a7 a8 a9 a10 a11 a12 a13, e = [.sh s, a1, a2, a3, a4, a5, a6, a7, a8, a9, a10, a11, a12, a13, .un, .un, .un]) ((0 :: ns).take 10) (fun pre c e _ _ hp => by
    obtain ⟨a1, a2, a3, a4, a5, a6, a7, a8, a9, a10, a11, a12, a13, rfl⟩ := hp
    obtain ⟨b2, b3, b4, b5, b6, b7, b8, b9, b10, b11, b12, b13, h⟩ := cell_eq (s := s) (c := c) (a2 := a2) (a3 := a3) (a4 := a4) (a5 := a5) (a6 := a6) (a7 := a7) (a8 := a8) (a9 := a9) (a10 := a10) (a11 := a11) (a12 := a12) (a13 := a13) rfl
    exact ⟨_, _, rfl, h, _, _, _, _, _, _, _, _, _, _, _, _, _, rfl⟩) [.sh s, .un, .un, .un, .un, .un, .un, .un, .un, .un, .un, .un, .un, .un, .un, .un, .un] ⟨_, _, _, _, _, _, _, _, _, _, _, _, _, rfl⟩
  have f1 : sFor lkI (gN 1) lkB [.sh s, .un, .un, .un, .un, .un, .un, .un, .un, .un, .un, .un, .un, .un, .un, .un, .un] = some (.nx [.sh s, a1, a2, a3, a4, a5, a6, a7, a8, a9, a10, a11, a12, a13, .un, .un, .un]) := by
    have i3 : lkI [.sh s, .un, .un, .un, .un, .un, .un, .un, .un, .un, .un, .un, .un, .un, .un, .un, .un] = some (((0 :: ns).take 10).map PyData.int, [.sh s, .un, .un, .un, .un, .un, .un, .un, .un, .un, .un, .un, .un, .un, .un, .un, .un]) := by
      have q1 : eX (xOps pAdd (eX (xLst (aCons (eC (.int 0)) aNil))) (eVar 0)) [.sh s, .un, .un, .un, .un, .un, .un, .un, .un, .un, .un, .un, .un, .un, .un, .un, .un] = some (.list ((0 :: ns).map PyData.int), [.sh s, .un, .un, .un, .un, .un, .un, .un, .un, .un, .un, .un, .un, .un, .un, .un, .un]) := by
        subst hs
        exact x_ow (ops_ev (a := .list [.int 0]) (b := .list (ns.map PyData.int)) rfl rfl (cat_ev (by rw [List.length_map]; show 1 + ns.length ≤ 1000000; omega)))
      have cut : cutD ((0 :: ns).map PyData.int) none (some 10) = ((0 :: ns).take 10).map PyData.int := by
        unfold cutD
        rw [show (10 : Int) = ((10 : Nat) : Int) from rfl, HT.sIx_nat, HT.sIx_none, List.drop_zero, Nat.sub_zero, List.map_take]
        by_cases c : 10 ≤ ((0 :: ns).map PyData.int).length
        · rw [Nat.min_eq_left c]
        · rw [Nat.min_eq_right (by omega), List.take_of_length_le (Nat.le_refl _), List.take_of_length_le (by omega)]
      unfold lkI iAny
      have q2 : eX (xSl (eX (xOps pAdd (eX (xLst (aCons (eC (.int 0)) aNil))) (eVar 0))) oNo (oSome (eC (.int 10)))) [.sh s, .un, .un, .un, .un, .un, .un, .un, .un, .un, .un, .un, .un, .un, .un, .un, .un] = some (.list (((0 :: ns).take 10).map PyData.int), [.sh s, .un, .un, .un, .un, .un, .un, .un, .un, .un, .un, .un, .un, .un, .un, .un, .un]) := by
        refine x_ow ?_
        unfold xSl
        rw [q1]
        rw [← cut]
        rfl
      rw [q2]
      rfl
    rw [for_of i3]
    exact L1
  refine fnS_rt (n := 1) (m := 16) (e1 := [.sh s, a1, a2, a3, a4, a5, a6, a7, a8, a9, a10, a11, a12, a13, .un, .un, .un]) rfl ?_
  show bd_law [.sh s, .un, .un, .un, .un, .un, .un, .un, .un, .un, .un, .un, .un, .un, .un, .un, .un] = _
  rw [law_parts, seq_nx f1]
  exact lkE_ev
end VM
end
section
set_option Elab.async false
set_option linter.all false
open PySem PySem.W PyProof.Rows
set_option maxRecDepth 100000 in
set_option maxHeartbeats 0 in
theorem PySem.Challenge.cw_roofsights_k03_whole_what_bars_holds : PySem.Challenge.rw_roofsights_k03_whole_what_bars.Holds := by
  w_on; o_law; k_head; (case hw => w_witness2)
  k_fill
  refine L2.walk_of (l := PySem.Challenge.rw_roofsights_k03_whole_what_bars) (n := 63) (k := 9) (x := "script") (CX := fun _ => L2.CX0) (sp := fun w => VL.spS _ VG.fn_law) rfl (by decide) rfl ⟨rfl, by decide, by decide⟩ (fun w h Y => PySem.W.kIn_of Y) ?F (fun _ _ a ns hl _ hS => VL.spS_law (VM.law_true ns hl) hS _) fun _ _ _ _ _ z => z
  case F =>
    intro w mg fa h KX G hmg
    refine VG.all_mk KX G hmg ?T
    refine' VG.top_mk KX G ?f_n_all ?f_n_any ?f_n_bool ?f_n_enumerate ?f_n_int ?f_n_isinstance ?f_n_len ?f_n_list ?f_n_max ?f_n_min ?f_n_range ?f_n_set ?f_n_sorted ?f_n_str ?f_n_sum ?f_n_tuple ?f_n_zip ?f_c_MOST_HOUSES ?f_law_deck ?f_law_seen ?f_is_whole ?f_is_whole_within ?f_is_many ?f_check_many ?f_is_place ?f_is_pair ?f_is_lot ?f_check_lot ?f_check_many_and_lot ?f_both_see_one_between ?f_bars_alone ?f_bars_apart ?f_bars_cross ?f_all_bars ?f_what_bars ?f_law_pick ?f_law_heights ?f_law_pairs ?f_law_one ?f_law_bent ?f_law_bars ?f_law_sort ?f_law_same ?f_law_odd ?f_law_spoilt ?f_bars ?f_law
    case f_n_all => k_is
    case f_n_any => k_is
    case f_n_bool => k_is
    case f_n_enumerate => k_is
    case f_n_int => k_is
    case f_n_isinstance => k_is
    case f_n_len => k_is
    case f_n_list => k_is
    case f_n_max => k_is
    case f_n_min => k_is
    case f_n_range => k_is
    case f_n_set => k_is
    case f_n_sorted => k_is
    case f_n_str => k_is
    case f_n_sum => k_is
    case f_n_tuple => k_is
    case f_n_zip => k_is
    case f_c_MOST_HOUSES => exact ⟨_, by k_is⟩
    case f_law_deck => exact ⟨_, _, _, _, _, _, _, _, _, _, by k_is, by k_is, by k_is, by k_is⟩
    case f_law_seen => exact ⟨_, _, _, _, _, _, _, _, _, _, by k_is, by k_is, by k_is, by k_is⟩
    case f_is_whole => exact ⟨_, _, _, _, _, _, _, _, _, _, by k_is, by k_is, by k_is, by k_is⟩
    case f_is_whole_within => exact ⟨_, _, _, _, _, _, _, _, _, _, by k_is, by k_is, by k_is, by k_is⟩
    case f_is_many => exact ⟨_, _, _, _, _, _, _, _, _, _, by k_is, by k_is, by k_is, by k_is⟩
    case f_check_many => exact ⟨_, _, _, _, _, _, _, _, _, _, by k_is, by k_is, by k_is, by k_is⟩
    case f_is_place => exact ⟨_, _, _, _, _, _, _, _, _, _, by k_is, by k_is, by k_is, by k_is⟩
    case f_is_pair => exact ⟨_, _, _, _, _, _, _, _, _, _, by k_is, by k_is, by k_is, by k_is⟩
    case f_is_lot => exact ⟨_, _, _, _, _, _, _, _, _, _, by k_is, by k_is, by k_is, by k_is⟩
    case f_check_lot => exact ⟨_, _, _, _, _, _, _, _, _, _, by k_is, by k_is, by k_is, by k_is⟩
    case f_check_many_and_lot => exact ⟨_, _, _, _, _, _, _, _, _, _, by k_is, by k_is, by k_is, by k_is⟩
    case f_both_see_one_between => exact ⟨_, _, _, _, _, _, _, _, _, _, by k_is, by k_is, by k_is, by k_is⟩
    case f_bars_alone => exact ⟨_, _, _, _, _, _, _, _, _, _, by k_is, by k_is, by k_is, by k_is⟩
    case f_bars_apart => exact ⟨_, _, _, _, _, _, _, _, _, _, by k_is, by k_is, by k_is, by k_is⟩
    case f_bars_cross => exact ⟨_, _, _, _, _, _, _, _, _, _, by k_is, by k_is, by k_is, by k_is⟩
    case f_all_bars => exact ⟨_, _, _, _, _, _, _, _, _, _, by k_is, by k_is, by k_is, by k_is⟩
    case f_what_bars => exact ⟨_, _, _, _, _, _, _, _, _, _, by k_is, by k_is, by k_is, by k_is⟩
    case f_law_pick => exact ⟨_, _, _, _, _, _, _, _, _, _, by k_is, by k_is, by k_is, by k_is⟩
    case f_law_heights => exact ⟨_, _, _, _, _, _, _, _, _, _, by k_is, by k_is, by k_is, by k_is⟩
    case f_law_pairs => exact ⟨_, _, _, _, _, _, _, _, _, _, by k_is, by k_is, by k_is, by k_is⟩
    case f_law_one => exact ⟨_, _, _, _, _, _, _, _, _, _, by k_is, by k_is, by k_is, by k_is⟩
    case f_law_bent => exact ⟨_, _, _, _, _, _, _, _, _, _, by k_is, by k_is, by k_is, by k_is⟩
    case f_law_bars => exact ⟨_, _, _, _, _, _, _, _, _, _, by k_is, by k_is, by k_is, by k_is⟩
    case f_law_sort => exact ⟨_, _, _, _, _, _, _, _, _, _, by k_is, by k_is, by k_is, by k_is⟩
    case f_law_same => exact ⟨_, _, _, _, _, _, _, _, _, _, by k_is, by k_is, by k_is, by k_is⟩
    case f_law_odd => exact ⟨_, _, _, _, _, _, _, _, _, _, by k_is, by k_is, by k_is, by k_is⟩
    case f_law_spoilt => exact ⟨_, _, _, _, _, _, _, _, _, _, by k_is, by k_is, by k_is, by k_is⟩
    case f_bars => exact ⟨_, _, _, _, _, _, _, _, _, _, by k_is, by k_is, by k_is, by k_is⟩
    case f_law => exact ⟨_, _, _, _, _, _, _, _, _, _, by k_is, by k_is, by k_is, by k_is⟩
end
