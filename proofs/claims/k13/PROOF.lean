import PyProof.Rows.All
import Wide.All
import OpenK.AllK
import Wide.FinOn
import HandS.ForMost
import HandS.ForExc
import HandS.IsInst
import KE.KeyNested
import HandS.Style
import HandS.TupAny
import HandS.Deep
import HandS.Flow
import HandS.TupLe
import HandS.Conv
import HandS.SetFor
import HandS.Zip
import KE.GoesMore
import KE.GoesZip
import KE.SortData
import KE.DataMinMax
import KE.DataCmp
import HandS.Rev
import HandS.Dict
import KE.KDictSum
import KE.KDictCopyH
import HandS.New0
import KE.DataFind
import HandS.SortKw
import HandS.Ends
import PySem.Challenge.RW_roofsights_k13_whole_small_streets_by_wo
section
set_option Elab.async false
set_option linter.all false
set_option maxRecDepth 100000
set_option maxHeartbeats 2000000
/-! A layer of values: what a piece of the program does, told as a plain function over data. -/
namespace VL
open PySem PySem.Spec PyProof.Rows L2
/-! ### heaps -/
theorem same_upd {H : Hp} {p : Addr} {o : HO} (h : H p = none) : Same H (upd H p o) := fun b x e => by
  rw [upd_ne (ne_of_none e h)]
  exact e
theorem seqT {K : PySem.W.Frag} {H H' : Hp} {a : Addr} {xs : List V} (e : Same H H') (h : SqT K H a xs) : SqT K H' a xs := by
  rcases h with (h | ⟨o, h⟩) | h
  · exact .inl (.inl (e _ _ h))
  · exact .inl (.inr ⟨o, e _ _ h⟩)
  · exact .inr h
mutual
theorem dp_mono {K : PySem.W.Frag} {H H' : Hp} (e : Same H H') : ∀ {v : V} {d : PyData}, Dp K H v d → Dp K H' v d
  | _, _, .non => .non
  | _, _, .bl b => .bl b
  | _, _, .int i => .int i
  | _, _, .str x => .str x
  | _, _, .lst hs ha => .lst (e.seq hs) (dpAll_mono e ha)
  | _, _, .tup hs ha => .tup (seqT e hs) (dpAll_mono e ha)
theorem dpAll_mono {K : PySem.W.Frag} {H H' : Hp} (e : Same H H') : ∀ {vs : List V} {ds : List PyData}, DpAll K H vs ds → DpAll K H' vs ds
  | _, _, .nil => .nil
  | _, _, .cons h t => .cons (dp_mono e h) (dpAll_mono e t)
end
theorem dpAll_len {K : PySem.W.Frag} {H : Hp} : ∀ {vs : List V} {ds : List PyData}, DpAll K H vs ds → vs.length = ds.length
  | _, _, .nil => rfl
  | _, _, .cons _ t => congrArg (· + 1) (dpAll_len t)
theorem dpAll_get {K : PySem.W.Frag} {H : Hp} : ∀ {vs : List V} {ds : List PyData} {i : Nat} {v : V}, DpAll K H vs ds → vs[i]? = some v → ∃ d, ds[i]? = some d ∧ Dp K H v d
  | _, _, _, _, .nil, h => by simp at h
  | _, _, 0, _, .cons h _, e => ⟨_, rfl, by cases Option.some.inj e; exact h⟩
  | _, _, i + 1, _, .cons _ t, e => dpAll_get (i := i) t e
theorem dpAll_getD {K : PySem.W.Frag} {H : Hp} : ∀ {vs : List V} {ds : List PyData} {i : Nat} {d : PyData}, DpAll K H vs ds → ds[i]? = some d → ∃ v, vs[i]? = some v ∧ Dp K H v d
  | _, _, _, _, .nil, h => by simp at h
  | _, _, 0, _, .cons h _, e => ⟨_, rfl, by cases Option.some.inj e; exact h⟩
  | _, _, i + 1, _, .cons _ t, e => dpAll_getD (i := i) t e
theorem dpAll_app {K : PySem.W.Frag} {H : Hp} : ∀ {vs us : List V} {ds es : List PyData}, DpAll K H vs ds → DpAll K H us es → DpAll K H (vs ++ us) (ds ++ es)
  | _, _, _, _, .nil, h => h
  | _, _, _, _, .cons a t, h => .cons a (dpAll_app t h)
theorem dpAll_snoc {K : PySem.W.Frag} {H : Hp} {vs : List V} {ds : List PyData} {v : V} {d : PyData} (a : DpAll K H vs ds) (h : Dp K H v d) : DpAll K H (vs ++ [v]) (ds ++ [d]) := dpAll_app a (.cons h .nil)
theorem dpAll_set {K : PySem.W.Frag} {H : Hp} {v : V} {d : PyData} (h : Dp K H v d) : ∀ {vs : List V} {ds : List PyData} (i : Nat), DpAll K H vs ds → DpAll K H (vs.set i v) (ds.set i d)
  | _, _, _, .nil => .nil
  | _, _, 0, .cons _ t => .cons h t
  | _, _, i + 1, .cons q t => .cons q (dpAll_set h i t)
theorem dpAll_take {K : PySem.W.Frag} {H : Hp} : ∀ {vs : List V} {ds : List PyData} (n : Nat), DpAll K H vs ds → DpAll K H (vs.take n) (ds.take n)
  | _, _, 0, _ => .nil
  | _, _, _ + 1, .nil => .nil
  | _, _, n + 1, .cons r t => .cons r (dpAll_take n t)
theorem dpAll_drop {K : PySem.W.Frag} {H : Hp} : ∀ {vs : List V} {ds : List PyData} (n : Nat), DpAll K H vs ds → DpAll K H (vs.drop n) (ds.drop n)
  | _, _, 0, r => r
  | _, _, _ + 1, .nil => .nil
  | _, _, n + 1, .cons _ t => dpAll_drop n t
theorem dpAll_ints {K : PySem.W.Frag} {H : Hp} : ∀ {vs : List V} {ns : List Int}, DpAll K H vs (ns.map PyData.int) → vs = ns.map V.int
  | _, [], .nil => rfl
  | _, n :: ns, .cons h t => by
    cases h
    rw [dpAll_ints t]
    rfl
theorem dpAll_bls {K : PySem.W.Frag} {H : Hp} : ∀ {vs : List V} {ns : List Bool}, DpAll K H vs (ns.map PyData.bool) → vs = ns.map V.bl
  | _, [], .nil => rfl
  | _, n :: ns, .cons h t => by
    cases h
    rw [dpAll_bls t]
    rfl
theorem dp_tup {K : PySem.W.Frag} {H : Hp} {v : V} {ds : List PyData} (h : Dp K H v (.tuple ds)) : ∃ a xs, v = .ref a ∧ SqT K H a xs ∧ DpAll K H xs ds := by
  cases h with
  | tup hs ha => exact ⟨_, _, rfl, hs, ha⟩
theorem dp_lst {K : PySem.W.Frag} {H : Hp} {v : V} {ds : List PyData} (h : Dp K H v (.list ds)) : ∃ a xs, v = .ref a ∧ SqL K H a xs ∧ DpAll K H xs ds := by
  cases h with
  | lst hs ha => exact ⟨_, _, rfl, hs, ha⟩
theorem dp_int {K : PySem.W.Frag} {H : Hp} {v : V} {i : Int} (h : Dp K H v (.int i)) : v = .int i := by cases h; rfl
theorem dp_bl {K : PySem.W.Frag} {H : Hp} {v : V} {i : Bool} (h : Dp K H v (.bool i)) : v = .bl i := by cases h; rfl
theorem dp_str {K : PySem.W.Frag} {H : Hp} {v : V} {i : Str} (h : Dp K H v (.str i)) : v = .str i := by cases h; rfl
theorem dp_non {K : PySem.W.Frag} {H : Hp} {v : V} (h : Dp K H v .none) : v = .non := by cases h; rfl
/-- heap and base have grown -/
structure Ext (H B H' B' : Hp) : Prop where
  h : Same H H'
  b : Same B B'
  bh : Same B' H'
  nn : ∀ b, H b ≠ none → B b = none → B' b = none
theorem Ext.refl {H B : Hp} (h : Same B H) : Ext H B H B := ⟨Same.refl H, Same.refl B, h, fun _ _ e => e⟩
theorem ne_none_of {H H' : Hp} (e : Same H H') {b : Addr} (h : H b ≠ none) : H' b ≠ none := by
  cases q : H b with
  | none => exact absurd q h
  | some o => rw [e b o q]; exact fun z => by cases z
theorem Ext.trans {H B H1 B1 H2 B2 : Hp} (x : Ext H B H1 B1) (y : Ext H1 B1 H2 B2) : Ext H B H2 B2 :=
  ⟨x.h.trans y.h, x.b.trans y.b, y.bh, fun b h e => y.nn b (ne_none_of x.h h) (x.nn b h e)⟩
/-- a new thing that is kept -/
theorem Ext.new {H B : Hp} {p : Addr} {o : HO} (bh : Same B H) (h : H p = none) : Ext H B (upd H p o) (upd B p o) := by
  have hb : B p = none := bh.free h
  refine ⟨same_upd h, same_upd hb, fun b x e => ?_, fun b hn e => ?_⟩
  · by_cases c : b = p
    · rw [c, upd_same] at e ⊢
      exact e
    · rw [upd_ne c] at e ⊢
      exact bh b x e
  · rw [upd_ne (fun c => hn (by rw [c]; exact h))]
    exact e
/-- a new thing that is not -/
theorem Ext.gone {H B : Hp} {p : Addr} {o : HO} (bh : Same B H) (h : H p = none) : Ext H B (upd H p o) B :=
  ⟨same_upd h, Same.refl B, bh.trans (same_upd h), fun _ _ e => e⟩
/-! ### what a slot holds -/
inductive Sl where
  /-- nothing that is known -/
  | un
  /-- data that nobody changes -/
  | sh (d : PyData)
  /-- a list that this slot alone has -/
  | ow (ds : List PyData)
  /-- a list that the caller has lent -/
  | bw (ds : List PyData)
  /-- an object without attributes of the class of that name -/
  | ob (c : Str)
  /-- a dict that this slot alone has; one that is only read -/
  | dc (kvs : List (PyData × PyData)) | dr (kvs : List (PyData × PyData))
  /-- a street that this slot alone has; one that the caller has lent -/
  | st (row : PyData) (er : List PyData) | sb (row : PyData) (er : List PyData)
abbrev Ev := List Sl
/-- the heap and the base at the entry, the place that is lent -/
structure Wd where
  H0 : Hp
  B0 : Hp
  bp : Option Addr
/-! dicts: keys are numbers and tuples -/
mutual
def keyN : PyData → Option NestedKey
  | .int i => some (.num i)
  | .tuple ds => (match keyNs ds with | none => none | some ks => some (.tup ks))
  | .none => none
  | .bool _ => none
  | .str _ => none
  | .list _ => none
  | .dict _ => none
def keyNs : List PyData → Option (List NestedKey)
  | [] => some []
  | d :: ds => (match keyN d with | none => none | some k => (match keyNs ds with | none => none | some ks => some (k :: ks)))
end
mutual
/-- the hash of such a key, whatever the world -/
def hashN : NestedKey → Int
  | .none => 0
  | .num i => hashInt i
  | .text _ => 0
  | .tup ks => reduceHash (Builtin.Tuple.tupleHashOf (hashNs ks))
def hashNs : List NestedKey → List Int
  | [] => []
  | k :: ks => hashN k :: hashNs ks
end
def entN (x : NestedKey × Addr × Value) : DictEntry := ⟨hashN x.1, .ref x.2.1, x.2.2⟩
def dictP (xs : List (NestedKey × Addr × Value)) (a : Addr) (h : Heap) : Prop := ∃ o es ep, h.get? a = some o ∧ o.ExactDict ∧ o.data = .dict es ep ∧ es.toList = xs.map entN ∧ (xs.map (·.1)).Nodup
inductive EntsOk (K : PySem.W.Frag) (B : Hp) : List (NestedKey × Addr × Value) → List (PyData × PyData) → Prop
  | nil : EntsOk K B [] []
  | cons {k : NestedKey} {a : Addr} {u : Value} {d dv : PyData} {v : V} {xs : List (NestedKey × Addr × Value)} {kvs : List (PyData × PyData)} : keyN d = some k → d.depth ≤ 8 → Dp K B (.ref a) d → RelV v u → Dp K B v dv → EntsOk K B xs kvs → EntsOk K B ((k, a, u) :: xs) ((d, dv) :: kvs)
theorem EntsOk.mono {K : PySem.W.Frag} {B B' : Hp} (e : Same B B') : ∀ {xs : List (NestedKey × Addr × Value)} {kvs : List (PyData × PyData)}, EntsOk K B xs kvs → EntsOk K B' xs kvs
  | _, _, .nil => .nil
  | _, _, .cons a a' b c d t => .cons a a' (dp_mono e b) c (dp_mono e d) (EntsOk.mono e t)
/-- a street: its object, its dict, its list -/
def StAt (K : PySem.W.Frag) (H B : Hp) (a dx q : Addr) (row : PyData) (er : List PyData) : Prop := ∃ C vr ws, PySem.W.nsIn K mainGlobals "Street" = some (some (.ref C)) ∧ H a = some (.ins C dx [("row", vr), ("earlier_rows", .ref q)]) ∧ H dx = some (.own a) ∧ H q = some (.lst ws) ∧ Dp K B vr row ∧ DpAll K B ws er
inductive SlOk (K : PySem.W.Frag) (bp : Option Addr) (H B : Hp) : Option V → Sl → List Addr → Prop
  | un {o : Option V} : SlOk K bp H B o .un []
  | sh {v : V} {d : PyData} : Dp K B v d → SlOk K bp H B (some v) (.sh d) []
  | ow {p : Addr} {xs : List V} {ds : List PyData} : H p = some (.lst xs) → DpAll K B xs ds → SlOk K bp H B (some (.ref p)) (.ow ds) [p]
  | bw {p : Addr} {xs : List V} {ds : List PyData} : bp = some p → H p = some (.lst xs) → DpAll K B xs ds → SlOk K bp H B (some (.ref p)) (.bw ds) [p]
  | ob {a C dx : Addr} {c : Str} : B a = some (.ins C dx []) → PySem.W.nsIn K mainGlobals c = some (some (.ref C)) → SlOk K bp H B (some (.ref a)) (.ob c) []
  | dc {p : Addr} {xs : List (NestedKey × Addr × Value)} {kvs : List (PyData × PyData)} : H p = some (.ext (dictP xs p)) → EntsOk K B xs kvs → (p == sysModules) = false → SlOk K bp H B (some (.ref p)) (.dc kvs) [p]
  | dr {p : Addr} {xs : List (NestedKey × Addr × Value)} {kvs : List (PyData × PyData)} : B p = some (.ext (dictP xs p)) → EntsOk K B xs kvs → (p == sysModules) = false → SlOk K bp H B (some (.ref p)) (.dr kvs) []
  | st {a dx q : Addr} {row : PyData} {er : List PyData} : StAt K H B a dx q row er → SlOk K bp H B (some (.ref a)) (.st row er) [a, dx, q]
  | sb {a dx q : Addr} {row : PyData} {er : List PyData} : bp = some a → StAt K H B a dx q row er → SlOk K bp H B (some (.ref a)) (.sb row er) [a, dx, q]
theorem StAt.held {K : PySem.W.Frag} {H B : Hp} {a dx q : Addr} {row : PyData} {er : List PyData} (h : StAt K H B a dx q row er) : ∀ p ∈ [a, dx, q], H p ≠ none := by
  obtain ⟨C, vr, ws, _, h1, h2, h3, _⟩ := h
  intro p hp
  rcases List.mem_cons.mp hp with e | hp
  · rw [e, h1]; exact fun z => by cases z
  · rcases List.mem_cons.mp hp with e | hp
    · rw [e, h2]; exact fun z => by cases z
    · rw [List.mem_singleton.mp hp, h3]; exact fun z => by cases z
theorem StAt.mono {K : PySem.W.Frag} {H B H' B' : Hp} {a dx q : Addr} {row : PyData} {er : List PyData} (h : StAt K H B a dx q row er) (eh : ∀ p ∈ [a, dx, q], H' p = H p) (eb : Same B B') : StAt K H' B' a dx q row er := by
  obtain ⟨C, vr, ws, h0, h1, h2, h3, h4, h5⟩ := h
  exact ⟨C, vr, ws, h0, by rw [eh a (by simp)]; exact h1, by rw [eh dx (by simp)]; exact h2, by rw [eh q (by simp)]; exact h3, dp_mono eb h4, dpAll_mono eb h5⟩
inductive Sls (K : PySem.W.Frag) (bp : Option Addr) (H B : Hp) : L2.St → Ev → List Addr → Prop
  | nil : Sls K bp H B [] [] []
  | cons {o : Option V} {sl : Sl} {as bs : List Addr} {σ : L2.St} {e : Ev} : SlOk K bp H B o sl as → Sls K bp H B σ e bs → Sls K bp H B (o :: σ) (sl :: e) (as ++ bs)
theorem SlOk.held {K : PySem.W.Frag} {bp : Option Addr} {H B : Hp} {o : Option V} {sl : Sl} {as : List Addr} (h : SlOk K bp H B o sl as) : ∀ p ∈ as, H p ≠ none := by
  intro p hp
  cases h with
  | un => cases hp
  | sh _ => cases hp
  | ow a _ => rw [List.mem_singleton.mp hp, a]; exact fun z => by cases z
  | bw _ a _ => rw [List.mem_singleton.mp hp, a]; exact fun z => by cases z
  | ob _ _ => cases hp
  | dc a _ _ => rw [List.mem_singleton.mp hp, a]; exact fun z => by cases z
  | dr _ _ _ => cases hp
  | st a => exact a.held p hp
  | sb _ a => exact a.held p hp
theorem Sls.held {K : PySem.W.Frag} {bp : Option Addr} {H B : Hp} : ∀ {σ : L2.St} {e : Ev} {as : List Addr}, Sls K bp H B σ e as → ∀ p ∈ as, H p ≠ none
  | _, _, _, .nil, _, hp => by cases hp
  | _, _, _, .cons h t, p, hp => (List.mem_append.mp hp).elim (h.held p) (t.held p)
theorem SlOk.mono {K : PySem.W.Frag} {bp : Option Addr} {H B H' B' : Hp} {o : Option V} {sl : Sl} {as : List Addr} (h : SlOk K bp H B o sl as) (eh : ∀ p ∈ as, H' p = H p) (eb : Same B B') : SlOk K bp H' B' o sl as := by
  cases h with
  | un => exact .un
  | sh d => exact .sh (dp_mono eb d)
  | ow a d => exact .ow (by rw [eh _ List.mem_cons_self]; exact a) (dpAll_mono eb d)
  | bw e a d => exact .bw e (by rw [eh _ List.mem_cons_self]; exact a) (dpAll_mono eb d)
  | ob a b => exact .ob (eb _ _ a) b
  | dc a b c => exact .dc (by rw [eh _ List.mem_cons_self]; exact a) (b.mono eb) c
  | dr a b c => exact .dr (eb _ _ a) (b.mono eb) c
  | st a => exact .st (a.mono eh eb)
  | sb e a => exact .sb e (a.mono eh eb)
theorem Sls.mono {K : PySem.W.Frag} {bp : Option Addr} {H B H' B' : Hp} (eb : Same B B') : ∀ {σ : L2.St} {e : Ev} {as : List Addr}, Sls K bp H B σ e as → (∀ p ∈ as, H' p = H p) → Sls K bp H' B' σ e as
  | _, _, _, .nil, _ => .nil
  | _, _, _, .cons h t, eh => .cons (h.mono (fun p hp => eh p (List.mem_append_left _ hp)) eb) (t.mono eb fun p hp => eh p (List.mem_append_right _ hp))
theorem Sls.len {K : PySem.W.Frag} {bp : Option Addr} {H B : Hp} : ∀ {σ : L2.St} {e : Ev} {as : List Addr}, Sls K bp H B σ e as → σ.length = e.length
  | _, _, _, .nil => rfl
  | _, _, _, .cons _ t => congrArg (· + 1) t.len
/-- the slots, the heap, the base, the slots' values, the places that are owned -/
structure RelA (K : PySem.W.Frag) (W : Wd) (σ : L2.St) (H B : Hp) (e : Ev) (A : List Addr) : Prop where
  sls : Sls K W.bp H B σ e A
  nd : A.Nodup
  out : ∀ p ∈ A, B p = none ∧ W.H0 p = none
  bh : Same B H
  fr : Same W.H0 H
  new : ∀ b, W.H0 b ≠ none → W.B0 b = none → B b = none
def Rel (K : PySem.W.Frag) (W : Wd) (σ : L2.St) (H B : Hp) (e : Ev) : Prop := ∃ A, RelA K W σ H B e A
theorem same_at {H H' : Hp} (e : Same H H') {p : Addr} (h : H p ≠ none) : H' p = H p := by
  cases q : H p with
  | none => exact absurd q h
  | some o => rw [e p o q]
theorem RelA.ext {K : PySem.W.Frag} {W : Wd} {σ : L2.St} {H B H' B' : Hp} {e : Ev} {A : List Addr} (r : RelA K W σ H B e A) (x : Ext H B H' B') : RelA K W σ H' B' e A where
  sls := r.sls.mono x.b fun p hp => same_at x.h (r.sls.held p hp)
  nd := r.nd
  out := fun p hp => ⟨x.nn p (r.sls.held p hp) (r.out p hp).1, (r.out p hp).2⟩
  bh := x.bh
  fr := r.fr.trans x.h
  new := fun b h1 h2 => x.nn b (ne_none_of r.fr h1) (r.new b h1 h2)
theorem Rel.ext {K : PySem.W.Frag} {W : Wd} {σ : L2.St} {H B H' B' : Hp} {e : Ev} (r : Rel K W σ H B e) (x : Ext H B H' B') : Rel K W σ H' B' e := by
  obtain ⟨A, r⟩ := r
  exact ⟨A, r.ext x⟩
theorem Rel.bh {K : PySem.W.Frag} {W : Wd} {σ : L2.St} {H B : Hp} {e : Ev} (r : Rel K W σ H B e) : Same B H := by
  obtain ⟨A, r⟩ := r
  exact r.bh
/-- a slot that is read -/
theorem Sls.at {K : PySem.W.Frag} {bp : Option Addr} {H B : Hp} : ∀ {σ : L2.St} {e : Ev} {as : List Addr} {i : Nat} {sl : Sl}, Sls K bp H B σ e as → e[i]? = some sl → ∃ o bs, σ[i]? = some o ∧ SlOk K bp H B o sl bs ∧ ∀ p ∈ bs, p ∈ as
  | _, _, _, _, _, .nil, h => by simp at h
  | _, _, _, 0, _, .cons h _, e => ⟨_, _, rfl, by cases Option.some.inj e; exact h, fun p hp => List.mem_append_left _ hp⟩
  | _, _, _, i + 1, _, .cons _ t, e => by
    obtain ⟨o, bs, h1, h2, h3⟩ := Sls.at (i := i) t e
    exact ⟨o, bs, h1, h2, fun p hp => List.mem_append_right _ (h3 p hp)⟩
/-- a slot is put in a slot's place: what it owned is dropped, what the new one owns is taken -/
theorem Sls.set {K : PySem.W.Frag} {bp : Option Addr} {H B : Hp} {o : Option V} {sl : Sl} {cs : List Addr} (hn : SlOk K bp H B o sl cs) : ∀ {σ : L2.St} {e : Ev} {as : List Addr} (i : Nat), Sls K bp H B σ e as →
    ∃ bs, Sls K bp H B (σ.set i o) (e.set i sl) bs ∧ (as.Nodup → cs.Nodup → (∀ p ∈ cs, p ∉ as) → bs.Nodup) ∧ ∀ p ∈ bs, p ∈ as ∨ p ∈ cs
  | _, _, _, _, .nil => ⟨[], .nil, fun _ _ _ => List.nodup_nil, fun _ h => by cases h⟩
  | _, _, _, 0, .cons (as := a1) (bs := b1) h t => ⟨_, .cons hn t, fun n1 n2 n3 => by
      refine List.nodup_append.mpr ⟨n2, (List.nodup_append.mp n1).2.1, fun x hx y hy z => n3 x hx ?_⟩
      rw [z]
      exact List.mem_append_right _ hy, fun p hp => (List.mem_append.mp hp).elim .inr fun z => .inl (List.mem_append_right _ z)⟩
  | _, _, _, i + 1, .cons (as := a1) (bs := b1) h t => by
    obtain ⟨bs, h1, h2, h3⟩ := Sls.set hn i t
    refine ⟨_, .cons h h1, fun n1 n2 n3 => ?_, fun p hp => ?_⟩
    · obtain ⟨m1, m2, m3⟩ := List.nodup_append.mp n1
      refine List.nodup_append.mpr ⟨m1, h2 m2 n2 fun p hp z => n3 p hp (List.mem_append_right _ z), fun x hx y hy z => ?_⟩
      rcases h3 y hy with q | q
      · exact m3 x hx y q z
      · exact n3 y q (by rw [← z]; exact List.mem_append_left _ hx)
    · rcases List.mem_append.mp hp with q | q
      · exact .inl (List.mem_append_left _ q)
      · rcases h3 p q with z | z
        · exact .inl (List.mem_append_right _ z)
        · exact .inr z
/-- assign shared data to a slot -/
theorem Rel.put {K : PySem.W.Frag} {W : Wd} {σ : L2.St} {H B : Hp} {e : Ev} {v : V} {d : PyData} (r : Rel K W σ H B e) (i : Nat) (h : Dp K B v d) : Rel K W (σ.set i (some v)) H B (e.set i (.sh d)) := by
  obtain ⟨A, r⟩ := r
  obtain ⟨bs, h1, h2, h3⟩ := r.sls.set (SlOk.sh h) i
  exact ⟨bs, h1, h2 r.nd List.nodup_nil (fun p hp => by cases hp), fun p hp => r.out p ((h3 p hp).resolve_right fun z => by cases z), r.bh, r.fr, r.new⟩
/-- forget a slot -/
theorem Rel.drop {K : PySem.W.Frag} {W : Wd} {σ : L2.St} {H B : Hp} {e : Ev} (r : Rel K W σ H B e) (i : Nat) (o : Option V) : Rel K W (σ.set i o) H B (e.set i .un) := by
  obtain ⟨A, r⟩ := r
  obtain ⟨bs, h1, h2, h3⟩ := r.sls.set (SlOk.un (o := o)) i
  exact ⟨bs, h1, h2 r.nd List.nodup_nil (fun p hp => by cases hp), fun p hp => r.out p ((h3 p hp).resolve_right fun z => by cases z), r.bh, r.fr, r.new⟩
/-- the head slot is put in a slot's place -/
theorem Rel.take {K : PySem.W.Frag} {W : Wd} {σ : L2.St} {H B : Hp} {e : Ev} {o : Option V} {sl : Sl} (r : Rel K W (o :: σ) H B (sl :: e)) (i : Nat) : Rel K W (σ.set i o) H B (e.set i sl) := by
  obtain ⟨A, r⟩ := r
  cases hs : r.sls with
  | cons h t =>
    have hs' := hs
    obtain ⟨n1, n2, n3⟩ := List.nodup_append.mp r.nd
    obtain ⟨bs, h1, h2, h3⟩ := t.set h i
    exact ⟨bs, h1, h2 n2 n1 (fun p hp z => n3 p hp p z rfl), fun p hp => r.out p ((h3 p hp).elim (fun z => List.mem_append_right _ z) fun z => List.mem_append_left _ z), r.bh, r.fr, r.new⟩
theorem Rel.tail {K : PySem.W.Frag} {W : Wd} {σ : L2.St} {H B : Hp} {e : Ev} {o : Option V} {sl : Sl} (r : Rel K W (o :: σ) H B (sl :: e)) : Rel K W σ H B e := by
  obtain ⟨A, r⟩ := r
  cases hs : r.sls with
  | cons h t => exact ⟨_, t, (List.nodup_append.mp r.nd).2.1, fun p hp => r.out p (List.mem_append_right _ hp), r.bh, r.fr, r.new⟩
theorem Rel.head {K : PySem.W.Frag} {W : Wd} {σ : L2.St} {H B : Hp} {e : Ev} {v : V} {d : PyData} (r : Rel K W (some v :: σ) H B (.sh d :: e)) : Dp K B v d := by
  obtain ⟨A, r⟩ := r
  cases hs : r.sls with
  | cons h t =>
    cases h with
    | sh h => exact h
theorem Rel.cons {K : PySem.W.Frag} {W : Wd} {σ : L2.St} {H B : Hp} {e : Ev} {v : V} {d : PyData} (r : Rel K W σ H B e) (h : Dp K B v d) : Rel K W (some v :: σ) H B (.sh d :: e) := by
  obtain ⟨A, r⟩ := r
  exact ⟨A, .cons (as := []) (.sh h) r.sls, r.nd, r.out, r.bh, r.fr, r.new⟩
/-- an own list is frozen: the base takes it up -/
theorem freeze {K : PySem.W.Frag} {W : Wd} {σ : L2.St} {H B : Hp} {e : Ev} {A : List Addr} {p : Addr} {xs : List V} (r : RelA K W σ H B e A) (hp : H p = some (.lst xs)) (hA : p ∉ A) (h0 : W.H0 p = none) (hB : B p = none) :
    RelA K W σ H (upd B p (.lst xs)) e A ∧ Same B (upd B p (.lst xs)) := by
  have sb : Same B (upd B p (.lst xs)) := same_upd hB
  refine ⟨⟨r.sls.mono sb fun _ _ => rfl, r.nd, fun q hq => ⟨?_, (r.out q hq).2⟩, fun b o h => ?_, r.fr, fun b h1 h2 => ?_⟩, sb⟩
  · rw [upd_ne (fun z => hA (by rw [← z]; exact hq))]
    exact (r.out q hq).1
  · by_cases c : b = p
    · rw [c, upd_same] at h
      rw [c, hp]
      exact h
    · rw [upd_ne c] at h
      exact r.bh b o h
  · rw [upd_ne (fun z => h1 (by rw [z]; exact h0))]
    exact r.new b h1 h2
/-- a new list at the head is frozen -/
theorem Rel.melt {K : PySem.W.Frag} {W : Wd} {σ : L2.St} {H B : Hp} {e : Ev} {v : V} {ds : List PyData} (r : Rel K W (some v :: σ) H B (.ow ds :: e)) : ∃ B', Same B B' ∧ Rel K W σ H B' e ∧ Dp K B' v (.list ds) := by
  obtain ⟨A, r⟩ := r
  cases hs : r.sls with
  | @cons _ _ _ bs _ _ h t =>
    cases h with
    | @ow p xs _ h1 h2 =>
      obtain ⟨n1, n2, n3⟩ := List.nodup_append.mp r.nd
      have hm : p ∈ [p] ++ bs := List.mem_append_left _ List.mem_cons_self
      have hA := fun z => n3 p List.mem_cons_self p z rfl
      have r' : RelA K W σ H B e bs := ⟨t, n2, fun p hp => r.out p (List.mem_append_right _ hp), r.bh, r.fr, r.new⟩
      obtain ⟨q1, q2⟩ := freeze r' h1 hA (r.out p hm).2 (r.out p hm).1
      exact ⟨_, q2, ⟨_, q1⟩, .lst (SqL.of upd_same) (dpAll_mono q2 h2)⟩
/-- a new list that nobody has yet -/
theorem Rel.born {K : PySem.W.Frag} {W : Wd} {σ : L2.St} {H B : Hp} {e : Ev} {p : Addr} {xs : List V} {ds : List PyData} (r : Rel K W σ H B e) (hp : H p = none) (h : DpAll K B xs ds) : Rel K W (some (.ref p) :: σ) (upd H p (.lst xs)) B (.ow ds :: e) := by
  obtain ⟨A, r⟩ := r
  have r1 := r.ext (Ext.gone (o := .lst xs) r.bh hp)
  refine ⟨[p] ++ A, .cons (.ow upd_same h) r1.sls, List.nodup_append.mpr ⟨by simp, r.nd, fun x hx y hy z => ?_⟩, fun q hq => ?_, r1.bh, r1.fr, r1.new⟩
  · rw [List.mem_singleton.mp hx] at z
    exact r.sls.held y hy (by rw [← z]; exact hp)
  · rcases List.mem_append.mp hq with z | z
    · rw [List.mem_singleton.mp z]
      exact ⟨r.bh.free hp, r.fr.free hp⟩
    · exact r.out q z
end VL
end
section
set_option Elab.async false
set_option linter.all false
set_option maxRecDepth 100000
set_option maxHeartbeats 2000000
namespace VL
open PySem PySem.Spec PyProof.Rows L2
abbrev M (α : Type) := Ev → Option (α × Ev)
def bnd {α β : Type} (x : Option (α × Ev)) (k : α → Ev → Option β) : Option β := match x with
  | none => none
  | some (a, e) => k a e
theorem bnd_some {α β : Type} {x : Option (α × Ev)} {k : α → Ev → Option β} {y : β} (h : bnd x k = some y) : ∃ a e, x = some (a, e) ∧ k a e = some y := by
  cases x with
  | none => cases h
  | some p => exact ⟨p.1, p.2, rfl, h⟩
def put {α : Type} (o : Option α) (e : Ev) : Option (α × Ev) := match o with
  | none => none
  | some a => some (a, e)
theorem put_some {α : Type} {o : Option α} {e e' : Ev} {a : α} (h : put o e = some (a, e')) : o = some a ∧ e' = e := by
  cases o with
  | none => cases h
  | some b =>
    cases h
    exact ⟨rfl, rfl⟩
inductive Out where
  | nx (e : Ev)
  | rt (s : Sl) (e : Ev)
section
variable (K : PySem.W.Frag)
/-- an expression: its value is shared data -/
def SE (t : TE) (f : M PyData) : Prop := ∀ (W : Wd) (σ : L2.St) (H B : Hp) (e : Ev) (d : PyData) (e' : Ev) (Q : VK), f e = some (d, e') → Rel K W σ H B e →
  (∀ v H' B', Same B B' → Rel K W σ H' B' e' → Dp K B' v d → Q v H') → t σ H Q
/-- an expression whose value may be a list of its own -/
def SX (t : TE) (f : M Sl) : Prop := ∀ (W : Wd) (σ : L2.St) (H B : Hp) (e : Ev) (s : Sl) (e' : Ev) (Q : VK), f e = some (s, e') → Rel K W σ H B e →
  (∀ v H' B', Same B B' → Rel K W (some v :: σ) H' B' (s :: e') → Q v H') → t σ H Q
def ST (t : TT) (f : M Bool) : Prop := ∀ (W : Wd) (σ : L2.St) (H B : Hp) (e : Ev) (b : Bool) (e' : Ev) (Q : Bool → Hp → Prop), f e = some (b, e') → Rel K W σ H B e →
  (∀ H' B', Same B B' → Rel K W σ H' B' e' → Q b H') → t σ H Q
def SA (t : TA) (f : M (List PyData)) : Prop := ∀ (W : Wd) (σ : L2.St) (H B : Hp) (e : Ev) (ds : List PyData) (e' : Ev) (Q : List V → Hp → Prop), f e = some (ds, e') → Rel K W σ H B e →
  (∀ vs H' B', Same B B' → Rel K W σ H' B' e' → DpAll K B' vs ds → Q vs H') → t σ H Q
def SO (t : TO) (f : M (Option Int)) : Prop := ∀ (W : Wd) (σ : L2.St) (H B : Hp) (e : Ev) (o : Option Int) (e' : Ev) (Q : Option Int → Hp → Prop), f e = some (o, e') → Rel K W σ H B e →
  (∀ H' B', Same B B' → Rel K W σ H' B' e' → Q o H') → t σ H Q
def SS (t : TS) (f : Ev → Option Out) : Prop := ∀ (W : Wd) (D : Ends) (σ : L2.St) (H B : Hp) (e : Ev) (o : Out), f e = some o → Rel K W σ H B e →
  (∀ e' σ' H' B', o = .nx e' → Same B B' → Rel K W σ' H' B' e' → D.nx σ' H') → (∀ s e' v σ' H' B', o = .rt s e' → Same B B' → Rel K W (some v :: σ') H' B' (s :: e') → D.rt v H') → t D σ H
def SG (g : TG) (f : PyData → Ev → Option Ev) : Prop := ∀ (W : Wd) (σ : L2.St) (H B : Hp) (e : Ev) (v : V) (d : PyData) (e' : Ev) (Q : L2.St → Hp → Prop), f d e = some e' → Rel K W σ H B e → Dp K B v d →
  (∀ σ', Rel K W σ' H B e' → Q σ' H) → g v σ H Q
def SGs (g : TGs) (f : List PyData → Ev → Option Ev) : Prop := ∀ (W : Wd) (σ : L2.St) (H B : Hp) (e : Ev) (vs : List V) (ds : List PyData) (e' : Ev) (Q : L2.St → Hp → Prop), f ds e = some e' → Rel K W σ H B e → DpAll K B vs ds →
  (∀ σ', Rel K W σ' H B e' → Q σ' H) → g vs σ H Q
/-- an iterator that gives ds, one by one -/
def ItOk (B : Hp) (J : It) (ds : List PyData) : Prop := ∀ (i : Nat) (H1 B1 : Hp), Same B B1 → Same B1 H1 → (ds[i]? = none → i = ds.length → J.stop i H1) ∧
  ∀ d, ds[i]? = some d → J.go i H1 ∧ ∀ x H2, J.yld i H1 x H2 → ∃ B2, Ext H1 B1 H2 B2 ∧ Dp K B2 x d
def SI (wi : TI) (f : M (List PyData)) : Prop := ∀ (W : Wd) (σ : L2.St) (H B : Hp) (e : Ev) (ds : List PyData) (e' : Ev) (R : It → Hp → Prop), f e = some (ds, e') → Rel K W σ H B e →
  (∀ J H' B', Same B B' → Rel K W σ H' B' e' → ItOk K B' J ds → R J H') → wi σ H R
/-- an operator's reading does on data what g says -/
def SR2 (r : R2) (g : PyData → PyData → Option PyData) : Prop := ∀ (H B : Hp) (x y : V) (a b d : PyData) (Q : VK), Same B H → Dp K B x a → Dp K B y b → g a b = some d → (∀ v H' B', Ext H B H' B' → Dp K B' v d → Q v H') → r x y H Q
def SR1 (r : V → Hp → VK → Prop) (g : PyData → Option PyData) : Prop := ∀ (H B : Hp) (x : V) (a d : PyData) (Q : VK), Same B H → Dp K B x a → g a = some d → (∀ v H' B', Ext H B H' B' → Dp K B' v d → Q v H') → r x H Q
def SRn (r : List V → Hp → VK → Prop) (g : List PyData → Option PyData) : Prop := ∀ (H B : Hp) (xs : List V) (as : List PyData) (d : PyData) (Q : VK), Same B H → DpAll K B xs as → g as = some d → (∀ v H' B', Ext H B H' B' → Dp K B' v d → Q v H') → r xs H Q
/-- .. a new list -/
def SRx (r : List V → Hp → VK → Prop) (g : List PyData → Option (List PyData)) : Prop := ∀ (H B : Hp) (xs : List V) (as : List PyData) (ds : List PyData) (Q : VK), Same B H → DpAll K B xs as → g as = some ds →
  (∀ p ys H1 B1, Ext H B H1 B1 → H1 p = none → DpAll K B1 ys ds → Q (.ref p) (upd H1 p (.lst ys))) → r xs H Q
def SRx2 (r : R2) (g : PyData → PyData → Option (List PyData)) : Prop := ∀ (H B : Hp) (x y : V) (a b : PyData) (ds : List PyData) (Q : VK), Same B H → Dp K B x a → Dp K B y b → g a b = some ds →
  (∀ p ys H1 B1, Ext H B H1 B1 → H1 p = none → DpAll K B1 ys ds → Q (.ref p) (upd H1 p (.lst ys))) → r x y H Q
end
variable {K : PySem.W.Frag}
/-! ### names, constants -/
def eC (d : PyData) : M PyData := fun e => some (d, e)
theorem se_c {v : V} {d : PyData} (h : ∀ B, Dp K B v d) : SE K (tC v) (eC d) := fun W σ H B e d' e' Q hf r q => by
  cases hf
  exact q v H B (Same.refl B) r (h B)
theorem se_int {i : Int} : SE K (tC (.int i)) (eC (.int i)) := se_c fun _ => .int i
theorem se_bl {b : Bool} : SE K (tC (.bl b)) (eC (.bool b)) := se_c fun _ => .bl b
theorem se_str {x : Str} : SE K (tC (.str x)) (eC (.str x)) := se_c fun _ => .str x
theorem se_non : SE K (tC .non) (eC .none) := se_c fun _ => .non
def eVar (i : Nat) : M PyData := fun e => match e[i]? with
  | some (.sh d) => some (d, e)
  | some (.ow ds) => some (.list ds, e.set i (.sh (.list ds)))
  | _ => none
theorem set_same {α : Type} : ∀ {l : List α} {i : Nat} {a : α}, l[i]? = some a → l.set i a = l
  | [], _, _, h => by simp at h
  | _ :: _, 0, _, h => by cases Option.some.inj h; rfl
  | b :: l, i + 1, a, h => by
    show b :: l.set i a = b :: l
    rw [set_same (l := l) (i := i) (a := a) h]
/-- a slot with an own list is frozen where it stands -/
theorem Sls.frz {K : PySem.W.Frag} {bp : Option Addr} {H B : Hp} : ∀ {σ : L2.St} {e : Ev} {as : List Addr} {i : Nat} {ds : List PyData}, Sls K bp H B σ e as → as.Nodup → (∀ p ∈ as, B p = none) → e[i]? = some (.ow ds) →
    ∃ p xs bs, σ[i]? = some (some (.ref p)) ∧ H p = some (.lst xs) ∧ DpAll K B xs ds ∧ p ∈ as ∧ p ∉ bs ∧ bs.Nodup ∧ (∀ q ∈ bs, q ∈ as) ∧ Sls K bp H B (σ.set i none) (e.set i .un) bs
  | _, _, _, _, _, .nil, _, _, h => by simp at h
  | _, _, _, 0, _, .cons (as := a1) (bs := b1) h t, n, o, e => by
    cases Option.some.inj e
    cases h with
    | @ow p xs _ h1 h2 =>
      obtain ⟨m1, m2, m3⟩ := List.nodup_append.mp n
      exact ⟨p, xs, b1, rfl, h1, h2, List.mem_append_left _ List.mem_cons_self, fun z => m3 p List.mem_cons_self p z rfl, m2, fun q hq => List.mem_append_right _ hq, .cons (as := []) .un t⟩
  | _, _, _, i + 1, _, .cons (as := a1) (bs := b1) h t, n, o, e => by
    obtain ⟨m1, m2, m3⟩ := List.nodup_append.mp n
    obtain ⟨p, xs, bs, h1, h2, h3, h4, h5, h6, h7, h8⟩ := Sls.frz (i := i) t m2 (fun p hp => o p (List.mem_append_right _ hp)) e
    refine ⟨p, xs, a1 ++ bs, h1, h2, h3, List.mem_append_right _ h4, fun z => ?_, List.nodup_append.mpr ⟨m1, h6, fun x hx y hy z => m3 x hx y (h7 y hy) z⟩, fun q hq => ?_, .cons h h8⟩
    · rcases List.mem_append.mp z with z | z
      · exact m3 p z p h4 rfl
      · exact h5 z
    · rcases List.mem_append.mp hq with z | z
      · exact List.mem_append_left _ z
      · exact List.mem_append_right _ (h7 q z)
/-- the list of a slot, taken out of it -/
theorem Rel.lift {W : Wd} {σ : L2.St} {H B : Hp} {e : Ev} {i : Nat} {ds : List PyData} (r : Rel K W σ H B e) (h : e[i]? = some (.ow ds)) : ∃ p, σ[i]? = some (some (.ref p)) ∧ Rel K W (some (.ref p) :: σ.set i none) H B (.ow ds :: e.set i .un) := by
  obtain ⟨A, r⟩ := r
  obtain ⟨p, xs, bs, h1, h2, h3, h4, h5, h6, h7, h8⟩ := r.sls.frz r.nd (fun p hp => (r.out p hp).1) h
  refine ⟨p, h1, [p] ++ bs, .cons (.ow h2 h3) h8, List.nodup_append.mpr ⟨by simp, h6, fun x hx y hy z => ?_⟩, fun q hq => ?_, r.bh, r.fr, r.new⟩
  · rw [List.mem_singleton.mp hx] at z
    exact h5 (by rw [z]; exact hy)
  · rcases List.mem_append.mp hq with z | z
    · rw [List.mem_singleton.mp z]
      exact r.out p h4
    · exact r.out q (h7 q z)
theorem Rel.get {W : Wd} {σ : L2.St} {H B : Hp} {e : Ev} {i : Nat} {d : PyData} (r : Rel K W σ H B e) (h : e[i]? = some (.sh d)) : ∃ v, σ[i]? = some (some v) ∧ Dp K B v d := by
  obtain ⟨A, r⟩ := r
  obtain ⟨o, bs, h1, h2, h3⟩ := r.sls.at h
  cases h2 with
  | sh h2 => exact ⟨_, h1, h2⟩
theorem set_set' {α : Type} : ∀ (l : List α) (i : Nat) (a b : α), (l.set i a).set i b = l.set i b
  | [], _, _, _ => rfl
  | _ :: _, 0, _, _ => rfl
  | c :: l, i + 1, a, b => by
    show c :: (l.set i a).set i b = c :: l.set i b
    rw [set_set' l i a b]
theorem se_var {i : Nat} : SE K (tVar i) (eVar i) := fun W σ H B e d e' Q hf r q => by
  unfold eVar at hf
  cases h : e[i]? with
  | none => rw [h] at hf; cases hf
  | some s =>
    rw [h] at hf
    cases s with
    | un => cases hf
    | bw _ => cases hf
    | ob _ => cases hf
    | dc _ => cases hf
    | dr _ => cases hf
    | st _ _ => cases hf
    | sb _ _ => cases hf
    | sh d' =>
      cases hf
      obtain ⟨v, h1, h2⟩ := r.get h
      exact ⟨v, h1, q v H B (Same.refl B) r h2⟩
    | ow ds =>
      cases hf
      obtain ⟨p, h1, r1⟩ := r.lift h
      obtain ⟨B', h2, r2, h3⟩ := r1.melt
      refine ⟨_, h1, q _ H B' h2 ?_ h3⟩
      have r3 := r2.put i h3
      rw [set_set', set_set', set_same h1] at r3
      exact r3
def xVar (i : Nat) : M Sl := fun e => match e[i]? with
  | some (.sh d) => some (.sh d, e)
  | some (.ow ds) => some (.ow ds, e.set i .un)
  | _ => none
theorem Rel.weak {W : Wd} {σ : L2.St} {H B : Hp} {e : Ev} {s : Sl} {o : Option V} {i : Nat} {x : Option V} (r : Rel K W (o :: σ.set i none) H B (s :: e.set i .un)) (h : σ[i]? = some x) : Rel K W (o :: σ) H B (s :: e.set i .un) := by
  have r1 := r.drop (i + 1) x
  have e1 : (o :: σ.set i none).set (i + 1) x = o :: σ := by
    show o :: (σ.set i none).set i x = o :: σ
    rw [set_set', set_same h]
  have e2 : (s :: e.set i .un).set (i + 1) .un = s :: e.set i .un := by
    show s :: (e.set i .un).set i .un = s :: e.set i .un
    rw [set_set']
  rw [e1, e2] at r1
  exact r1
theorem sx_var {i : Nat} : SX K (tVar i) (xVar i) := fun W σ H B e s e' Q hf r q => by
  unfold xVar at hf
  cases h : e[i]? with
  | none => rw [h] at hf; cases hf
  | some s =>
    rw [h] at hf
    cases s with
    | un => cases hf
    | bw _ => cases hf
    | ob _ => cases hf
    | dc _ => cases hf
    | dr _ => cases hf
    | st _ _ => cases hf
    | sb _ _ => cases hf
    | sh d' =>
      cases hf
      obtain ⟨v, h1, h2⟩ := r.get h
      exact ⟨v, h1, q v H B (Same.refl B) (r.cons h2)⟩
    | ow ds =>
      cases hf
      obtain ⟨p, h1, r1⟩ := r.lift h
      exact ⟨_, h1, q _ H B (Same.refl B) (r1.weak h1)⟩
/-! ### from one kind to another -/
def eX (f : M Sl) : M PyData := fun e => bnd (f e) fun s e1 => match s with
  | .sh d => some (d, e1)
  | .ow ds => some (.list ds, e1)
  | _ => none
theorem se_x {t : TE} {f : M Sl} (h : SX K t f) : SE K t (eX f) := fun W σ H B e d e' Q hf r q => by
  obtain ⟨s, e1, h1, h2⟩ := bnd_some hf
  cases s with
  | un => cases h2
  | bw _ => cases h2
  | ob _ => cases h2
  | dc _ => cases h2
  | dr _ => cases h2
  | st _ _ => cases h2
  | sb _ _ => cases h2
  | sh d =>
    cases h2
    exact h W σ H B e _ _ Q h1 r fun v H' B' sb r' => q v H' B' sb r'.tail r'.head
  | ow ds =>
    cases h2
    refine h W σ H B e _ _ Q h1 r fun v H' B' sb r' => ?_
    obtain ⟨B2, h3, r2, h4⟩ := r'.melt
    exact q v H' B2 (sb.trans h3) r2 h4
def xE (f : M PyData) : M Sl := fun e => bnd (f e) fun d e1 => some (.sh d, e1)
theorem sx_e {t : TE} {f : M PyData} (h : SE K t f) : SX K t (xE f) := fun W σ H B e s e' Q hf r q => by
  obtain ⟨d, e1, h1, h2⟩ := bnd_some hf
  cases h2
  exact h W σ H B e d _ Q h1 r fun v H' B' sb r' hd => q v H' B' sb (r'.cons hd)
def isSc : PyData → Bool
  | .none => true
  | .bool _ => true
  | .int _ => true
  | .str _ => true
  | _ => false
theorem dp_sc {H H' : Hp} {v : V} {d : PyData} (h : Dp K H v d) (s : isSc d = true) : Dp K H' v d := by
  cases h with
  | non => exact .non
  | bl b => exact .bl b
  | int i => exact .int i
  | str x => exact .str x
  | lst _ _ => cases s
  | tup _ _ => cases s
def frz1 : Sl → Sl
  | .ow ds => .sh (.list ds)
  | .bw ds => .sh (.list ds)
  | .dc kvs => .dr kvs
  | .st _ _ => .un
  | .sb _ _ => .un
  | s => s
def froz (e : Ev) : Ev := e.map frz1
theorem Sls.all {K : PySem.W.Frag} {bp : Option Addr} {H B : Hp} (bh : Same B H) : ∀ {σ : L2.St} {e : Ev} {as : List Addr}, Sls K bp H B σ e as → Sls K none H H σ (froz e) []
  | _, _, _, .nil => .nil
  | _, _, _, .cons h t => by
    have t' := Sls.all bh t
    refine .cons (as := []) ?_ t'
    cases h with
    | un => exact .un
    | sh d => exact .sh (dp_mono bh d)
    | ow a d => exact .sh (.lst (SqL.of a) (dpAll_mono bh d))
    | bw _ a d => exact .sh (.lst (SqL.of a) (dpAll_mono bh d))
    | ob a b => exact .ob (bh _ _ a) b
    | dc a b c => exact .dr a (b.mono bh) c
    | dr a b c => exact .dr (bh _ _ a) (b.mono bh) c
    | st _ => exact .un
    | sb _ _ => exact .un
theorem Rel.all {W : Wd} {σ : L2.St} {H B : Hp} {e : Ev} (r : Rel K W σ H B e) : Rel K ⟨H, H, none⟩ σ H H (froz e) := by
  obtain ⟨A, r⟩ := r
  exact ⟨[], r.sls.all r.bh, List.nodup_nil, fun p hp => (by cases hp), Same.refl H, Same.refl H, fun b h1 h2 => absurd h2 h1⟩
theorem Rel.on {W : Wd} {σ σ' : L2.St} {H B H' B' B1 : Hp} {e e' : Ev} (r : Rel K W σ H B e) (r' : Rel K ⟨H, B1, none⟩ σ' H' B' e') : Rel K W σ H' B e := by
  obtain ⟨A', r'⟩ := r'
  exact r.ext ⟨r'.fr, Same.refl B, r.bh.trans r'.fr, fun _ _ h => h⟩
/-- what tells a number, a truth, a text, None, leaves the own lists as they are -/
def eScal (f : M PyData) : M PyData := fun e => bnd (f (froz e)) fun d _ => if isSc d = true then some (d, e) else none
theorem se_scal {t : TE} {f : M PyData} (h : SE K t f) : SE K t (eScal f) := fun W σ H B e d e' Q hf r q => by
  obtain ⟨d1, e1, h1, h2⟩ := bnd_some hf
  by_cases c : isSc d1 = true
  · rw [if_pos c] at h2
    cases h2
    exact h _ σ H H _ d e1 Q h1 r.all fun v H' B' sb r' hd => q v H' B (Same.refl B) (r.on r') (dp_sc hd c)
  · rw [if_neg c] at h2
    cases h2
def bScal (f : M Bool) : M Bool := fun e => bnd (f (froz e)) fun b _ => some (b, e)
theorem st_scal {t : TT} {f : M Bool} (h : ST K t f) : ST K t (bScal f) := fun W σ H B e b e' Q hf r q => by
  obtain ⟨b1, e1, h1, h2⟩ := bnd_some hf
  cases h2
  exact h _ σ H H _ b e1 Q h1 r.all fun H' B' sb r' => q H' B (Same.refl B) (r.on r')
/-! ### operators -/
def eOp (g : PyData → PyData → Option PyData) (fa fb : M PyData) : M PyData := fun e => bnd (fa e) fun a e1 => bnd (fb e1) fun b e2 => put (g a b) e2
theorem se_op {r : R2} {g : PyData → PyData → Option PyData} {ta tb : TE} {fa fb : M PyData} (hr : SR2 K r g) (ha : SE K ta fa) (hb : SE K tb fb) : SE K (tOp r ta tb) (eOp g fa fb) := fun W σ H B e d e' Q hf rl q => by
  obtain ⟨a, e1, h1, hf⟩ := bnd_some hf
  obtain ⟨b, e2, h2, hf⟩ := bnd_some hf
  obtain ⟨h3, rfl⟩ := put_some hf
  refine ha W σ H B e a e1 _ h1 rl fun x H1 B1 s1 r1 dx => ?_
  refine hb W σ H1 B1 e1 b e' _ h2 r1 fun y H2 B2 s2 r2 dy => ?_
  exact hr H2 B2 x y a b d Q r2.bh (dp_mono s2 dx) dy h3 fun v H' B' x dv => q v H' B' ((s1.trans s2).trans x.b) (r2.ext x) dv
def xOp (g : PyData → PyData → Option (List PyData)) (fa fb : M PyData) : M Sl := fun e => bnd (fa e) fun a e1 => bnd (fb e1) fun b e2 => (put (g a b) e2).map fun p => (.ow p.1, p.2)
theorem sx_op {r : R2} {g : PyData → PyData → Option (List PyData)} {ta tb : TE} {fa fb : M PyData} (hr : SRx2 K r g) (ha : SE K ta fa) (hb : SE K tb fb) : SX K (tOp r ta tb) (xOp g fa fb) := fun W σ H B e s e' Q hf rl q => by
  obtain ⟨a, e1, h1, hf⟩ := bnd_some hf
  obtain ⟨b, e2, h2, hf⟩ := bnd_some hf
  obtain ⟨⟨ds, e3⟩, hp3, hz⟩ := Option.map_eq_some_iff.mp hf
  obtain ⟨h3, rfl⟩ := put_some hp3
  cases hz
  refine ha W σ H B e a e1 _ h1 rl fun x H1 B1 s1 r1 dx => ?_
  refine hb W σ H1 B1 e1 b _ _ h2 r1 fun y H2 B2 s2 r2 dy => ?_
  exact hr H2 B2 x y a b ds Q r2.bh (dp_mono s2 dx) dy h3 fun p ys H' B' x hp dv => q _ _ B' ((s1.trans s2).trans x.b) ((r2.ext x).born hp dv)
def eUn (g : PyData → Option PyData) (fa : M PyData) : M PyData := fun e => bnd (fa e) fun a e1 => put (g a) e1
theorem se_un {r : V → Hp → VK → Prop} {g : PyData → Option PyData} {ta : TE} {fa : M PyData} (hr : SR1 K r g) (ha : SE K ta fa) : SE K (tUn r ta) (eUn g fa) := fun W σ H B e d e' Q hf rl q => by
  obtain ⟨a, e1, h1, hf⟩ := bnd_some hf
  obtain ⟨h3, rfl⟩ := put_some hf
  refine ha W σ H B e a e' _ h1 rl fun x H1 B1 s1 r1 dx => ?_
  exact hr H1 B1 x a d Q r1.bh dx h3 fun v H' B' x dv => q v H' B' (s1.trans x.b) (r1.ext x) dv
/-! ### arguments, displays -/
def aNil : M (List PyData) := fun e => some ([], e)
def aCons (fa : M PyData) (fr : M (List PyData)) : M (List PyData) := fun e => bnd (fa e) fun a e1 => bnd (fr e1) fun as e2 => some (a :: as, e2)
theorem sa_nil : SA K tNil aNil := fun W σ H B e ds e' Q hf r q => by
  cases hf
  exact q [] H B (Same.refl B) r .nil
theorem sa_cons {ta : TE} {tr : TA} {fa : M PyData} {fr : M (List PyData)} (ha : SE K ta fa) (hr : SA K tr fr) : SA K (tCons ta tr) (aCons fa fr) := fun W σ H B e ds e' Q hf rl q => by
  obtain ⟨a, e1, h1, hf⟩ := bnd_some hf
  obtain ⟨as, e2, h2, hf⟩ := bnd_some hf
  cases hf
  refine ha W σ H B e a e1 _ h1 rl fun x H1 B1 s1 r1 dx => ?_
  exact hr W σ H1 B1 e1 as _ _ h2 r1 fun xs H2 B2 s2 r2 dxs => q (x :: xs) H2 B2 (s1.trans s2) r2 (.cons (dp_mono s2 dx) dxs)
def sz (n : Nat) : Bool := Nat.ble n 10000000
theorem sz_le {n : Nat} (h : sz n = true) : n ≤ sizeLine := Nat.le_trans (Nat.le_of_ble_eq_true h) (by rw [sizeLine_eq]; decide)
theorem sz_lt {n : Nat} (h : sz n = true) : n < sizeLine := Nat.lt_of_le_of_lt (Nat.le_of_ble_eq_true h) (by rw [sizeLine_eq]; decide)
def eTup (fa : M (List PyData)) : M PyData := fun e => bnd (fa e) fun as e1 => if sz as.length = true then some (.tuple as, e1) else none
theorem se_tup {t : TA} {fa : M (List PyData)} (ha : SA K t fa) : SE K (tTup t) (eTup fa) := fun W σ H B e d e' Q hf rl q => by
  obtain ⟨as, e1, h1, hf⟩ := bnd_some hf
  by_cases c : sz as.length = true
  · rw [if_pos c] at hf
    cases hf
    refine ha W σ H B e as e' _ h1 rl fun xs H1 B1 s1 r1 dx => ?_
    refine ⟨by rw [dpAll_len dx]; exact sz_le c, fun p hp => ?_⟩
    have x := Ext.new (o := .tup xs) r1.bh hp
    exact q _ _ _ (s1.trans x.b) (r1.ext x) (.tup (SqT.of upd_same) (dpAll_mono x.b dx))
  · rw [if_neg c] at hf
    cases hf
def xLst (fa : M (List PyData)) : M Sl := fun e => bnd (fa e) fun as e1 => if sz as.length = true then some (.ow as, e1) else none
theorem sx_lst {t : TA} {fa : M (List PyData)} (ha : SA K t fa) : SX K (tLst t) (xLst fa) := fun W σ H B e s e' Q hf rl q => by
  obtain ⟨as, e1, h1, hf⟩ := bnd_some hf
  by_cases c : sz as.length = true
  · rw [if_pos c] at hf
    cases hf
    refine ha W σ H B e as e' _ h1 rl fun xs H1 B1 s1 r1 dx => ?_
    refine ⟨by rw [dpAll_len dx]; exact sz_le c, fun p hp => ?_⟩
    exact q _ _ B1 s1 (r1.born hp dx)
  · rw [if_neg c] at hf
    cases hf
/-! ### built-in calls by values -/
def eCall (g : List PyData → Option PyData) (fa : M (List PyData)) : M PyData := fun e => bnd (fa e) fun as e1 => put (g as) e1
theorem se_call {r : List V → Hp → VK → Prop} {g : List PyData → Option PyData} {t : TA} {fa : M (List PyData)} (hr : SRn K r g) (ha : SA K t fa) : SE K (fun σ H Q => t σ H fun xs H1 => r xs H1 Q) (eCall g fa) := fun W σ H B e d e' Q hf rl q => by
  obtain ⟨as, e1, h1, hf⟩ := bnd_some hf
  obtain ⟨h3, rfl⟩ := put_some hf
  refine ha W σ H B e as e' _ h1 rl fun xs H1 B1 s1 r1 dx => ?_
  exact hr H1 B1 xs as d Q r1.bh dx h3 fun v H' B' x dv => q v H' B' (s1.trans x.b) (r1.ext x) dv
def xCall (g : List PyData → Option (List PyData)) (fa : M (List PyData)) : M Sl := fun e => bnd (fa e) fun as e1 => (put (g as) e1).map fun p => (.ow p.1, p.2)
theorem sx_call {r : List V → Hp → VK → Prop} {g : List PyData → Option (List PyData)} {t : TA} {fa : M (List PyData)} (hr : SRx K r g) (ha : SA K t fa) : SX K (fun σ H Q => t σ H fun xs H1 => r xs H1 Q) (xCall g fa) := fun W σ H B e s e' Q hf rl q => by
  obtain ⟨as, e1, h1, hf⟩ := bnd_some hf
  obtain ⟨⟨ds, e2⟩, hp3, hz⟩ := Option.map_eq_some_iff.mp hf
  obtain ⟨h3, rfl⟩ := put_some hp3
  cases hz
  refine ha W σ H B e as _ _ h1 rl fun xs H1 B1 s1 r1 dx => ?_
  exact hr H1 B1 xs as ds Q r1.bh dx h3 fun p ys H' B' x hp dv => q _ _ B' (s1.trans x.b) ((r1.ext x).born hp dv)
/-! ### tests -/
def bB (f : M PyData) : M Bool := fun e => bnd (f e) fun d e1 => match d with
  | .bool b => some (b, e1)
  | _ => none
theorem st_b {t : TE} {f : M PyData} (h : SE K t f) : ST K (tB t) (bB f) := fun W σ H B e b e' Q hf r q => by
  obtain ⟨d, e1, h1, hf⟩ := bnd_some hf
  cases d with
  | bool c =>
    cases hf
    exact h W σ H B e _ e' _ h1 r fun v H' B' s r' dv => ⟨b, dp_bl dv, q H' B' s r'⟩
  | none => cases hf
  | int _ => cases hf
  | str _ => cases hf
  | list _ => cases hf
  | tuple _ => cases hf
  | dict _ => cases hf
theorem st_t {t : TE} {f : M PyData} (h : SE K t f) : ST K (tTest t) (bB f) := st_b h
def pTru : PyData → Option Bool
  | .none => some false
  | .bool b => some b
  | .int i => some (i != 0)
  | .list ds => some (!ds.isEmpty)
  | .tuple ds => some (!ds.isEmpty)
  | _ => none
def bTru (f : M PyData) : M Bool := fun e => bnd (f e) fun d e1 => put (pTru d) e1
def bNot (f : M Bool) : M Bool := fun e => bnd (f e) fun b e1 => some (!b, e1)
theorem st_not {t : TT} {f : M Bool} (h : ST K t f) : ST K (tNot t) (bNot f) := fun W σ H B e b e' Q hf r q => by
  obtain ⟨b1, e1, h1, hf⟩ := bnd_some hf
  cases hf
  exact h W σ H B e b1 e' _ h1 r fun H' B' s r' => q H' B' s r'
def bAnd (f g : M Bool) : M Bool := fun e => bnd (f e) fun b e1 => if b = true then g e1 else some (false, e1)
def bOr (f g : M Bool) : M Bool := fun e => bnd (f e) fun b e1 => if b = true then some (true, e1) else g e1
theorem st_and {t u : TT} {f g : M Bool} (h : ST K t f) (h2 : ST K u g) : ST K (tAnd t u) (bAnd f g) := fun W σ H B e b e' Q hf r q => by
  obtain ⟨b1, e1, h1, hf⟩ := bnd_some hf
  refine h W σ H B e b1 e1 _ h1 r fun H' B' s r' => ?_
  cases b1 with
  | true => exact h2 W σ H' B' e1 b e' Q hf r' fun H2 B2 s2 r2 => q H2 B2 (s.trans s2) r2
  | false =>
    cases hf
    exact q H' B' s r'
theorem st_or {t u : TT} {f g : M Bool} (h : ST K t f) (h2 : ST K u g) : ST K (tOr t u) (bOr f g) := fun W σ H B e b e' Q hf r q => by
  obtain ⟨b1, e1, h1, hf⟩ := bnd_some hf
  refine h W σ H B e b1 e1 _ h1 r fun H' B' s r' => ?_
  cases b1 with
  | false => exact h2 W σ H' B' e1 b e' Q hf r' fun H2 B2 s2 r2 => q H2 B2 (s.trans s2) r2
  | true =>
    cases hf
    exact q H' B' s r'
def bYes : M Bool := fun e => some (true, e)
theorem st_yes : ST K tYes bYes := fun W σ H B e b e' Q hf r q => by
  cases hf
  exact q H B (Same.refl B) r
def eIf (c : M Bool) (fa fb : M PyData) : M PyData := fun e => bnd (c e) fun b e1 => if b = true then fa e1 else fb e1
theorem se_if {t : TT} {ta tb : TE} {c : M Bool} {fa fb : M PyData} (hc : ST K t c) (ha : SE K ta fa) (hb : SE K tb fb) : SE K (tIf t ta tb) (eIf c fa fb) := fun W σ H B e d e' Q hf r q => by
  obtain ⟨b1, e1, h1, hf⟩ := bnd_some hf
  refine hc W σ H B e b1 e1 _ h1 r fun H' B' s r' => ?_
  cases b1 with
  | true => exact ha W σ H' B' e1 d e' Q hf r' fun v H2 B2 s2 r2 => q v H2 B2 (s.trans s2) r2
  | false => exact hb W σ H' B' e1 d e' Q hf r' fun v H2 B2 s2 r2 => q v H2 B2 (s.trans s2) r2
def eAnd (fa fb : M PyData) : M PyData := fun e => bnd (bB fa e) fun b e1 => if b = true then fb e1 else some (.bool false, e1)
def eOr (fa fb : M PyData) : M PyData := fun e => bnd (bB fa e) fun b e1 => if b = true then some (.bool true, e1) else fb e1
theorem se_and {ta tb : TE} {fa fb : M PyData} (ha : SE K ta fa) (hb : SE K tb fb) : SE K (tAndV ta tb) (eAnd fa fb) := fun W σ H B e d e' Q hf r q => by
  obtain ⟨b1, e1, h1, hf⟩ := bnd_some hf
  refine st_b ha W σ H B e b1 e1 (fun c H1 => if c = true then tb σ H1 Q else Q (.bl false) H1) h1 r fun H' B' s r' => ?_
  cases b1 with
  | true => exact hb W σ H' B' e1 d e' Q hf r' fun v H2 B2 s2 r2 => q v H2 B2 (s.trans s2) r2
  | false =>
    cases hf
    exact q _ H' B' s r' (.bl false)
theorem se_or {ta tb : TE} {fa fb : M PyData} (ha : SE K ta fa) (hb : SE K tb fb) : SE K (tOrV ta tb) (eOr fa fb) := fun W σ H B e d e' Q hf r q => by
  obtain ⟨b1, e1, h1, hf⟩ := bnd_some hf
  refine st_b ha W σ H B e b1 e1 (fun c H1 => if c = true then Q (.bl true) H1 else tb σ H1 Q) h1 r fun H' B' s r' => ?_
  cases b1 with
  | false => exact hb W σ H' B' e1 d e' Q hf r' fun v H2 B2 s2 r2 => q v H2 B2 (s.trans s2) r2
  | true =>
    cases hf
    exact q _ H' B' s r' (.bl true)
def eNot (fa : M PyData) : M PyData := fun e => bnd (bB fa e) fun b e1 => some (.bool (!b), e1)
theorem se_not {ta : TE} {fa : M PyData} (ha : SE K ta fa) : SE K (tNotV ta) (eNot fa) := fun W σ H B e d e' Q hf r q => by
  obtain ⟨b1, e1, h1, hf⟩ := bnd_some hf
  cases hf
  exact st_b ha W σ H B e b1 e' (fun c H1 => Q (.bl (!c)) H1) h1 r fun H' B' s r' => q _ H' B' s r' (.bl _)
/-- a op b op' c -/
def eChain (g g' : PyData → PyData → Option PyData) (fa fb fc : M PyData) : M PyData := fun e => bnd (fa e) fun a e1 => bnd (fb e1) fun b e2 => match g a b with
  | some (.bool true) => bnd (fc e2) fun c e3 => put (g' b c) e3
  | some (.bool false) => some (.bool false, e2)
  | _ => none
theorem se_chain {r r' : R2} {g g' : PyData → PyData → Option PyData} {ta tb tc : TE} {fa fb fc : M PyData} (hr : SR2 K r g) (hr' : SR2 K r' g') (ha : SE K ta fa) (hb : SE K tb fb) (hc : SE K tc fc) : SE K (tChain r r' ta tb tc) (eChain g g' fa fb fc) := fun W σ H B e d e' Q hf rl q => by
  obtain ⟨a, e1, h1, hf⟩ := bnd_some hf
  obtain ⟨b, e2, h2, hf⟩ := bnd_some hf
  refine ha W σ H B e a e1 _ h1 rl fun x H1 B1 s1 r1 dx => ?_
  refine hb W σ H1 B1 e1 b e2 _ h2 r1 fun y H2 B2 s2 r2 dy => ?_
  have s12 := s1.trans s2
  cases h3 : g a b with
  | none => rw [h3] at hf; cases hf
  | some z =>
    rw [h3] at hf
    refine hr H2 B2 x y a b z _ r2.bh (dp_mono s2 dx) dy h3 fun v H3 B3 x3 dv => ?_
    have r3 := r2.ext x3
    have s123 := s12.trans x3.b
    cases z with
    | bool k =>
      refine ⟨k, dp_bl dv, ?_⟩
      cases k with
      | true =>
        obtain ⟨c, e3, h4, hf⟩ := bnd_some hf
        obtain ⟨h5, rfl⟩ := put_some hf
        rw [if_pos rfl]
        refine hc W σ H3 B3 e2 c e' _ h4 r3 fun w H4 B4 s4 r4 dw => ?_
        exact hr' H4 B4 y w b c d Q r4.bh (dp_mono (x3.b.trans s4) dy) dw h5 fun v H' B' x dv => q v H' B' ((s123.trans s4).trans x.b) (r4.ext x) dv
      | false =>
        cases hf
        rw [if_neg (by decide)]
        exact q _ H3 B3 s123 r3 (.bl false)
    | none => cases hf
    | int _ => cases hf
    | str _ => cases hf
    | list _ => cases hf
    | tuple _ => cases hf
    | dict _ => cases hf
end VL
end
section
set_option Elab.async false
set_option linter.all false
set_option maxRecDepth 100000
set_option maxHeartbeats 2000000
namespace VL
open PySem PySem.Spec PyProof.Rows L2
variable {K : PySem.W.Frag}
/-! ### statements -/
def sNil : Ev → Option Out := fun e => some (.nx e)
theorem ss_nil : SS K tNext sNil := fun W D σ H B e o hf r qn qr => by
  cases hf
  exact qn e σ H B rfl (Same.refl B) r
def sSeq (f g : Ev → Option Out) : Ev → Option Out := fun e => match f e with
  | none => none
  | some (.nx e1) => g e1
  | some (.rt s e1) => some (.rt s e1)
theorem ss_seq {t u : TS} {f g : Ev → Option Out} (h : SS K t f) (h2 : SS K u g) : SS K (tSeq t u) (sSeq f g) := fun W D σ H B e o hf r qn qr => by
  unfold sSeq at hf
  cases h1 : f e with
  | none => rw [h1] at hf; cases hf
  | some o1 =>
    rw [h1] at hf
    refine h W _ σ H B e o1 h1 r (fun e' σ' H' B' he sb r' => ?_) (fun s e' v σ' H' B' he sb r' => ?_)
    · subst he
      exact h2 W D σ' H' B' e' o hf r' (fun e2 σ2 H2 B2 q1 q2 q3 => qn e2 σ2 H2 B2 q1 (sb.trans q2) q3) (fun s e2 v σ2 H2 B2 q1 q2 q3 => qr s e2 v σ2 H2 B2 q1 (sb.trans q2) q3)
    · subst he
      cases hf
      exact qr s e' v σ' H' B' rfl sb r'
def sExpr (f : M PyData) : Ev → Option Out := fun e => bnd (f e) fun _ e1 => some (.nx e1)
theorem ss_expr {t : TE} {f : M PyData} (h : SE K t f) : SS K (tDrop t) (sExpr f) := fun W D σ H B e o hf r qn qr => by
  obtain ⟨d, e1, h1, h2⟩ := bnd_some hf
  cases h2
  exact h W σ H B e d e1 _ h1 r fun v H' B' sb r' _ => qn e1 σ H' B' rfl sb r'
def sRet (f : M PyData) : Ev → Option Out := fun e => bnd (f e) fun d e1 => some (.rt (.sh d) e1)
theorem ss_ret {t : TE} {f : M PyData} (h : SE K t f) : SS K (tRet t) (sRet f) := fun W D σ H B e o hf r qn qr => by
  obtain ⟨d, e1, h1, h2⟩ := bnd_some hf
  cases h2
  exact h W σ H B e d e1 _ h1 r fun v H' B' sb r' hd => qr _ e1 v σ H' B' rfl sb (r'.cons hd)
def sRetX (f : M Sl) : Ev → Option Out := fun e => bnd (f e) fun s e1 => some (.rt s e1)
theorem ss_retX {t : TE} {f : M Sl} (h : SX K t f) : SS K (tRet t) (sRetX f) := fun W D σ H B e o hf r qn qr => by
  obtain ⟨d, e1, h1, h2⟩ := bnd_some hf
  cases h2
  exact h W σ H B e d e1 _ h1 r fun v H' B' sb r' => qr _ e1 v σ H' B' rfl sb r'
def sIf (c : M Bool) (f g : Ev → Option Out) : Ev → Option Out := fun e => bnd (c e) fun b e1 => if b = true then f e1 else g e1
theorem ss_if {t : TT} {u w : TS} {c : M Bool} {f g : Ev → Option Out} (hc : ST K t c) (h : SS K u f) (h2 : SS K w g) : SS K (tIfS t u w) (sIf c f g) := fun W D σ H B e o hf r qn qr => by
  obtain ⟨b, e1, h1, hf⟩ := bnd_some hf
  refine hc W σ H B e b e1 _ h1 r fun H' B' sb r' => ?_
  cases b with
  | true => exact h W D σ H' B' e1 o hf r' (fun e2 σ2 H2 B2 q1 q2 q3 => qn e2 σ2 H2 B2 q1 (sb.trans q2) q3) (fun s e2 v σ2 H2 B2 q1 q2 q3 => qr s e2 v σ2 H2 B2 q1 (sb.trans q2) q3)
  | false => exact h2 W D σ H' B' e1 o hf r' (fun e2 σ2 H2 B2 q1 q2 q3 => qn e2 σ2 H2 B2 q1 (sb.trans q2) q3) (fun s e2 v σ2 H2 B2 q1 q2 q3 => qr s e2 v σ2 H2 B2 q1 (sb.trans q2) q3)
def sNever : Ev → Option Out := fun _ => none
theorem ss_never : SS K tNever sNever := fun W D σ H B e o hf => by cases hf
/-! ### targets -/
def gN (i : Nat) : PyData → Ev → Option Ev := fun d e => some (e.set i (.sh d))
theorem sg_name {i : Nat} : SG K (gName i) (gN i) := fun W σ H B e v d e' Q hf r hd q => by
  cases hf
  exact q _ (r.put i hd)
def gsNil : List PyData → Ev → Option Ev := fun ds e => match ds with
  | [] => some e
  | _ => none
def gsCons (f : PyData → Ev → Option Ev) (g : List PyData → Ev → Option Ev) : List PyData → Ev → Option Ev := fun ds e => match ds with
  | [] => none
  | d :: ds => match f d e with
    | none => none
    | some e1 => g ds e1
theorem sgs_nil : SGs K gNil gsNil := fun W σ H B e vs ds e' Q hf r hd q => by
  cases hd with
  | nil =>
    cases hf
    exact ⟨rfl, q _ r⟩
  | cons _ _ => cases hf
theorem sgs_cons {g : TG} {gs : TGs} {f : PyData → Ev → Option Ev} {fs : List PyData → Ev → Option Ev} (h : SG K g f) (hs : SGs K gs fs) : SGs K (gCons g gs) (gsCons f fs) := fun W σ H B e vs ds e' Q hf r hd q => by
  cases hd with
  | nil => cases hf
  | @cons v vs d ds h1 h2 =>
    have hf : (match f d e with | none => none | some e1 => fs ds e1) = some e' := hf
    cases he : f d e with
    | none => rw [he] at hf; cases hf
    | some e1 =>
      rw [he] at hf
      exact ⟨v, vs, rfl, h W σ H B e v d e1 _ he r h1 fun σ' r' => hs W σ' H B e1 vs ds e' Q hf r' h2 q⟩
def gT (n : Nat) (f : List PyData → Ev → Option Ev) : PyData → Ev → Option Ev := fun d e => match d with
  | .tuple ds => if ds.length = n then f ds e else none
  | _ => none
theorem sg_tup {n : Nat} {gs : TGs} {f : List PyData → Ev → Option Ev} (h : SGs K gs f) : SG K (gTup K n gs) (gT n f) := fun W σ H B e v d e' Q hf r hd q => by
  cases hd with
  | @tup a xs ds hs ha =>
    have hf : (if ds.length = n then f ds e else none) = some e' := hf
    by_cases c : ds.length = n
    · rw [if_pos c] at hf
      exact ⟨a, xs, rfl, seqT r.bh hs, by rw [dpAll_len ha]; exact c, h W σ H B e xs ds e' Q hf r ha q⟩
    · rw [if_neg c] at hf
      cases hf
  | non => cases hf
  | bl _ => cases hf
  | int _ => cases hf
  | str _ => cases hf
  | lst _ _ => cases hf
def sAsg (f : M PyData) (g : PyData → Ev → Option Ev) : Ev → Option Out := fun e => bnd (f e) fun d e1 => match g d e1 with
  | none => none
  | some e2 => some (.nx e2)
theorem ss_asg {t : TE} {g : TG} {f : M PyData} {fg : PyData → Ev → Option Ev} (h : SE K t f) (hg : SG K g fg) : SS K (tAsg t g) (sAsg f fg) := fun W D σ H B e o hf r qn qr => by
  obtain ⟨d, e1, h1, h2⟩ := bnd_some hf
  refine h W σ H B e d e1 _ h1 r fun v H' B' sb r' hd => ?_
  cases h3 : fg d e1 with
  | none => rw [h3] at h2; cases h2
  | some e2 =>
    rw [h3] at h2
    cases h2
    exact hg W σ H' B' e1 v d e2 _ h3 r' hd fun σ2 r2 => qn e2 σ2 H' B' rfl sb r2
def sSet (i : Nat) (f : M Sl) : Ev → Option Out := fun e => bnd (f e) fun s e1 => some (.nx (e1.set i s))
theorem ss_set {t : TE} {i : Nat} {f : M Sl} (h : SX K t f) : SS K (tAsg t (gName i)) (sSet i f) := fun W D σ H B e o hf r qn qr => by
  obtain ⟨s, e1, h1, h2⟩ := bnd_some hf
  cases h2
  exact h W σ H B e s e1 _ h1 r fun v H' B' sb r' => qn _ _ H' B' rfl sb (r'.take i)
/-! ### loops -/
def loop (fg : PyData → Ev → Option Ev) (fb : Ev → Option Out) : List PyData → Ev → Option Out
  | [], e => some (.nx e)
  | d :: ds, e => match fg d e with
    | none => none
    | some e1 => match fb e1 with
      | none => none
      | some (.nx e2) => loop fg fb ds e2
      | some (.rt s e2) => some (.rt s e2)
def sFor (fi : M (List PyData)) (fg : PyData → Ev → Option Ev) (fb : Ev → Option Out) : Ev → Option Out := fun e => bnd (fi e) fun ds e1 => loop fg fb ds e1
theorem drop_get {α : Type} {l : List α} {i : Nat} {a : α} (h : l[i]? = some a) : l.drop i = a :: l.drop (i + 1) := by
  obtain ⟨hi, e⟩ := List.getElem?_eq_some_iff.mp h
  rw [List.drop_eq_getElem_cons hi, e]
theorem ss_for {wi : TI} {g : TG} {tb : TS} {fi : M (List PyData)} {fg : PyData → Ev → Option Ev} {fb : Ev → Option Out} (hi : SI K wi fi) (hg : SG K g fg) (hb : SS K tb fb) : SS K (tFor wi g tb) (sFor fi fg fb) := fun W D σ H B e o hf r qn qr => by
  obtain ⟨ds, e1, h1, h2⟩ := bnd_some hf
  refine hi W σ H B e ds e1 _ h1 r fun J H1 B1 s1 r1 ok => ?_
  refine ⟨fun i m σ H => i ≤ ds.length ∧ m = ds.length - i ∧ ∃ B2 e2, Same B1 B2 ∧ Rel K W σ H B2 e2 ∧ loop fg fb (ds.drop i) e2 = some o, ⟨_, Nat.zero_le _, rfl, B1, e1, Same.refl B1, r1, h2⟩, ?_⟩
  rintro i m σ2 H2 ⟨hi, rfl, B2, e2, s2, r2, h3⟩
  have ok' := ok i H2 B2 s2 r2.bh
  cases hd : ds[i]? with
  | none =>
    have hl : i = ds.length := by
      have := List.getElem?_eq_none_iff.mp hd
      omega
    subst hl
    refine .inl ⟨ok'.1 hd rfl, ?_⟩
    rw [List.drop_length] at h3
    cases h3
    exact qn e2 σ2 H2 B2 rfl (s1.trans s2) r2
  | some d =>
    obtain ⟨hlt, _⟩ := List.getElem?_eq_some_iff.mp hd
    obtain ⟨go, yl⟩ := ok'.2 d hd
    refine .inr ⟨go, fun σ' H' => ∃ B3 e3, Same B1 B3 ∧ Rel K W σ' H' B3 e3 ∧ loop fg fb (ds.drop (i + 1)) e3 = some o, fun σ' H' ⟨B3, e3, q1, q2, q3⟩ => ⟨ds.length - (i + 1), by omega, hlt, rfl, B3, e3, q1, q2, q3⟩, fun x H3 hy => ?_⟩
    obtain ⟨B3, x3, dx⟩ := yl x H3 hy
    rw [drop_get hd] at h3
    have h3 : (match fg d e2 with | none => none | some e1 => match fb e1 with | none => none | some (.nx e2) => loop fg fb (ds.drop (i + 1)) e2 | some (.rt s e2) => some (.rt s e2)) = some o := h3
    cases h4 : fg d e2 with
    | none => rw [h4] at h3; cases h3
    | some e4 =>
      rw [h4] at h3
      refine hg W σ2 H3 B3 e2 x d e4 _ h4 (r2.ext x3) dx fun σ4 r4 => ?_
      cases h5 : fb e4 with
      | none => simp only [h5] at h3; cases h3
      | some o5 =>
        refine hb W _ σ4 H3 B3 e4 o5 h5 r4 (fun e5 σ5 H5 B5 he s5 r5 => ?_) (fun s e5 v σ5 H5 B5 he s5 r5 => ?_)
        · subst he
          simp only [h5] at h3
          exact ⟨B5, e5, (s2.trans x3.b).trans s5, r5, h3⟩
        · subst he
          simp only [h5] at h3
          cases h3
          exact qr s e5 v σ5 H5 B5 rfl (((s1.trans s2).trans x3.b).trans s5) r5
def wloop (fc : M Bool) (fb : Ev → Option Out) : Nat → Ev → Option Out
  | 0, e => match fc e with
    | some (false, e1) => some (.nx e1)
    | _ => none
  | n + 1, e => match fc e with
    | none => none
    | some (false, e1) => some (.nx e1)
    | some (true, e1) => match fb e1 with
      | none => none
      | some (.nx e2) => wloop fc fb n e2
      | some (.rt s e2) => some (.rt s e2)
theorem ss_while {t : TT} {tb : TS} {fc : M Bool} {fb : Ev → Option Out} (n : Nat) (hc : ST K t fc) (hb : SS K tb fb) : SS K (tWhile t tb) (wloop fc fb n) := fun W D σ H B e o hf r qn qr => by
  refine ⟨fun m σ H => ∃ B2 e2, Same B B2 ∧ Rel K W σ H B2 e2 ∧ wloop fc fb m e2 = some o, ⟨n, B, e, Same.refl B, r, hf⟩, ?_⟩
  rintro m σ2 H2 ⟨B2, e2, s2, r2, h2⟩
  cases h3 : fc e2 with
  | none => cases m <;> (unfold wloop at h2; rw [h3] at h2; cases h2)
  | some p =>
    obtain ⟨b, e3⟩ := p
    refine hc W σ2 H2 B2 e2 b e3 _ h3 r2 fun H3 B3 s3 r3 => ?_
    cases b with
    | false =>
      rw [if_neg (by decide)]
      have h4 : some (Out.nx e3) = some o := by cases m <;> (unfold wloop at h2; rw [h3] at h2; exact h2)
      cases h4
      exact qn e3 σ2 H3 B3 rfl (s2.trans s3) r3
    | true =>
      rw [if_pos rfl]
      cases m with
      | zero => unfold wloop at h2; rw [h3] at h2; cases h2
      | succ m =>
        unfold wloop at h2
        rw [h3] at h2
        refine ⟨fun σ' H' => ∃ B4 e4, Same B B4 ∧ Rel K W σ' H' B4 e4 ∧ wloop fc fb m e4 = some o, fun σ' H' h => ⟨m, Nat.lt_succ_self m, h⟩, ?_⟩
        cases h5 : fb e3 with
        | none => simp only [h5] at h2; cases h2
        | some o5 =>
          refine hb W _ σ2 H3 B3 e3 o5 h5 r3 (fun e5 σ5 H5 B5 he s5 r5 => ?_) (fun s e5 v σ5 H5 B5 he s5 r5 => ?_)
          · subst he
            simp only [h5] at h2
            exact ⟨B5, e5, (s2.trans s3).trans s5, r5, h2⟩
          · subst he
            simp only [h5] at h2
            cases h2
            exact qr s e5 v σ5 H5 B5 rfl ((s2.trans s3).trans s5) r5
/-! ### what is walked -/
theorem ItOk.list {B : Hp} {a : Addr} {xs : List V} {ds : List PyData} (hs : SqL K B a xs) (ha : DpAll K B xs ds) : ItOk K B (Itl K a) ds := fun i H1 B1 sb bh => by
  have hq := (sb.trans bh).seq hs
  refine ⟨fun _ e => ⟨xs, hq, by rw [dpAll_len ha]; exact Nat.le_of_eq e.symm⟩, fun d hd => ?_⟩
  obtain ⟨v, h1, h2⟩ := dpAll_getD ha hd
  refine ⟨⟨xs, v, hq, h1⟩, fun x H2 ⟨e, hy⟩ => ?_⟩
  subst e
  have := hy xs hq
  rw [h1] at this
  cases this
  exact ⟨B1, Ext.refl bh, dp_mono sb h2⟩
theorem ItOk.tup {B : Hp} {a : Addr} {xs : List V} {ds : List PyData} (hs : SqT K B a xs) (ha : DpAll K B xs ds) : ItOk K B (Itt K a) ds := fun i H1 B1 sb bh => by
  have hq := seqT (sb.trans bh) hs
  refine ⟨fun _ e => ⟨xs, hq, by rw [dpAll_len ha]; exact Nat.le_of_eq e.symm⟩, fun d hd => ?_⟩
  obtain ⟨v, h1, h2⟩ := dpAll_getD ha hd
  refine ⟨⟨xs, v, hq, h1⟩, fun x H2 ⟨e, hy⟩ => ?_⟩
  subst e
  have := hy xs hq
  rw [h1] at this
  cases this
  exact ⟨B1, Ext.refl bh, dp_mono sb h2⟩
def iL (f : M PyData) : M (List PyData) := fun e => bnd (f e) fun d e1 => match d with
  | .list ds => some (ds, e1)
  | _ => none
def iT (f : M PyData) : M (List PyData) := fun e => bnd (f e) fun d e1 => match d with
  | .tuple ds => some (ds, e1)
  | _ => none
theorem si_list {t : TE} {f : M PyData} (h : SE K t f) : SI K (iList K t) (iL f) := fun W σ H B e ds e' R hf r q => by
  obtain ⟨d, e1, h1, h2⟩ := bnd_some hf
  refine h W σ H B e d e1 _ h1 r fun v H' B' sb r' hd => ?_
  cases hd with
  | @lst a xs ds hs ha =>
    cases h2
    exact ⟨a, rfl, ⟨xs, r'.bh.seq hs⟩, q _ H' B' sb r' (ItOk.list hs ha)⟩
  | non => cases h2
  | bl _ => cases h2
  | int _ => cases h2
  | str _ => cases h2
  | tup _ _ => cases h2
theorem si_tup {t : TE} {f : M PyData} (h : SE K t f) : SI K (iTup K t) (iT f) := fun W σ H B e ds e' R hf r q => by
  obtain ⟨d, e1, h1, h2⟩ := bnd_some hf
  refine h W σ H B e d e1 _ h1 r fun v H' B' sb r' hd => ?_
  cases hd with
  | @tup a xs ds hs ha =>
    cases h2
    exact ⟨a, rfl, ⟨xs, seqT r'.bh hs⟩, q _ H' B' sb r' (ItOk.tup hs ha)⟩
  | non => cases h2
  | bl _ => cases h2
  | int _ => cases h2
  | str _ => cases h2
  | lst _ _ => cases h2
/-- lo, lo + 1, .., n of them -/
def upto (lo : Int) : Nat → List PyData
  | 0 => []
  | n + 1 => .int lo :: upto (lo + 1) n
theorem upto_len : ∀ (n : Nat) (lo : Int), (upto lo n).length = n
  | 0, _ => rfl
  | n + 1, lo => congrArg (· + 1) (upto_len n (lo + 1))
theorem upto_get : ∀ {n : Nat} {lo : Int} {i : Nat} {d : PyData}, (upto lo n)[i]? = some d → i < n ∧ d = .int (lo + i)
  | 0, _, _, _, h => by simp [upto] at h
  | n + 1, lo, 0, d, h => by
    have h : some (PyData.int lo) = some d := h
    cases h
    exact ⟨Nat.succ_pos n, by simp⟩
  | n + 1, lo, i + 1, d, h => by
    have h : (upto (lo + 1) n)[i]? = some d := h
    obtain ⟨h1, h2⟩ := upto_get h
    refine ⟨Nat.succ_lt_succ h1, ?_⟩
    rw [h2]
    congr 1
    omega
theorem ItOk.rng {B : Hp} {lo : Int} {n : Nat} : ItOk K B (Itr lo n) (upto lo n) := fun i H1 B1 sb bh => by
  refine ⟨fun _ e => ?_, fun d hd => ?_⟩
  · rw [upto_len] at e
    exact Nat.le_of_eq e.symm
  · obtain ⟨h1, h2⟩ := upto_get hd
    refine ⟨h1, fun x H2 ⟨e, hy⟩ => ?_⟩
    subst e
    rw [hy, h2]
    exact ⟨B1, Ext.refl bh, .int _⟩
def inR (i : Int) : Bool := decide (-(2 ^ 62) ≤ i) && decide (i < 2 ^ 62)
theorem inR_of {i : Int} (h : inR i = true) : -(2 ^ 62) ≤ i ∧ i < 2 ^ 62 := by
  unfold inR at h
  rw [Bool.and_eq_true, decide_eq_true_eq, decide_eq_true_eq] at h
  exact h
def iR1 (fa : M (List PyData)) : M (List PyData) := fun e => bnd (fa e) fun as e1 => match as with
  | [.int j] => if inR j = true then some (upto 0 j.toNat, e1) else none
  | _ => none
def iR2 (fa : M (List PyData)) : M (List PyData) := fun e => bnd (fa e) fun as e1 => match as with
  | [.int i, .int j] => if inR i = true ∧ inR j = true then some (upto i (j - i).toNat, e1) else none
  | _ => none
theorem si_rng1 {t : TA} {fa : M (List PyData)} (h : SA K t fa) : SI K (iRng1 t) (iR1 fa) := fun W σ H B e ds e' R hf r q => by
  obtain ⟨as, e1, h1, h2⟩ := bnd_some hf
  refine h W σ H B e as e1 _ h1 r fun vs H' B' sb r' hd => ?_
  cases hd with
  | nil => cases h2
  | cons a b =>
    cases b with
    | cons _ _ => cases a <;> cases h2
    | nil =>
      cases a with
      | int j =>
        have h2 : (if inR j = true then some (upto 0 j.toNat, e1) else none) = some (ds, e') := h2
        by_cases c : inR j = true
        · rw [if_pos c] at h2
          cases h2
          obtain ⟨q1, q2⟩ := inR_of c
          exact ⟨j, rfl, q1, q2, q _ H' B' sb r' ItOk.rng⟩
        · rw [if_neg c] at h2
          cases h2
      | non => cases h2
      | bl _ => cases h2
      | str _ => cases h2
      | lst _ _ => cases h2
      | tup _ _ => cases h2
theorem si_rng2 {t : TA} {fa : M (List PyData)} (h : SA K t fa) : SI K (iRng2 t) (iR2 fa) := fun W σ H B e ds e' R hf r q => by
  obtain ⟨as, e1, h1, h2⟩ := bnd_some hf
  refine h W σ H B e as e1 _ h1 r fun vs H' B' sb r' hd => ?_
  match as, vs, hd, h2 with
  | [.int i, .int j], _, .cons a (.cons b .nil), h2 =>
    have h2 : (if inR i = true ∧ inR j = true then some (upto i (j - i).toNat, e1) else none) = some (ds, e') := h2
    by_cases c : inR i = true ∧ inR j = true
    · rw [if_pos c] at h2
      cases h2
      obtain ⟨q1, q2⟩ := inR_of c.1
      obtain ⟨q3, q4⟩ := inR_of c.2
      rw [dp_int a, dp_int b]
      exact ⟨i, j, rfl, ⟨q1, q2, q3, q4⟩, q _ H' B' sb r' ItOk.rng⟩
    · rw [if_neg c] at h2
      cases h2
end VL
end
section
set_option Elab.async false
set_option linter.all false
set_option maxRecDepth 100000
set_option maxHeartbeats 2000000
namespace VL
open PySem PySem.Spec PyProof.Rows L2
variable {K : PySem.W.Frag}
/-! ### a list at the head is put aside, and written -/
def Wd.hold (W : Wd) (p : Addr) (o : HO) : Wd := ⟨upd W.H0 p o, fun b => if b = p then none else W.B0 b, W.bp⟩
theorem Rel.park {W : Wd} {σ : L2.St} {H B : Hp} {e : Ev} {v : V} {ds : List PyData} (r : Rel K W (some v :: σ) H B (.ow ds :: e)) : ∃ p xs, v = .ref p ∧ H p = some (.lst xs) ∧ DpAll K B xs ds ∧ Rel K (W.hold p (.lst xs)) σ H B e ∧
    ∀ σ' H' B' e', Same B B' → Rel K (W.hold p (.lst xs)) σ' H' B' e' → Rel K W (some v :: σ') H' B' (.ow ds :: e') ∧ H' p = some (.lst xs) := by
  obtain ⟨A, r⟩ := r
  cases hs : r.sls with
  | @cons _ _ _ bs _ _ h t =>
    cases h with
    | @ow p xs _ h1 h2 =>
      obtain ⟨n1, n2, n3⟩ := List.nodup_append.mp r.nd
      have hm : p ∈ [p] ++ bs := List.mem_append_left _ List.mem_cons_self
      have hA : ∀ q ∈ bs, q ≠ p := fun q hq z => n3 p List.mem_cons_self q hq z.symm
      refine ⟨p, xs, rfl, h1, h2, ⟨bs, t, n2, fun q hq => ⟨(r.out q (List.mem_append_right _ hq)).1, ?_⟩, r.bh, fun b o hb => ?_, fun b hb1 hb2 => ?_⟩, fun σ' H' B' e' sb r' => ?_⟩
      · show upd W.H0 p (.lst xs) q = none
        rw [upd_ne (hA q hq)]
        exact (r.out q (List.mem_append_right _ hq)).2
      · have hb : upd W.H0 p (.lst xs) b = some o := hb
        by_cases c : b = p
        · rw [c, upd_same] at hb
          rw [c, h1]
          exact hb
        · rw [upd_ne c] at hb
          exact r.fr b o hb
      · by_cases c : b = p
        · rw [c]
          exact (r.out p hm).1
        · have hb1 : upd W.H0 p (.lst xs) b ≠ none := hb1
          have hb2 : (if b = p then none else W.B0 b) = none := hb2
          rw [upd_ne c] at hb1
          rw [if_neg c] at hb2
          exact r.new b hb1 hb2
      · obtain ⟨A', r'⟩ := r'
        have hp' : H' p = some (.lst xs) := r'.fr p _ upd_same
        have nb : B' p = none := r'.new p (by show upd W.H0 p (.lst xs) p ≠ none; rw [upd_same]; exact fun z => by cases z) (if_pos rfl)
        have nA : ∀ q ∈ A', q ≠ p := fun q hq z => by
          have := (r'.out q hq).2
          rw [z] at this
          have this : upd W.H0 p (.lst xs) p = none := this
          rw [upd_same] at this
          cases this
        refine ⟨⟨[p] ++ A', .cons (.ow hp' (dpAll_mono sb h2)) r'.sls, List.nodup_append.mpr ⟨by simp, r'.nd, fun x hx y hy z => nA y hy (by rw [← z]; exact List.mem_singleton.mp hx)⟩, fun q hq => ?_, r'.bh, fun b o hb => ?_, fun b hb1 hb2 => ?_⟩, hp'⟩
        · rcases List.mem_append.mp hq with z | z
          · rw [List.mem_singleton.mp z]
            exact ⟨nb, (r.out p hm).2⟩
          · refine ⟨(r'.out q z).1, ?_⟩
            have := (r'.out q z).2
            have this : upd W.H0 p (.lst xs) q = none := this
            rw [upd_ne (nA q z)] at this
            exact this
        · refine r'.fr b o ?_
          show upd W.H0 p (.lst xs) b = some o
          rw [upd_ne (ne_of_none hb (r.out p hm).2)]
          exact hb
        · have c : b ≠ p := fun z => hb1 (by rw [z]; exact (r.out p hm).2)
          refine r'.new b ?_ ?_
          · show upd W.H0 p (.lst xs) b ≠ none
            rw [upd_ne c]
            exact hb1
          · show (if b = p then none else W.B0 b) = none
            rw [if_neg c]
            exact hb2
/-- the list at the head is changed -/
theorem Rel.write {W : Wd} {σ : L2.St} {H B : Hp} {e : Ev} {p : Addr} {ds es : List PyData} {ys : List V} (r : Rel K W (some (.ref p) :: σ) H B (.ow ds :: e)) (h : DpAll K B ys es) : Rel K W (some (.ref p) :: σ) (upd H p (.lst ys)) B (.ow es :: e) := by
  obtain ⟨A, r⟩ := r
  cases hs : r.sls with
  | @cons _ _ _ bs _ _ h' t =>
    cases h' with
    | @ow p xs _ h1 h2 =>
      obtain ⟨n1, n2, n3⟩ := List.nodup_append.mp r.nd
      have hm : p ∈ [p] ++ bs := List.mem_append_left _ List.mem_cons_self
      have hA : ∀ q ∈ bs, q ≠ p := fun q hq z => n3 p List.mem_cons_self q hq z.symm
      refine ⟨[p] ++ bs, .cons (.ow upd_same h) (t.mono (Same.refl B) fun q hq => upd_ne (hA q hq)), r.nd, r.out, fun b o hb => ?_, fun b o hb => ?_, r.new⟩
      · rw [upd_ne (ne_of_none hb (r.out p hm).1)]
        exact r.bh b o hb
      · rw [upd_ne (ne_of_none hb (r.out p hm).2)]
        exact r.fr b o hb
/-! ### slots that are wiped -/
theorem wipe_get (σ : L2.St) (i : Nat) : ∀ vs : List Nat, (wipe σ vs)[i]? = if i ∈ vs then (σ[i]?).map (fun _ => none) else σ[i]?
  | [] => by simp [wipe]
  | v :: vs => by
    unfold wipe
    by_cases c : v = i
    · subst c
      rw [if_pos List.mem_cons_self, List.getElem?_set_self', wipe_get σ v vs]
      by_cases m : v ∈ vs
      · rw [if_pos m]
        cases σ[v]? <;> rfl
      · rw [if_neg m]
        cases σ[v]? <;> rfl
    · rw [List.getElem?_set_ne c, wipe_get σ i vs]
      by_cases m : i ∈ vs
      · rw [if_pos m, if_pos (List.mem_cons_of_mem _ m)]
      · rw [if_neg m, if_neg (fun z => (List.mem_cons.mp z).elim (fun z => c z.symm) m)]
theorem wipe_eq {σ τ : L2.St} {vs : List Nat} (h : ∀ i, i ∉ vs → σ[i]? = τ[i]?) (hl : σ.length = τ.length) : wipe σ vs = wipe τ vs := by
  refine List.ext_getElem? fun i => ?_
  rw [wipe_get, wipe_get]
  by_cases m : i ∈ vs
  · rw [if_pos m, if_pos m]
    by_cases c : i < σ.length
    · rw [List.getElem?_eq_getElem c, List.getElem?_eq_getElem (by omega)]
      rfl
    · rw [List.getElem?_eq_none (by omega), List.getElem?_eq_none (by omega)]
  · rw [if_neg m, if_neg m]
    exact h i m
theorem wipe_set {σ : L2.St} {vs : List Nat} {i : Nat} {o : Option V} (h : i ∈ vs) : wipe (σ.set i o) vs = wipe σ vs := wipe_eq (fun j hj => List.getElem?_set_ne fun z => hj (by rw [← z]; exact h)) (by simp)
theorem wipe_wipe {σ : L2.St} {us vs : List Nat} (h : ∀ i ∈ us, i ∈ vs) : wipe (wipe σ us) vs = wipe σ vs := wipe_eq (fun j hj => by rw [wipe_get, if_neg fun z => hj (h j z)]) (wipe_length σ us)
/-- a target that stores into vs alone -/
def Lcl (vs : List Nat) (g : TG) : Prop := ∀ v σ H Q, g v σ H Q → g v σ H fun σ2 H2 => wipe σ2 vs = wipe σ vs ∧ Q σ2 H2
def Lcls (vs : List Nat) (g : TGs) : Prop := ∀ us σ H Q, g us σ H Q → g us σ H fun σ2 H2 => wipe σ2 vs = wipe σ vs ∧ Q σ2 H2
theorem lcl_name {vs : List Nat} {i : Nat} (h : i ∈ vs) : Lcl vs (gName i) := fun v σ H Q q => ⟨wipe_set h, q⟩
theorem lcls_nil {vs : List Nat} : Lcls vs gNil := fun us σ H Q q => ⟨q.1, rfl, q.2⟩
/-- targets ask no more than what is wanted -/
def Mn (g : TG) : Prop := ∀ v σ H Q Q', (∀ σ2 H2, Q σ2 H2 → Q' σ2 H2) → g v σ H Q → g v σ H Q'
def Mns (g : TGs) : Prop := ∀ us σ H Q Q', (∀ σ2 H2, Q σ2 H2 → Q' σ2 H2) → g us σ H Q → g us σ H Q'
theorem mn_name {i : Nat} : Mn (gName i) := fun v σ H Q Q' h q => h _ _ q
theorem mns_nil : Mns gNil := fun us σ H Q Q' h q => ⟨q.1, h _ _ q.2⟩
theorem mns_cons {g : TG} {gs : TGs} (h1 : Mn g) (h2 : Mns gs) : Mns (gCons g gs) := fun us σ H Q Q' h q => by
  obtain ⟨v, r, e, q⟩ := q
  exact ⟨v, r, e, h1 _ _ _ _ _ (fun σ2 H2 q => h2 _ _ _ _ _ h q) q⟩
theorem lcls_cons {vs : List Nat} {g : TG} {gs : TGs} (m1 : Mn g) (m2 : Mns gs) (h1 : Lcl vs g) (h2 : Lcls vs gs) : Lcls vs (gCons g gs) := fun us σ H Q q => by
  obtain ⟨v, r, e, q⟩ := q
  refine ⟨v, r, e, m1 _ _ _ _ _ (fun σ2 H2 ⟨e2, q2⟩ => ?_) (h1 _ _ _ _ q)⟩
  exact m2 _ _ _ _ _ (fun σ3 H3 ⟨e3, q3⟩ => ⟨e3.trans e2, q3⟩) (h2 _ _ _ _ q2)
theorem lcl_tup {vs : List Nat} {n : Nat} {gs : TGs} (h : Lcls vs gs) : Lcl vs (gTup K n gs) := fun v σ H Q q => by
  obtain ⟨a, xs, e, h1, h2, q⟩ := q
  exact ⟨a, xs, e, h1, h2, h _ _ _ _ q⟩
def wipeE (vs : List Nat) (e : Ev) : Ev := match vs with
  | [] => e
  | v :: vs => (wipeE vs e).set v .un
theorem Rel.wipe {W : Wd} {σ : L2.St} {H B : Hp} {e : Ev} (r : Rel K W σ H B e) : ∀ vs : List Nat, Rel K W (L2.wipe σ vs) H B (wipeE vs e)
  | [] => r
  | v :: vs => (r.wipe vs).drop v none
theorem Rel.wipe1 {W : Wd} {σ : L2.St} {H B : Hp} {e : Ev} {o : Option V} {s : Sl} (r : Rel K W (o :: σ) H B (s :: e)) : ∀ vs : List Nat, Rel K W (o :: L2.wipe σ vs) H B (s :: wipeE vs e)
  | [] => r
  | v :: vs => (r.wipe1 vs).drop (v + 1) none
/-- the slots that were wiped come back -/
def rest (e0 : Ev) : List Nat → Ev → Option Ev
  | [], e => some e
  | v :: vs, e => match e0[v]? with
    | some (.sh d) => rest e0 vs (e.set v (.sh d))
    | some .un => rest e0 vs (e.set v .un)
    | _ => none
theorem Rel.rest {W W0 : Wd} {σ : L2.St} {H1 B1 H B : Hp} {e0 : Ev} (r0 : Rel K W0 σ H1 B1 e0) (sb : Same B1 B) : ∀ (vs : List Nat) {e e' : Ev}, vs.Nodup → Rel K W (L2.wipe σ vs) H B e → VL.rest e0 vs e = some e' → Rel K W σ H B e'
  | [], e, e', _, r, h => by
    cases h
    exact r
  | v :: vs, e, e', nd, r, h => by
    obtain ⟨nv, nd⟩ := List.nodup_cons.mp nd
    have hw : (L2.wipe σ vs)[v]? = σ[v]? := by rw [wipe_get, if_neg nv]
    unfold VL.rest at h
    cases h0 : e0[v]? with
    | none => rw [h0] at h; cases h
    | some s =>
      rw [h0] at h
      cases s with
      | ow _ => cases h
      | bw _ => cases h
      | ob _ => cases h
      | dc _ => cases h
      | dr _ => cases h
      | st _ _ => cases h
      | sb _ _ => cases h
      | sh d =>
        obtain ⟨x, h1, h2⟩ := r0.get h0
        refine Rel.rest r0 sb vs nd ?_ h
        have r2 := r.put v (dp_mono sb h2)
        have e2 : (L2.wipe σ (v :: vs)).set v (some x) = L2.wipe σ vs := by
          show ((L2.wipe σ vs).set v none).set v (some x) = _
          rw [set_set', set_same (hw.trans h1)]
        rw [e2] at r2
        exact r2
      | un =>
        refine Rel.rest r0 sb vs nd ?_ h
        obtain ⟨A0, r0'⟩ := r0
        obtain ⟨o, _, h1, _, _⟩ := r0'.sls.at h0
        have r2 := r.drop v o
        have e2 : (L2.wipe σ (v :: vs)).set v o = L2.wipe σ vs := by
          show ((L2.wipe σ vs).set v none).set v o = _
          rw [set_set', set_same (hw.trans h1)]
        rw [e2] at r2
        exact r2
/-! ### comprehensions -/
def cloop (fg : PyData → Ev → Option Ev) (ft : M Bool) (fe : M PyData) (vs : List Nat) : List PyData → Ev → Option (List PyData × Ev)
  | [], e => some ([], e)
  | d :: ds, e => match fg d e with
    | none => none
    | some e1 => bnd (ft e1) fun b e2 => if b = true then bnd (fe e2) fun y e3 => bnd (cloop fg ft fe vs ds (wipeE vs e3)) fun ys e4 => some (y :: ys, e4) else cloop fg ft fe vs ds (wipeE vs e2)
/-- one turn, the list at D put aside -/
theorem lc_turn {g : TG} {tt : TT} {te : TE} {fg : PyData → Ev → Option Ev} {ft : M Bool} {fe : M PyData} {vs : List Nat} (hg : SG K g fg) (lc : Lcl vs g) (mn : Mn g) (ht : ST K tt ft) (he : SE K te fe) {W : Wd} {σ : L2.St} {H B : Hp} {e e1 e2 : Ev} {D : Addr} {acc : List PyData} {x : V} {d : PyData} {b : Bool} {Nx : Hp → Prop}
    (r : Rel K W (some (.ref D) :: σ) H B (.ow acc :: e)) (dx : Dp K B x d) (h1 : fg d e = some e1) (h2 : ft e1 = some (b, e2)) (hz : b = true → sz acc.length = true)
    (hno : b = false → ∀ H' B', Same B B' → Rel K W (some (.ref D) :: L2.wipe σ vs) H' B' (.ow acc :: wipeE vs e2) → Nx H')
    (hyes : b = true → ∃ y e3, fe e2 = some (y, e3) ∧ ∀ H' B', Same B B' → Rel K W (some (.ref D) :: L2.wipe σ vs) H' B' (.ow (acc ++ [y]) :: wipeE vs e3) → Nx H') :
    g x σ H fun σ2 H2 => L2.wipe σ2 vs = L2.wipe σ vs ∧ tt σ2 H2 fun b H3 => if b = true then te σ2 H3 fun y H4 => ∃ acc, H4 D = some (.lst acc) ∧ acc.length < sizeLine ∧ Nx (upd H4 D (.lst (acc ++ [y]))) else Nx H3 := by
  obtain ⟨p, xs, ep, hp, ha, rp, back⟩ := r.park
  cases ep
  have key : g x σ H fun σ2 H2 => L2.wipe σ2 vs = L2.wipe σ vs ∧ ∃ B2, H2 = H ∧ B2 = B ∧ Rel K (W.hold D (.lst xs)) σ2 H2 B2 e1 := lc _ _ _ _ (hg _ σ H B e x d e1 _ h1 rp dx fun σ' r' => ⟨B, rfl, rfl, r'⟩)
  refine mn _ _ _ _ _ (fun σ2 H2 ⟨ew, B2, eH, eB, r2⟩ => ⟨ew, ?_⟩) key
  subst eH eB
  refine ht _ σ2 H2 B2 e1 b e2 _ h2 r2 fun H3 B3 s3 r3 => ?_
  cases b with
  | false =>
    rw [if_neg (by decide)]
    have r4 := (back σ2 H3 B3 e2 s3 r3).1.wipe1 vs
    rw [ew] at r4
    exact hno rfl H3 B3 s3 r4
  | true =>
    rw [if_pos rfl]
    obtain ⟨y, e3, h3, nx⟩ := hyes rfl
    refine he _ σ2 H3 B3 e2 y e3 _ h3 r3 fun v H4 B4 s4 r4 dv => ?_
    obtain ⟨r5, hD⟩ := back σ2 H4 B4 e3 (s3.trans s4) r4
    refine ⟨xs, hD, by rw [dpAll_len ha]; exact sz_lt (hz rfl), ?_⟩
    have r6 := (r5.write (dpAll_snoc (dpAll_mono (s3.trans s4) ha) dv)).wipe1 vs
    rw [ew] at r6
    exact nx _ B4 (s3.trans s4) r6
def xLc (fi : M (List PyData)) (fg : PyData → Ev → Option Ev) (ft : M Bool) (fe : M PyData) (vs : List Nat) : M Sl := fun e => bnd (fi e) fun ds e1 => bnd (cloop fg ft fe vs ds (wipeE vs e1)) fun ys e2 => if sz ys.length = true then match rest e1 vs e2 with
  | none => none
  | some e3 => some (.ow ys, e3) else none
theorem sz_mono {m n : Nat} (h : sz n = true) (l : m ≤ n) : sz m = true := Nat.ble_eq_true_of_le (Nat.le_trans l (Nat.le_of_ble_eq_true h))
theorem sx_lc {wi : TI} {g : TG} {tt : TT} {te : TE} {fi : M (List PyData)} {fg : PyData → Ev → Option Ev} {ft : M Bool} {fe : M PyData} {vs : List Nat} (nd : vs.Nodup) (hi : SI K wi fi) (hg : SG K g fg) (lc : Lcl vs g) (mn : Mn g) (ht : ST K tt ft) (he : SE K te fe) :
    SX K (tLc wi g tt te vs) (xLc fi fg ft fe vs) := fun W σ H B e s e' Q hf r q => by
  obtain ⟨ds, e1, h1, h2⟩ := bnd_some hf
  obtain ⟨zs, e2, h3, h4⟩ := bnd_some h2
  by_cases c : sz zs.length = true
  · rw [if_pos c] at h4
    cases h5 : rest e1 vs e2 with
    | none => rw [h5] at h4; cases h4
    | some e3 =>
      rw [h5] at h4
      cases h4
      refine hi W σ H B e ds e1 _ h1 r fun J H1 B1 s1 r1 ok D hD => ?_
      refine ⟨fun i m H => i ≤ ds.length ∧ m = ds.length - i ∧ ∃ B2 e4 acc ys, Same B1 B2 ∧ Rel K W (some (.ref D) :: L2.wipe σ vs) H B2 (.ow acc :: e4) ∧ cloop fg ft fe vs (ds.drop i) e4 = some (ys, e2) ∧ acc ++ ys = zs,
        ⟨_, Nat.zero_le _, rfl, B1, wipeE vs e1, [], zs, Same.refl B1, (r1.wipe vs).born hD .nil, h3, rfl⟩, ?_⟩
      rintro i m H2 ⟨hil, rfl, B2, e4, acc, ys, s2, r2, h6, h7⟩
      have ok' := ok i H2 B2 s2 r2.bh
      cases hd : ds[i]? with
      | none =>
        have hl : i = ds.length := by
          have := List.getElem?_eq_none_iff.mp hd
          omega
        subst hl
        refine .inl ⟨ok'.1 hd rfl, ?_⟩
        rw [List.drop_length] at h6
        cases h6
        rw [List.append_nil] at h7
        subst h7
        obtain ⟨p, xs, ep, hp, ha, rp, back⟩ := r2.park
        cases ep
        have r3 := Rel.rest r1 s2 vs nd rp h5
        exact q _ H2 B2 (s1.trans s2) (back σ H2 B2 _ (Same.refl B2) r3).1
      | some d =>
        obtain ⟨hlt, _⟩ := List.getElem?_eq_some_iff.mp hd
        obtain ⟨go, yl⟩ := ok'.2 d hd
        refine .inr ⟨go, fun H' => ∃ B3 e5 acc ys, Same B1 B3 ∧ Rel K W (some (.ref D) :: L2.wipe σ vs) H' B3 (.ow acc :: e5) ∧ cloop fg ft fe vs (ds.drop (i + 1)) e5 = some (ys, e2) ∧ acc ++ ys = zs, fun H' ⟨B3, e5, acc, ys, q1, q2, q3, q4⟩ => ⟨ds.length - (i + 1), by omega, hlt, rfl, B3, e5, acc, ys, q1, q2, q3, q4⟩, fun x H3 hy => ?_⟩
        obtain ⟨B3, x3, dx⟩ := yl x H3 hy
        rw [drop_get hd] at h6
        unfold cloop at h6
        cases h8 : fg d e4 with
        | none => rw [h8] at h6; cases h6
        | some e5 =>
          rw [h8] at h6
          obtain ⟨b, e6, h9, h10⟩ := bnd_some h6
          have s13 := s2.trans x3.b
          have wz : L2.wipe (L2.wipe σ vs) vs = L2.wipe σ vs := wipe_wipe fun i hi => hi
          have t := lc_turn hg lc mn ht he (Nx := fun H' => ∃ B3 e5 acc ys, Same B1 B3 ∧ Rel K W (some (.ref D) :: L2.wipe σ vs) H' B3 (.ow acc :: e5) ∧ cloop fg ft fe vs (ds.drop (i + 1)) e5 = some (ys, e2) ∧ acc ++ ys = zs) (r2.ext x3) dx h8 h9 (fun _ => sz_mono c (by rw [← h7, List.length_append]; omega)) (fun hb H' B' sb r' => ?_) (fun hb => ?_)
          · rw [wz] at t
            exact t
          · subst hb
            rw [if_neg (by decide)] at h10
            rw [wz] at r'
            exact ⟨B', _, acc, ys, s13.trans sb, r', h10, h7⟩
          · subst hb
            rw [if_pos rfl] at h10
            obtain ⟨y, e7, h11, h12⟩ := bnd_some h10
            obtain ⟨ys', e8, h13, h14⟩ := bnd_some h12
            cases h14
            refine ⟨y, e7, h11, fun H' B' sb r' => ?_⟩
            rw [wz] at r'
            exact ⟨B', _, acc ++ [y], ys', s13.trans sb, r', h13, by rw [List.append_assoc]; exact h7⟩
  · rw [if_neg c] at h4
    cases h4
end VL
end
section
set_option Elab.async false
set_option linter.all false
set_option maxRecDepth 100000
set_option maxHeartbeats 2000000
namespace VL
open PySem PySem.Spec PyProof.Rows L2
variable {K : PySem.W.Frag}
/-! ### comprehensions of two clauses -/
def cloop2 (fg : PyData → Ev → Option Ev) (ft : M Bool) (fi1 : M (List PyData)) (fg1 : PyData → Ev → Option Ev) (ft1 : M Bool) (fe : M PyData) (vs vs1 : List Nat) : List PyData → Ev → Option (List PyData × Ev)
  | [], e => some ([], e)
  | d :: ds, e => match fg d e with
    | none => none
    | some e1 => bnd (ft e1) fun b e2 => if b = true then bnd (fi1 e2) fun is e3 => bnd (cloop fg1 ft1 fe vs1 is (wipeE vs1 e3)) fun ys e4 => bnd (cloop2 fg ft fi1 fg1 ft1 fe vs vs1 ds (wipeE vs e4)) fun zs e5 => some (ys ++ zs, e5)
      else cloop2 fg ft fi1 fg1 ft1 fe vs vs1 ds (wipeE vs e2)
def xLc2 (fi : M (List PyData)) (fg : PyData → Ev → Option Ev) (ft : M Bool) (fi1 : M (List PyData)) (fg1 : PyData → Ev → Option Ev) (ft1 : M Bool) (fe : M PyData) (vs vs1 : List Nat) : M Sl := fun e => bnd (fi e) fun ds e1 => bnd (cloop2 fg ft fi1 fg1 ft1 fe vs vs1 ds (wipeE vs e1)) fun ys e2 => if sz ys.length = true then match rest e1 vs e2 with
  | none => none
  | some e3 => some (.ow ys, e3) else none
/-- the inner loop -/
theorem lc_inner {J : It} {g : TG} {tt : TT} {te : TE} {fg : PyData → Ev → Option Ev} {ft : M Bool} {fe : M PyData} {vs : List Nat} (hg : SG K g fg) (lc : Lcl vs g) (mn : Mn g) (ht : ST K tt ft) (he : SE K te fe) {W : Wd} {σ : L2.St} {H1 B1 : Hp} {D : Addr} {ds : List PyData} {acc0 zs : List PyData} {e1 e2 : Ev} {Nx : Hp → Prop}
    (ok : ItOk K B1 J ds) (r1 : Rel K W (some (.ref D) :: L2.wipe σ vs) H1 B1 (.ow acc0 :: e1)) (h3 : cloop fg ft fe vs ds e1 = some (zs, e2)) (c : sz (acc0.length + zs.length) = true)
    (fin : ∀ H' B', Same B1 B' → Rel K W (some (.ref D) :: L2.wipe σ vs) H' B' (.ow (acc0 ++ zs) :: e2) → Nx H') :
    ∃ W1 : Nat → Nat → Hp → Prop, (∃ m, W1 0 m H1) ∧ ∀ j k H, W1 j k H → (J.stop j H ∧ Nx H) ∨ (J.go j H ∧ ∃ Nx1 : Hp → Prop, (∀ H', Nx1 H' → ∃ k', k' < k ∧ W1 (j + 1) k' H') ∧ ∀ x H', J.yld j H x H' → g x (L2.wipe σ vs) H' fun σ3 H5 => L2.wipe σ3 vs = L2.wipe σ vs ∧ tt σ3 H5 fun b H6 =>
        if b = true then te σ3 H6 fun y H7 => ∃ acc, H7 D = some (.lst acc) ∧ acc.length < sizeLine ∧ Nx1 (upd H7 D (.lst (acc ++ [y]))) else Nx1 H6) := by
  refine ⟨fun i m H => i ≤ ds.length ∧ m = ds.length - i ∧ ∃ B2 e4 acc ys, Same B1 B2 ∧ Rel K W (some (.ref D) :: L2.wipe σ vs) H B2 (.ow acc :: e4) ∧ cloop fg ft fe vs (ds.drop i) e4 = some (ys, e2) ∧ acc ++ ys = acc0 ++ zs,
    ⟨_, Nat.zero_le _, rfl, B1, e1, acc0, zs, Same.refl B1, r1, h3, rfl⟩, ?_⟩
  rintro i m H2 ⟨hil, rfl, B2, e4, acc, ys, s2, r2, h6, h7⟩
  have ok' := ok i H2 B2 s2 r2.bh
  cases hd : ds[i]? with
  | none =>
    have hl : i = ds.length := by
      have := List.getElem?_eq_none_iff.mp hd
      omega
    subst hl
    refine .inl ⟨ok'.1 hd rfl, ?_⟩
    rw [List.drop_length] at h6
    cases h6
    rw [List.append_nil] at h7
    subst h7
    exact fin H2 B2 s2 r2
  | some d =>
    obtain ⟨hlt, _⟩ := List.getElem?_eq_some_iff.mp hd
    obtain ⟨go, yl⟩ := ok'.2 d hd
    refine .inr ⟨go, fun H' => ∃ B3 e5 acc ys, Same B1 B3 ∧ Rel K W (some (.ref D) :: L2.wipe σ vs) H' B3 (.ow acc :: e5) ∧ cloop fg ft fe vs (ds.drop (i + 1)) e5 = some (ys, e2) ∧ acc ++ ys = acc0 ++ zs, fun H' ⟨B3, e5, acc, ys, q1, q2, q3, q4⟩ => ⟨ds.length - (i + 1), by omega, hlt, rfl, B3, e5, acc, ys, q1, q2, q3, q4⟩, fun x H3 hy => ?_⟩
    obtain ⟨B3, x3, dx⟩ := yl x H3 hy
    rw [drop_get hd] at h6
    unfold cloop at h6
    cases h8 : fg d e4 with
    | none => rw [h8] at h6; cases h6
    | some e5 =>
      rw [h8] at h6
      obtain ⟨b, e6, h9, h10⟩ := bnd_some h6
      have s13 := s2.trans x3.b
      have wz : L2.wipe (L2.wipe σ vs) vs = L2.wipe σ vs := wipe_wipe fun i hi => hi
      have hlen := congrArg List.length h7
      rw [List.length_append, List.length_append] at hlen
      have t := lc_turn hg lc mn ht he (Nx := fun H' => ∃ B3 e5 acc ys, Same B1 B3 ∧ Rel K W (some (.ref D) :: L2.wipe σ vs) H' B3 (.ow acc :: e5) ∧ cloop fg ft fe vs (ds.drop (i + 1)) e5 = some (ys, e2) ∧ acc ++ ys = acc0 ++ zs) (r2.ext x3) dx h8 h9 (fun _ => sz_mono c (by omega)) (fun hb H' B' sb r' => ?_) (fun hb => ?_)
      · rw [wz] at t
        exact t
      · subst hb
        rw [if_neg (by decide)] at h10
        rw [wz] at r'
        exact ⟨B', _, acc, ys, s13.trans sb, r', h10, h7⟩
      · subst hb
        rw [if_pos rfl] at h10
        obtain ⟨y, e7, h11, h12⟩ := bnd_some h10
        obtain ⟨ys', e8, h13, h14⟩ := bnd_some h12
        cases h14
        refine ⟨y, e7, h11, fun H' B' sb r' => ?_⟩
        rw [wz] at r'
        exact ⟨B', _, acc ++ [y], ys', s13.trans sb, r', h13, by rw [List.append_assoc]; exact h7⟩
theorem sx_lc2 {wi wi1 : TI} {g g1 : TG} {tt tt1 : TT} {te : TE} {fi fi1 : M (List PyData)} {fg fg1 : PyData → Ev → Option Ev} {ft ft1 : M Bool} {fe : M PyData} {vs vs1 : List Nat} (nd : vs.Nodup) (sub : ∀ i ∈ vs1, i ∈ vs) (hi : SI K wi fi) (hg : SG K g fg) (lc : Lcl vs g) (mn : Mn g) (ht : ST K tt ft)
    (hi1 : SI K wi1 fi1) (hg1 : SG K g1 fg1) (lc1 : Lcl vs1 g1) (mn1 : Mn g1) (ht1 : ST K tt1 ft1) (he : SE K te fe) :
    SX K (tLc2 wi g tt wi1 g1 tt1 te vs vs1) (xLc2 fi fg ft fi1 fg1 ft1 fe vs vs1) := fun W σ H B e s e' Q hf r q => by
  obtain ⟨ds, e1, h1, h2⟩ := bnd_some hf
  obtain ⟨zs, e2, h3, h4⟩ := bnd_some h2
  by_cases c : sz zs.length = true
  · rw [if_pos c] at h4
    cases h5 : rest e1 vs e2 with
    | none => rw [h5] at h4; cases h4
    | some e3 =>
      rw [h5] at h4
      cases h4
      refine hi W σ H B e ds e1 _ h1 r fun J H1 B1 s1 r1 ok D hD => ?_
      refine ⟨fun i m H => i ≤ ds.length ∧ m = ds.length - i ∧ ∃ B2 e4 acc ys, Same B1 B2 ∧ Rel K W (some (.ref D) :: L2.wipe σ vs) H B2 (.ow acc :: e4) ∧ cloop2 fg ft fi1 fg1 ft1 fe vs vs1 (ds.drop i) e4 = some (ys, e2) ∧ acc ++ ys = zs,
        ⟨_, Nat.zero_le _, rfl, B1, wipeE vs e1, [], zs, Same.refl B1, (r1.wipe vs).born hD .nil, h3, rfl⟩, ?_⟩
      rintro i m H2 ⟨hil, rfl, B2, e4, acc, ys, s2, r2, h6, h7⟩
      have ok' := ok i H2 B2 s2 r2.bh
      cases hd : ds[i]? with
      | none =>
        have hl : i = ds.length := by
          have := List.getElem?_eq_none_iff.mp hd
          omega
        subst hl
        refine .inl ⟨ok'.1 hd rfl, ?_⟩
        rw [List.drop_length] at h6
        cases h6
        rw [List.append_nil] at h7
        subst h7
        obtain ⟨p, xs, ep, hp, ha, rp, back⟩ := r2.park
        cases ep
        have r3 := Rel.rest r1 s2 vs nd rp h5
        exact q _ H2 B2 (s1.trans s2) (back σ H2 B2 _ (Same.refl B2) r3).1
      | some d =>
        obtain ⟨hlt, _⟩ := List.getElem?_eq_some_iff.mp hd
        obtain ⟨go, yl⟩ := ok'.2 d hd
        refine .inr ⟨go, fun H' => ∃ B3 e5 acc ys, Same B1 B3 ∧ Rel K W (some (.ref D) :: L2.wipe σ vs) H' B3 (.ow acc :: e5) ∧ cloop2 fg ft fi1 fg1 ft1 fe vs vs1 (ds.drop (i + 1)) e5 = some (ys, e2) ∧ acc ++ ys = zs, fun H' ⟨B3, e5, acc, ys, q1, q2, q3, q4⟩ => ⟨ds.length - (i + 1), by omega, hlt, rfl, B3, e5, acc, ys, q1, q2, q3, q4⟩, fun x H3 hy => ?_⟩
        obtain ⟨B3, x3, dx⟩ := yl x H3 hy
        rw [drop_get hd] at h6
        unfold cloop2 at h6
        cases h8 : fg d e4 with
        | none => rw [h8] at h6; cases h6
        | some e5 =>
          rw [h8] at h6
          obtain ⟨b, e6, h9, h10⟩ := bnd_some h6
          have s13 := s2.trans x3.b
          have wz : L2.wipe (L2.wipe σ vs) vs = L2.wipe σ vs := wipe_wipe fun i hi => hi
          obtain ⟨p, xs, ep, hp, ha, rp, back⟩ := (r2.ext x3).park
          cases ep
          have key : g x (L2.wipe σ vs) H3 fun σ2 H2 => L2.wipe σ2 vs = L2.wipe (L2.wipe σ vs) vs ∧ ∃ B2, H2 = H3 ∧ B2 = B3 ∧ Rel K (W.hold D (.lst xs)) σ2 H2 B2 e5 := lc _ _ _ _ (hg _ (L2.wipe σ vs) H3 B3 e4 x d e5 _ h8 rp dx fun σ' r' => ⟨B3, rfl, rfl, r'⟩)
          refine mn _ _ _ _ _ (fun σ4 H4 ⟨ew, B4, eH, eB, r4⟩ => ⟨ew.trans wz, ?_⟩) key
          subst eH eB
          refine ht _ σ4 H4 B4 e5 b e6 _ h9 r4 fun H5 B5 s5 r5 => ?_
          cases b with
          | false =>
            rw [if_neg (by decide)] at h10 ⊢
            have r6 := (back σ4 H5 B5 e6 s5 r5).1.wipe1 vs
            rw [ew, wz] at r6
            exact ⟨B5, _, acc, ys, s13.trans s5, r6, h10, h7⟩
          | true =>
            rw [if_pos rfl] at h10 ⊢
            obtain ⟨is, e7, h11, h12⟩ := bnd_some h10
            obtain ⟨us, e8, h13, h14⟩ := bnd_some h12
            obtain ⟨ws, e9, h15, h16⟩ := bnd_some h14
            cases h16
            refine hi1 _ σ4 H5 B5 e6 is e7 _ h11 r5 fun J1 H6 B6 s6 r6 ok1 => ?_
            have r7 := (back σ4 H6 B6 e7 (s5.trans s6) r6).1.wipe1 vs1
            refine lc_inner hg1 lc1 mn1 ht1 he ok1 r7 h13 (sz_mono c (by rw [← h7, List.length_append, List.length_append]; omega)) fun H7 B7 s7 r8 => ?_
            have r9 := r8.wipe1 vs
            rw [wipe_wipe sub, ew, wz] at r9
            exact ⟨B7, _, acc ++ us, ws, ((s13.trans s5).trans s6).trans s7, r9, h15, by rw [List.append_assoc]; exact h7⟩
  · rw [if_neg c] at h4
    cases h4
/-! ### lists that a slot has: read, changed -/
theorem Sls.out {K : PySem.W.Frag} {bp : Option Addr} {H B : Hp} : ∀ {σ : L2.St} {e : Ev} {as : List Addr} {i : Nat} {s : Sl}, Sls K bp H B σ e as → as.Nodup → e[i]? = some s →
    ∃ o bs cs, σ[i]? = some o ∧ SlOk K bp H B o s bs ∧ Sls K bp H B (σ.set i none) (e.set i .un) cs ∧ (bs ++ cs).Nodup ∧ ∀ q ∈ bs ++ cs, q ∈ as
  | _, _, _, _, _, .nil, _, h => by simp at h
  | _, _, _, 0, _, .cons (as := a1) (bs := b1) h t, n, e => by
    cases Option.some.inj e
    exact ⟨_, a1, [] ++ b1, rfl, h, .cons (as := []) .un t, n, fun q hq => hq⟩
  | _, _, _, i + 1, _, .cons (as := a1) (bs := b1) h t, n, e => by
    obtain ⟨m1, m2, m3⟩ := List.nodup_append.mp n
    obtain ⟨o, bs, cs, h1, h2, h3, h4, h5⟩ := Sls.out (i := i) t m2 e
    obtain ⟨k1, k2, k3⟩ := List.nodup_append.mp h4
    refine ⟨o, bs, a1 ++ cs, h1, h2, .cons h h3, List.nodup_append.mpr ⟨k1, List.nodup_append.mpr ⟨m1, k2, fun x hx y hy z => m3 x hx y (h5 y (List.mem_append_right _ hy)) z⟩, fun x hx y hy z => ?_⟩, fun q hq => ?_⟩
    · rcases List.mem_append.mp hy with w | w
      · exact m3 y w x (h5 x (List.mem_append_left _ hx)) z.symm
      · exact k3 x hx y w z
    · rcases List.mem_append.mp hq with w | w
      · exact List.mem_append_right _ (h5 q (List.mem_append_left _ w))
      · rcases List.mem_append.mp w with w | w
        · exact List.mem_append_left _ w
        · exact List.mem_append_right _ (h5 q (List.mem_append_right _ w))
/-- which list a slot has, that may be changed -/
def ownOf : Option Sl → Option (List PyData)
  | some (.ow ds) => some ds
  | some (.bw ds) => some ds
  | _ => none
def setOwn (e : Ev) (i : Nat) (ds : List PyData) : Ev := match e[i]? with
  | some (.bw _) => e.set i (.bw ds)
  | _ => e.set i (.ow ds)
theorem Rel.own {W : Wd} {σ : L2.St} {H B : Hp} {e : Ev} {i : Nat} {ds : List PyData} (r : Rel K W σ H B e) (h : ownOf e[i]? = some ds) : ∃ p xs, σ[i]? = some (some (.ref p)) ∧ H p = some (.lst xs) ∧ DpAll K B xs ds ∧
    ∀ ys es, DpAll K B ys es → Rel K W σ (upd H p (.lst ys)) B (setOwn e i es) := by
  obtain ⟨A, r⟩ := r
  cases h0 : e[i]? with
  | none => rw [h0] at h; cases h
  | some s =>
    rw [h0] at h
    obtain ⟨o, bs, cs, h1, h2, h3, h4, h5⟩ := r.sls.out r.nd h0
    cases s with
    | un => cases h
    | sh _ => cases h
    | ob _ => cases h
    | dc _ => cases h
    | dr _ => cases h
    | st _ _ => cases h
    | sb _ _ => cases h
    | ow d =>
      cases h
      cases h2 with
      | @ow p xs _ a b =>
        obtain ⟨k1, k2, k3⟩ := List.nodup_append.mp h4
        have hp : p ∈ A := h5 p (List.mem_append_left _ List.mem_cons_self)
        have ne : ∀ q ∈ cs, q ≠ p := fun q hq z => k3 p List.mem_cons_self q hq z.symm
        refine ⟨p, xs, h1, a, b, fun ys es hy => ?_⟩
        have t : Sls K W.bp (upd H p (.lst ys)) B (σ.set i none) (e.set i .un) cs := h3.mono (Same.refl B) fun q hq => upd_ne (ne q hq)
        have n : SlOk K W.bp (upd H p (.lst ys)) B (some (.ref p)) (.ow es) [p] := .ow upd_same hy
        obtain ⟨fs, f1, f2, f3⟩ := t.set n i
        rw [set_set', set_set', set_same h1] at f1
        unfold setOwn
        rw [h0]
        refine ⟨fs, f1, f2 k2 (by simp) (fun q hq z => ne q z (List.mem_singleton.mp hq)), fun q hq => ?_, fun b o hb => ?_, fun b o hb => ?_, r.new⟩
        · rcases f3 q hq with z | z
          · exact r.out q (h5 q (List.mem_append_right _ z))
          · rw [List.mem_singleton.mp z]
            exact r.out p hp
        · rw [upd_ne (ne_of_none hb (r.out p hp).1)]
          exact r.bh b o hb
        · rw [upd_ne (ne_of_none hb (r.out p hp).2)]
          exact r.fr b o hb
    | bw d =>
      cases h
      cases h2 with
      | @bw p xs _ eb a b =>
        obtain ⟨k1, k2, k3⟩ := List.nodup_append.mp h4
        have hp : p ∈ A := h5 p (List.mem_append_left _ List.mem_cons_self)
        have ne : ∀ q ∈ cs, q ≠ p := fun q hq z => k3 p List.mem_cons_self q hq z.symm
        refine ⟨p, xs, h1, a, b, fun ys es hy => ?_⟩
        have t : Sls K W.bp (upd H p (.lst ys)) B (σ.set i none) (e.set i .un) cs := h3.mono (Same.refl B) fun q hq => upd_ne (ne q hq)
        have n : SlOk K W.bp (upd H p (.lst ys)) B (some (.ref p)) (.bw es) [p] := .bw eb upd_same hy
        obtain ⟨fs, f1, f2, f3⟩ := t.set n i
        rw [set_set', set_set', set_same h1] at f1
        unfold setOwn
        rw [h0]
        refine ⟨fs, f1, f2 k2 (by simp) (fun q hq z => ne q z (List.mem_singleton.mp hq)), fun q hq => ?_, fun b o hb => ?_, fun b o hb => ?_, r.new⟩
        · rcases f3 q hq with z | z
          · exact r.out q (h5 q (List.mem_append_right _ z))
          · rw [List.mem_singleton.mp z]
            exact r.out p hp
        · rw [upd_ne (ne_of_none hb (r.out p hp).1)]
          exact r.bh b o hb
        · rw [upd_ne (ne_of_none hb (r.out p hp).2)]
          exact r.fr b o hb
/-- the value of a slot does not change while an expression is reckoned: xs.append(e) -/
def sApp (i : Nat) (f : M PyData) : Ev → Option Out := fun e => match ownOf e[i]? with
  | none => none
  | some _ => bnd (f e) fun d e1 => match ownOf e1[i]? with
    | none => none
    | some ds => if sz ds.length = true then some (.nx (setOwn e1 i (ds ++ [d]))) else none
theorem ss_app {i : Nat} {t : TE} {f : M PyData} (h : SE K t f) : SS K (tDrop (tBM K "list" rAppend (tVar i) (tCons t tNil))) (sApp i f) := fun W D σ H B e o hf r qn qr => by
  unfold sApp at hf
  cases h0 : ownOf e[i]? with
  | none => rw [h0] at hf; cases hf
  | some ds0 =>
    rw [h0] at hf
    obtain ⟨d, e1, h1, h2⟩ := bnd_some hf
    obtain ⟨p, xs, a1, a2, a3, _⟩ := r.own h0
    refine ⟨_, a1, .inl ⟨rfl, _, SqL.of a2⟩, ?_⟩
    refine h W σ H B e d e1 _ h1 r fun v H1 B1 s1 r1 dv => ?_
    cases h3 : ownOf e1[i]? with
    | none => rw [h3] at h2; cases h2
    | some ds =>
      rw [h3] at h2
      by_cases c : sz ds.length = true
      · have h2 : (if sz ds.length = true then some (Out.nx (setOwn e1 i (ds ++ [d]))) else none) = some o := h2
        rw [if_pos c] at h2
        cases h2
        obtain ⟨p', ys, b1, b2, b3, b4⟩ := r1.own h3
        rw [a1] at b1
        cases b1
        exact ⟨p, ys, v, rfl, rfl, b2, by rw [dpAll_len b3]; exact sz_lt c, qn _ σ _ B1 rfl s1 (b4 _ _ (dpAll_snoc b3 dv))⟩
      · have h2 : (if sz ds.length = true then some (Out.nx (setOwn e1 i (ds ++ [d]))) else none) = some o := h2
        rw [if_neg c] at h2
        cases h2
/-- xs[k] = e: e first, then k -/
def sSetI (i : Nat) (f fk : M PyData) : Ev → Option Out := fun e => bnd (f e) fun d e1 => match ownOf e1[i]? with
  | none => none
  | some _ => bnd (fk e1) fun k e2 => match ownOf e2[i]? with
    | none => none
    | some ds => match k with
      | .int n => match ixN ds.length n with
        | none => none
        | some j => some (.nx (setOwn e2 i (ds.set j d)))
      | _ => none
theorem ss_setI {i : Nat} {t tk : TE} {f fk : M PyData} (h : SE K t f) (hk : SE K tk fk) : SS K (tAsg t (gSub (tVar i) tk rSetL)) (sSetI i f fk) := fun W D σ H B e o hf r qn qr => by
  obtain ⟨d, e1, h1, h2⟩ := bnd_some hf
  refine h W σ H B e d e1 _ h1 r fun v H1 B1 s1 r1 dv => ?_
  cases h0 : ownOf e1[i]? with
  | none => rw [h0] at h2; cases h2
  | some ds0 =>
    rw [h0] at h2
    obtain ⟨p, xs, a1, a2, a3, _⟩ := r1.own h0
    obtain ⟨k, e2, h3, h4⟩ := bnd_some h2
    refine ⟨_, a1, hk W σ H1 B1 e1 k e2 _ h3 r1 fun w H2 B2 s2 r2 dw => ?_⟩
    cases h5 : ownOf e2[i]? with
    | none => rw [h5] at h4; cases h4
    | some ds =>
      rw [h5] at h4
      obtain ⟨p', ys, b1, b2, b3, b4⟩ := r2.own h5
      rw [a1] at b1
      cases b1
      cases k with
      | int n =>
        have h4 : (match ixN ds.length n with | none => none | some j => some (Out.nx (setOwn e2 i (ds.set j d)))) = some o := h4
        cases h6 : ixN ds.length n with
        | none => rw [h6] at h4; cases h4
        | some j =>
          rw [h6] at h4
          cases h4
          rw [dp_int dw]
          exact ⟨p, ys, n, j, rfl, rfl, b2, by rw [dpAll_len b3]; exact h6, qn _ σ _ B2 rfl (s1.trans s2) (b4 _ _ (dpAll_set (dp_mono s2 dv) j b3))⟩
      | none => cases h4
      | bool _ => cases h4
      | str _ => cases h4
      | list _ => cases h4
      | tuple _ => cases h4
      | dict _ => cases h4
/-- xs.pop() -/
def ePop (i : Nat) : M PyData := fun e => match ownOf e[i]? with
  | none => none
  | some ds => match ds[ds.length - 1]? with
    | none => none
    | some d => some (d, setOwn e i ds.dropLast)
theorem dpAll_dropLast {H : Hp} : ∀ {vs : List V} {ds : List PyData}, DpAll K H vs ds → DpAll K H vs.dropLast ds.dropLast
  | _, _, .nil => .nil
  | _, _, .cons _ .nil => .nil
  | _, _, .cons a (.cons b t) => .cons a (dpAll_dropLast (.cons b t))
theorem se_pop {i : Nat} : SE K (tBM0 K "list" rPop (tVar i)) (ePop i) := fun W σ H B e d e' Q hf r q => by
  unfold ePop at hf
  cases h0 : ownOf e[i]? with
  | none => rw [h0] at hf; cases hf
  | some ds =>
    rw [h0] at hf
    obtain ⟨p, xs, a1, a2, a3, a4⟩ := r.own h0
    cases h1 : ds[ds.length - 1]? with
    | none => simp only [h1] at hf; cases hf
    | some y =>
      simp only [h1] at hf
      cases hf
      obtain ⟨v, h2, h3⟩ := dpAll_getD a3 h1
      refine ⟨_, a1, .inl ⟨rfl, _, SqL.of a2⟩, p, xs, v, rfl, rfl, a2, by rw [dpAll_len a3]; exact h2, q v _ B (Same.refl B) (a4 _ _ (dpAll_dropLast a3)) h3⟩
/-- xs[k] of a list or a tuple that a slot holds: the list stays its own -/
def seqOf : Option Sl → Option (List PyData)
  | some (.ow ds) => some ds
  | some (.bw ds) => some ds
  | some (.sh (.list ds)) => some ds
  | some (.sh (.tuple ds)) => some ds
  | _ => none
def eIxV (i : Nat) (fk : M PyData) : M PyData := fun e => match seqOf e[i]? with
  | none => none
  | some _ => bnd (fk e) fun k e1 => match seqOf e1[i]? with
    | none => none
    | some ds => match k with
      | .int n => put (atI ds n) e1
      | _ => none
theorem dpAll_atI {H : Hp} {vs : List V} {ds : List PyData} {n : Int} {d : PyData} (h : DpAll K H vs ds) (e : atI ds n = some d) : ∃ v, atI vs n = some v ∧ Dp K H v d := by
  unfold atI at e ⊢
  rw [dpAll_len h]
  cases hx : ixN ds.length n with
  | none => rw [hx] at e; cases e
  | some j =>
    rw [hx] at e
    exact dpAll_getD h e
theorem Rel.seq {W : Wd} {σ : L2.St} {H B : Hp} {e : Ev} {i : Nat} {ds : List PyData} (r : Rel K W σ H B e) (h : seqOf e[i]? = some ds) : ∃ p xs, σ[i]? = some (some (.ref p)) ∧ (SqL K H p xs ∨ SqT K H p xs) ∧ DpAll K B xs ds := by
  cases h0 : e[i]? with
  | none => rw [h0] at h; cases h
  | some s =>
    cases s with
    | un => rw [h0] at h; cases h
    | ob _ => rw [h0] at h; cases h
    | dc _ => rw [h0] at h; cases h
    | dr _ => rw [h0] at h; cases h
    | st _ _ => rw [h0] at h; cases h
    | sb _ _ => rw [h0] at h; cases h
    | ow d =>
      obtain ⟨p, xs, a1, a2, a3, _⟩ := r.own (i := i) (ds := d) (by rw [h0]; rfl)
      rw [h0] at h
      cases h
      exact ⟨p, xs, a1, .inl (SqL.of a2), a3⟩
    | bw d =>
      obtain ⟨p, xs, a1, a2, a3, _⟩ := r.own (i := i) (ds := d) (by rw [h0]; rfl)
      rw [h0] at h
      cases h
      exact ⟨p, xs, a1, .inl (SqL.of a2), a3⟩
    | sh d =>
      obtain ⟨v, a1, a2⟩ := r.get h0
      rw [h0] at h
      cases d with
      | list d =>
        cases h
        obtain ⟨a, xs, rfl, b1, b2⟩ := dp_lst a2
        exact ⟨a, xs, a1, .inl (r.bh.seq b1), b2⟩
      | tuple d =>
        cases h
        obtain ⟨a, xs, rfl, b1, b2⟩ := dp_tup a2
        exact ⟨a, xs, a1, .inr (seqT r.bh b1), b2⟩
      | none => cases h
      | bool _ => cases h
      | int _ => cases h
      | str _ => cases h
      | dict _ => cases h
theorem se_ixv {i : Nat} {tk : TE} {fk : M PyData} (hk : SE K tk fk) : SE K (tOp (rIx K) (tVar i) tk) (eIxV i fk) := fun W σ H B e d e' Q hf r q => by
  unfold eIxV at hf
  cases h0 : seqOf e[i]? with
  | none => rw [h0] at hf; cases hf
  | some ds0 =>
    rw [h0] at hf
    obtain ⟨k, e1, h1, h2⟩ := bnd_some hf
    obtain ⟨p, xs, a1, _, _⟩ := r.seq h0
    refine ⟨_, a1, hk W σ H B e k e1 _ h1 r fun w H1 B1 s1 r1 dw => ?_⟩
    cases h3 : seqOf e1[i]? with
    | none => rw [h3] at h2; cases h2
    | some ds =>
      rw [h3] at h2
      obtain ⟨p', ys, b1, b2, b3⟩ := r1.seq h3
      rw [a1] at b1
      cases b1
      cases k with
      | int n =>
        obtain ⟨h4, rfl⟩ := put_some h2
        obtain ⟨v, c1, c2⟩ := dpAll_atI b3 h4
        rw [dp_int dw]
        rcases b2 with b2 | b2
        · exact .inl ⟨p, ys, n, v, rfl, rfl, b2, c1, q v H1 B1 s1 r1 c2⟩
        · exact .inr (.inl ⟨p, ys, n, v, rfl, rfl, b2, c1, q v H1 B1 s1 r1 c2⟩)
      | none => cases h2
      | bool _ => cases h2
      | str _ => cases h2
      | list _ => cases h2
      | tuple _ => cases h2
      | dict _ => cases h2
end VL
end
section
set_option Elab.async false
set_option linter.all false
set_option maxRecDepth 100000
set_option maxHeartbeats 2000000
namespace VL
open PySem PySem.Spec PyProof.Rows L2
variable {K : PySem.W.Frag}
/-! ### what a def promises, as a function over data -/
def hide (p : Addr) (H : Hp) : Hp := fun b => if b = p then none else H b
theorem hide_at {p : Addr} {H : Hp} : hide p H p = none := if_pos rfl
theorem hide_ne {p b : Addr} {H : Hp} (h : b ≠ p) : hide p H b = H b := if_neg h
def spS (K : PySem.W.Frag) (F : List PyData → Option Sl) : Sp := fun vs H Q _ => ∃ (B : Hp) (ds : List PyData) (s : Sl), Same B H ∧ DpAll K B vs ds ∧ F ds = some s ∧ ∀ v H' B', Same B B' → Rel K ⟨H, B, none⟩ [some v] H' B' [s] → Q v H'
def fnS (n m : Nat) (f : Ev → Option Out) : List PyData → Option Sl := fun ds => if ds.length = n then (match f (ds.map Sl.sh ++ List.replicate m .un) with
  | none => none
  | some (.nx _) => some (.sh .none)
  | some (.rt s _) => some s) else none
theorem sls_un {bp : Option Addr} {H B : Hp} : ∀ m : Nat, Sls K bp H B (List.replicate m none) (List.replicate m .un) []
  | 0 => .nil
  | m + 1 => .cons (as := []) .un (sls_un m)
theorem sls_sh {bp : Option Addr} {H B : Hp} {σ : L2.St} {e : Ev} {A : List Addr} (h : Sls K bp H B σ e A) : ∀ {vs : List V} {ds : List PyData}, DpAll K B vs ds → Sls K bp H B (vs.map some ++ σ) (ds.map Sl.sh ++ e) A
  | _, _, .nil => h
  | _, _, .cons a t => .cons (as := []) (.sh a) (sls_sh h t)
theorem Rel.nil {W : Wd} {σ : L2.St} {H B : Hp} {e : Ev} (r : Rel K W σ H B e) : Rel K W [] H B [] := by
  obtain ⟨A, r⟩ := r
  exact ⟨[], .nil, List.nodup_nil, fun p hp => (by cases hp), r.bh, r.fr, r.new⟩
theorem Rel.one {W : Wd} {σ : L2.St} {H B : Hp} {e : Ev} {o : Option V} {s : Sl} (r : Rel K W (o :: σ) H B (s :: e)) : Rel K W [o] H B [s] := by
  obtain ⟨A, r⟩ := r
  cases hs : r.sls with
  | @cons _ _ as bs _ _ h t =>
    refine ⟨as ++ [], .cons h .nil, ?_, fun p hp => r.out p ?_, r.bh, r.fr, r.new⟩
    · rw [List.append_nil]
      exact (List.nodup_append.mp r.nd).1
    · rw [List.append_nil] at hp
      exact List.mem_append_left _ hp
theorem start_eq {N : List Str} {vs : List V} {n m : Nat} (hN : N.length = n + m) (hl : vs.length = n) : L2.start N vs = vs.map some ++ List.replicate m none := by
  unfold L2.start
  rw [hN, hl, Nat.add_sub_cancel_left]
section
variable {P : Program} {w : World} {mg : Str → Option Value} {base : Heap}
theorem okS {x qual : Str} {st : Stmt} {f : Addr} {fd : FuncData} {N ps : List Str} {k n m : Nat} {t : TS} {fb : Ev → Option Out} (hs : SS K t fb) (F : Fun K x qual st f fd) (S : FnScope N ps (defScope st)) (hN : N.length = n + m) (hp : ps.length = n)
    (hb : ∀ (cdv : Value) (A : Around) (outer : List Env) (s : Shared) (H : Hp) (E : XK), Room k (A.deeper (envOfC qual (defScope st) s.heap.objs.size f cdv)) → PSs (cxOf CX0 P w K mg base N qual (defScope st) f cdv A outer s H E).nox (defBody st) t) :
    FnOk P w K mg base CX0 (k + 1) f fd ps (spS K (fnS n m fb)) := by
  refine F.ok S (fun vs H Q E h => ?_) (fun cdv A outer s H vs Q E hr h => ?_)
  · obtain ⟨B, ds, sl, _, h2, h3, _⟩ := h
    unfold fnS at h3
    by_cases c : ds.length = n
    · rw [dpAll_len h2, hp, c]
    · rw [if_neg c] at h3
      cases h3
  · refine ⟨t, hb cdv A outer s H E hr, ?_⟩
    obtain ⟨B, ds, sl, bh, h2, h3, q⟩ := h
    unfold fnS at h3
    by_cases c : ds.length = n
    · rw [if_pos c] at h3
      rw [start_eq hN (by rw [dpAll_len h2]; exact c)]
      cases h4 : fb (ds.map Sl.sh ++ List.replicate m .un) with
      | none => rw [h4] at h3; cases h3
      | some o =>
        rw [h4] at h3
        refine hs ⟨H, B, none⟩ _ _ H B _ o h4 ⟨[], sls_sh (sls_un m) h2, List.nodup_nil, fun p hp => (by cases hp), bh, Same.refl H, fun b _ h => h⟩ (fun e' σ' H' B' he sb r => ?_) (fun s' e' v σ' H' B' he sb r => ?_)
        · subst he
          cases h3
          exact q _ H' B' sb (r.nil.cons .non)
        · subst he
          cases h3
          exact q v H' B' sb r.one
    · rw [if_neg c] at h3
      cases h3
end
/-! ### a call -/
theorem Rel.join {W : Wd} {σ : L2.St} {H B H' B' : Hp} {e : Ev} {v : V} {s : Sl} (r : Rel K W σ H B e) (sb : Same B B') (r' : Rel K ⟨H, B, none⟩ [some v] H' B' [s]) : Rel K W (some v :: σ) H' B' (s :: e) := by
  obtain ⟨A, r⟩ := r
  obtain ⟨A', r'⟩ := r'
  have x : Ext H B H' B' := ⟨r'.fr, sb, r'.bh, r'.new⟩
  have r1 := r.ext x
  cases hs : r'.sls with
  | @cons _ _ as bs _ _ h t =>
    cases t with
    | nil =>
      have nA : ∀ p ∈ as, p ∉ A := fun p hp z => r.sls.held p z (r'.out p (List.mem_append_left _ hp)).2
      have h' : SlOk K W.bp H' B' (some v) s as := by
        cases h with
        | un => exact .un
        | sh d => exact .sh d
        | ow a b => exact .ow a b
        | bw a _ _ => cases a
        | ob a b => exact .ob a b
        | dc a b c => exact .dc a b c
        | dr a b c => exact .dr a b c
        | st a => exact .st a
        | sb a _ => cases a
      refine ⟨as ++ A, .cons h' r1.sls, List.nodup_append.mpr ⟨(List.nodup_append.mp r'.nd).1, r.nd, fun x hx y hy z => nA x hx (by rw [z]; exact hy)⟩, fun p hp => ?_, r1.bh, r1.fr, r1.new⟩
      rcases List.mem_append.mp hp with z | z
      · have o := r'.out p (List.mem_append_left _ z)
        exact ⟨o.1, r.fr.free o.2⟩
      · exact r1.out p z
def xFn (F : List PyData → Option Sl) (fa : M (List PyData)) : M Sl := fun e => bnd (fa e) fun ds e1 => put (F ds) e1
theorem sx_fn {F : List PyData → Option Sl} {t : TA} {fa : M (List PyData)} (ha : SA K t fa) : SX K (tCall (spS K F) [] E0 t) (xFn F fa) := fun W σ H B e s e' Q hf r q => by
  obtain ⟨ds, e1, h1, h2⟩ := bnd_some hf
  obtain ⟨h3, rfl⟩ := put_some h2
  refine ha W σ H B e ds e' _ h1 r fun vs H1 B1 s1 r1 dv => ?_
  rw [List.append_nil]
  exact ⟨B1, ds, s, r1.bh, dv, h3, fun v H' B' sb r' => q v H' B' (s1.trans sb) (r1.join sb r')⟩
/-! ### a def that changes the list it is lent -/
def spB (K : PySem.W.Frag) (F : List PyData → List PyData → Option (Sl × List PyData)) : Sp := fun vs H Q _ => ∃ (B : Hp) (p : Addr) (xs : List V) (ds0 : List PyData) (vr : List V) (ds : List PyData) (s : Sl) (ds1 : List PyData), vs = .ref p :: vr ∧ H p = some (.lst xs) ∧ B p = none ∧ Same B H ∧
  DpAll K B xs ds0 ∧ DpAll K B vr ds ∧ F ds0 ds = some (s, ds1) ∧ ∀ v H' B', Same B B' → Rel K ⟨hide p H, B, some p⟩ [some v, some (.ref p)] H' B' [s, .bw ds1] → Q v H'
def lentOf (s : Sl) : Option Sl → Option (Sl × List PyData)
  | some (.bw d) => some (s, d)
  | _ => none
def fnB (n m : Nat) (f : Ev → Option Out) : List PyData → List PyData → Option (Sl × List PyData) := fun ds0 ds => if ds.length = n then (match f (.bw ds0 :: (ds.map Sl.sh ++ List.replicate m .un)) with
  | none => none
  | some (.nx e) => lentOf (.sh .none) e[0]?
  | some (.rt s e) => lentOf s e[0]?) else none
theorem Rel.two {W : Wd} {σ : L2.St} {H B : Hp} {e : Ev} {o : Option V} {s : Sl} {d : List PyData} {p : Addr} (r : Rel K W (o :: σ) H B (s :: e)) (hp : W.bp = some p) (h : e[0]? = some (.bw d)) : Rel K W [o, some (.ref p)] H B [s, .bw d] := by
  obtain ⟨A, r⟩ := r
  cases hs : r.sls with
  | @cons _ _ as bs _ _ h1 t =>
    cases t with
    | nil => cases h
    | @cons _ _ cs fs _ _ h2 t2 =>
      cases h
      cases h2 with
      | @bw p' xs _ eb a b =>
        rw [hp] at eb
        cases eb
        obtain ⟨n1, n2, n3⟩ := List.nodup_append.mp r.nd
        refine ⟨as ++ ([p] ++ []), .cons h1 (.cons (.bw hp a b) .nil), List.nodup_append.mpr ⟨n1, by simp, fun x hx y hy z => ?_⟩, fun q hq => r.out q ?_, r.bh, r.fr, r.new⟩
        · exact n3 x hx y (List.mem_append_left _ hy) z
        · rcases List.mem_append.mp hq with z | z
          · exact List.mem_append_left _ z
          · exact List.mem_append_right _ (List.mem_append_left _ z)
section
variable {P : Program} {w : World} {mg : Str → Option Value} {base : Heap}
theorem okB {x qual : Str} {st : Stmt} {f : Addr} {fd : FuncData} {N ps : List Str} {k n m : Nat} {t : TS} {fb : Ev → Option Out} (hs : SS K t fb) (F : Fun K x qual st f fd) (S : FnScope N ps (defScope st)) (hN : N.length = n + 1 + m) (hp : ps.length = n + 1)
    (hb : ∀ (cdv : Value) (A : Around) (outer : List Env) (s : Shared) (H : Hp) (E : XK), Room k (A.deeper (envOfC qual (defScope st) s.heap.objs.size f cdv)) → PSs (cxOf CX0 P w K mg base N qual (defScope st) f cdv A outer s H E).nox (defBody st) t) :
    FnOk P w K mg base CX0 (k + 1) f fd ps (spB K (fnB n m fb)) := by
  have cut : ∀ {ds0 ds : List PyData} {r : Sl × List PyData}, fnB n m fb ds0 ds = some r → ds.length = n := fun {ds0 ds r} h => by
    unfold fnB at h
    by_cases c : ds.length = n
    · exact c
    · rw [if_neg c] at h
      cases h
  refine F.ok S (fun vs H Q E h => ?_) (fun cdv A outer s H vs Q E hr h => ?_)
  · obtain ⟨B, p, xs, ds0, vr, ds, sl, ds1, rfl, h1, h2, h3, h4, h5, h6, _⟩ := h
    rw [List.length_cons, dpAll_len h5, hp, cut h6]
  · refine ⟨t, hb cdv A outer s H E hr, ?_⟩
    obtain ⟨B, p, xs, ds0, vr, ds, sl, ds1, rfl, h1, h2, bh, h4, h5, h6, q⟩ := h
    have c := cut h6
    have hv : vr.length = n := by rw [dpAll_len h5]; exact c
    unfold fnB at h6
    rw [if_pos c] at h6
    have es : L2.start N (.ref p :: vr) = some (.ref p) :: (vr.map some ++ List.replicate m none) := by
      rw [start_eq hN (by rw [List.length_cons, hv])]
      rfl
    rw [es]
    have r0 : Rel K ⟨hide p H, B, some p⟩ (some (.ref p) :: (vr.map some ++ List.replicate m none)) H B (.bw ds0 :: (ds.map Sl.sh ++ List.replicate m .un)) := by
      refine ⟨[p] ++ [], .cons (.bw rfl h1 h4) (sls_sh (sls_un m) h5), by simp, fun q hq => ?_, bh, fun b o hb => ?_, fun b _ h => h⟩
      · have : q = p := by simpa using hq
        rw [this]
        exact ⟨h2, hide_at⟩
      · by_cases c : b = p
        · have hb : hide p H b = some o := hb
          rw [c, hide_at] at hb
          cases hb
        · have hb : hide p H b = some o := hb
          rw [hide_ne c] at hb
          exact hb
    cases h7 : fb (.bw ds0 :: (ds.map Sl.sh ++ List.replicate m .un)) with
    | none => rw [h7] at h6; cases h6
    | some o =>
      rw [h7] at h6
      refine hs ⟨hide p H, B, some p⟩ _ _ H B _ o h7 r0 (fun e' σ' H' B' he sb r => ?_) (fun s' e' v σ' H' B' he sb r => ?_)
      · subst he
        have h6 : lentOf (.sh .none) e'[0]? = some (sl, ds1) := h6
        cases h8 : e'[0]? with
        | none => rw [h8] at h6; cases h6
        | some s8 =>
          rw [h8] at h6
          cases s8 with
          | bw d =>
            cases h6
            exact q _ H' B' sb ((r.cons (d := .none) .non).two rfl h8)
          | un => cases h6
          | sh _ => cases h6
          | ow _ => cases h6
          | ob _ => cases h6
          | dc _ => cases h6
          | dr _ => cases h6
          | st _ _ => cases h6
          | sb _ _ => cases h6
      · subst he
        have h6 : lentOf s' e'[0]? = some (sl, ds1) := h6
        cases h8 : e'[0]? with
        | none => rw [h8] at h6; cases h6
        | some s8 =>
          rw [h8] at h6
          cases s8 with
          | bw d =>
            cases h6
            exact q v H' B' sb (r.two rfl h8)
          | un => cases h6
          | sh _ => cases h6
          | ow _ => cases h6
          | ob _ => cases h6
          | dc _ => cases h6
          | dr _ => cases h6
          | st _ _ => cases h6
          | sb _ _ => cases h6
end
theorem Rel.ownB {W : Wd} {σ : L2.St} {H B : Hp} {e : Ev} {i : Nat} {ds : List PyData} (r : Rel K W σ H B e) (h : ownOf e[i]? = some ds) : ∃ p xs, σ[i]? = some (some (.ref p)) ∧ H p = some (.lst xs) ∧ DpAll K B xs ds ∧ B p = none ∧
    ∀ v s ds' H' B', Same B B' → Rel K ⟨hide p H, B, some p⟩ [some v, some (.ref p)] H' B' [s, .bw ds'] → Rel K W (some v :: σ) H' B' (s :: setOwn e i ds') := by
  obtain ⟨A, r⟩ := r
  cases h0 : e[i]? with
  | none => rw [h0] at h; cases h
  | some s0 =>
    rw [h0] at h
    obtain ⟨o, bs, cs, h1, h2, h3, h4, h5⟩ := r.sls.out r.nd h0
    -- the place, and what the slot is put back as
    have main : ∀ (p : Addr) (xs : List V) (mk : List PyData → Sl), bs = [p] → o = some (.ref p) → H p = some (.lst xs) → DpAll K B xs ds → (∀ ds', setOwn e i ds' = e.set i (mk ds')) → (∀ H' B' ys ds', H' p = some (.lst ys) → DpAll K B' ys ds' → SlOk K W.bp H' B' (some (.ref p)) (mk ds') [p]) →
        ∃ p xs, σ[i]? = some (some (.ref p)) ∧ H p = some (.lst xs) ∧ DpAll K B xs ds ∧ B p = none ∧ ∀ v s ds' H' B', Same B B' → Rel K ⟨hide p H, B, some p⟩ [some v, some (.ref p)] H' B' [s, .bw ds'] → Rel K W (some v :: σ) H' B' (s :: setOwn e i ds') := by
      intro p xs mk eb eo a b hm hmk
      subst eb eo
      obtain ⟨k1, k2, k3⟩ := List.nodup_append.mp h4
      have hp : p ∈ A := h5 p (List.mem_append_left _ List.mem_cons_self)
      have ne : ∀ q ∈ cs, q ≠ p := fun q hq z => k3 p List.mem_cons_self q hq z.symm
      refine ⟨p, xs, h1, a, b, (r.out p hp).1, fun v s ds' H' B' sb r' => ?_⟩
      obtain ⟨A', r'⟩ := r'
      cases hs : r'.sls with
      | @cons _ _ as _ _ _ g1 t =>
        cases t with
        | @cons _ _ cs2 _ _ _ g2 t2 =>
          cases t2 with
          | nil =>
            cases g2 with
            | @bw p' ys _ eb2 ga gb =>
              obtain ⟨n1, n2, n3⟩ := List.nodup_append.mp r'.nd
              have hm0 : p ∈ as ++ ([p] ++ []) := List.mem_append_right _ List.mem_cons_self
              have keep : ∀ q, q ≠ p → H q ≠ none → H' q = H q := fun q hq hn => by
                have := same_at r'.fr (p := q) (by show hide p H q ≠ none; rw [hide_ne hq]; exact hn)
                rw [this]
                exact hide_ne hq
              have nas : ∀ q ∈ as, q ≠ p := fun q hq z => n3 q hq p List.mem_cons_self z
              have fresh : ∀ q ∈ as, H q = none := fun q hq => by
                have o := (r'.out q (List.mem_append_left _ hq)).2
                have o : hide p H q = none := o
                rw [hide_ne (nas q hq)] at o
                exact o
              have g1' : SlOk K W.bp H' B' (some v) s as := by
                cases g1 with
                | un => exact .un
                | sh d => exact .sh d
                | ow a b => exact .ow a b
                | ob a b => exact .ob a b
                | dc a b c => exact .dc a b c
                | dr a b c => exact .dr a b c
                | st a => exact .st a
                | sb e1 _ =>
                  cases eb2
                  cases e1
                  exact absurd rfl (nas _ List.mem_cons_self)
                | bw e1 _ _ =>
                  cases eb2
                  cases e1
                  exact absurd rfl (nas _ List.mem_cons_self)
              have t0 : Sls K W.bp H' B' (σ.set i none) (e.set i .un) cs := h3.mono sb fun q hq => keep q (ne q hq) (h3.held q hq)
              obtain ⟨fs, f1, f2, f3⟩ := t0.set (hmk H' B' ys ds' ga gb) i
              rw [set_set', set_set', set_same h1] at f1
              rw [hm]
              have nfs : ∀ q ∈ fs, q ∈ A := fun q hq => by
                rcases f3 q hq with z | z
                · exact h5 q (List.mem_append_right _ z)
                · rw [List.mem_singleton.mp z]
                  exact hp
              refine ⟨as ++ fs, .cons g1' f1, List.nodup_append.mpr ⟨n1, f2 k2 (by simp) (fun q hq z => ne q z (List.mem_singleton.mp hq)), fun x hx y hy z => ?_⟩, fun q hq => ?_, r'.bh, fun b o hb => ?_, fun b hb1 hb2 => ?_⟩
              · exact r.sls.held y (nfs y hy) (by rw [← z]; exact fresh x hx)
              · rcases List.mem_append.mp hq with z | z
                · exact ⟨(r'.out q (List.mem_append_left _ z)).1, r.fr.free (fresh q z)⟩
                · refine ⟨?_, (r.out q (nfs q z)).2⟩
                  by_cases c : q = p
                  · rw [c]
                    exact (r'.out p hm0).1
                  · refine r'.new q ?_ (r.out q (nfs q z)).1
                    show hide p H q ≠ none
                    rw [hide_ne c]
                    exact r.sls.held q (nfs q z)
              · have c : b ≠ p := ne_of_none hb (r.out p hp).2
                refine r'.fr b o ?_
                show hide p H b = some o
                rw [hide_ne c]
                exact r.fr b o hb
              · have c : b ≠ p := fun z => hb1 (by rw [z]; exact (r.out p hp).2)
                refine r'.new b ?_ (r.new b hb1 hb2)
                show hide p H b ≠ none
                rw [hide_ne c]
                exact ne_none_of r.fr hb1
    cases s0 with
    | un => cases h
    | sh _ => cases h
    | ob _ => cases h
    | dc _ => cases h
    | dr _ => cases h
    | st _ _ => cases h
    | sb _ _ => cases h
    | ow d =>
      cases h
      cases h2 with
      | @ow p xs _ a b => exact main p xs .ow rfl rfl a b (fun ds' => by unfold setOwn; rw [h0]) fun H' B' ys ds' q1 q2 => .ow q1 q2
    | bw d =>
      cases h
      cases h2 with
      | @bw p xs _ eb a b => exact main p xs .bw rfl rfl a b (fun ds' => by unfold setOwn; rw [h0]) fun H' B' ys ds' q1 q2 => .bw eb q1 q2
/-- f(xs, ..) where f changes xs, which slot i has -/
def xFnB (i : Nat) (F : List PyData → List PyData → Option (Sl × List PyData)) (fa : M (List PyData)) : M Sl := fun e => match ownOf e[i]? with
  | none => none
  | some _ => bnd (fa e) fun ds e1 => match ownOf e1[i]? with
    | none => none
    | some ds0 => match F ds0 ds with
      | none => none
      | some (s, ds1) => some (s, setOwn e1 i ds1)
theorem sx_fnB {i : Nat} {F : List PyData → List PyData → Option (Sl × List PyData)} {t : TA} {fa : M (List PyData)} (ha : SA K t fa) : SX K (tCall (spB K F) [] E0 (tCons (tVar i) t)) (xFnB i F fa) := fun W σ H B e s e' Q hf r q => by
  unfold xFnB at hf
  cases h0 : ownOf e[i]? with
  | none => rw [h0] at hf; cases hf
  | some ds00 =>
    rw [h0] at hf
    obtain ⟨ds, e1, h1, h2⟩ := bnd_some hf
    obtain ⟨p, xs, a1, a2, a3, _⟩ := r.own h0
    refine ⟨_, a1, ha W σ H B e ds e1 _ h1 r fun vs H1 B1 s1 r1 dv => ?_⟩
    cases h3 : ownOf e1[i]? with
    | none => rw [h3] at h2; cases h2
    | some ds0 =>
      rw [h3] at h2
      obtain ⟨p', ys, b1, b2, b3, b4, b5⟩ := r1.ownB h3
      rw [a1] at b1
      cases b1
      have h2 : (match F ds0 ds with | none => none | some (s, ds1) => some (s, setOwn e1 i ds1)) = some (s, e') := h2
      cases h4 : F ds0 ds with
      | none => rw [h4] at h2; cases h2
      | some z =>
        obtain ⟨s', ds1⟩ := z
        rw [h4] at h2
        cases h2
        rw [List.append_nil]
        exact ⟨B1, p, ys, ds0, vs, ds, s, ds1, rfl, b2, b4, r1.bh, b3, dv, h4, fun v H' B' sb r' => q v H' B' (s1.trans sb) (b5 v s ds1 H' B' sb r')⟩
end VL
end
section
set_option Elab.async false
set_option linter.all false
set_option maxRecDepth 100000
set_option maxHeartbeats 2000000
namespace VL
open PySem PySem.Spec PyProof.Rows L2 HT
variable {K : PySem.W.Frag} {X : Cx}
/-! ### rules of values that the library has not -/
def rCatS (K : PySem.W.Frag) : R2 := fun x y H Q => ∃ l b xs zs, x = .ref l ∧ y = .ref b ∧ SqL K H l xs ∧ SqL K H b zs ∧ xs.length + zs.length ≤ sizeLine ∧ ∀ p, H p = none → Q (.ref p) (upd H p (.lst (xs ++ zs)))
theorem op_catS : OpR X (binaryOp .Add) (rCatS X.K) := by
  intro pins s σ H x y v u Q I rx ry h
  obtain ⟨l, b, xs, zs, rfl, rfl, hx, hz, hsz, q⟩ := h
  cases rx
  cases ry
  obtain ⟨its, r, ⟨⟨c1, d1, t1, s1⟩, n, e, ec, ed, et⟩, _⟩ := I.list hx
  obtain ⟨its2, r2, ⟨⟨c2, d2, t2, s2⟩, n2, e2, ec2, ed2, et2⟩, _⟩ := I.list hz
  simp only at ec ed et ec2 ed2 et2
  subst ec ed et ec2 ed2 et2
  have l1 := r.length
  have l2 := r2.length
  refine concat_meets ⟨_, e, rfl⟩ ⟨_, e2, rfl⟩ noFill_list_add seq_list_add PySem.F.slot_list_add PySem.F.entry_list_add (PySem.F.args_list_add_2 _ _) (list_addW l b its.toArray its2.toArray n n2 none none s1 s2 (by rw [List.size_toArray, List.size_toArray]; omega)) ⟨e, e2, ?_⟩
  rw [show its.toArray ++ its2.toArray = (its ++ its2).toArray by simp]
  exact ⟨.ref _, _, I.lnew (t' := s.toks) (r.append r2) (by rw [List.length_append]; omega), rfl, q _ I.fresh⟩
/-- x in a tuple of data -/
def rInT (K : PySem.W.Frag) (neg : Bool) : R2 := fun x y H Q => ∃ d ds, Dp K H x d ∧ Dp K H y (.tuple ds) ∧ SeqAt.shaped d = true ∧ SeqAt.shaped (.tuple ds) = true ∧ Q (.bl (xor neg (ds.any fun z => PyData.eqv z d))) H
theorem op_inTD (hu : X.A.units + 65 < cLine) : OpR X (compareOp .In) (rInT X.K false) := by
  intro pins s σ H x y v u Q I rx ry h
  obtain ⟨d, ds, hd, he, sd, se, q⟩ := h
  obtain ⟨as, r1⟩ := Dp.reads I d x v hd rx
  obtain ⟨bs, r2⟩ := Dp.reads I (.tuple ds) y u he ry
  exact SeqAt.in_tuple_reads r2 r1 (SeqAt.canLay_of_shaped se) (SeqAt.canLay_of_shaped sd) (room_in_shaped sd hu) ⟨.bl _, H, I, rfl, by rw [Bool.false_xor] at q; exact q⟩
theorem op_notInTD (hu : X.A.units + 65 < cLine) : OpR X (compareOp .NotIn) (rInT X.K true) := by
  intro pins s σ H x y v u Q I rx ry h
  obtain ⟨d, ds, hd, he, sd, se, q⟩ := h
  obtain ⟨as, r1⟩ := Dp.reads I d x v hd rx
  obtain ⟨bs, r2⟩ := Dp.reads I (.tuple ds) y u he ry
  exact SeqAt.notIn_tuple_reads r2 r1 (SeqAt.canLay_of_shaped se) (SeqAt.canLay_of_shaped sd) (room_in_shaped sd hu) ⟨.bl _, H, I, rfl, by rw [Bool.true_xor] at q; exact q⟩
/-! ### == and its like -/
def pEq (a b : PyData) : Option PyData := if SeqAt.shaped a = true ∧ SeqAt.shaped b = true then some (.bool (PyData.eqv a b)) else none
def pNe (a b : PyData) : Option PyData := if SeqAt.shaped a = true ∧ SeqAt.shaped b = true then some (.bool (!PyData.eqv a b)) else none
theorem sr_eq : SR2 K (rEqD K) pEq := fun H B x y a b d Q bh ha hb h q => by
  unfold pEq at h
  by_cases c : SeqAt.shaped a = true ∧ SeqAt.shaped b = true
  · rw [if_pos c] at h
    cases h
    exact ⟨a, b, dp_mono bh ha, dp_mono bh hb, c.1, c.2, q _ H B (Ext.refl bh) (.bl _)⟩
  · rw [if_neg c] at h
    cases h
theorem sr_ne : SR2 K (rNeD K) pNe := fun H B x y a b d Q bh ha hb h q => by
  unfold pNe at h
  by_cases c : SeqAt.shaped a = true ∧ SeqAt.shaped b = true
  · rw [if_pos c] at h
    cases h
    exact ⟨a, b, dp_mono bh ha, dp_mono bh hb, c.1, c.2, q _ H B (Ext.refl bh) (.bl _)⟩
  · rw [if_neg c] at h
    cases h
/-! ### whole numbers -/
def pInt (C : Int → Int → Bool) (g : Int → Int → PyData) (a b : PyData) : Option PyData := match a, b with
  | .int i, .int j => if C i j = true then some (g i j) else none
  | _, _ => none
theorem pInt_some {C : Int → Int → Bool} {g : Int → Int → PyData} {a b d : PyData} (h : pInt C g a b = some d) : ∃ i j, a = .int i ∧ b = .int j ∧ C i j = true ∧ d = g i j := by
  unfold pInt at h
  split at h
  · rename_i i j
    by_cases c : C i j = true
    · rw [if_pos c] at h
      cases h
      exact ⟨_, _, rfl, rfl, c, rfl⟩
    · rw [if_neg c] at h
      cases h
  · cases h
def yes2 (_ _ : Int) : Bool := true
theorem sr_I0 {g : Int → Int → V} {g' : Int → Int → PyData} (hg : ∀ i j B, Dp K B (g i j) (g' i j)) : SR2 K (rI0 g) (pInt yes2 g') := fun H B x y a b d Q bh ha hb h q => by
  obtain ⟨i, j, rfl, rfl, _, rfl⟩ := pInt_some h
  exact ⟨i, j, dp_int ha, dp_int hb, q _ H B (Ext.refl bh) (hg i j B)⟩
theorem sr_I {C : Int → Int → Prop} {Cb : Int → Int → Bool} {g : Int → Int → V} {g' : Int → Int → PyData} (hC : ∀ i j, Cb i j = true → C i j) (hg : ∀ i j B, Dp K B (g i j) (g' i j)) : SR2 K (rI C g) (pInt Cb g') := fun H B x y a b d Q bh ha hb h q => by
  obtain ⟨i, j, rfl, rfl, c, rfl⟩ := pInt_some h
  exact ⟨i, j, dp_int ha, dp_int hb, hC i j c, q _ H B (Ext.refl bh) (hg i j B)⟩
def pSub := pInt yes2 fun i j => .int (i - j)
theorem sr_sub : SR2 K (rI0 fun i j => .int (i - j)) pSub := sr_I0 fun i j B => .int _
def pLe := pInt yes2 fun i j => .bool (decide (i ≤ j))
theorem sr_le : SR2 K (rI0 fun i j => .bl (decide (i ≤ j))) pLe := sr_I0 fun i j B => .bl _
def pGt := pInt yes2 fun i j => .bool (decide (j < i))
theorem sr_gt : SR2 K (rI0 fun i j => .bl (decide (j < i))) pGt := sr_I0 fun i j B => .bl _
def pGe := pInt yes2 fun i j => .bool (decide (j ≤ i))
theorem sr_ge : SR2 K (rI0 fun i j => .bl (decide (j ≤ i))) pGe := sr_I0 fun i j B => .bl _
def bMul (i j : Int) : Bool := Nat.blt i.natAbs 18446744073709551616 || Nat.blt j.natAbs 18446744073709551616
theorem bMul_ok {i j : Int} (h : bMul i j = true) : CMul i j := by
  unfold bMul at h
  rcases Bool.or_eq_true _ _ |>.mp h with h | h
  · have := Nat.blt_eq.mp h
    exact .inl ⟨by omega, by omega⟩
  · have := Nat.blt_eq.mp h
    exact .inr ⟨by omega, by omega⟩
def pMul := pInt bMul fun i j => .int (i * j)
theorem sr_mul : SR2 K (rI CMul fun i j => .int (i * j)) pMul := sr_I (fun i j => bMul_ok) fun i j B => .int _
def bDiv (i j : Int) : Bool := decide (0 < j) && decide (j < 1073741824)
theorem bDiv_ok {i j : Int} (h : bDiv i j = true) : CDiv i j := by
  unfold bDiv at h
  rw [Bool.and_eq_true, decide_eq_true_eq, decide_eq_true_eq] at h
  exact h
def pFdiv := pInt bDiv fun i j => .int (i / j)
theorem sr_fdiv : SR2 K (rI CDiv fun i j => .int (i / j)) pFdiv := sr_I (fun i j => bDiv_ok) fun i j B => .int _
def bMod (i j : Int) : Bool := decide (0 < j)
def pMod := pInt bMod fun i j => .int (i % j)
theorem sr_mod : SR2 K (rI (fun _ j => 0 < j) fun i j => .int (i % j)) pMod := sr_I (fun i j h => of_decide_eq_true h) fun i j B => .int _
def bPow (i j : Int) : Bool := decide (0 ≤ j) && decide (j ≤ 1000000) && Nat.blt i.natAbs 18446744073709551616
theorem bPow_ok {i j : Int} (h : bPow i j = true) : CPow i j := by
  unfold bPow at h
  rw [Bool.and_eq_true, Bool.and_eq_true, decide_eq_true_eq, decide_eq_true_eq] at h
  exact ⟨h.1.1, h.1.2, Nat.blt_eq.mp h.2⟩
def pPow := pInt bPow fun i j => .int (i ^ j.toNat)
theorem sr_pow : SR2 K (rI CPow fun i j => .int (i ^ j.toNat)) pPow := sr_I (fun i j => bPow_ok) fun i j B => .int _
def pNeg : PyData → Option PyData
  | .int i => some (.int (-i))
  | _ => none
theorem sr_neg : SR1 K (rU fun i => .int (-i)) pNeg := fun H B x a d Q bh ha h q => by
  cases a with
  | int i =>
    cases h
    exact ⟨i, dp_int ha, q _ H B (Ext.refl bh) (.int _)⟩
  | none => cases h
  | bool _ => cases h
  | str _ => cases h
  | list _ => cases h
  | tuple _ => cases h
  | dict _ => cases h
/-! ### order of whole numbers, and of tuples of them -/
def intsOf : List PyData → Option (List Int)
  | [] => some []
  | .int i :: r => match intsOf r with
    | none => none
    | some ns => some (i :: ns)
  | _ :: _ => none
theorem intsOf_some : ∀ {ds : List PyData} {ns : List Int}, intsOf ds = some ns → ds = ns.map PyData.int
  | [], ns, h => by
    cases Option.some.inj h
    rfl
  | .int i :: r, ns, h => by
    unfold intsOf at h
    cases e : intsOf r with
    | none => rw [e] at h; cases h
    | some m =>
      rw [e] at h
      cases h
      rw [intsOf_some e]
      rfl
  | .none :: _, _, h => by cases h
  | .bool _ :: _, _, h => by cases h
  | .str _ :: _, _, h => by cases h
  | .list _ :: _, _, h => by cases h
  | .tuple _ :: _, _, h => by cases h
  | .dict _ :: _, _, h => by cases h
def pLt (a b : PyData) : Option PyData := match a, b with
  | .int i, .int j => some (.bool (decide (i < j)))
  | .tuple xs, .tuple ys => match intsOf xs, intsOf ys with
    | some ns, some ms => some (.bool (lexLt ns ms))
    | _, _ => none
  | _, _ => none
def rLtA (K : PySem.W.Frag) : R2 := fun x y H Q => rI0 (fun i j => .bl (decide (i < j))) x y H Q ∨ rLtT K x y H Q
theorem op_ltA (hu : X.A.units < cLine) : OpR X (compareOp .Lt) (rLtA X.K) := op_lt.or (op_ltT hu)
theorem sr_lt : SR2 K (rLtA K) pLt := fun H B x y a b d Q bh ha hb h q => by
  unfold pLt at h
  split at h
  · cases h
    exact .inl ⟨_, _, dp_int ha, dp_int hb, q _ H B (Ext.refl bh) (.bl _)⟩
  · rename_i xs ys
    cases e1 : intsOf xs with
    | none => simp only [e1] at h; cases h
    | some ns =>
      cases e2 : intsOf ys with
      | none => simp only [e1, e2] at h; cases h
      | some ms =>
        simp only [e1, e2] at h
        cases h
        rw [intsOf_some e1] at ha
        rw [intsOf_some e2] at hb
        obtain ⟨p, us, rfl, h1, h2⟩ := dp_tup ha
        obtain ⟨p', ws, rfl, h3, h4⟩ := dp_tup hb
        rw [dpAll_ints h2] at h1
        rw [dpAll_ints h4] at h3
        exact .inr ⟨p, p', ns, ms, rfl, rfl, seqT bh h1, seqT bh h3, q _ H B (Ext.refl bh) (.bl _)⟩
  · cases h
/-! ### in -/
def pIn (neg : Bool) (a b : PyData) : Option PyData := match b with
  | .list ds => if SeqAt.shaped a = true ∧ SeqAt.shaped (.list ds) = true then some (.bool (xor neg (ds.any fun z => PyData.eqv z a))) else none
  | .tuple ds => if SeqAt.shaped a = true ∧ SeqAt.shaped (.tuple ds) = true then some (.bool (xor neg (ds.any fun z => PyData.eqv z a))) else none
  | _ => none
def rInA (K : PySem.W.Frag) : R2 := fun x y H Q => rInD K x y H Q ∨ rInT K false x y H Q
def rNotInA (K : PySem.W.Frag) : R2 := fun x y H Q => rNotInD K x y H Q ∨ rInT K true x y H Q
theorem op_inA (hu : X.A.units + 65 < cLine) : OpR X (compareOp .In) (rInA X.K) := (op_inD hu).or (op_inTD hu)
theorem op_notInA (hu : X.A.units + 65 < cLine) : OpR X (compareOp .NotIn) (rNotInA X.K) := (op_notInD hu).or (op_notInTD hu)
theorem pIn_some {neg : Bool} {a b d : PyData} (h : pIn neg a b = some d) : ∃ ds, (b = .list ds ∧ SeqAt.shaped (.list ds) = true ∨ b = .tuple ds ∧ SeqAt.shaped (.tuple ds) = true) ∧ SeqAt.shaped a = true ∧ d = .bool (xor neg (ds.any fun z => PyData.eqv z a)) := by
  cases b with
  | list ds =>
    unfold pIn at h
    by_cases c : SeqAt.shaped a = true ∧ SeqAt.shaped (.list ds) = true
    · simp only [if_pos c] at h
      cases h
      exact ⟨ds, .inl ⟨rfl, c.2⟩, c.1, rfl⟩
    · simp only [if_neg c] at h
      cases h
  | tuple ds =>
    unfold pIn at h
    by_cases c : SeqAt.shaped a = true ∧ SeqAt.shaped (.tuple ds) = true
    · simp only [if_pos c] at h
      cases h
      exact ⟨ds, .inr ⟨rfl, c.2⟩, c.1, rfl⟩
    · simp only [if_neg c] at h
      cases h
  | none => cases h
  | bool _ => cases h
  | int _ => cases h
  | str _ => cases h
  | dict _ => cases h
theorem sr_in : SR2 K (rInA K) (pIn false) := fun H B x y a b d Q bh ha hb h q => by
  obtain ⟨ds, hb', sa, rfl⟩ := pIn_some h
  have q' := q _ H B (Ext.refl bh) (.bl _)
  rcases hb' with ⟨rfl, sb⟩ | ⟨rfl, sb⟩
  · refine .inl ⟨a, ds, dp_mono bh ha, dp_mono bh hb, sa, sb, ?_⟩
    rw [Bool.false_xor] at q'
    exact q'
  · exact .inr ⟨a, ds, dp_mono bh ha, dp_mono bh hb, sa, sb, q'⟩
theorem sr_notIn : SR2 K (rNotInA K) (pIn true) := fun H B x y a b d Q bh ha hb h q => by
  obtain ⟨ds, hb', sa, rfl⟩ := pIn_some h
  have q' := q _ H B (Ext.refl bh) (.bl _)
  rcases hb' with ⟨rfl, sb⟩ | ⟨rfl, sb⟩
  · refine .inl ⟨a, ds, dp_mono bh ha, dp_mono bh hb, sa, sb, ?_⟩
    rw [Bool.true_xor] at q'
    exact q'
  · exact .inr ⟨a, ds, dp_mono bh ha, dp_mono bh hb, sa, sb, q'⟩
/-! ### is None, is True -/
def isN : PyData → Bool
  | .none => true
  | _ => false
def pIs (neg : Bool) (a b : PyData) : Option PyData := match b with
  | .none => some (.bool (xor neg (isN a)))
  | .bool c => match a with
    | .bool k => some (.bool (xor neg (decide (k = c))))
    | _ => none
  | _ => none
def rIsA : R2 := fun x y H Q => (y = .non ∧ Q (.bl (decide (x = .non))) H) ∨ rIsB x y H Q
def rNotA : R2 := fun x y H Q => (y = .non ∧ Q (.bl (!decide (x = .non))) H) ∨ rNotB x y H Q
theorem op_isA : OpR X (compareOp .Is) rIsA := op_isN.or op_isBl
theorem op_isnotA : OpR X (compareOp .IsNot) rNotA := op_notN.or op_notBl
theorem dp_isN {H : Hp} {v : V} {d : PyData} (h : Dp K H v d) : decide (v = .non) = isN d := by
  cases h with
  | non => rfl
  | bl _ => rfl
  | int _ => rfl
  | str _ => rfl
  | lst _ _ => rfl
  | tup _ _ => rfl
theorem sr_is : SR2 K rIsA (pIs false) := fun H B x y a b d Q bh ha hb h q => by
  cases b with
  | none =>
    cases h
    have q' := q _ H B (Ext.refl bh) (.bl _)
    rw [Bool.false_xor, ← dp_isN ha] at q'
    exact .inl ⟨dp_non hb, q'⟩
  | bool c =>
    cases a with
    | bool k =>
      cases h
      have q' := q _ H B (Ext.refl bh) (.bl _)
      rw [Bool.false_xor] at q'
      exact .inr ⟨k, c, dp_bl ha, dp_bl hb, q'⟩
    | none => cases h
    | int _ => cases h
    | str _ => cases h
    | list _ => cases h
    | tuple _ => cases h
    | dict _ => cases h
  | int _ => cases h
  | str _ => cases h
  | list _ => cases h
  | tuple _ => cases h
  | dict _ => cases h
theorem sr_isnot : SR2 K rNotA (pIs true) := fun H B x y a b d Q bh ha hb h q => by
  cases b with
  | none =>
    cases h
    have q' := q _ H B (Ext.refl bh) (.bl _)
    rw [Bool.true_xor, ← dp_isN ha] at q'
    exact .inl ⟨dp_non hb, q'⟩
  | bool c =>
    cases a with
    | bool k =>
      cases h
      have q' := q _ H B (Ext.refl bh) (.bl _)
      rw [Bool.true_xor] at q'
      exact .inr ⟨k, c, dp_bl ha, dp_bl hb, q'⟩
    | none => cases h
    | int _ => cases h
    | str _ => cases h
    | list _ => cases h
    | tuple _ => cases h
    | dict _ => cases h
  | int _ => cases h
  | str _ => cases h
  | list _ => cases h
  | tuple _ => cases h
  | dict _ => cases h
/-! ### subscripts -/
def pIx (a b : PyData) : Option PyData := match a, b with
  | .list ds, .int i => atI ds i
  | .tuple ds, .int i => atI ds i
  | _, _ => none
theorem sr_ix : SR2 K (rIx K) pIx := fun H B x y a b d Q bh ha hb h q => by
  unfold pIx at h
  split at h
  · obtain ⟨p, xs, rfl, h1, h2⟩ := dp_lst ha
    obtain ⟨v, e, dv⟩ := dpAll_atI h2 h
    exact .inl ⟨p, xs, _, v, rfl, dp_int hb, bh.seq h1, e, q v H B (Ext.refl bh) dv⟩
  · obtain ⟨p, xs, rfl, h1, h2⟩ := dp_tup ha
    obtain ⟨v, e, dv⟩ := dpAll_atI h2 h
    exact .inr (.inl ⟨p, xs, _, v, rfl, dp_int hb, seqT bh h1, e, q v H B (Ext.refl bh) dv⟩)
  · cases h
/-! ### what may be a list of its own -/
/-- an operator whose value is shared data or a new list -/
def SRs2 (K : PySem.W.Frag) (r : R2) (g : PyData → PyData → Option Sl) : Prop := ∀ (H B : Hp) (x y : V) (a b : PyData) (s : Sl) (Q : VK), Same B H → Dp K B x a → Dp K B y b → g a b = some s →
  (∀ d v H' B', s = .sh d → Ext H B H' B' → Dp K B' v d → Q v H') → (∀ ds p ys H1 B1, s = .ow ds → Ext H B H1 B1 → H1 p = none → DpAll K B1 ys ds → Q (.ref p) (upd H1 p (.lst ys))) → r x y H Q
def xOps (g : PyData → PyData → Option Sl) (fa fb : M PyData) : M Sl := fun e => bnd (fa e) fun a e1 => bnd (fb e1) fun b e2 => put (g a b) e2
theorem sx_ops {r : R2} {g : PyData → PyData → Option Sl} {ta tb : TE} {fa fb : M PyData} (hr : SRs2 K r g) (ha : SE K ta fa) (hb : SE K tb fb) : SX K (tOp r ta tb) (xOps g fa fb) := fun W σ H B e s e' Q hf rl q => by
  obtain ⟨a, e1, h1, hf⟩ := bnd_some hf
  obtain ⟨b, e2, h2, hf⟩ := bnd_some hf
  obtain ⟨h3, rfl⟩ := put_some hf
  refine ha W σ H B e a e1 _ h1 rl fun x H1 B1 s1 r1 dx => ?_
  refine hb W σ H1 B1 e1 b e' _ h2 r1 fun y H2 B2 s2 r2 dy => ?_
  refine hr H2 B2 x y a b s Q r2.bh (dp_mono s2 dx) dy h3 (fun d v H' B' es x dv => ?_) (fun ds p ys H' B' es x hp dv => ?_)
  · subst es
    exact q v H' B' ((s1.trans s2).trans x.b) ((r2.ext x).cons dv)
  · subst es
    exact q _ _ B' ((s1.trans s2).trans x.b) ((r2.ext x).born hp dv)
def pAdd (a b : PyData) : Option Sl := match a, b with
  | .int i, .int j => some (.sh (.int (i + j)))
  | .tuple xs, .tuple ys => if sz (xs.length + ys.length) = true then some (.sh (.tuple (xs ++ ys))) else none
  | .list xs, .list ys => if sz (xs.length + ys.length) = true then some (.ow (xs ++ ys)) else none
  | _, _ => none
def rAddA (K : PySem.W.Frag) : R2 := fun x y H Q => rI0 (fun i j => .int (i + j)) x y H Q ∨ rCatA K x y H Q ∨ rCatS K x y H Q
theorem op_addA : OpR X (binaryOp .Add) (rAddA X.K) := op_add.or (op_catA.or op_catS)
theorem sr_add : SRs2 K (rAddA K) pAdd := fun H B x y a b s Q bh ha hb h q1 q2 => by
  unfold pAdd at h
  split at h
  · cases h
    exact .inl ⟨_, _, dp_int ha, dp_int hb, q1 _ _ H B rfl (Ext.refl bh) (.int _)⟩
  · rename_i xs ys
    by_cases c : sz (xs.length + ys.length) = true
    · rw [if_pos c] at h
      cases h
      obtain ⟨p, us, rfl, h1, h2⟩ := dp_tup ha
      obtain ⟨p', ws, rfl, h3, h4⟩ := dp_tup hb
      refine .inr (.inl ⟨p, p', us, ws, rfl, rfl, seqT bh h1, seqT bh h3, by rw [dpAll_len h2, dpAll_len h4]; exact sz_le c, fun e => ?_, fun _ e => ?_, fun _ _ r hr => ?_⟩)
      · subst e
        cases h2
        exact q1 _ _ H B rfl (Ext.refl bh) (.tup h3 h4)
      · subst e
        cases h4
        exact q1 _ _ H B rfl (Ext.refl bh) (.tup h1 (by rw [List.append_nil]; exact h2))
      · have x := Ext.new (o := .tup (us ++ ws)) bh hr
        exact q1 _ _ _ _ rfl x (.tup (SqT.of upd_same) (dpAll_mono x.b (dpAll_app h2 h4)))
    · rw [if_neg c] at h
      cases h
  · rename_i xs ys
    by_cases c : sz (xs.length + ys.length) = true
    · rw [if_pos c] at h
      cases h
      obtain ⟨p, us, rfl, h1, h2⟩ := dp_lst ha
      obtain ⟨p', ws, rfl, h3, h4⟩ := dp_lst hb
      exact .inr (.inr ⟨p, p', us, ws, rfl, rfl, bh.seq h1, bh.seq h3, by rw [dpAll_len h2, dpAll_len h4]; exact sz_le c, fun r hr => q2 _ r _ H B rfl (Ext.refl bh) hr (dpAll_app h2 h4)⟩)
    · rw [if_neg c] at h
      cases h
  · cases h
/-- [a, ..] * n -/
def xRep (fa : M (List PyData)) (fb : M PyData) : M Sl := fun e => bnd (xLst fa e) fun s e1 => bnd (fb e1) fun b e2 => match s, b with
  | .ow ds, .int n => if inR n = true ∧ sz (ds.length * n.toNat) = true then some (.ow (List.replicate n.toNat ds).flatten, e2) else none
  | _, _ => none
theorem dpAll_rep {H : Hp} {vs : List V} {ds : List PyData} (h : DpAll K H vs ds) : ∀ k : Nat, DpAll K H (List.replicate k vs).flatten (List.replicate k ds).flatten
  | 0 => .nil
  | k + 1 => by
    rw [List.replicate_succ, List.replicate_succ, List.flatten_cons, List.flatten_cons]
    exact dpAll_app h (dpAll_rep h k)
theorem sx_rep {ta : TA} {tb : TE} {fa : M (List PyData)} {fb : M PyData} (ha : SA K ta fa) (hb : SE K tb fb) : SX K (tOp rRep (tLst ta) tb) (xRep fa fb) := fun W σ H B e s e' Q hf r q => by
  obtain ⟨s1, e1, h1, hf⟩ := bnd_some hf
  obtain ⟨b, e2, h2, hf⟩ := bnd_some hf
  refine sx_lst ha W σ H B e s1 e1 _ h1 r fun v H1 B1 sb1 r1 => ?_
  cases s1 with
  | ow ds =>
    cases b with
    | int n =>
      have hf : (if inR n = true ∧ sz (ds.length * n.toNat) = true then some (Sl.ow (List.replicate n.toNat ds).flatten, e2) else none) = some (s, e') := hf
      by_cases c : inR n = true ∧ sz (ds.length * n.toNat) = true
      · rw [if_pos c] at hf
        cases hf
        obtain ⟨p, xs, rfl, hp, hd, rp, back⟩ := r1.park
        refine hb _ σ H1 B1 e1 (.int n) _ _ h2 rp fun w H2 B2 sb2 r2 dw => ?_
        obtain ⟨r3, hp2⟩ := back σ H2 B2 _ sb2 r2
        obtain ⟨q1, q2⟩ := inR_of c.1
        refine ⟨p, n, xs, rfl, dp_int dw, hp2, by omega, by omega, by rw [dpAll_len hd]; exact sz_le c.2, fun l hl => ?_⟩
        exact q _ _ B2 (sb1.trans sb2) (r3.tail.born hl (dpAll_rep (dpAll_mono sb2 hd) _))
      · rw [if_neg c] at hf
        cases hf
    | none => cases hf
    | bool _ => cases hf
    | str _ => cases hf
    | list _ => cases hf
    | tuple _ => cases hf
    | dict _ => cases hf
  | un => cases b <;> cases hf
  | sh _ => cases b <;> cases hf
  | bw _ => cases b <;> cases hf
  | ob _ => cases b <;> cases hf
  | dc _ => cases b <;> cases hf
  | dr _ => cases b <;> cases hf
  | st _ _ => cases b <;> cases hf
  | sb _ _ => cases b <;> cases hf
/-! ### slices -/
def oNo : M (Option Int) := fun e => some (none, e)
def oSome (f : M PyData) : M (Option Int) := fun e => bnd (f e) fun d e1 => match d with
  | .int i => some (some i, e1)
  | _ => none
theorem so_no : SO K tNoPart oNo := fun W σ H B e o e' Q hf r q => by
  cases hf
  exact q H B (Same.refl B) r
theorem so_some {t : TE} {f : M PyData} (h : SE K t f) : SO K (tPart t) (oSome f) := fun W σ H B e o e' Q hf r q => by
  obtain ⟨d, e1, h1, h2⟩ := bnd_some hf
  refine h W σ H B e d e1 _ h1 r fun v H' B' sb r' dv => ?_
  cases d with
  | int i =>
    cases h2
    exact ⟨i, dp_int dv, q H' B' sb r'⟩
  | none => cases h2
  | bool _ => cases h2
  | str _ => cases h2
  | list _ => cases h2
  | tuple _ => cases h2
  | dict _ => cases h2
def cutD (ds : List PyData) (lo hi : Option Int) : List PyData := (ds.drop (sIx ds.length 0 lo)).take (sIx ds.length ds.length hi - sIx ds.length 0 lo)
theorem dpAll_cut {H : Hp} {vs : List V} {ds : List PyData} {lo hi : Option Int} (h : DpAll K H vs ds) : DpAll K H (cutV vs lo hi) (cutD ds lo hi) := by
  unfold cutV cutD
  rw [dpAll_len h]
  exact dpAll_take _ (dpAll_drop _ h)
def pSl (d : PyData) (lo hi : Option Int) : Option Sl := match d with
  | .list ds => some (.ow (cutD ds lo hi))
  | .tuple ds => some (.sh (.tuple (cutD ds lo hi)))
  | _ => none
def rSlX (K : PySem.W.Frag) : V → Option Int → Option Int → Hp → VK → Prop := fun x lo hi H Q => rSlL K x lo hi H Q ∨ rSlA K x lo hi H Q
theorem sl_X : SlR X (rSlX X.K) := sl_list.or sl_tupA
def xSl (f : M PyData) (fl fh : M (Option Int)) : M Sl := fun e => bnd (f e) fun d e1 => bnd (fl e1) fun lo e2 => bnd (fh e2) fun hi e3 => put (pSl d lo hi) e3
theorem cutD_all {ds : List PyData} {lo hi : Option Int} (h : sIx ds.length 0 lo = 0 ∧ sIx ds.length ds.length hi = ds.length) : cutD ds lo hi = ds := by
  unfold cutD
  rw [h.1, h.2, List.drop_zero, Nat.sub_zero, List.take_length]
theorem sx_slice {t : TE} {tl th : TO} {f : M PyData} {fl fh : M (Option Int)} (h : SE K t f) (hl : SO K tl fl) (hh : SO K th fh) : SX K (tSl (rSlX K) t tl th) (xSl f fl fh) := fun W σ H B e s e' Q hf r q => by
  obtain ⟨d, e1, h1, hf⟩ := bnd_some hf
  obtain ⟨lo, e2, h2, hf⟩ := bnd_some hf
  obtain ⟨hi, e3, h3, hf⟩ := bnd_some hf
  obtain ⟨h4, rfl⟩ := put_some hf
  refine h W σ H B e d e1 _ h1 r fun v H1 B1 s1 r1 dv => ?_
  refine hl W σ H1 B1 e1 lo e2 _ h2 r1 fun H2 B2 s2 r2 => ?_
  refine hh W σ H2 B2 e2 hi e' _ h3 r2 fun H3 B3 s3 r3 => ?_
  have sb := (s1.trans s2).trans s3
  have dv := dp_mono (s2.trans s3) dv
  cases d with
  | list ds =>
    cases h4
    obtain ⟨a, xs, rfl, b1, b2⟩ := dp_lst dv
    exact .inl ⟨a, xs, rfl, r3.bh.seq b1, fun p hp => q _ _ B3 sb (r3.born hp (dpAll_cut b2))⟩
  | tuple ds =>
    cases h4
    obtain ⟨a, xs, rfl, b1, b2⟩ := dp_tup dv
    have hl := dpAll_len b2
    refine .inr ⟨a, xs, rfl, seqT r3.bh b1, fun c => ?_, fun _ p hp => ?_⟩
    · rw [hl] at c
      rw [cutD_all c] at q
      exact q _ H3 B3 sb (r3.cons (.tup b1 b2))
    · have x := Ext.new (o := .tup (cutV xs lo hi)) r3.bh hp
      exact q _ _ _ (sb.trans x.b) ((r3.ext x).cons (.tup (SqT.of upd_same) (dpAll_mono x.b (dpAll_cut b2))))
  | none => cases h4
  | bool _ => cases h4
  | int _ => cases h4
  | str _ => cases h4
  | dict _ => cases h4
/-! ### truth -/
theorem st_tru {t : TE} {f : M PyData} (h : SE K t f) : ST K (fun σ H Q => t σ H fun x H' => ∃ k, TruV K x H' k ∧ Q k H') (bTru f) := fun W σ H B e b e' Q hf r q => by
  obtain ⟨d, e1, h1, hf⟩ := bnd_some hf
  obtain ⟨h2, rfl⟩ := put_some hf
  refine h W σ H B e d e' _ h1 r fun v H' B' sb r' dv => ⟨b, ?_, q H' B' sb r'⟩
  cases dv with
  | non => cases h2; rfl
  | bl b => cases h2; rfl
  | int i => cases h2; rfl
  | str _ => cases h2
  | lst hs ha =>
    cases h2
    refine .inl ⟨_, r'.bh.seq hs, ?_⟩
    cases ha <;> rfl
  | tup hs ha =>
    cases h2
    refine .inr (.inl ⟨_, seqT r'.bh hs, ?_⟩)
    cases ha <;> rfl
def eOrT (fa fb : M PyData) : M PyData := fun e => bnd (fa e) fun a e1 => match pTru a with
  | none => none
  | some true => some (a, e1)
  | some false => fb e1
theorem truV {H B : Hp} {v : V} {d : PyData} {b : Bool} (dv : Dp K B v d) (bh : Same B H) (h2 : pTru d = some b) : TruV K v H b := by
  cases dv with
  | non => cases h2; rfl
  | bl b => cases h2; rfl
  | int i => cases h2; rfl
  | str _ => cases h2
  | lst hs ha =>
    cases h2
    refine .inl ⟨_, bh.seq hs, ?_⟩
    cases ha <;> rfl
  | tup hs ha =>
    cases h2
    refine .inr (.inl ⟨_, seqT bh hs, ?_⟩)
    cases ha <;> rfl
theorem se_orT {ta tb : TE} {fa fb : M PyData} (ha : SE K ta fa) (hb : SE K tb fb) : SE K (tOrT K ta tb) (eOrT fa fb) := fun W σ H B e d e' Q hf r q => by
  obtain ⟨a, e1, h1, hf⟩ := bnd_some hf
  refine ha W σ H B e a e1 _ h1 r fun v H1 B1 s1 r1 dv => ?_
  cases h2 : pTru a with
  | none => rw [h2] at hf; cases hf
  | some k =>
    rw [h2] at hf
    refine ⟨k, truV dv r1.bh h2, ?_⟩
    cases k with
    | true =>
      cases hf
      exact q v H1 B1 s1 r1 dv
    | false => exact hb W σ H1 B1 e1 d e' Q hf r1 fun w H2 B2 s2 r2 => q w H2 B2 (s1.trans s2) r2
end VL
end
section
set_option Elab.async false
set_option linter.all false
set_option maxRecDepth 100000
set_option maxHeartbeats 2000000
namespace VL
open PySem PySem.Spec PyProof.Rows L2 HT RZ
open AutoSeq1 (wpAny_loadPart')
/-! ### enumerate(t), t a tuple -/
abbrev tupIt (t : Addr) : Obj := { cls := .type "tuple_iterator", data := .fields #[.ref t, .int 0 0] }
abbrev enumO (it : Addr) : Obj := { cls := .type "enumerate", data := .fields #[.none, .bool false, .ref it, rawInt 0, .none, .none] }
theorem enum_meets (t : Addr) (items : Array Value) (n : Nat) (dct : Option Addr) (sl : Array (Option Value)) : Meets (Builtin.«enumerate.__new__» ⟨[.type "enumerate", .ref t], []⟩) fun _ R s =>
    s.heap.get? t = some { cls := .type "tuple", dict := dct, data := .seq items n, slots := sl } ∧ R (.ok (.ret (.ref (s.heap.push (tupIt t)).objs.size))) { s with heap := (s.heap.push (tupIt t)).push (enumO s.heap.objs.size) } :=
  .of_wp fun prog w A R s h => by
    obtain ⟨hp, g, d, tk, os⟩ := s
    obtain ⟨hl, h⟩ := h
    have sub := sub_enumerate
    have hT : Heap.IsTuple (Shared.heap ⟨hp, g, d, tk, os⟩) t items := ⟨_, hl, rfl, n, rfl⟩
    wp_walk using wpAny_loadPart' hl
    refine wpAny_stack_any fun st => wpAny_pure ?_
    split
    · rename_i c _ _ _ _ _
      cases c == Value.type "enumerate" <;> (wp_walk using wpAny_loadPart' hl, wpAny_pyIter_tuple hT; exact ⟨_, rfl, h⟩)
    · wp_walk using wpAny_loadPart' hl, wpAny_pyIter_tuple hT
      exact ⟨_, rfl, h⟩
theorem call_enum {prog : Program} {w : World} {A : Around} {E : Value → Shared → Prop} {s : Shared} {t : Addr} {items : Array Value} {Q : Value → Shared → Prop} (ht : IsTup s.heap t items)
    (h : ∀ h', IsEnum h' (s.heap.objs.size + 1) s.heap.objs.size 0 .none → h'.IsTupleIter s.heap.objs.size t 0 → (∀ b o, s.heap.get? b = some o → h'.get? b = some o) → Q (.ref (s.heap.objs.size + 1)) { s with heap := h' }) :
    wpAny (model prog w) A (call (.type "enumerate") [.ref t]) Q E s := by
  obtain ⟨⟨c, dct, dt, sl⟩, hl, hc, n, hd⟩ := ht
  simp only at hc hd
  subst hc hd
  refine callType_new PySem.F.called_enumerate (by decide) (PySem.F.typeCall_enumerate_1 _) (PySem.F.newCall_enumerate_1 _) (fun obj => PySem.F.args_object_init_2 obj _) PySem.F.entry_enumerate_new (enum_meets t items n dct sl) ⟨hl, ?_⟩
  have hz : (s.heap.push (tupIt t)).objs.size = s.heap.objs.size + 1 := Heap.size_push ..
  have he : IsEnum ((s.heap.push (tupIt t)).push (enumO s.heap.objs.size)) (s.heap.objs.size + 1) s.heap.objs.size 0 .none := by
    have z := Heap.get?_push_size (s.heap.push (tupIt t)) (o := enumO s.heap.objs.size) rfl
    rw [hz] at z
    exact z
  show _ ∧ _
  rw [hz]
  exact ⟨⟨_, he, rfl⟩, h _ he ⟨_, Heap.get?_push_of_some _ (Heap.get?_push_size _ rfl), rfl, rfl⟩ fun b o x => Heap.get?_push_of_some _ (Heap.get?_push_of_some _ x)⟩
/-- the tuple at a, each item in a new pair with its place -/
def IteT (K : PySem.W.Frag) (a : Addr) : It where
  go := fun i H => ∃ (xs : List V) (x : V), SqT K H a xs ∧ xs[i]? = some x
  yld := fun i H v H' => ∃ T x, v = .ref T ∧ H T = none ∧ H' = upd H T (.tup [.int (i : Nat), x]) ∧ ∀ xs, SqT K H a xs → xs[i]? = some x
  stop := fun i H => ∃ xs : List V, SqT K H a xs ∧ xs.length = i
theorem turn_enumT {P : Program} {w : World} {K : PySem.W.Frag} {elts : List Expr} {kk : Nat} {tpos : Pos} (a e it : Addr) :
    Turn P w K (.Tuple elts kk tpos) (IteT K a) [e, it] e (fun i h => (∃ old, IsEnum h e it ((i : Nat) : Int) old) ∧ h.IsTupleIter it a i ∧ e ≠ it) where
  mem := List.mem_cons_self
  obj := fun i h st b hb => by
    obtain ⟨⟨old, he⟩, ⟨o, ho, hc, hd⟩, _⟩ := st
    rcases List.mem_cons.mp hb with z | z
    · rw [z]
      exact ⟨_, he, fun v q => nomatch q⟩
    · rw [List.mem_singleton.mp z]
      exact ⟨o, ho, fun v q => by rw [hd] at q; cases q⟩
  keep := fun i h h' st k => by
    obtain ⟨⟨old, he⟩, hi, hne⟩ := st
    exact ⟨⟨old, k e (by simp) _ he⟩, hi.at fun o q => k it (by simp) o q, hne⟩
  item := by
    intro X hP hw hK hc i pins s σ H E I hf st hg
    subst hP hw hK
    obtain ⟨⟨old, he⟩, hit, hne⟩ := st
    obtain ⟨xs, x, hq, hx⟩ := hg
    obtain ⟨its, rv, pt, hz⟩ := I.tuple hq
    obtain ⟨u, hu, ru⟩ := rv.get hx
    have hel := Heap.lt_size he
    obtain ⟨oi, hoi, hci, hdi⟩ := id hit
    have hil := Heap.lt_size hoi
    obtain ⟨ot, hot, hct, nt, hdt⟩ := id pt
    have nai : a ≠ it := fun z => by
      rw [z, hoi] at hot
      cases hot
      rw [hdi] at hdt
      cases hdt
    have nae : e ≠ a := fun z => by
      have he' : s.heap.get? a = some _ := z ▸ he
      rw [hot] at he'
      cases he'
      cases hdt
    have D := Draws.tuple (prog := X.prog) (w := X.w) (A := X.A.in1) (I.ok.hd hc) it a nai its.toArray
    have hlt : i < its.toArray.size := by
      have := (List.getElem?_eq_some_iff.mp hu).1
      simpa using this
    refine wpAny_pyNext_enum_itemD D he ⟨hit, pt⟩ hlt hne (by simp [hne, nae]) fun x' h' tk hP ho hst hT hsz hk => ?_
    have ex : x' = u := by
      have z : its.toArray[i]? = some x' := hP
      have z2 : its.toArray[i]? = some u := by simpa using hu
      exact Option.some.inj (z.symm.trans z2)
    subst ex
    refine ⟨_, rfl, wpAny_letOwnedTupleGo_enum (s := { s with heap := h', toks := tk + 1 }) ho fun h'' he' sb => ?_⟩
    have hT2 : h''.get? s.heap.objs.size = some { cls := .type "tuple", data := .seq #[.int i tk, x'] } := (sb.2 _ (Nat.ne_of_gt hel)).trans hT
    have new : ObjOk X.prog X.w (upd H s.heap.objs.size (.tup [.int (i : Nat), x])) h'' s.heap.objs.size (.tup [.int (i : Nat), x]) := ⟨by show 2 ≤ sizeLine; decide, [.int i tk, x'], .cons ⟨_, rfl⟩ (.cons ru .nil), _, hT2, rfl, _, rfl⟩
    have kp : ∀ b ob, b ∉ [e, it] → s.heap.get? b = some ob → h''.get? b = some ob := fun b ob hb q => by
      have n1 : b ≠ e := fun z => hb (by simp [z])
      have n2 : b ≠ it := fun z => hb (by simp [z])
      exact (sb.2 b n1).trans (hk b ob n1 n2 q)
    have J := I.turnedNew (ch := [e, it]) (t' := tk + 1) kp hf (Nat.le_refl _) new
    refine ⟨.ref s.heap.objs.size, _, J, rfl, ⟨_, x, rfl, I.hok.fresh (Nat.le_refl _), rfl, fun ys hy => by rw [I.tuple_inj hy hq]; exact hx⟩, ⟨⟨x', ?_⟩, hst.1.at fun o q => (sb.2 it (Ne.symm hne)).trans q, hne⟩, fun b hb => ?_⟩
    · rw [show ((i + 1 : Nat) : Int) = (i : Int) + 1 by omega]
      exact he'
    · have hb' : b < s.heap.objs.size := by
        rcases List.mem_cons.mp hb with z | z
        · rw [z]; exact hel
        · rw [List.mem_singleton.mp z]; exact hil
      rw [upd_ne (Nat.ne_of_lt hb')]
      exact (hf b hb).1
  done := by
    intro X hP hw hK hc i pins s σ H E I hf st hg
    subst hP hw hK
    obtain ⟨⟨old, he⟩, hit, hne⟩ := st
    obtain ⟨xs, hq, hx⟩ := hg
    obtain ⟨its, rv, pt, hz⟩ := I.tuple hq
    obtain ⟨f0, f1, f2, f3, f4, f5⟩ := hf it (by simp)
    obtain ⟨oi, hoi, hci, hdi⟩ := id hit
    obtain ⟨ot, hot, hct, nt, hdt⟩ := id pt
    have nai : a ≠ it := fun z => by
      rw [z, hoi] at hot
      cases hot
      rw [hdi] at hdt
      cases hdt
    have D := Draws.tuple (prog := X.prog) (w := X.w) (A := X.A.in1) (I.ok.hd hc) it a nai its.toArray
    have hi : i = its.toArray.size := by
      have := rv.length
      rw [List.size_toArray]
      omega
    subst hi
    exact wpAny_pyNext_enum_endD D he ⟨hit, pt⟩ fun h' eb => ⟨rfl, I.turned (t' := s.toks) (fun b o hb q => eb b o hb q) f0 f1 f3 f4 f5⟩
  self := fun A i s Q E st h => wpAny_pyIter_enum st.1.choose_spec h
def iEnumT (K : PySem.W.Frag) (ta : TA) : TI := fun σ H R => ta σ H fun vs H1 => ∃ a xs, vs = [.ref a] ∧ SqT K H1 a xs ∧ R (IteT K a) H1
theorem pi_enumT {X : Cx} {e : Expr} {ta : TA} {p pos tpos : Pos} {elts : List Expr} {kk : Nat} (hg : Gl X "enumerate") (hm : X.mg "enumerate" = none) (ha : PA X [e] ta) (hs : starEach [e] X.env = [(false, eval e X.env)] := by rfl) :
    PI X (.Tuple elts kk tpos) (.Call (.Name "enumerate" p) [e] [] pos) (iEnumT X.K ta) := by
  refine ⟨fun pins s σ H R I h => Call_ (ld_blt I hg hm boot_enumerate (PyProof.Rows.callWith_type1 (thn (ha.run pos pins s σ H _ I h) fun us s1 ⟨vs, H1, I1, r1, q1⟩ => ?_) hs rfl))⟩
  obtain ⟨a, xs, ex, hq, q⟩ := q1
  subst ex
  rw [Vals.ref1 r1]
  obtain ⟨its, rv, pt, hz⟩ := I1.tuple hq
  refine call_enum pt fun h' he hit hk => wpAny_pyIter_enum he ?_
  refine ⟨s1.heap.objs.size + 1, [s1.heap.objs.size + 1, s1.heap.objs.size], _, _, H1, rfl, I1.kept (t' := s1.toks) hk, turn_enumT a (s1.heap.objs.size + 1) s1.heap.objs.size, ⟨⟨.none, he⟩, hit, Nat.succ_ne_self _⟩, fun b hb => ?_, q⟩
  have hle : s1.heap.objs.size ≤ b := by
    rcases List.mem_cons.mp hb with z | z
    · rw [z]; exact Nat.le_add_right _ _
    · rw [List.mem_singleton.mp z]; exact Nat.le_refl _
  exact I1.fpOk hle (I1.hok.fresh hle)
/-! ### t[::-1] -/
section
variable {prog : Program} {w : World} {A : Around} {E : Value → Shared → Prop} {s : Shared}
theorem places_rev (n : Nat) : Builtin.Slice.slicePlaces ((n : Int) - 1) (-1) (-1) = n := by
  unfold Builtin.Slice.slicePlaces
  rw [if_neg (by decide)]
  by_cases h : (n : Int) - 1 > -1
  · rw [if_pos h, show -(-1 : Int) = 1 by decide, Int.ediv_one]
    omega
  · rw [if_neg h]
    omega
theorem fm_congr {α β : Type} {f g : α → Option β} : ∀ {l : List α}, (∀ x ∈ l, f x = g x) → l.filterMap f = l.filterMap g
  | [], _ => rfl
  | a :: r, h => by
    rw [List.filterMap_cons, List.filterMap_cons, h a List.mem_cons_self, fm_congr fun x hx => h x (List.mem_cons_of_mem _ hx)]
theorem pick_rev (items : Array Value) : ((List.range items.size).filterMap fun (k : Nat) => items[(((items.size : Int) - 1) + (k : Int) * (-1)).toNat]?) = items.toList.reverse := by
  have e : ∀ k ∈ List.range items.size, items[(((items.size : Int) - 1) + (k : Int) * (-1)).toNat]? = items.toList.reverse[k]? := fun k hk => by
    have hk := List.mem_range.mp hk
    rw [show (((items.size : Int) - 1) + (k : Int) * (-1)).toNat = items.size - 1 - k by omega, List.getElem?_reverse (by simpa using hk), Array.length_toList, Array.getElem?_toList]
  rw [fm_congr e]
  have hl : items.size = items.toList.reverse.length := by simp
  rw [hl]
  generalize items.toList.reverse = l
  refine List.ext_getElem? fun i => ?_
  induction l generalizing i with
  | nil => rfl
  | cons a r ih =>
    rw [List.length_cons, List.range_succ_eq_map, List.filterMap_cons]
    simp only [List.getElem?_cons_zero, List.filterMap_map]
    cases i with
    | zero => rfl
    | succ i =>
      rw [List.getElem?_cons_succ, List.getElem?_cons_succ]
      exact ih i
theorem getItem_tup_rev {t sl : Addr} {items : Array Value} {u : Tok} {Q : Value → Shared → Prop} (ht : IsTup s.heap t items) (hs : s.heap.IsSliceOf sl .none .none (.int (-1) u)) (hz : items.size ≤ sizeLine)
    (h : Q (.ref s.heap.objs.size) { s with heap := s.heap.push { cls := .type "tuple", data := .seq items.toList.reverse.toArray } }) : wpAny (model prog w) A (getItem (.ref t) (.ref sl)) Q E s := by
  obtain ⟨os, hos, hcs, hds⟩ := id hs
  have hTs : s.TypeIs (.ref sl) "slice" := ⟨os, hos, hcs⟩
  have fit : sizeOk (.seq items.toList.reverse.toArray) := by
    show items.toList.reverse.toArray.size ≤ sizeLine
    simpa using hz
  unfold getItem
  try with_reducible refine wpAny_holding ?_
  first | refine wpAny_bind (wpAny_pure ?_) | skip
  refine wpAny_bind (wpAny_sequenceKey ht.typeIs (by decide) (wpAny_bind (wpAny_callSpecial?_slot (name := Str.ofString "__getitem__") ht.typeIs PyProof.Rows.slot_tuple_getitem (wpAny_call_entry PyProof.Rows.slot_tuple_getitem ht.typeIs entry_tuple_getitem ?_ (args_tuple_getitem _ _)))))
  show wpAny _ _ (Builtin.Tuple.tupleItemsOf (.ref t) >>= _) _ _ s
  refine wpAny_bind (tupleItemsOf_ ht (wpAny_bind (wpAny_typeOf hTs ?_)))
  rw [if_pos (by decide)]
  have app : ∀ (Q' : Int × Int × Nat → Shared → Prop) (E' : Value → Shared → Prop) (A' : Around), Q' (((items.size : Nat) : Int) - 1, -1, items.size) s → wpAny (model prog w) A' (Builtin.Slice.sliceApplied (.ref sl) (pure (items.size : Int))) Q' E' s := fun Q' E' A' q => by
    unfold Builtin.Slice.sliceApplied Builtin.Slice.sliceFields
    refine wpAny_bind (wpAny_bind (wpAny_field hos hds (x := .none) rfl (wpAny_bind (wpAny_field hos hds (x := .none) rfl (wpAny_bind (wpAny_field hos hds (x := .int (-1) u) rfl (wpAny_pure ?_)))))))
    refine wpAny_bind (slicePart_ (IsPart.int (-1) u) ?_)
    show wpAny _ _ (if ((-1 : Int) == 0) = true then _ else _) _ _ s
    rw [if_neg (by decide)]
    refine wpAny_bind (slicePart_none (wpAny_bind (slicePart_none (wpAny_bind (wpAny_pure ?_)))))
    show wpAny _ _ (pure (((items.size : Nat) : Int) - 1, (-1 : Int), Builtin.Slice.slicePlaces (((items.size : Nat) : Int) - 1) (-1) (-1))) _ _ s
    rw [places_rev]
    exact wpAny_pure q
  refine wpAny_bind (app _ _ _ ?_)
  show wpAny _ _ (if ((((items.size : Nat) : Int) - 1) == 0 && (-1 : Int) == 1 && items.size == items.size) = true then _ else _) _ _ s
  rw [if_neg (by rw [show ((-1 : Int) == 1) = false from rfl, Bool.and_false, Bool.false_and]; exact Bool.false_ne_true), pick_rev]
  first
    | exact wpAny_bind (m := Builtin.Tuple.tupleExact _) (wpAny_newObj_type (wpAny_pure ⟨_, rfl, wpAny_pure h⟩) fit)
    | exact wpAny_bind (m := Builtin.Tuple.tupleExact _) (wpAny_newObj_type (wpAny_bind (wpAny_pure (wpAny_pure ⟨_, rfl, wpAny_pure h⟩))) fit)
    | exact wpAny_bind (wpAny_bind (m := Builtin.Tuple.tupleExact _) (wpAny_newObj_type (wpAny_pure (wpAny_pure ⟨_, rfl, wpAny_pure h⟩)) fit))
end
/-- x[::-1], a list or a tuple -/
def rRevS (K : PySem.W.Frag) (x : V) (H1 : Hp) (Q : VK) : Prop := ∃ a xs, x = .ref a ∧ ((SqL K H1 a xs ∧ ∀ p, H1 p = none → Q (.ref p) (upd H1 p (.lst xs.reverse))) ∨ (SqT K H1 a xs ∧ ∀ p, H1 p = none → Q (.ref p) (upd H1 p (.tup xs.reverse))))
def tRevS (K : PySem.W.Frag) (te : TE) : TE := fun σ H Q => te σ H fun x H1 => rRevS K x H1 Q
theorem pe_revS {X : Cx} {e : Expr} {te : TE} {k : Nat} {p1 p2 p3 pos : Pos} (he : PE X e te) : PE X (.Subscript e (.Slice none none (some (.UnaryOp .USub (.Constant (.int 1) k p1) p2)) p3) pos) (tRevS X.K te) := by
  refine ⟨fun pins s σ H Q I h => Subscript_ (thn (he.run pins s σ H _ I h) fun v s1 hq => ?_)⟩
  obtain ⟨x, H1, I1, r1, a, xs, ex, q⟩ := hq
  subst ex
  cases r1
  have step : PO X (some (.UnaryOp .USub (.Constant (.int 1) k p1) p2)) (tPart (tUn (rU fun i => .int (-i)) (tC (.int 1)))) := po_some (pe_un un_neg pe_int)
  refine wpAny_Slice (thn (po_none.run pins s1 σ H1 (fun o H2 => o = none ∧ H2 = H1) I1 ⟨rfl, rfl⟩) fun vl s2 hl => ?_)
  obtain ⟨l, H2, I2, pl, rfl, rfl⟩ := hl
  refine thn (po_none.run pins s2 σ H2 (fun o H3 => o = none ∧ H3 = H2) I2 ⟨rfl, rfl⟩) fun vu s3 hu => ?_
  obtain ⟨u, H3, I3, pu, rfl, rfl⟩ := hu
  refine thn (step.run pins s3 σ H3 (fun o H4 => o = some (-1) ∧ H4 = H3) I3 ⟨1, rfl, -1, rfl, rfl, rfl⟩) fun vs s4 hv => ?_
  obtain ⟨o, H4, I4, ps, rfl, rfl⟩ := hv
  cases pl
  cases pu
  cases ps
  rename_i u
  have I5 : Inv X pins σ H4 { s4 with heap := s4.heap.push { cls := .type "slice", data := .fields #[.none, .none, .int (-1) u] } } := I4.kept (t' := s4.toks) fun b ob z => Heap.get?_push_of_some _ z
  show wpAny (model X.prog X.w) X.A (subscriptTail e (.Slice none none (some (.UnaryOp .USub (.Constant (.int 1) k p1) p2)) p3) (.ref a) (.ref s4.heap.objs.size)) (EP X pins σ Q) X.xe ⟨s4.heap.push { cls := .type "slice", data := .fields #[.none, .none, .int (-1) u] }, s4.gens, s4.drawn, s4.toks, s4.os⟩
  rcases q with ⟨hx, q⟩ | ⟨hx, q⟩
  · obtain ⟨its, r, ht, hz⟩ := I5.list hx
    have hlen := r.length
    refine tail_any (ops := [.ref a, .ref s4.heap.objs.size]) ht.isList.typeIs (PySem.slot_list_getitem.lookup) ?_ (by with_unfolding_all rfl)
    refine wpAny_getItem_list_slice ht.isList (Heap.IsSliceOf.new _ .none .none (.int (-1) u)) .none .none (.int _ _) (by decide) ?_ (by rw [List.size_toArray]; omega)
    rw [PySem.W.krv_pick]
    have J := I5.laid (t' := s4.toks) (o := .lst xs.reverse) (fun b ob z => Heap.get?_push_of_some { cls := .type "list", data := .seq its.toArray.toList.reverse.toArray } z) (Nat.le_refl _) ⟨by rw [List.length_reverse]; exact hz, _, 0, r.reverse, Heap.get?_push_size _ rfl⟩
    exact ⟨.ref _, _, J, rfl, q _ (I5.hok.fresh (Nat.le_refl _))⟩
  · obtain ⟨its, r, ht, hz⟩ := I5.tuple hx
    have hlen := r.length
    refine tail_any (ops := [.ref a, .ref s4.heap.objs.size]) ht.typeIs (PyProof.Rows.slot_tuple_getitem.lookup) ?_ (by with_unfolding_all rfl)
    refine getItem_tup_rev ht (Heap.IsSliceOf.new _ .none .none (.int (-1) u)) (by rw [List.size_toArray]; omega) ?_
    have J := I5.laid (t' := s4.toks) (o := .tup xs.reverse) (fun b ob z => Heap.get?_push_of_some { cls := .type "tuple", data := .seq its.toArray.toList.reverse.toArray } z) (Nat.le_refl _) ⟨by rw [List.length_reverse]; exact hz, its.toArray.toList.reverse, r.reverse, _, Heap.get?_push_size _ rfl, rfl, _, rfl⟩
    exact ⟨.ref _, _, J, rfl, q _ (I5.hok.fresh (Nat.le_refl _))⟩

section
variable {K : PySem.W.Frag} {X : Cx}
/-! ### walks over a list or a tuple -/
theorem PI.or {tg l : Expr} {wi wi' : TI} (h : PI X tg l wi) (h' : PI X tg l wi') : PI X tg l (fun σ H R => wi σ H R ∨ wi' σ H R) := ⟨fun pins s σ H R I q => q.elim (h.run pins s σ H R I) (h'.run pins s σ H R I)⟩
def iAnyT (K : PySem.W.Frag) (t : TE) : TI := fun σ H R => iList K t σ H R ∨ iTup K t σ H R
theorem pi_any {tg l : Expr} {t : TE} (h : PE X l t) : PI X tg l (iAnyT X.K t) := PI.or (pi_list h) (pi_tup h)
def seqD : PyData → Option (List PyData)
  | .list ds => some ds
  | .tuple ds => some ds
  | _ => none
def iAny (f : M PyData) : M (List PyData) := fun e => bnd (f e) fun d e1 => put (seqD d) e1
theorem seqD_some {d : PyData} {ds : List PyData} (h : seqD d = some ds) : d = .list ds ∨ d = .tuple ds := by
  cases d with
  | list _ => cases h; exact .inl rfl
  | tuple _ => cases h; exact .inr rfl
  | none => cases h
  | bool _ => cases h
  | int _ => cases h
  | str _ => cases h
  | dict _ => cases h
theorem si_any {t : TE} {f : M PyData} (h : SE K t f) : SI K (iAnyT K t) (iAny f) := fun W σ H B e ds e' R hf r q => by
  obtain ⟨d, e1, h1, h2⟩ := bnd_some hf
  obtain ⟨h3, rfl⟩ := put_some h2
  rcases seqD_some h3 with rfl | rfl
  · exact .inl (si_list h W σ H B e ds e' R (by unfold iL; rw [h1]; rfl) r q)
  · exact .inr (si_tup h W σ H B e ds e' R (by unfold iT; rw [h1]; rfl) r q)
/-- (0, x), (1, y), .. -/
def enumD : Nat → List PyData → List PyData
  | _, [] => []
  | n, d :: ds => .tuple [.int (n : Int), d] :: enumD (n + 1) ds
theorem enumD_get : ∀ {ds : List PyData} {n i : Nat} {d : PyData}, (enumD n ds)[i]? = some d → ∃ x, ds[i]? = some x ∧ d = .tuple [.int ((n + i : Nat) : Int), x]
  | [], _, _, _, h => by simp [enumD] at h
  | x :: ds, n, 0, d, h => by
    cases h
    exact ⟨x, rfl, rfl⟩
  | x :: ds, n, i + 1, d, h => by
    obtain ⟨y, h1, h2⟩ := enumD_get (ds := ds) (n := n + 1) (i := i) (d := d) h
    exact ⟨y, h1, by rw [h2, show n + 1 + i = n + (i + 1) by omega]⟩
theorem enumD_len : ∀ (ds : List PyData) (n : Nat), (enumD n ds).length = ds.length
  | [], _ => rfl
  | _ :: ds, n => congrArg (· + 1) (enumD_len ds (n + 1))
theorem ItOk.enumL {B : Hp} {a : Addr} {xs : List V} {ds : List PyData} (hs : SqL K B a xs) (ha : DpAll K B xs ds) : ItOk K B (Ite K a) (enumD 0 ds) := fun i H1 B1 sb bh => by
  have hq := (sb.trans bh).seq hs
  refine ⟨fun _ e => ⟨xs, hq, ?_⟩, fun d hd => ?_⟩
  · rw [enumD_len] at e
    rw [dpAll_len ha]
    exact Nat.le_of_eq e.symm
  · obtain ⟨x, h1, rfl⟩ := enumD_get hd
    obtain ⟨v, h2, h3⟩ := dpAll_getD ha h1
    refine ⟨⟨xs, v, hq, h2⟩, fun y H2 hy => ?_⟩
    obtain ⟨T, z, rfl, hT, rfl, hz⟩ := hy
    have := hz xs hq
    rw [h2] at this
    cases this
    have x := Ext.new (o := .tup [.int (i : Nat), v]) bh hT
    rw [Nat.zero_add]
    exact ⟨_, x, .tup (SqT.of upd_same) (.cons (.int _) (.cons (dp_mono (sb.trans x.b) h3) .nil))⟩
theorem ItOk.enumT {B : Hp} {a : Addr} {xs : List V} {ds : List PyData} (hs : SqT K B a xs) (ha : DpAll K B xs ds) : ItOk K B (IteT K a) (enumD 0 ds) := fun i H1 B1 sb bh => by
  have hq := seqT (sb.trans bh) hs
  refine ⟨fun _ e => ⟨xs, hq, ?_⟩, fun d hd => ?_⟩
  · rw [enumD_len] at e
    rw [dpAll_len ha]
    exact e.symm
  · obtain ⟨x, h1, rfl⟩ := enumD_get hd
    obtain ⟨v, h2, h3⟩ := dpAll_getD ha h1
    refine ⟨⟨xs, v, hq, h2⟩, fun y H2 hy => ?_⟩
    obtain ⟨T, z, rfl, hT, rfl, hz⟩ := hy
    have := hz xs hq
    rw [h2] at this
    cases this
    have x := Ext.new (o := .tup [.int (i : Nat), v]) bh hT
    rw [Nat.zero_add]
    exact ⟨_, x, .tup (SqT.of upd_same) (.cons (.int _) (.cons (dp_mono (sb.trans x.b) h3) .nil))⟩
def iEnumA (K : PySem.W.Frag) (ta : TA) : TI := fun σ H R => iEnum K ta σ H R ∨ iEnumT K ta σ H R
theorem pi_enumA {e : Expr} {ta : TA} {p pos tpos : Pos} {elts : List Expr} {kk : Nat} (hg : Gl X "enumerate") (hm : X.mg "enumerate" = none) (ha : PA X [e] ta) (hs : starEach [e] X.env = [(false, eval e X.env)] := by rfl) :
    PI X (.Tuple elts kk tpos) (.Call (.Name "enumerate" p) [e] [] pos) (iEnumA X.K ta) := PI.or (pi_enum hg hm ha hs) (pi_enumT hg hm ha hs)
def iEn (f : M PyData) : M (List PyData) := fun e => bnd (f e) fun d e1 => bnd (put (seqD d) e1) fun ds e2 => some (enumD 0 ds, e2)
theorem si_enum {t : TE} {f : M PyData} (h : SE K t f) : SI K (iEnumA K (tCons t tNil)) (iEn f) := fun W σ H B e ds e' R hf r q => by
  obtain ⟨d, e1, h1, h2⟩ := bnd_some hf
  obtain ⟨es, e2, h3, h4⟩ := bnd_some h2
  cases h4
  obtain ⟨h5, rfl⟩ := put_some h3
  rcases seqD_some h5 with rfl | rfl
  · refine .inl (h W σ H B e _ _ _ h1 r fun v H' B' sb r' dv => ?_)
    obtain ⟨a, xs, rfl, b1, b2⟩ := dp_lst dv
    exact ⟨a, xs, rfl, r'.bh.seq b1, q _ H' B' sb r' (ItOk.enumL b1 b2)⟩
  · refine .inr (h W σ H B e _ _ _ h1 r fun v H' B' sb r' dv => ?_)
    obtain ⟨a, xs, rfl, b1, b2⟩ := dp_tup dv
    exact ⟨a, xs, rfl, seqT r'.bh b1, q _ H' B' sb r' (ItOk.enumT b1 b2)⟩
/-- zip -/
def zipD : List PyData → List PyData → List PyData
  | x :: xs, y :: ys => .tuple [x, y] :: zipD xs ys
  | _, _ => []
theorem zipD_get : ∀ {xs ys : List PyData} {i : Nat} {d : PyData}, (zipD xs ys)[i]? = some d → ∃ x y, xs[i]? = some x ∧ ys[i]? = some y ∧ d = .tuple [x, y]
  | [], _, _, _, h => by simp [zipD] at h
  | _ :: _, [], _, _, h => by simp [zipD] at h
  | x :: xs, y :: ys, 0, d, h => by
    cases h
    exact ⟨x, y, rfl, rfl, rfl⟩
  | x :: xs, y :: ys, i + 1, d, h => zipD_get (xs := xs) (ys := ys) (i := i) (d := d) h
theorem zipD_len : ∀ (xs ys : List PyData), (zipD xs ys).length = min xs.length ys.length
  | [], _ => by simp [zipD]
  | _ :: _, [] => by simp [zipD]
  | _ :: xs, _ :: ys => by
    show (zipD xs ys).length + 1 = _
    rw [zipD_len xs ys, List.length_cons, List.length_cons]
    omega
theorem ItOk.zipL {B : Hp} {a b : Addr} {xs ys : List V} {ds es : List PyData} (hs : SqL K B a xs) (ha : DpAll K B xs ds) (hs2 : SqL K B b ys) (ha2 : DpAll K B ys es) : ItOk K B (Itz K a b) (zipD ds es) := fun i H1 B1 sb bh => by
  have hq := (sb.trans bh).seq hs
  have hq2 := (sb.trans bh).seq hs2
  refine ⟨fun _ e => ⟨xs, ys, hq, hq2, ?_⟩, fun d hd => ?_⟩
  · rw [zipD_len] at e
    rw [dpAll_len ha, dpAll_len ha2]
    omega
  · obtain ⟨x, y, h1, h2, rfl⟩ := zipD_get hd
    obtain ⟨v, h3, h4⟩ := dpAll_getD ha h1
    obtain ⟨w, h5, h6⟩ := dpAll_getD ha2 h2
    refine ⟨⟨xs, ys, v, w, hq, hq2, h3, h5⟩, fun y H2 hy => ?_⟩
    obtain ⟨T, z1, z2, rfl, hT, rfl, k1, k2⟩ := hy
    have c1 := k1 xs hq
    have c2 := k2 ys hq2
    rw [h3] at c1
    rw [h5] at c2
    cases c1
    cases c2
    have x := Ext.new (o := .tup [v, w]) bh hT
    exact ⟨_, x, .tup (SqT.of upd_same) (.cons (dp_mono (sb.trans x.b) h4) (.cons (dp_mono (sb.trans x.b) h6) .nil))⟩
theorem ItOk.zipT {B : Hp} {a b : Addr} {xs ys : List V} {ds es : List PyData} (hs : SqT K B a xs) (ha : DpAll K B xs ds) (hs2 : SqT K B b ys) (ha2 : DpAll K B ys es) : ItOk K B (ItzT K a b) (zipD ds es) := fun i H1 B1 sb bh => by
  have hq := seqT (sb.trans bh) hs
  have hq2 := seqT (sb.trans bh) hs2
  refine ⟨fun _ e => ⟨xs, ys, hq, hq2, ?_⟩, fun d hd => ?_⟩
  · rw [zipD_len] at e
    rw [dpAll_len ha, dpAll_len ha2]
    omega
  · obtain ⟨x, y, h1, h2, rfl⟩ := zipD_get hd
    obtain ⟨v, h3, h4⟩ := dpAll_getD ha h1
    obtain ⟨w, h5, h6⟩ := dpAll_getD ha2 h2
    refine ⟨⟨xs, ys, v, w, hq, hq2, h3, h5⟩, fun y H2 hy => ?_⟩
    obtain ⟨T, z1, z2, rfl, hT, rfl, k1, k2⟩ := hy
    have c1 := k1 xs hq
    have c2 := k2 ys hq2
    rw [h3] at c1
    rw [h5] at c2
    cases c1
    cases c2
    have x := Ext.new (o := .tup [v, w]) bh hT
    exact ⟨_, x, .tup (SqT.of upd_same) (.cons (dp_mono (sb.trans x.b) h4) (.cons (dp_mono (sb.trans x.b) h6) .nil))⟩
def iZp (fa fb : M PyData) : M (List PyData) := fun e => bnd (fa e) fun a e1 => bnd (fb e1) fun b e2 => match a, b with
  | .list xs, .list ys => some (zipD xs ys, e2)
  | .tuple xs, .tuple ys => some (zipD xs ys, e2)
  | _, _ => none
theorem si_zip {ta tb : TE} {fa fb : M PyData} (ha : SE K ta fa) (hb : SE K tb fb) : SI K (iZipA K (tCons ta (tCons tb tNil))) (iZp fa fb) := fun W σ H B e ds e' R hf r q => by
  obtain ⟨a, e1, h1, hf⟩ := bnd_some hf
  obtain ⟨b, e2, h2, hf⟩ := bnd_some hf
  refine ha W σ H B e a e1 _ h1 r fun v H1 B1 s1 r1 dv => ?_
  refine hb W σ H1 B1 e1 b e2 _ h2 r1 fun w H2 B2 s2 r2 dw => ?_
  split at hf
  · cases hf
    obtain ⟨p, xs, rfl, b1, b2⟩ := dp_lst (dp_mono s2 dv)
    obtain ⟨p', ys, rfl, b3, b4⟩ := dp_lst dw
    exact ⟨p, p', xs, ys, rfl, .inl ⟨r2.bh.seq b1, r2.bh.seq b3, q _ H2 B2 (s1.trans s2) r2 (ItOk.zipL b1 b2 b3 b4)⟩⟩
  · cases hf
    obtain ⟨p, xs, rfl, b1, b2⟩ := dp_tup (dp_mono s2 dv)
    obtain ⟨p', ys, rfl, b3, b4⟩ := dp_tup dw
    exact ⟨p, p', xs, ys, rfl, .inr ⟨seqT r2.bh b1, seqT r2.bh b3, q _ H2 B2 (s1.trans s2) r2 (ItOk.zipT b1 b2 b3 b4)⟩⟩
  · cases hf
/-- range(i, j, -1) -/
def downto (lo : Int) : Nat → List PyData
  | 0 => []
  | n + 1 => .int lo :: downto (lo - 1) n
theorem downto_len : ∀ (n : Nat) (lo : Int), (downto lo n).length = n
  | 0, _ => rfl
  | n + 1, lo => congrArg (· + 1) (downto_len n (lo - 1))
theorem downto_get : ∀ {n : Nat} {lo : Int} {i : Nat} {d : PyData}, (downto lo n)[i]? = some d → i < n ∧ d = .int (lo + (i : Int) * (-1))
  | 0, _, _, _, h => by simp [downto] at h
  | n + 1, lo, 0, d, h => by
    have h : some (PyData.int lo) = some d := h
    cases h
    exact ⟨Nat.succ_pos n, by simp⟩
  | n + 1, lo, i + 1, d, h => by
    have h : (downto (lo - 1) n)[i]? = some d := h
    obtain ⟨h1, h2⟩ := downto_get h
    refine ⟨Nat.succ_lt_succ h1, ?_⟩
    rw [h2]
    congr 1
    omega
theorem ItOk.down {B : Hp} {lo : Int} {n : Nat} : ItOk K B (Itc lo (-1) n) (downto lo n) := fun i H1 B1 sb bh => by
  refine ⟨fun _ e => ?_, fun d hd => ?_⟩
  · rw [downto_len] at e
    exact Nat.le_of_eq e.symm
  · obtain ⟨h1, h2⟩ := downto_get hd
    refine ⟨h1, fun x H2 ⟨e, hy⟩ => ?_⟩
    subst e
    rw [hy, h2]
    exact ⟨B1, Ext.refl bh, .int _⟩
def iR3 (fa : M (List PyData)) : M (List PyData) := fun e => bnd (fa e) fun as e1 => match as with
  | [.int i, .int j, .int (.negSucc 0)] => if inR i = true ∧ inR j = true then some (downto i (i - j).toNat, e1) else none
  | _ => none
theorem si_rng3 {t : TA} {fa : M (List PyData)} (h : SA K t fa) : SI K (iRng3 t) (iR3 fa) := fun W σ H B e ds e' R hf r q => by
  obtain ⟨as, e1, h1, h2⟩ := bnd_some hf
  refine h W σ H B e as e1 _ h1 r fun vs H' B' sb r' hd => ?_
  split at h2
  · rename_i i j
    by_cases c : inR i = true ∧ inR j = true
    · rw [if_pos c] at h2
      cases h2
      obtain ⟨q1, q2⟩ := inR_of c.1
      obtain ⟨q3, q4⟩ := inR_of c.2
      cases hd with
      | cons a hd =>
        cases hd with
        | cons b hd =>
          cases hd with
          | cons c hd =>
            cases hd
            rw [dp_int a, dp_int b, dp_int c]
            exact ⟨i, j, -1, _, rfl, RgC.neg q1 q2 q3 q4, q _ H' B' sb r' ItOk.down⟩
    · rw [if_neg c] at h2
      cases h2
  · cases h2
/-! ### built-ins -/
def pLen : List PyData → Option PyData
  | [.list ds] => some (.int (ds.length : Nat))
  | [.tuple ds] => some (.int (ds.length : Nat))
  | _ => none
def rLen (K : PySem.W.Frag) : List V → Hp → VK → Prop := fun xs H Q => ∃ p ys, xs = [.ref p] ∧ (SqL K H p ys ∨ SqT K H p ys) ∧ Q (.int ys.length) H
theorem c_len : CallR X (.builtin "len") (rLen X.K) := call_len_seq
theorem dpAll_one {H : Hp} {xs : List V} {d : PyData} (h : DpAll K H xs [d]) : ∃ v, xs = [v] ∧ Dp K H v d := by
  cases h with
  | cons a b =>
    cases b
    exact ⟨_, rfl, a⟩
theorem dpAll_two {H : Hp} {xs : List V} {d d' : PyData} (h : DpAll K H xs [d, d']) : ∃ v w, xs = [v, w] ∧ Dp K H v d ∧ Dp K H w d' := by
  cases h with
  | cons a b =>
    cases b with
    | cons b c =>
      cases c
      exact ⟨_, _, rfl, a, b⟩
theorem sr_len : SRn K (rLen K) pLen := fun H B xs as d Q bh ha h q => by
  unfold pLen at h
  split at h
  · cases h
    obtain ⟨v, rfl, dv⟩ := dpAll_one ha
    obtain ⟨p, ys, rfl, b1, b2⟩ := dp_lst dv
    refine ⟨p, ys, rfl, .inl (bh.seq b1), ?_⟩
    rw [dpAll_len b2]
    exact q _ H B (Ext.refl bh) (.int _)
  · cases h
    obtain ⟨v, rfl, dv⟩ := dpAll_one ha
    obtain ⟨p, ys, rfl, b1, b2⟩ := dp_tup dv
    refine ⟨p, ys, rfl, .inr (seqT bh b1), ?_⟩
    rw [dpAll_len b2]
    exact q _ H B (Ext.refl bh) (.int _)
  · cases h
def pTuple : List PyData → Option PyData
  | [.list ds] => some (.tuple ds)
  | [.tuple ds] => some (.tuple ds)
  | _ => none
def rTupleC (K : PySem.W.Frag) : List V → Hp → VK → Prop := fun xs H Q => ∃ p ys, xs = [.ref p] ∧ ((SqL K H p ys ∧ ∀ l, H l = none → Q (.ref l) (upd H l (.tup ys))) ∨ (SqT K H p ys ∧ Q (.ref p) H))
theorem c_tuple : CallR X (.type "tuple") (rTupleC X.K) := call_tuple_of
theorem sr_tuple : SRn K (rTupleC K) pTuple := fun H B xs as d Q bh ha h q => by
  unfold pTuple at h
  split at h
  · cases h
    obtain ⟨v, rfl, dv⟩ := dpAll_one ha
    obtain ⟨p, ys, rfl, b1, b2⟩ := dp_lst dv
    refine ⟨p, ys, rfl, .inl ⟨bh.seq b1, fun l hl => ?_⟩⟩
    have x := Ext.new (o := .tup ys) bh hl
    exact q _ _ _ x (.tup (SqT.of upd_same) (dpAll_mono x.b b2))
  · cases h
    obtain ⟨v, rfl, dv⟩ := dpAll_one ha
    obtain ⟨p, ys, rfl, b1, b2⟩ := dp_tup dv
    exact ⟨p, ys, rfl, .inr ⟨seqT bh b1, q _ H B (Ext.refl bh) (.tup b1 b2)⟩⟩
  · cases h
def pList : List PyData → Option (List PyData)
  | [.list ds] => some ds
  | [.tuple ds] => some ds
  | _ => none
def rListC (K : PySem.W.Frag) : List V → Hp → VK → Prop := fun xs H Q => ∃ p ys, xs = [.ref p] ∧ (SqL K H p ys ∨ SqT K H p ys) ∧ ∀ l, H l = none → Q (.ref l) (upd H l (.lst ys))
theorem c_list : CallR X (.type "list") (rListC X.K) := call_list_of
theorem sr_list : SRx K (rListC K) pList := fun H B xs as ds Q bh ha h q => by
  unfold pList at h
  split at h
  · cases h
    obtain ⟨v, rfl, dv⟩ := dpAll_one ha
    obtain ⟨p, ys, rfl, b1, b2⟩ := dp_lst dv
    exact ⟨p, ys, rfl, .inl (bh.seq b1), fun l hl => q l ys H B (Ext.refl bh) hl b2⟩
  · cases h
    obtain ⟨v, rfl, dv⟩ := dpAll_one ha
    obtain ⟨p, ys, rfl, b1, b2⟩ := dp_tup dv
    exact ⟨p, ys, rfl, .inr (seqT bh b1), fun l hl => q l ys H B (Ext.refl bh) hl b2⟩
  · cases h
def blsOf : List PyData → Option (List Bool)
  | [] => some []
  | .bool i :: r => match blsOf r with
    | none => none
    | some ns => some (i :: ns)
  | _ :: _ => none
theorem blsOf_some : ∀ {ds : List PyData} {ns : List Bool}, blsOf ds = some ns → ds = ns.map PyData.bool
  | [], ns, h => by
    cases Option.some.inj h
    rfl
  | .bool i :: r, ns, h => by
    unfold blsOf at h
    cases e : blsOf r with
    | none => rw [e] at h; cases h
    | some m =>
      rw [e] at h
      cases h
      rw [blsOf_some e]
      rfl
  | .none :: _, _, h => by cases h
  | .int _ :: _, _, h => by cases h
  | .str _ :: _, _, h => by cases h
  | .list _ :: _, _, h => by cases h
  | .tuple _ :: _, _, h => by cases h
  | .dict _ :: _, _, h => by cases h
def pBls (g : List Bool → Bool) : List PyData → Option PyData
  | [.list ds] => match blsOf ds with
    | none => none
    | some bs => some (.bool (g bs))
  | _ => none
theorem pBls_some {g : List Bool → Bool} {as : List PyData} {d : PyData} (h : pBls g as = some d) : ∃ bs : List Bool, as = [.list (bs.map PyData.bool)] ∧ d = .bool (g bs) := by
  unfold pBls at h
  split at h
  · rename_i ds
    cases e : blsOf ds with
    | none => rw [e] at h; cases h
    | some bs =>
      rw [e] at h
      cases h
      exact ⟨bs, by rw [blsOf_some e], rfl⟩
  · cases h
def pAll := pBls fun bs => bs.all id
def pAny := pBls fun bs => bs.any id
theorem sr_all : SRn K (rAll K) pAll := fun H B xs as d Q bh ha h q => by
  obtain ⟨bs, rfl, rfl⟩ := pBls_some h
  obtain ⟨v, rfl, dv⟩ := dpAll_one ha
  obtain ⟨p, ys, rfl, b1, b2⟩ := dp_lst dv
  rw [dpAll_bls b2] at b1
  exact ⟨p, bs, rfl, bh.seq b1, q _ H B (Ext.refl bh) (.bl _)⟩
theorem sr_any : SRn K (rAny K) pAny := fun H B xs as d Q bh ha h q => by
  obtain ⟨bs, rfl, rfl⟩ := pBls_some h
  obtain ⟨v, rfl, dv⟩ := dpAll_one ha
  obtain ⟨p, ys, rfl, b1, b2⟩ := dp_lst dv
  rw [dpAll_bls b2] at b1
  exact ⟨p, bs, rfl, bh.seq b1, q _ H B (Ext.refl bh) (.bl _)⟩
def pInts (g : List Int → Option PyData) : List PyData → Option PyData
  | [.list ds] => match intsOf ds with
    | none => none
    | some ns => g ns
  | _ => none
theorem pInts_some {g : List Int → Option PyData} {as : List PyData} {d : PyData} (h : pInts g as = some d) : ∃ ns : List Int, as = [.list (ns.map PyData.int)] ∧ g ns = some d := by
  unfold pInts at h
  split at h
  · rename_i ds
    cases e : intsOf ds with
    | none => rw [e] at h; cases h
    | some ns =>
      rw [e] at h
      exact ⟨ns, by rw [intsOf_some e], h⟩
  · cases h
def pSum := pInts fun ns => some (.int ns.sum)
theorem sr_sum : SRn K (rSum K) pSum := fun H B xs as d Q bh ha h q => by
  obtain ⟨ns, rfl, hg⟩ := pInts_some h
  cases hg
  obtain ⟨v, rfl, dv⟩ := dpAll_one ha
  obtain ⟨p, ys, rfl, b1, b2⟩ := dp_lst dv
  rw [dpAll_ints b2] at b1
  exact ⟨p, ns, rfl, bh.seq b1, q _ H B (Ext.refl bh) (.int _)⟩
def bestI (f : Int → Int → Bool) : List Int → Option Int
  | [] => none
  | a :: r => some (r.foldl (fun m x => if f x m = true then x else m) a)
theorem best_max : ∀ (r : List Int) (a : Int), (r.foldl (fun m x => if decide (m < x) = true then x else m) a) ∈ a :: r ∧ ∀ y ∈ a :: r, y ≤ r.foldl (fun m x => if decide (m < x) = true then x else m) a
  | [], a => ⟨List.mem_cons_self, fun y hy => by rw [List.mem_singleton.mp hy]; exact Int.le_refl _⟩
  | b :: r, a => by
    rw [List.foldl_cons]
    by_cases c : decide (a < b) = true
    · rw [if_pos c]
      have c' := of_decide_eq_true c
      obtain ⟨h1, h2⟩ := best_max r b
      refine ⟨List.mem_cons_of_mem _ h1, fun y hy => ?_⟩
      rcases List.mem_cons.mp hy with e | e
      · have := h2 b List.mem_cons_self
        omega
      · exact h2 y e
    · rw [if_neg c]
      have c' : ¬ a < b := fun z => c (decide_eq_true z)
      obtain ⟨h1, h2⟩ := best_max r a
      refine ⟨(List.mem_cons.mp h1).elim (fun e => by rw [e]; exact List.mem_cons_self) fun e => List.mem_cons_of_mem _ (List.mem_cons_of_mem _ e), fun y hy => ?_⟩
      rcases List.mem_cons.mp hy with e | e
      · rw [e]
        exact h2 a List.mem_cons_self
      · rcases List.mem_cons.mp e with e | e
        · have := h2 a List.mem_cons_self
          omega
        · exact h2 y (List.mem_cons_of_mem _ e)
def maxI : List Int → Option PyData
  | [] => none
  | a :: r => some (.int (r.foldl (fun m x => if decide (m < x) = true then x else m) a))
def pMax := pInts maxI
theorem sr_max : SRn K (rMax K) pMax := fun H B xs as d Q bh ha h q => by
  obtain ⟨ns, rfl, hg⟩ := pInts_some h
  cases ns with
  | nil => cases hg
  | cons a r =>
    cases hg
    obtain ⟨v, rfl, dv⟩ := dpAll_one ha
    obtain ⟨p, ys, rfl, b1, b2⟩ := dp_lst dv
    rw [dpAll_ints b2] at b1
    refine ⟨p, a :: r, rfl, bh.seq b1, Nat.succ_pos _, fun m h1 h2 => ?_⟩
    obtain ⟨h3, h4⟩ := best_max r a
    have e : m = r.foldl (fun m x => if decide (m < x) = true then x else m) a := Int.le_antisymm (h4 m h1) (h2 _ h3)
    rw [e]
    exact q _ H B (Ext.refl bh) (.int _)
def pMin2 : List PyData → Option PyData
  | [.int i, .int j] => some (.int (if j < i then j else i))
  | _ => none
def rMin2 : List V → Hp → VK → Prop := fun xs H Q => ∃ i j, xs = [.int i, .int j] ∧ Q (.int (if j < i then j else i)) H
theorem c_min2 (hc : X.calm = true) : CallR X (.builtin "min") rMin2 := call_min2 hc
theorem sr_min2 : SRn K rMin2 pMin2 := fun H B xs as d Q bh ha h q => by
  unfold pMin2 at h
  split at h
  · cases h
    obtain ⟨v, w, rfl, dv, dw⟩ := dpAll_two ha
    rw [dp_int dv, dp_int dw]
    exact ⟨_, _, rfl, q _ H B (Ext.refl bh) (.int _)⟩
  · cases h
/-! ### isinstance -/
def tyN : PyData → String
  | .none => "NoneType"
  | .bool _ => "bool"
  | .int _ => "int"
  | .str _ => "str"
  | .list _ => "list"
  | .tuple _ => "tuple"
  | .dict _ => "dict"
theorem tyX_of {H : Hp} {v : V} {d : PyData} (h : Dp K H v d) : TyX K H v (.type (tyN d)) := by
  cases h with
  | non => exact .base .non
  | bl b => exact .base (.bl b)
  | int i => exact .base (.int i)
  | str x => exact .base (.str x)
  | lst hs _ =>
    rcases hs with (h | ⟨o, h⟩) | ⟨o, its, n, hk, hc, _⟩
    · exact .base (.lst h)
    · exact .base (.frz h)
    · exact .kList hk hc
  | tup hs _ =>
    rcases hs with (h | ⟨o, h⟩) | ⟨o, its, n, hk, hc, _⟩
    · exact .base (.tup h)
    · exact .fTuple h
    · exact .kTuple hk hc
inductive Ty5 where
  | int | bool | str | list | tuple
def Ty5.nm : Ty5 → String
  | .int => "int"
  | .bool => "bool"
  | .str => "str"
  | .list => "list"
  | .tuple => "tuple"
def isT : Ty5 → PyData → Bool
  | .int, .int _ => true
  | .int, .bool _ => true
  | .bool, .bool _ => true
  | .str, .str _ => true
  | .list, .list _ => true
  | .tuple, .tuple _ => true
  | _, _ => false
theorem kit_of (T : Ty5) {H : Hp} {v : V} {d : PyData} (h : Dp K H v d) : PySem.W.kitOne K (.type (tyN d)) (.type T.nm) = some (isT T d) := by
  have q : ∀ T ∈ ["int", "bool", "str", "list", "tuple"], kitB "NoneType" T = some false ∧ kitB "bool" T = some (T == "bool" || T == "int") ∧ kitB "int" T = some (T == "int") ∧ kitB "str" T = some (T == "str") ∧ kitB "list" T = some (T == "list") ∧ kitB "tuple" T = some (T == "tuple") := by decide +kernel
  obtain ⟨a0, a1, a2, a3, a4, a5⟩ := q T.nm (by cases T <;> decide)
  cases h <;> (refine kit_ty ?_) <;> cases T <;> first | exact a0 | exact a1 | exact a2 | exact a3 | exact a4 | exact a5
def pIsi (T : Ty5) (d : PyData) : Option PyData := some (.bool (isT T d))
theorem se_isi {t : TE} {f : M PyData} (T : Ty5) (h : SE K t f) : SE K (tCB (rIsi K) (tCons t (tCons (tC (.ty T.nm)) tNil))) (eUn (pIsi T) f) := fun W σ H B e d e' Q hf r q => by
  obtain ⟨a, e1, h1, hf⟩ := bnd_some hf
  obtain ⟨h3, rfl⟩ := put_some hf
  cases h3
  refine h W σ H B e a e' _ h1 r fun v H1 B1 s1 r1 dv => ?_
  have dv' := dp_mono r1.bh dv
  exact ⟨v, _, _, _, _, rfl, .ty _, tyX_of dv', kit_of T dv', q _ H1 B1 s1 r1 (.bl _)⟩
/-! ### x op= e of a whole number -/
def sAug (i : Nat) (g : PyData → PyData → Option PyData) (f : M PyData) : Ev → Option Out := fun e => match e[i]? with
  | some (.sh a) => bnd (f e) fun b e1 => match g a b with
    | none => none
    | some d => some (.nx (e1.set i (.sh d)))
  | _ => none
theorem ss_aug {i : Nat} {r : TIp} {g : PyData → PyData → Option PyData} {t : TE} {f : M PyData} (hr : SR2 K r g) (h : SE K t f) : SS K (tAug i t r) (sAug i g f) := fun W D σ H B e o hf rl qn qr => by
  unfold sAug at hf
  cases h0 : e[i]? with
  | none => rw [h0] at hf; cases hf
  | some s =>
    rw [h0] at hf
    cases s with
    | sh a =>
      obtain ⟨b, e1, h1, h2⟩ := bnd_some hf
      obtain ⟨v, a1, a2⟩ := rl.get h0
      refine ⟨v, a1, h W σ H B e b e1 _ h1 rl fun w H1 B1 s1 r1 dw => ?_⟩
      cases h3 : g a b with
      | none => simp only [h3] at h2; cases h2
      | some d =>
        simp only [h3] at h2
        cases h2
        exact hr H1 B1 v w a b d _ r1.bh (dp_mono s1 a2) dw h3 fun z H2 B2 x dz => qn _ _ H2 B2 rfl (s1.trans x.b) ((r1.ext x).put i dz)
    | un => cases hf
    | ow _ => cases hf
    | bw _ => cases hf
    | ob _ => cases hf
    | dc _ => cases hf
    | dr _ => cases hf
    | st _ _ => cases hf
    | sb _ _ => cases hf
/-! ### x[::-1] -/
def pRev : PyData → Option Sl
  | .list ds => some (.ow ds.reverse)
  | .tuple ds => some (.sh (.tuple ds.reverse))
  | _ => none
theorem dpAll_rev {H : Hp} : ∀ {vs : List V} {ds : List PyData}, DpAll K H vs ds → DpAll K H vs.reverse ds.reverse
  | _, _, .nil => .nil
  | _, _, .cons a t => by
    rw [List.reverse_cons, List.reverse_cons]
    exact dpAll_snoc (dpAll_rev t) a
def xRev (f : M PyData) : M Sl := fun e => bnd (f e) fun d e1 => put (pRev d) e1
theorem sx_rev {t : TE} {f : M PyData} (h : SE K t f) : SX K (tRevS K t) (xRev f) := fun W σ H B e s e' Q hf r q => by
  obtain ⟨d, e1, h1, hf⟩ := bnd_some hf
  obtain ⟨h2, rfl⟩ := put_some hf
  refine h W σ H B e d e' _ h1 r fun v H1 B1 s1 r1 dv => ?_
  cases d with
  | list ds =>
    cases h2
    obtain ⟨a, xs, rfl, b1, b2⟩ := dp_lst dv
    exact ⟨a, xs, rfl, .inl ⟨r1.bh.seq b1, fun p hp => q _ _ B1 s1 (r1.born hp (dpAll_rev b2))⟩⟩
  | tuple ds =>
    cases h2
    obtain ⟨a, xs, rfl, b1, b2⟩ := dp_tup dv
    refine ⟨a, xs, rfl, .inr ⟨seqT r1.bh b1, fun p hp => ?_⟩⟩
    have x := Ext.new (o := .tup xs.reverse) r1.bh hp
    exact q _ _ _ (s1.trans x.b) ((r1.ext x).cons (.tup (SqT.of upd_same) (dpAll_mono x.b (dpAll_rev b2))))
  | none => cases h2
  | bool _ => cases h2
  | int _ => cases h2
  | str _ => cases h2
  | dict _ => cases h2
end
end VL
end
section
set_option Elab.async false
set_option linter.all false
set_option maxRecDepth 100000
set_option maxHeartbeats 2000000
namespace VL
open PySem PySem.Spec PyProof.Rows L2 HT
section
variable {K : PySem.W.Frag} {X : Cx}
theorem se_callB {r : List V → Hp → VK → Prop} {g : List PyData → Option PyData} {t : TA} {fa : M (List PyData)} (hr : SRn K r g) (ha : SA K t fa) : SE K (tCB r t) (eCall g fa) := se_call hr ha
theorem sx_callB {r : List V → Hp → VK → Prop} {g : List PyData → Option (List PyData)} {t : TA} {fa : M (List PyData)} (hr : SRx K r g) (ha : SA K t fa) : SX K (tCB r t) (xCall g fa) := sx_call hr ha
def eAndT (fa fb : M PyData) : M PyData := fun e => bnd (fa e) fun a e1 => match pTru a with
  | none => none
  | some true => fb e1
  | some false => some (a, e1)
theorem se_andT {ta tb : TE} {fa fb : M PyData} (ha : SE K ta fa) (hb : SE K tb fb) : SE K (tAndT K ta tb) (eAndT fa fb) := fun W σ H B e d e' Q hf r q => by
  obtain ⟨a, e1, h1, hf⟩ := bnd_some hf
  refine ha W σ H B e a e1 _ h1 r fun v H1 B1 s1 r1 dv => ?_
  cases h2 : pTru a with
  | none => rw [h2] at hf; cases hf
  | some k =>
    rw [h2] at hf
    refine ⟨k, truV dv r1.bh h2, ?_⟩
    cases k with
    | false =>
      cases hf
      exact q v H1 B1 s1 r1 dv
    | true => exact hb W σ H1 B1 e1 d e' Q hf r1 fun w H2 B2 s2 r2 => q w H2 B2 (s1.trans s2) r2
theorem pt_tru {a : Expr} {ta : TE} (ha : PE X a ta) (he : ∀ whole, isTrue a X.env whole = (do let v ← whole; standAt a.pos; holding [v] (truthy v)) := by intro _; rfl) : PT X a (fun σ H Q => ta σ H fun x H' => ∃ k, TruV X.K x H' k ∧ Q k H') := pt_truth ha he
/-! ### a op b op c op d, as a test -/
def tThree (r1 r2 r3 : R2) (ta tb tc td : TE) : TT := fun σ H Q => ta σ H fun x H1 => tb σ H1 fun y H2 => r1 x y H2 fun z H3 => ∃ k, z = .bl k ∧
  if k = true then tc σ H3 fun u H4 => r2 y u H4 fun z2 H5 => ∃ k2, z2 = .bl k2 ∧ (if k2 = true then td σ H5 fun v H6 => r3 u v H6 fun z3 H7 => ∃ k3, z3 = .bl k3 ∧ Q k3 H7 else Q false H5) else Q false H3
theorem pt_three {a b c d : Expr} {ta tb tc td : TE} {pos : Pos} {o1 o2 o3 : CmpOp} {r1 r2 r3 : R2} (h1 : OpR X (compareOp o1) r1) (h2 : OpR X (compareOp o2) r2) (h3 : OpR X (compareOp o3) r3) (ha : PE X a ta) (hb : PE X b tb) (hc : PE X c tc) (hd : PE X d td)
    (hm : lastMarks [o1, o2, o3] [b, c, d] = false := by with_unfolding_all rfl) : PT X (.Compare a [o1, o2, o3] [b, c, d] pos) (tThree r1 r2 r3 ta tb tc td) := by
  refine ⟨fun pins s σ H Q I h => ?_⟩
  refine isTrue_chain (thn (ha.run pins s σ H _ I h) fun va s1 ⟨x, H1, I1, e1, q1⟩ => test_link (thn (hb.run pins s1 σ H1 _ I1 q1) fun vb s2 ⟨y, H2, I2, e2, q2⟩ =>
    thn (h1 pins s2 σ H2 x y va vb _ I2 e1 e2 q2) fun g s3 ⟨z, H3, I3, e3, k, ez, q3⟩ => ?_)) hm
  subst ez
  cases e3
  refine wpAny_truthy_bool ?_
  cases k with
  | false => exact ite_ff ⟨H3, I3, q3⟩
  | true =>
    refine ite_tt (test_link (thn (hc.run pins s3 σ H3 _ I3 q3) fun vc s4 ⟨u, H4, I4, e4, q4⟩ => thn (h2 pins s4 σ H4 y u vb vc _ I4 e2 e4 q4) fun g2 s5 ⟨z2, H5, I5, e5, k2, ez2, q5⟩ => ?_))
    subst ez2
    cases e5
    refine wpAny_truthy_bool ?_
    cases k2 with
    | false => exact ite_ff ⟨H5, I5, q5⟩
    | true =>
      refine ite_tt (test_last (thn (hd.run pins s5 σ H5 _ I5 q5) fun vd s6 ⟨v, H6, I6, e6, q6⟩ => thn (h3 pins s6 σ H6 u v vc vd _ I6 e4 e6 q6) fun g3 s7 ⟨z3, H7, I7, e7, k3, ez3, q7⟩ => ?_))
      subst ez3
      cases e7
      exact wpAny_truthy_bool ⟨H7, I7, q7⟩
def bThree (g1 g2 g3 : PyData → PyData → Option PyData) (fa fb fc fd : M PyData) : M Bool := fun e => bnd (fa e) fun a e1 => bnd (fb e1) fun b e2 => match g1 a b with
  | some (.bool true) => bnd (fc e2) fun c e3 => match g2 b c with
    | some (.bool true) => bnd (fd e3) fun d e4 => match g3 c d with
      | some (.bool k) => some (k, e4)
      | _ => none
    | some (.bool false) => some (false, e3)
    | _ => none
  | some (.bool false) => some (false, e2)
  | _ => none
theorem st_three {r1 r2 r3 : R2} {g1 g2 g3 : PyData → PyData → Option PyData} {ta tb tc td : TE} {fa fb fc fd : M PyData} (h1 : SR2 K r1 g1) (h2 : SR2 K r2 g2) (h3 : SR2 K r3 g3) (ha : SE K ta fa) (hb : SE K tb fb) (hc : SE K tc fc) (hd : SE K td fd) :
    ST K (tThree r1 r2 r3 ta tb tc td) (bThree g1 g2 g3 fa fb fc fd) := fun W σ H B e k e' Q hf rl q => by
  obtain ⟨a, e1, p1, hf⟩ := bnd_some hf
  obtain ⟨b, e2, p2, hf⟩ := bnd_some hf
  refine ha W σ H B e a e1 _ p1 rl fun x H1 B1 s1 r1 dx => ?_
  refine hb W σ H1 B1 e1 b e2 _ p2 r1 fun y H2 B2 s2 r2 dy => ?_
  have s12 := s1.trans s2
  cases p3 : g1 a b with
  | none => rw [p3] at hf; cases hf
  | some z =>
    rw [p3] at hf
    refine h1 H2 B2 x y a b z _ r2.bh (dp_mono s2 dx) dy p3 fun v H3 B3 x3 dv => ?_
    have r3 := r2.ext x3
    have s123 := s12.trans x3.b
    cases z with
    | bool k1 =>
      refine ⟨k1, dp_bl dv, ?_⟩
      cases k1 with
      | false =>
        cases hf
        rw [if_neg (by decide)]
        exact q H3 B3 s123 r3
      | true =>
        rw [if_pos rfl]
        obtain ⟨c, e3, p4, hf⟩ := bnd_some hf
        refine hc W σ H3 B3 e2 c e3 _ p4 r3 fun u H4 B4 s4 r4 du => ?_
        cases p5 : g2 b c with
        | none => rw [p5] at hf; cases hf
        | some z2 =>
          rw [p5] at hf
          refine h2 H4 B4 y u b c z2 _ r4.bh (dp_mono (x3.b.trans s4) dy) du p5 fun v2 H5 B5 x5 dv2 => ?_
          have r5 := r4.ext x5
          have s5 := (s123.trans s4).trans x5.b
          cases z2 with
          | bool k2 =>
            refine ⟨k2, dp_bl dv2, ?_⟩
            cases k2 with
            | false =>
              cases hf
              rw [if_neg (by decide)]
              exact q H5 B5 s5 r5
            | true =>
              rw [if_pos rfl]
              obtain ⟨d, e4, p6, hf⟩ := bnd_some hf
              refine hd W σ H5 B5 e3 d e4 _ p6 r5 fun v3 H6 B6 s6 r6 dv3 => ?_
              cases p7 : g3 c d with
              | none => rw [p7] at hf; cases hf
              | some z3 =>
                rw [p7] at hf
                refine h3 H6 B6 u v3 c d z3 _ r6.bh (dp_mono (x5.b.trans s6) du) dv3 p7 fun v4 H7 B7 x7 dv4 => ?_
                cases z3 with
                | bool k3 =>
                  cases hf
                  exact ⟨k, dp_bl dv4, q H7 B7 ((s5.trans s6).trans x7.b) (r6.ext x7)⟩
                | none => cases hf
                | int _ => cases hf
                | str _ => cases hf
                | list _ => cases hf
                | tuple _ => cases hf
                | dict _ => cases hf
          | none => cases hf
          | int _ => cases hf
          | str _ => cases hf
          | list _ => cases hf
          | tuple _ => cases hf
          | dict _ => cases hf
    | none => cases hf
    | int _ => cases hf
    | str _ => cases hf
    | list _ => cases hf
    | tuple _ => cases hf
    | dict _ => cases hf
end
/-! ### defs where the top has left them -/
section
variable (P : Program) (w : World) (K : PySem.W.Frag) (mg : Str → Option Value) (base : Heap)
def DefAt (x : Str) (st : Stmt) (ps : List Str) : Prop := ∃ (f : Addr) (fd : FuncData), Fun K x x st f fd ∧ Binds K fd ps [] ∧ mg x = some (.ref f)
def OkAt (L : Nat) (x : Str) (st : Stmt) (ps : List Str) (sp : Sp) : Prop := ∃ (f : Addr) (fd : FuncData), Fun K x x st f fd ∧ Binds K fd ps [] ∧ mg x = some (.ref f) ∧ FnOk P w K mg base CX0 L f fd ps sp
end
theorem hu65 {k : Nat} {A : Around} (r : Room k A) : A.units + 65 < cLine := by have := r.un; omega
end VL
namespace VL
open PySem L2
theorem mn_tup {K : PySem.W.Frag} {n : Nat} {gs : TGs} (h : Mns gs) : Mn (gTup K n gs) := fun v σ H Q Q' hq q => by
  obtain ⟨a, xs, e, h1, h2, q⟩ := q
  exact ⟨a, xs, e, h1, h2, h _ _ _ _ _ hq q⟩
end VL
end
section
set_option Elab.async false
set_option linter.all false
set_option maxRecDepth 100000
set_option maxHeartbeats 2000000
namespace VL
open PySem PySem.Spec PyProof.Rows L2 HT
section
variable {K : PySem.W.Frag} {X : Cx}
theorem blk_of {N : List Str} {sc scope0 scope : Scope} {own : List (Str × Nat)} (h : blkC N (relS scope0 sc) scope own = true) : BlkOk N (relS scope0 sc) scope own := blkOk_by h
def pAddI := pInt yes2 fun i j => .int (i + j)
theorem sr_addI : SR2 K (rI0 fun i j => .int (i + j)) pAddI := sr_I0 fun i j B => .int _
/-! ### as many unlike ones as there are -/
theorem len_le_sub : ∀ {l m : List Int}, l.Nodup → (∀ x ∈ l, x ∈ m) → l.length ≤ m.length
  | [], _, _, _ => Nat.zero_le _
  | a :: r, m, h, s => by
    have hm : a ∈ m := s a List.mem_cons_self
    obtain ⟨h1, h2⟩ := List.nodup_cons.mp h
    have := len_le_sub (l := r) (m := m.erase a) h2 fun x hx => (List.mem_erase_of_ne (fun (e : x = a) => h1 (by rw [← e]; exact hx))).mpr (s x (List.mem_cons_of_mem _ hx))
    rw [List.length_erase_of_mem hm] at this
    have pos : 0 < m.length := List.length_pos_of_mem hm
    show r.length + 1 ≤ m.length
    omega
/-- each once -/
def once : List Int → List Int
  | [] => []
  | a :: r => if (once r).contains a = true then once r else a :: once r
theorem once_mem : ∀ {l : List Int} {x : Int}, x ∈ once l ↔ x ∈ l
  | [], x => by simp [once]
  | a :: r, x => by
    unfold once
    by_cases c : (once r).contains a = true
    · rw [if_pos c, once_mem (l := r)]
      have ha : a ∈ r := once_mem.mp (List.contains_iff_mem.mp c)
      refine ⟨fun h => List.mem_cons_of_mem _ h, fun h => (List.mem_cons.mp h).elim (fun e => by rw [e]; exact ha) id⟩
    · rw [if_neg c, List.mem_cons, List.mem_cons, once_mem (l := r)]
theorem once_nodup : ∀ l : List Int, (once l).Nodup
  | [] => List.nodup_nil
  | a :: r => by
    unfold once
    by_cases c : (once r).contains a = true
    · rw [if_pos c]
      exact once_nodup r
    · rw [if_neg c]
      exact List.nodup_cons.mpr ⟨fun h => c (List.contains_iff_mem.mpr h), once_nodup r⟩
theorem once_len {l m : List Int} (hl : l.Nodup) (hm : ∀ x, x ∈ l ↔ x ∈ m) : l.length = (once m).length :=
  Nat.le_antisymm (len_le_sub hl fun x hx => once_mem.mpr ((hm x).mp hx)) (len_le_sub (once_nodup m) fun x hx => (hm x).mpr (once_mem.mp hx))
/-- len(set(t)), t a tuple of whole numbers -/
def tLenSetT (K : PySem.W.Frag) (ta : TE) : TE := fun σ H Q => ta σ H fun x H1 => ∃ (l : Addr) (ns : List Int), x = .ref l ∧ SqT K H1 l (ns.map V.int) ∧ ns.length ≤ 1000 ∧ Q (.int (once ns).length) H1
theorem ints_of_vals : ∀ {ns : List Int} {us : List Value}, Vals (ns.map V.int) us → PyProof.Rows.IntsAre us ns
  | [], _, .nil => .nil
  | n :: ns, _, .cons r t => by
    obtain ⟨k, rfl⟩ := r
    exact .cons n k (ints_of_vals t)
theorem pe_lenSetT {a : Expr} {ta : TE} {p p2 q pos : Pos} (hg : Gl X "len") (hm : X.mg "len" = none) (hg2 : Gl X "set") (hm2 : X.mg "set" = none) (ha : PE X a ta) (hc : X.calm = true := by rfl)
    (na : starEach [a] X.env = (false, eval a X.env) :: starEach [] X.env := by rfl) : PE X (.Call (.Name "len" p) [.Call (.Name "set" p2) [a] [] q] [] pos) (tLenSetT X.K ta) := by
  refine ⟨fun pins s σ H Q I h => ?_⟩
  refine Call_ (ld_blt I hg hm boot_len ?_)
  refine PyProof.Rows.callWith_builtin1 (PyProof.Rows.args_cons ?_ rfl) rfl rfl
  refine Call_ (ld_blt I hg2 hm2 boot_set ?_)
  refine PyProof.Rows.callWith_type1 (PyProof.Rows.args_cons (thn (ha.run pins s σ H _ I h) fun v s1 ⟨x, H1, I1, r1, q1⟩ => PyProof.Rows.args_nil ?_) na) na rfl
  obtain ⟨l, ns, rfl, hq, hl, q1⟩ := q1
  cases r1
  obtain ⟨its, r, pt, hz⟩ := I1.tuple hq
  refine call_set_tupI ns (I1.ok.hd hc) (show s1.heap.IsTuple l its.toArray from pt) (by simpa using ints_of_vals r) (by unfold scanBound; omega) fun h' tk c R1 hcn k => ?_
  refine PyProof.Rows.args_nil ?_
  obtain ⟨o, es, ep, t, ho, hex, hd, hgood, hnd, hS, hsz, hf, hn, _⟩ := R1
  have I2 : Inv X pins σ H1 { s1 with heap := h', toks := tk } := I1.kept fun b o e => k b o e
  have hu : c = (once ns).length := by
    rw [← hn]
    have := once_len (l := es.toList.map keyOf) (m := ns) hnd fun x => by
      rw [← hS x]
      exact decide_eq_true_iff
    rw [List.length_map, Array.length_toList] at this
    exact this
  rw [← hu] at q1
  exact call_len_set ho hex hd hf (by rw [hn] <;> omega) ⟨.int c, H1, I2.tok _, ⟨_, by rw [hn]⟩, q1⟩
def pLenSet : PyData → Option PyData
  | .tuple ds => match intsOf ds with
    | none => none
    | some ns => if Nat.ble ns.length 1000 = true then some (.int ((once ns).length : Nat)) else none
  | _ => none
theorem se_lenSet {t : TE} {f : M PyData} (h : SE K t f) : SE K (tLenSetT K t) (eUn pLenSet f) := fun W σ H B e d e' Q hf r q => by
  obtain ⟨a, e1, h1, hf⟩ := bnd_some hf
  obtain ⟨h3, rfl⟩ := put_some hf
  refine h W σ H B e a e' _ h1 r fun v H1 B1 s1 r1 dv => ?_
  unfold pLenSet at h3
  split at h3
  · rename_i ds
    cases e2 : intsOf ds with
    | none => rw [e2] at h3; cases h3
    | some ns =>
      rw [e2] at h3
      by_cases c : Nat.ble ns.length 1000 = true
      · simp only [if_pos c] at h3
        cases h3
        rw [intsOf_some e2] at dv
        obtain ⟨p, xs, rfl, b1, b2⟩ := dp_tup dv
        rw [dpAll_ints b2] at b1
        exact ⟨p, ns, rfl, seqT r1.bh b1, Nat.le_of_ble_eq_true c, q _ H1 B1 s1 r1 (.int _)⟩
      · simp only [if_neg c] at h3
        cases h3
  · cases h3
/-! ### tuple(range(..)), list(range(..)) -/
def SRg (K : PySem.W.Frag) (te : L2.St → Hp → (Int → Int → Hp → Prop) → Prop) (f : M (Int × Int)) : Prop := ∀ (W : Wd) (σ : L2.St) (H B : Hp) (e : Ev) (p : Int × Int) (e' : Ev) (Q : Int → Int → Hp → Prop), f e = some (p, e') → Rel K W σ H B e →
  (∀ H' B', Same B B' → Rel K W σ H' B' e' → Q p.1 p.2 H') → te σ H Q
def intD : PyData → Option Int
  | .int i => some i
  | _ => none
theorem intD_some {d : PyData} {i : Int} (h : intD d = some i) : d = .int i := by
  cases d with
  | int _ => cases h; rfl
  | none => cases h
  | bool _ => cases h
  | str _ => cases h
  | list _ => cases h
  | tuple _ => cases h
  | dict _ => cases h
def rg1 (f : M PyData) : M (Int × Int) := fun e => bnd (f e) fun d e1 => bnd (put (intD d) e1) fun n e2 => some ((0, n), e2)
def rg2 (f g : M PyData) : M (Int × Int) := fun e => bnd (f e) fun d e1 => bnd (g e1) fun d2 e2 => bnd (put (intD d) e2) fun n e3 => bnd (put (intD d2) e3) fun m e4 => some ((n, m), e4)
theorem srg1 {t : TE} {f : M PyData} (h : SE K t f) : SRg K (tRg1 t) (rg1 f) := fun W σ H B e p e' Q hf r q => by
  obtain ⟨d, e1, h1, hf⟩ := bnd_some hf
  obtain ⟨n, e2, h2, h3⟩ := bnd_some hf
  cases h3
  obtain ⟨h4, rfl⟩ := put_some h2
  have h5 := intD_some h4
  subst h5
  exact h W σ H B e _ _ _ h1 r fun v H' B' sb r' dv => ⟨n, dp_int dv, q H' B' sb r'⟩
theorem srg2 {t u : TE} {f g : M PyData} (h : SE K t f) (h' : SE K u g) : SRg K (tRg2 t u) (rg2 f g) := fun W σ H B e p e' Q hf r q => by
  obtain ⟨d, e1, h1, hf⟩ := bnd_some hf
  obtain ⟨d2, e2, h2, hf⟩ := bnd_some hf
  obtain ⟨n, e3, h3, hf⟩ := bnd_some hf
  obtain ⟨m, e4, h4, h5⟩ := bnd_some hf
  cases h5
  obtain ⟨a1, rfl⟩ := put_some h3
  obtain ⟨a2, rfl⟩ := put_some h4
  have b1 := intD_some a1
  have b2 := intD_some a2
  subst b1 b2
  exact h W σ H B e _ _ _ h1 r fun v H1 B1 s1 r1 dv => h' W σ H1 B1 _ _ _ _ h2 r1 fun w H2 B2 s2 r2 dw => ⟨n, m, dp_int dv, dp_int dw, q H2 B2 (s1.trans s2) r2⟩
def rgB (p : Int × Int) : Bool := inR p.1 && inR p.2 && Nat.ble (p.2 - p.1).toNat 16777216
theorem rgB_ok {p : Int × Int} (h : rgB p = true) : RgOk p.1 p.2 := by
  unfold rgB at h
  rw [Bool.and_eq_true, Bool.and_eq_true] at h
  obtain ⟨⟨h1, h2⟩, h3⟩ := h
  obtain ⟨a1, a2⟩ := inR_of h1
  obtain ⟨a3, a4⟩ := inR_of h2
  exact ⟨a1, a2, a3, a4, Nat.le_of_ble_eq_true h3⟩
theorem dpAll_rg {H : Hp} : ∀ (n : Nat) (a : Int), DpAll K H ((List.range n).map fun i => V.int (a + (i : Nat))) (upto a n)
  | 0, _ => .nil
  | n + 1, a => by
    rw [List.range_succ_eq_map, List.map_cons, List.map_map]
    refine .cons ?_ ?_
    · have e : a + ((0 : Nat) : Int) = a := by omega
      rw [e]
      exact .int a
    · have := dpAll_rg (H := H) n (a + 1)
      have e : (fun i : Nat => V.int (a + 1 + (i : Nat))) = (fun i : Nat => V.int (a + (i : Nat))) ∘ Nat.succ := by
        funext i
        show V.int _ = V.int (a + ((i + 1 : Nat) : Int))
        congr 1
        omega
      rw [← e]
      exact this
def eTupRg (f : M (Int × Int)) : M PyData := fun e => bnd (f e) fun p e1 => if rgB p = true then some (.tuple (upto p.1 (p.2 - p.1).toNat), e1) else none
theorem se_tupRg {te : L2.St → Hp → (Int → Int → Hp → Prop) → Prop} {f : M (Int × Int)} (h : SRg K te f) : SE K (tTupRg te) (eTupRg f) := fun W σ H B e d e' Q hf r q => by
  obtain ⟨p, e1, h1, hf⟩ := bnd_some hf
  by_cases c : rgB p = true
  · rw [if_pos c] at hf
    cases hf
    refine h W σ H B e p _ _ h1 r fun H1 B1 s1 r1 => ⟨rgB_ok c, fun l hl => ?_⟩
    have x := Ext.new (o := .tup (rgV p.1 p.2)) r1.bh hl
    exact q _ _ _ (s1.trans x.b) (r1.ext x) (.tup (SqT.of upd_same) (dpAll_rg _ _))
  · rw [if_neg c] at hf
    cases hf
def xListRg (f : M (Int × Int)) : M Sl := fun e => bnd (f e) fun p e1 => if rgB p = true then some (.ow (upto p.1 (p.2 - p.1).toNat), e1) else none
theorem sx_listRg {te : L2.St → Hp → (Int → Int → Hp → Prop) → Prop} {f : M (Int × Int)} (h : SRg K te f) : SX K (tLstRg te) (xListRg f) := fun W σ H B e s e' Q hf r q => by
  obtain ⟨p, e1, h1, hf⟩ := bnd_some hf
  by_cases c : rgB p = true
  · rw [if_pos c] at hf
    cases hf
    exact h W σ H B e p _ _ h1 r fun H1 B1 s1 r1 => ⟨rgB_ok c, fun l hl => q _ _ B1 s1 (r1.born hl (dpAll_rg _ _))⟩
  · rw [if_neg c] at hf
    cases hf
end
end VL
end
section
set_option Elab.async false
set_option linter.all false
set_option maxRecDepth 100000
set_option maxHeartbeats 2000000
namespace VL
open PySem PySem.Spec PyProof.Rows L2 HT PySem.W
/-! ### numbers, tuples of numbers, tuples of these ..: their order -/
mutual
def ltT : PyData → PyData → Bool
  | .int i, b => (match b with | .int j => decide (i < j) | _ => false)
  | .tuple xs, b => (match b with | .tuple ys => ltTA xs ys | _ => false)
  | .none, _ => false
  | .bool _, _ => false
  | .str _, _ => false
  | .list _, _ => false
  | .dict _, _ => false
def ltTA : List PyData → List PyData → Bool
  | [], ys => !ys.isEmpty
  | x :: xs, ys => (match ys with | [] => false | y :: ys => (match PyData.eqv x y with | true => ltTA xs ys | false => ltT x y))
end
/-- n within one another, each a number at the bottom -/
def od : Nat → PyData → Bool
  | 0, .int _ => true
  | n + 1, .tuple xs => xs.all (od n)
  | _, _ => false
theorem od_succ {n : Nat} {d : PyData} (h : od (n + 1) d = true) : ∃ xs, d = .tuple xs ∧ ∀ x ∈ xs, od n x = true := by
  cases d with
  | tuple xs => exact ⟨xs, rfl, List.all_eq_true.mp h⟩
  | none => cases h
  | bool _ => cases h
  | int _ => cases h
  | str _ => cases h
  | list _ => cases h
  | dict _ => cases h
theorem od_zero {d : PyData} (h : od 0 d = true) : ∃ i, d = .int i := by
  cases d with
  | int i => exact ⟨i, rfl⟩
  | none => cases h
  | bool _ => cases h
  | tuple _ => cases h
  | str _ => cases h
  | list _ => cases h
  | dict _ => cases h
theorem od_eqv : ∀ (n : Nat) {a b : PyData}, od n a = true → od n b = true → PyData.eqv a b = true → a = b
  | 0, a, b, ha, hb, h => by
    obtain ⟨i, rfl⟩ := od_zero ha
    obtain ⟨j, rfl⟩ := od_zero hb
    rw [PyData.eqv] at h
    rw [eq_of_beq h]
  | n + 1, a, b, ha, hb, h => by
    obtain ⟨xs, rfl, hx⟩ := od_succ ha
    obtain ⟨ys, rfl, hy⟩ := od_succ hb
    clear ha hb
    have ha := hx
    have hb := hy
    clear hx hy
    rw [PyData.eqv] at h
    congr 1
    induction xs generalizing ys with
    | nil =>
      cases ys with
      | nil => rfl
      | cons y ys => rw [PyData.eqvAll] at h; cases h
    | cons x xs ih =>
      cases ys with
      | nil => rw [PyData.eqvAll] at h; cases h
      | cons y ys =>
        rw [PyData.eqvAll, Bool.and_eq_true] at h
        rw [od_eqv n (ha x List.mem_cons_self) (hb y List.mem_cons_self) h.1, ih ys h.2 (fun z hz => ha z (List.mem_cons_of_mem _ hz)) (fun z hz => hb z (List.mem_cons_of_mem _ hz))]
theorem od_refl : ∀ (n : Nat) {a : PyData}, od n a = true → PyData.eqv a a = true
  | 0, a, ha => by
    obtain ⟨i, rfl⟩ := od_zero ha
    rw [PyData.eqv]
    exact beq_self_eq_true i
  | n + 1, a, ha => by
    obtain ⟨xs, rfl, hx⟩ := od_succ ha
    clear ha
    have ha := hx
    clear hx
    rw [PyData.eqv]
    induction xs with
    | nil => rw [PyData.eqvAll]
    | cons x xs ih =>
      rw [PyData.eqvAll, od_refl n (ha x List.mem_cons_self), ih fun z hz => ha z (List.mem_cons_of_mem _ hz)]
      rfl
theorem od_alike : ∀ (n : Nat) {a b : PyData}, od n a = true → od n b = true → alike a b = true
  | 0, a, b, ha, hb => by
    obtain ⟨i, rfl⟩ := od_zero ha
    obtain ⟨j, rfl⟩ := od_zero hb
    rw [alike]
  | n + 1, a, b, ha, hb => by
    obtain ⟨xs, rfl, hx⟩ := od_succ ha
    obtain ⟨ys, rfl, hy⟩ := od_succ hb
    clear ha hb
    have ha := hx
    have hb := hy
    clear hx hy
    rw [alike]
    induction xs generalizing ys with
    | nil => cases ys <;> rw [alikeAll]
    | cons x xs ih =>
      cases ys with
      | nil => rw [alikeAll]
      | cons y ys =>
        rw [alikeAll, od_alike n (ha x List.mem_cons_self) (hb y List.mem_cons_self), ih ys (fun z hz => ha z (List.mem_cons_of_mem _ hz)) (fun z hz => hb z (List.mem_cons_of_mem _ hz))]
        rfl
theorem od_depth : ∀ (n : Nat) {a : PyData}, od n a = true → a.depth ≤ n ∧ a.canLay0 = true
  | 0, a, ha => by
    obtain ⟨i, rfl⟩ := od_zero ha
    exact ⟨by simp [PyData.depth], by simp [PyData.canLay0]⟩
  | n + 1, a, ha => by
    obtain ⟨xs, rfl, hx⟩ := od_succ ha
    clear ha
    have ha := hx
    clear hx
    have key : PyData.depthAll xs ≤ n ∧ PyData.canLayAll0 xs = true := by
      induction xs with
      | nil => exact ⟨by simp [PyData.depthAll], by simp [PyData.canLayAll0]⟩
      | cons x xs ih =>
        obtain ⟨h1, h2⟩ := ih fun z hz => ha z (List.mem_cons_of_mem _ hz)
        obtain ⟨h3, h4⟩ := od_depth n (ha x List.mem_cons_self)
        refine ⟨?_, ?_⟩
        · rw [PyData.depthAll]
          exact Nat.max_le.mpr ⟨h3, h1⟩
        · rw [PyData.canLayAll0, h4, h2]
          rfl
    refine ⟨?_, ?_⟩
    · rw [PyData.depth]
      exact Nat.succ_le_succ key.1
    · rw [PyData.canLay0]
      exact key.2
theorem od_lt : ∀ (n : Nat) {a b : PyData}, od n a = true → od n b = true → dataLt a b = ltT a b
  | 0, a, b, ha, hb => by
    obtain ⟨i, rfl⟩ := od_zero ha
    obtain ⟨j, rfl⟩ := od_zero hb
    rw [dataLt_int]
    rfl
  | n + 1, a, b, ha, hb => by
    obtain ⟨xs, rfl, hx⟩ := od_succ ha
    obtain ⟨ys, rfl, hy⟩ := od_succ hb
    clear ha hb
    have ha := hx
    have hb := hy
    clear hx hy
    rw [dataLt_tuple]
    show _ = ltTA xs ys
    induction xs generalizing ys with
    | nil =>
      cases ys with
      | nil => exact lex_irrefl _
      | cons y ys =>
        rw [keyToksAll, keyToksAll, lex_diff (O := itemOrd) (by intro z; cases z)]
        rfl
    | cons x xs ih =>
      cases ys with
      | nil =>
        rw [keyToksAll, keyToksAll, lex_diff (O := itemOrd) (by intro z; cases z)]
        rfl
      | cons y ys =>
        rw [dataLt_cons (od_alike n (ha x List.mem_cons_self) (hb y List.mem_cons_self))]
        show _ = (match PyData.eqv x y with | true => ltTA xs ys | false => ltT x y)
        cases e : PyData.eqv x y with
        | true => exact ih ys (fun z hz => ha z (List.mem_cons_of_mem _ hz)) (fun z hz => hb z (List.mem_cons_of_mem _ hz))
        | false => exact od_lt n (ha x List.mem_cons_self) (hb y List.mem_cons_self)
theorem od_tri : ∀ (n : Nat) {a b : PyData}, od n a = true → od n b = true → ltT a b = false → ltT b a = false → a = b
  | 0, a, b, ha, hb, h1, h2 => by
    obtain ⟨i, rfl⟩ := od_zero ha
    obtain ⟨j, rfl⟩ := od_zero hb
    have h1 : decide (i < j) = false := h1
    have h2 : decide (j < i) = false := h2
    have := of_decide_eq_false h1
    have := of_decide_eq_false h2
    congr 1
    omega
  | n + 1, a, b, ha, hb, h1, h2 => by
    obtain ⟨xs, rfl, hx⟩ := od_succ ha
    obtain ⟨ys, rfl, hy⟩ := od_succ hb
    clear ha hb
    have ha := hx
    have hb := hy
    clear hx hy
    have h1' : ltTA xs ys = false := h1
    have h2' : ltTA ys xs = false := h2
    clear h1 h2
    congr 1
    induction xs generalizing ys with
    | nil =>
      cases ys with
      | nil => rfl
      | cons y ys => cases h1'
    | cons x xs ih =>
      cases ys with
      | nil => cases h2'
      | cons y ys =>
        have ox := ha x List.mem_cons_self
        have oy := hb y List.mem_cons_self
        have h1 : (match PyData.eqv x y with | true => ltTA xs ys | false => ltT x y) = false := h1'
        have h2 : (match PyData.eqv y x with | true => ltTA ys xs | false => ltT y x) = false := h2'
        cases e : PyData.eqv x y with
        | true =>
          have exy := od_eqv n ox oy e
          subst exy
          rw [e] at h1 h2
          rw [ih ys (fun z hz => ha z (List.mem_cons_of_mem _ hz)) (fun z hz => hb z (List.mem_cons_of_mem _ hz)) h1 h2]
        | false =>
          have e' : PyData.eqv y x = false := by
            cases e2 : PyData.eqv y x with
            | false => rfl
            | true =>
              have := od_eqv n oy ox e2
              subst this
              rw [e2] at e
              cases e
          rw [e] at h1
          rw [e'] at h2
          have := od_tri n ox oy h1 h2
          subst this
          rw [od_refl n ox] at e
          cases e
/-! ### sorted, one by one -/
def insD (a : PyData) : List PyData → List PyData
  | [] => [a]
  | b :: r => match ltT b a with
    | true => b :: insD a r
    | false => a :: b :: r
def sortD : List PyData → List PyData
  | [] => []
  | a :: r => insD a (sortD r)
theorem ins_perm (a : PyData) : ∀ l : List PyData, (insD a l).Perm (a :: l)
  | [] => List.Perm.refl _
  | b :: r => by
    unfold insD
    cases ltT b a with
    | true => exact ((ins_perm a r).cons b).trans (List.Perm.swap a b r)
    | false => exact List.Perm.refl _
theorem sort_perm : ∀ l : List PyData, (sortD l).Perm l
  | [] => List.Perm.refl _
  | a :: r => (ins_perm a (sortD r)).trans ((sort_perm r).cons a)
abbrev leD (a b : PyData) : Prop := ltT b a = false
theorem le_trans' {n : Nat} {a b c : PyData} (ha : od n a = true) (hb : od n b = true) (hc : od n c = true) (h1 : leD a b) (h2 : leD b c) : leD a c := by
  unfold leD at *
  rw [← od_lt n hb ha] at h1
  rw [← od_lt n hc hb] at h2
  rw [← od_lt n hc ha]
  have t := (sortLe_total (listOrd itemOrd) false (fun (d : PyData) => keyToks d)).trans a b c
  have e1 : sortLe (listOrd itemOrd) false (fun (d : PyData) => keyToks d) a b = true := by
    show (!dataLt b a) = true
    rw [h1]
    rfl
  have e2 : sortLe (listOrd itemOrd) false (fun (d : PyData) => keyToks d) b c = true := by
    show (!dataLt c b) = true
    rw [h2]
    rfl
  have e3 : (!dataLt c a) = true := t e1 e2
  cases q : dataLt c a with
  | false => rfl
  | true => rw [q] at e3; cases e3
theorem le_total' {n : Nat} {a b : PyData} (ha : od n a = true) (hb : od n b = true) : ltT a b = true → leD a b := fun h => by
  unfold leD
  rw [← od_lt n ha hb] at h
  rw [← od_lt n hb ha]
  cases q : dataLt b a with
  | false => rfl
  | true =>
    have z := lex_trans (O := itemOrd) _ _ _ h q
    rw [lex_irrefl] at z
    cases z
theorem ins_sorted {n : Nat} {a : PyData} (ha : od n a = true) : ∀ {l : List PyData}, (∀ x ∈ l, od n x = true) → l.Pairwise leD → (insD a l).Pairwise leD
  | [], _, _ => List.pairwise_singleton _ _
  | b :: r, ho, h => by
    obtain ⟨h1, h2⟩ := List.pairwise_cons.mp h
    have ob := ho b List.mem_cons_self
    unfold insD
    cases e : ltT b a with
    | true =>
      refine List.pairwise_cons.mpr ⟨fun x hx => ?_, ins_sorted ha (fun x hx => ho x (List.mem_cons_of_mem _ hx)) h2⟩
      rcases List.mem_cons.mp ((ins_perm a r).mem_iff.mp hx) with z | z
      · rw [z]
        exact le_total' ob ha e
      · exact h1 x z
    | false =>
      refine List.pairwise_cons.mpr ⟨fun x hx => ?_, h⟩
      rcases List.mem_cons.mp hx with z | z
      · rw [z]
        exact e
      · exact le_trans' ha ob (ho x (List.mem_cons_of_mem _ z)) e (h1 x z)
theorem sort_sorted {n : Nat} : ∀ {l : List PyData}, (∀ x ∈ l, od n x = true) → (sortD l).Pairwise leD
  | [], _ => List.Pairwise.nil
  | a :: r, ho => ins_sorted (ho a List.mem_cons_self) (fun x hx => ho x (List.mem_cons_of_mem _ ((sort_perm r).mem_iff.mp hx))) (sort_sorted fun x hx => ho x (List.mem_cons_of_mem _ hx))
theorem sorted_uniq {n : Nat} : ∀ {l m : List PyData}, (∀ x ∈ l, od n x = true) → l.Pairwise leD → m.Pairwise leD → l.Perm m → l = m
  | [], m, _, _, _, p => (List.Perm.eq_nil p.symm).symm
  | a :: l, [], _, _, _, p => absurd p.length_eq (by simp)
  | a :: l, b :: m, ho, h1, h2, p => by
    obtain ⟨k1, k2⟩ := List.pairwise_cons.mp h1
    obtain ⟨k3, k4⟩ := List.pairwise_cons.mp h2
    have oa := ho a List.mem_cons_self
    have ob : od n b = true := ho b (p.mem_iff.mpr List.mem_cons_self)
    have e : a = b := by
      rcases List.mem_cons.mp (p.mem_iff.mp List.mem_cons_self) with z | z
      · exact z
      · rcases List.mem_cons.mp (p.mem_iff.mpr List.mem_cons_self) with w | w
        · exact w.symm
        · exact od_tri n oa ob (k3 a z) (k1 b w)
    subst e
    rw [sorted_uniq (fun x hx => ho x (List.mem_cons_of_mem _ hx)) k2 k4 p.cons_inv]
/-! ### the rules -/
section
variable {K : PySem.W.Frag} {X : Cx}
theorem readsAll {H : Hp} {pins : List (Addr × Obj)} {σ : L2.St} {s : Shared} (I : Inv X pins σ H s) {vs : List V} {ds : List PyData} {us : List Value} (h : DpAll X.K H vs ds) (r : Vals vs us) : ∃ as, ReadsAll s.heap us ds as := Dp.readsAll I ds vs us h r
/-- which depth a list's items have -/
def odAll (n : Nat) (ds : List PyData) : Bool := ds.all (od n)
def odOf (ds : List PyData) : Option Nat := if odAll 0 ds = true then some 0 else if odAll 1 ds = true then some 1 else if odAll 2 ds = true then some 2 else if odAll 3 ds = true then some 3 else none
theorem odOf_some {ds : List PyData} {n : Nat} (h : odOf ds = some n) : n ≤ 3 ∧ ∀ x ∈ ds, od n x = true := by
  unfold odOf at h
  split at h
  · cases h
    rename_i c
    exact ⟨by decide, List.all_eq_true.mp c⟩
  · split at h
    · cases h
      rename_i c
      exact ⟨by decide, List.all_eq_true.mp c⟩
    · split at h
      · cases h
        rename_i c
        exact ⟨by decide, List.all_eq_true.mp c⟩
      · split at h
        · cases h
          rename_i c
          exact ⟨by decide, List.all_eq_true.mp c⟩
        · cases h
theorem depthAll_od {n : Nat} : ∀ {ds : List PyData}, (∀ x ∈ ds, od n x = true) → PyData.depthAll ds ≤ n
  | [], _ => by simp [PyData.depthAll]
  | d :: ds, h => by
    rw [PyData.depthAll]
    exact Nat.max_le.mpr ⟨(od_depth n (h d List.mem_cons_self)).1, depthAll_od fun x hx => h x (List.mem_cons_of_mem _ hx)⟩
def minT (x : PyData) (xs : List PyData) : PyData := xs.foldl (fun a y => match ltT y a with | true => y | false => a) x
theorem minT_eq {n : Nat} : ∀ {xs : List PyData} {x : PyData}, (∀ y ∈ x :: xs, od n y = true) → minD x xs = minT x xs
  | [], _, _ => rfl
  | y :: ys, x, h => by
    have oy := h y (List.mem_cons_of_mem _ List.mem_cons_self)
    have ox := h x List.mem_cons_self
    unfold minD minT
    rw [List.foldl_cons, List.foldl_cons, od_lt n oy ox]
    have step : ∀ z, od n z = true → List.foldl (fun a y => if dataLt y a = true then y else a) z ys = List.foldl (fun a y => match ltT y a with | true => y | false => a) z ys := fun z hz => minT_eq (x := z) fun w hw => (List.mem_cons.mp hw).elim (fun e => by rw [e]; exact hz) fun e => h w (List.mem_cons_of_mem _ (List.mem_cons_of_mem _ e))
    cases e : ltT y x with
    | true => exact step y oy
    | false => exact step x ox
def rMinD (K : PySem.W.Frag) : List V → Hp → VK → Prop := fun vs H Q => ∃ (p : Addr) (ys : List V) (x : PyData) (xs : List PyData) (n : Nat), vs = [.ref p] ∧ SqL K H p ys ∧ DpAll K H ys (x :: xs) ∧ n ≤ 3 ∧ (∀ y ∈ x :: xs, od n y = true) ∧ ∀ (i : Nat) (v : V), ys[i]? = some v → (x :: xs)[i]? = some (minT x xs) → Q v H
theorem od_none {n : Nat} {d : PyData} (h : od n d = true) : d ≠ .none := fun e => by
  subst e
  cases n <;> cases h
theorem cr_minD (hc : X.calm = true) (hu : X.A.units + 65 < cLine) : CallR X (.builtin "min") (rMinD X.K) := by
  intro pins s σ H vs us Q I r h
  obtain ⟨p, ys, x, xs, n, rfl, hs, hd, hn, ho, q⟩ := h
  obtain ⟨its, rv, hl, _⟩ := I.list hs
  rw [Vals.ref1 r]
  obtain ⟨as, hr⟩ := readsAll I hd rv
  refine min_list_data (vs := its.toArray) (I.ok.hd hc) hl.isList hr ⟨fun a ha b hb => od_alike n (ho a ha) (ho b hb), fun a ha => od_none (ho a ha)⟩ (by have := depthAll_od ho; omega) fun i v h' tk bs hv hr' hk => ?_
  have hv' : its[i]? = some v := by simpa using hv
  have il : i < ys.length := by
    rw [rv.length]
    exact (List.getElem?_eq_some_iff.mp hv').1
  obtain ⟨u, hu1, hu2⟩ := rv.get (List.getElem?_eq_getElem il)
  rw [hv'] at hu1
  cases hu1
  obtain ⟨d, hd1, hd2⟩ := dpAll_get hd (List.getElem?_eq_getElem il)
  have od_d : od n d = true := ho d (List.mem_of_getElem? hd1)
  obtain ⟨cs, hr2⟩ := Dp.reads I d _ v hd2 hu2
  have om : od n (minD x xs) = true := by
    have : minD x xs ∈ x :: xs := by
      unfold minD
      clear hr' hr q ho hd1 hd
      induction xs generalizing x with
      | nil => exact List.mem_cons_self
      | cons y ys ih =>
        rw [List.foldl_cons]
        split
        · exact List.mem_cons_of_mem _ (ih y)
        · rcases List.mem_cons.mp (ih x) with z | z
          · rw [z]
            exact List.mem_cons_self
          · exact List.mem_cons_of_mem _ (List.mem_cons_of_mem _ z)
    exact ho _ this
  have e : d = minD x xs := alike_unique d _ v _ _ (od_alike n od_d om) (reads_keeps hk hr2) hr'
  rw [minT_eq ho] at e
  rw [e] at hd1
  exact ⟨_, H, I.kept hk, hu2, q i _ (List.getElem?_eq_getElem il) hd1⟩
def pMinD : List PyData → Option PyData
  | [.list (x :: xs)] => match odOf (x :: xs) with
    | none => none
    | some _ => some (minT x xs)
  | _ => none
theorem sr_minD : SRn K (rMinD K) pMinD := fun H B xs as d Q bh ha h q => by
  unfold pMinD at h
  split at h
  · rename_i x xs
    cases e : odOf (x :: xs) with
    | none => rw [e] at h; cases h
    | some n =>
      rw [e] at h
      cases h
      obtain ⟨h1, h2⟩ := odOf_some e
      obtain ⟨v, rfl, dv⟩ := dpAll_one ha
      obtain ⟨p, ys, rfl, b1, b2⟩ := dp_lst dv
      refine ⟨p, ys, x, xs, n, rfl, bh.seq b1, dpAll_mono bh b2, h1, h2, fun i v hv hd => ?_⟩
      obtain ⟨d, k1, k2⟩ := dpAll_get b2 hv
      rw [hd] at k1
      cases k1
      exact q v H B (Ext.refl bh) k2
  · cases h
end
end VL
end
section
set_option Elab.async false
set_option linter.all false
set_option maxRecDepth 100000
set_option maxHeartbeats 2000000
namespace VL
open PySem PySem.Spec PyProof.Rows L2 HT PySem.W PySem.Calls
section
variable {prog : Program} {w : World} {A : Around} {E : Value → Shared → Prop} {s : Shared}
/-- all items of a tuple, in a new list of the machine's own -/
theorem collect_tup {l : Addr} {vs : List Value} {Q : List Value → Shared → Prop} (ht : IsTup s.heap l vs.toArray) (hz : vs.length ≤ sizeLine)
    (h : Q vs { s with heap := (s.heap.push (seqObj "list" #[] 0)).update s.heap.objs.size (Obj.mapSeq (· ++ vs.toArray)) }) : wpAny (model prog w) A (collect (.ref l)) Q E s := by
  obtain ⟨o, ho, hc, n, hd⟩ := ht
  have new : (s.heap.push (seqObj "list" #[] 0)).get? s.heap.objs.size = some (seqObj "list" #[] 0) := Heap.get?_push_size _ rfl
  have old := Heap.get?_push_of_some (seqObj "list" #[] 0) ho
  unfold collect
  refine wpAny_bind (wpAny_runValue (codeAny_builtin entry_proto_collect' ?_))
  show wpAny _ _ (newList [] >>= fun v => again (.builtin "list.__iadd__" ⟨[v, .ref l], []⟩)) _ _ s
  refine wpAny_bind (wpAny_newList (wpAny_pure ⟨Code.quiet_builtin _ (by decide +kernel), codeAny_builtin entry_list_iadd' ?_⟩))
  show wpAny _ _ (Builtin.List.listExtendWith (.ref s.heap.objs.size) (.ref l) (.ref s.heap.objs.size)) _ _ ⟨s.heap.push (seqObj "list" #[] 0), s.gens, s.drawn, s.toks, s.os⟩
  unfold Builtin.List.listExtendWith
  refine wpAny_bind (wpAny_typeOf (T := "tuple") ⟨o, old, hc⟩ ?_)
  rw [if_pos (by rw [show (Value.type "tuple" == Value.type "tuple") = true from rfl]; simp)]
  refine wpAny_bind (listItems_at old hd (wpAny_bind (listItems_at new rfl ?_)))
  rw [if_neg (by simp)]
  refine wpAny_bind (listUpdate_at new rfl (wpAny_pure ?_) (Nat.zero_le _) (by show (#[] ++ vs.toArray).size ≤ sizeLine + 1; simp only [Array.size_append, List.size_toArray, List.length_nil]; omega))
  refine wpAny_bind (wpAny_load (get?_update_seq new _) ?_)
  show wpAny _ _ (pure ((#[] : Array Value) ++ vs.toArray).toList) Q E _
  rw [show ((#[] : Array Value) ++ vs.toArray).toList = vs by simp]
  exact wpAny_pure h
/-- sorted of what is walked as vs -/
def Col (s : Shared) (l : Addr) (vs : List Value) : Prop := ∀ (prog : Program) (w : World) (A : Around) (E : Value → Shared → Prop) (Q : List Value → Shared → Prop),
  Q vs { s with heap := (s.heap.push (seqObj "list" #[] 0)).update s.heap.objs.size (Obj.mapSeq (· ++ vs.toArray)) } → wpAny (model prog w) A (collect (.ref l)) Q E s
theorem sorted_col {l : Addr} {vs : List Value} {Q : Value → Shared → Prop} (hc : Col s l vs) (hL : vs.length ≤ sizeLine)
    (body : ∀ E' : Value → Shared → Prop, wpAny (model prog w) A.in1.in1 (Builtin.«list.sort» ⟨[.ref (s.heap.objs.size + 1)], []⟩) (fun f s' => f = .done (.ret .none) ∧ Q (.ref (s.heap.objs.size + 1)) s') E' { s with heap := copyHeap s.heap vs }) :
    wpAny (model prog w) A (call (.builtin "sorted") [.ref l]) Q E s := by
  refine call_function_entry_kw kind_sorted plain_sorted entry_sorted (args_sorted1 _) ?_
  unfold Builtin.«sorted»
  refine wpAny_bind (m := checkCount "sorted" 1 1 _) (wpAny_pure ?_)
  refine wpAny_bind (hc _ _ _ _ _ ?_)
  refine wpAny_bind (wpAny_newList ?_ hL)
  have hsz : ((s.heap.push (seqObj "list" #[] 0)).update s.heap.objs.size (Obj.mapSeq (· ++ vs.toArray))).objs.size = s.heap.objs.size + 1 := by
    rw [Heap.size_update, size_push']
  show wpAny _ _ _ _ _ { s with heap := copyHeap s.heap vs }
  rw [hsz]
  refine wpAny_bind (wpAny_holding (wpAny_call_entry_kw slot_list_sort ⟨_, copyHeap_at s.heap vs, rfl⟩ entry_list_sort ?body (args_list_sort _)))
  case body =>
    show wpAny (model prog w) A.in1.in1 (Builtin.«list.sort» ⟨[.ref (s.heap.objs.size + 1)], []⟩) _ _ _
    refine wpAny_mono (body _) (fun f s' hf => ?_) fun _ _ e => e
    obtain ⟨rfl, hq⟩ := hf
    exact ⟨_, rfl, wpAny_pure ⟨_, rfl, hq⟩⟩
variable {β : Type} {vs : List Value} {bs : List β} {enc : β → PyData} {R : Value → β → Prop}
theorem sorted_dataC {l : Addr} {Q : Value → Shared → Prop} (hc : Col s l vs) (e : EachIs R vs bs) (er : EachIs (fun v b => ∃ as, Reads s.heap v (enc b) as) vs bs) (hal : AllAlike (bs.map enc)) (hk : Sortable (bs.map enc)) (hL : bs.length ≤ sizeLine)
    (hu : ∀ b, b ∈ bs → A.units + 2 + (enc b).depth < cLine) (h : ∀ out, out.length = bs.length → EachIs R out (bs.mergeSort (dataLe false enc)) → Q (.ref (s.heap.objs.size + 1)) { s with heap := sortedAll s.heap vs (List.toArray out) }) :
    wpAny (model prog w) A (call (.builtin "sorted") [.ref l]) Q E s := by
  have er' : EachIs (fun v b => ∃ as, Reads (sortingHeap (copyHeap s.heap vs) (s.heap.objs.size + 1) vs) v (enc b) as) vs bs := er.mono fun _ _ ⟨as, r⟩ => ⟨as, PyProof.Rows.Reads.keeps (fun _ _ => sorting_copy_old) r⟩
  have hL' : vs.length ≤ sizeLine := by rw [e.length]; exact hL
  refine sorted_col hc hL' fun E' => list_sort_vals (s := { s with heap := copyHeap s.heap vs }) (copyHeap_at s.heap vs) (SortsAt.data (s := { s with heap := sortingHeap (copyHeap s.heap vs) (s.heap.objs.size + 1) vs }) (each_map (R := fun v d => ∃ as, Reads (sortingHeap (copyHeap s.heap vs) (s.heap.objs.size + 1) vs) v d as) enc er') hal hk (bound_map hu)) hL' ⟨rfl, ?_⟩
  exact h _ (by rw [sortVals_length false rfl]; exact e.length) (sortVals_data false e er' hal)
end
section
variable {K : PySem.W.Frag} {X : Cx}
theorem each_zip {H : Hp} {pins : List (Addr × Obj)} {σ : L2.St} {s : Shared} (I : Inv X pins σ H s) : ∀ {ys : List V} {ds : List PyData} {its : List Value}, DpAll X.K H ys ds → Vals ys its → EachIs (fun v (b : V × PyData) => RelV b.1 v) its (ys.zip ds) ∧ EachIs (fun v (b : V × PyData) => ∃ as, Reads s.heap v b.2 as) its (ys.zip ds)
  | _, _, _, .nil, .nil => ⟨.nil, .nil⟩
  | _, _, _, .cons h t, .cons r rs => by
    obtain ⟨a, b⟩ := each_zip I t rs
    exact ⟨.cons r a, .cons (Dp.reads I _ _ _ h r) b⟩
theorem zip_snd {H : Hp} : ∀ {ys : List V} {ds : List PyData}, DpAll K H ys ds → (ys.zip ds).map Prod.snd = ds
  | _, _, .nil => rfl
  | _, _, .cons _ t => congrArg (_ :: ·) (zip_snd t)
theorem zip_fst {H : Hp} : ∀ {ys : List V} {ds : List PyData}, DpAll K H ys ds → (ys.zip ds).map Prod.fst = ys
  | _, _, .nil => rfl
  | _, _, .cons _ t => congrArg (_ :: ·) (zip_fst t)
theorem zip_mem {H : Hp} : ∀ {ys : List V} {ds : List PyData}, DpAll K H ys ds → ∀ p ∈ ys.zip ds, Dp K H p.1 p.2
  | _, _, .nil, p, hp => by cases hp
  | _, _, .cons h t, p, hp => by
    rcases List.mem_cons.mp hp with e | e
    · rw [e]
      exact h
    · exact zip_mem t p e
theorem dpAll_pairs {H : Hp} : ∀ {l : List (V × PyData)}, (∀ p ∈ l, Dp K H p.1 p.2) → DpAll K H (l.map Prod.fst) (l.map Prod.snd)
  | [], _ => .nil
  | p :: l, h => .cons (h p List.mem_cons_self) (dpAll_pairs fun q hq => h q (List.mem_cons_of_mem _ hq))
theorem vals_each : ∀ {out : List Value} {l : List (V × PyData)}, EachIs (fun v (b : V × PyData) => RelV b.1 v) out l → Vals (l.map Prod.fst) out
  | _, _, .nil => .nil
  | _, _, .cons r t => .cons r (vals_each t)
/-- a list or a tuple, its items told -/
def rSortA (K : PySem.W.Frag) : List V → Hp → VK → Prop := fun vs H Q => ∃ (p : Addr) (ys : List V) (ds : List PyData) (n : Nat), vs = [.ref p] ∧ (SqL K H p ys ∨ SqT K H p ys) ∧ DpAll K H ys ds ∧ n ≤ 3 ∧ (∀ y ∈ ds, od n y = true) ∧ Sortable ds ∧
  ∀ (q : Addr) (zs : List V), H q = none → (∀ (B : Hp), DpAll K B ys ds → DpAll K B zs (sortD ds)) → Q (.ref q) (upd H q (.lst zs))
theorem cr_sortedA (hu : X.A.units + 65 < cLine) : CallR X (.builtin "sorted") (rSortA X.K) := by
  intro pins s σ H vs us Q I r h
  obtain ⟨p, ys, ds, n, rfl, hs, hd, hn, ho, hk, q⟩ := h
  rw [Vals.ref1 r]
  have main : ∀ its : List Value, Vals ys its → ys.length ≤ sizeLine → Col s p its → wpAny (model X.prog X.w) X.A (call (.builtin "sorted") [.ref p]) (EP X pins σ Q) X.xe s := by
    intro its rv hz hc
    obtain ⟨e1, e2⟩ := each_zip I hd rv
    have hsnd := zip_snd hd
    have hL : (ys.zip ds).length ≤ sizeLine := by rw [List.length_zip, dpAll_len hd, Nat.min_self, ← dpAll_len hd]; exact hz
    refine sorted_dataC (enc := fun b : V × PyData => b.2) hc e1 e2 (by rw [hsnd]; exact fun a ha b hb => od_alike n (ho a ha) (ho b hb)) (by rw [hsnd]; exact hk) hL (fun b hb => ?_) fun out hl eo => ?_
    · have hb2 : b.2 ∈ ds := by
        rw [← hsnd]
        exact List.mem_map.mpr ⟨b, hb, rfl⟩
      have := (od_depth n (ho _ hb2)).1
      omega
    · obtain ⟨ep, he⟩ := sortedAll_at s.heap its out.toArray
      have pm : ((ys.zip ds).mergeSort (dataLe false fun b : V × PyData => b.2)).Perm (ys.zip ds) := List.mergeSort_perm _ _
      have srt : ((ys.zip ds).mergeSort (dataLe false fun b : V × PyData => b.2)).Pairwise (fun a b => dataLe false (fun b : V × PyData => b.2) a b = true) :=
        List.pairwise_mergeSort (le := dataLe false fun b : V × PyData => b.2) (fun a b c => (sortLe_total (listOrd itemOrd) false fun b : V × PyData => keyToks b.2).trans a b c) (fun a b => by
          have t := (sortLe_total (listOrd itemOrd) false fun b : V × PyData => keyToks b.2).total a b
          exact (Bool.or_eq_true _ _).mpr t) _
      have eD : ((ys.zip ds).mergeSort (dataLe false fun b : V × PyData => b.2)).map Prod.snd = sortD ds := by
        have p2 : (((ys.zip ds).mergeSort (dataLe false fun b : V × PyData => b.2)).map Prod.snd).Perm ds := by
          have := pm.map Prod.snd
          rw [hsnd] at this
          exact this
        refine sorted_uniq (n := n) (fun x hx => ho x (p2.mem_iff.mp hx)) ?_ (sort_sorted ho) (p2.trans (sort_perm ds).symm)
        refine List.pairwise_map.mpr (List.pairwise_iff_forall_sublist.mpr fun {a b} hab => ?_)
        have q1 := List.pairwise_iff_forall_sublist.mp srt hab
        have m1 : a.2 ∈ ds := p2.mem_iff.mp (List.mem_map.mpr ⟨a, hab.subset List.mem_cons_self, rfl⟩)
        have m2 : b.2 ∈ ds := p2.mem_iff.mp (List.mem_map.mpr ⟨b, hab.subset (List.mem_cons_of_mem _ List.mem_cons_self), rfl⟩)
        show ltT b.2 a.2 = false
        rw [← od_lt n (ho _ m2) (ho _ m1)]
        have q2 : (!dataLt b.2 a.2) = true := q1
        cases q3 : dataLt b.2 a.2 with
        | false => rfl
        | true => rw [q3] at q2; cases q2
      have hl2 : (((ys.zip ds).mergeSort (dataLe false fun b : V × PyData => b.2)).map Prod.fst).length ≤ sizeLine := by rw [List.length_map, pm.length_eq]; exact hL
      have J := I.laid (t' := s.toks) (o := .lst (((ys.zip ds).mergeSort (dataLe false fun b : V × PyData => b.2)).map Prod.fst)) (fun _ _ => sortedAll_old (vs := its) (out := out.toArray)) (Nat.le_succ _) ⟨hl2, out, ep, vals_each eo, he⟩
      refine ⟨.ref _, _, J, rfl, q _ _ (I.hok.fresh (Nat.le_succ _)) fun B hB => ?_⟩
      rw [← eD]
      exact dpAll_pairs fun p hp => zip_mem hB p (pm.mem_iff.mp hp)
  rcases hs with hs | hs
  · obtain ⟨its, rv, hl, hz⟩ := I.list hs
    exact main its rv hz fun prog w A E Q hq => collect_list hl.isList hq (by rw [← rv.length]; exact hz)
  · obtain ⟨its, rv, hl, hz⟩ := I.tuple hs
    exact main its rv hz fun prog w A E Q hq => collect_tup hl (by rw [← rv.length]; exact hz) hq
def isTup1 : PyData → Bool
  | .tuple (_ :: _) => true
  | _ => false
def pSorted : List PyData → Option (List PyData)
  | [d] => match seqD d with
    | none => none
    | some ds => match odOf ds with
      | none => none
      | some 0 => some (sortD ds)
      | some (_ + 1) => if ds.all isTup1 = true then some (sortD ds) else none
  | _ => none
theorem isTup1_some {d : PyData} (h : isTup1 d = true) : ∃ x r, d = .tuple (x :: r) := by
  unfold isTup1 at h
  split at h
  · exact ⟨_, _, rfl⟩
  · cases h
theorem sr_sorted : SRx K (rSortA K) pSorted := fun H B xs as ds Q bh ha h q => by
  unfold pSorted at h
  split at h
  · rename_i d
    cases e : seqD d with
    | none => rw [e] at h; cases h
    | some es =>
      rw [e] at h
      obtain ⟨v, rfl, dv⟩ := dpAll_one ha
      cases e2 : odOf es with
      | none => simp only [e2] at h; cases h
      | some n =>
        obtain ⟨h1, h2⟩ := odOf_some e2
        have key : sortD es = ds ∧ Sortable es := by
          cases n with
          | zero =>
            simp only [e2] at h
            cases h
            refine ⟨rfl, .inr fun d hd => ?_⟩
            obtain ⟨i, rfl⟩ := od_zero (h2 d hd)
            exact ⟨fun z => (by cases z), fun xs z => (by cases z)⟩
          | succ m =>
            simp only [e2] at h
            by_cases c : es.all isTup1 = true
            · rw [if_pos c] at h
              cases h
              exact ⟨rfl, .inl fun d hd => isTup1_some (List.all_eq_true.mp c d hd)⟩
            · rw [if_neg c] at h
              cases h
        obtain ⟨rfl, hk⟩ := key
        rcases seqD_some e with rfl | rfl
        · obtain ⟨p, ys, rfl, b1, b2⟩ := dp_lst dv
          exact ⟨p, ys, es, n, rfl, .inl (bh.seq b1), dpAll_mono bh b2, h1, h2, hk, fun l zs hl hz => q l zs H B (Ext.refl bh) hl (hz B b2)⟩
        · obtain ⟨p, ys, rfl, b1, b2⟩ := dp_tup dv
          exact ⟨p, ys, es, n, rfl, .inr (seqT bh b1), dpAll_mono bh b2, h1, h2, hk, fun l zs hl hz => q l zs H B (Ext.refl bh) hl (hz B b2)⟩
  · cases h
end
end VL
end
section
set_option Elab.async false
set_option linter.all false
set_option maxRecDepth 100000
set_option maxHeartbeats 2000000
namespace VL
open PySem PySem.Spec PyProof.Rows L2 HT
/-! ### keys -/
mutual
theorem reads_nested {h : Heap} : ∀ {d : PyData} {u : Value} {as : List Addr} {k : NestedKey}, Reads h u d as → keyN d = some k → NestedIs h k u
  | .int i, _, _, _, r, e => by
    cases r
    cases e
    exact .int _ _
  | .tuple ds, _, _, _, r, e => by
    cases r with
    | tuple h1 h2 h3 h4 =>
      unfold keyN at e
      cases e2 : keyNs ds with
      | none => rw [e2] at e; cases e
      | some ks =>
        rw [e2] at e
        cases e
        exact .tup h1 h2 h3 (reads_nesteds h4 e2)
  | .none, _, _, _, _, e => by cases e
  | .bool _, _, _, _, _, e => by cases e
  | .str _, _, _, _, _, e => by cases e
  | .list _, _, _, _, _, e => by cases e
  | .dict _, _, _, _, _, e => by cases e
theorem reads_nesteds {h : Heap} : ∀ {ds : List PyData} {us : List Value} {as : List Addr} {ks : List NestedKey}, ReadsAll h us ds as → keyNs ds = some ks → NestedAll h ks us
  | [], _, _, _, r, e => by
    cases r
    cases e
    exact .nil
  | d :: ds, _, _, _, r, e => by
    cases r with
    | cons r1 r2 =>
      unfold keyNs at e
      cases e1 : keyN d with
      | none => rw [e1] at e; cases e
      | some k =>
        cases e2 : keyNs ds with
        | none => simp only [e1, e2] at e; cases e
        | some ks =>
          simp only [e1, e2] at e
          cases e
          exact .cons (reads_nested r1 e1) (reads_nesteds r2 e2)
end
mutual
theorem key_depth : ∀ {d : PyData} {k : NestedKey}, keyN d = some k → k.depth ≤ d.depth
  | .int i, _, e => by
    cases e
    exact Nat.zero_le _
  | .tuple ds, _, e => by
    unfold keyN at e
    cases e2 : keyNs ds with
    | none => rw [e2] at e; cases e
    | some ks =>
      rw [e2] at e
      cases e
      rw [NestedKey.depth, PyData.depth]
      exact Nat.succ_le_succ (keys_depth e2)
  | .none, _, e => by cases e
  | .bool _, _, e => by cases e
  | .str _, _, e => by cases e
  | .list _, _, e => by cases e
  | .dict _, _, e => by cases e
theorem keys_depth : ∀ {ds : List PyData} {ks : List NestedKey}, keyNs ds = some ks → NestedKey.depthAll ks ≤ PyData.depthAll ds
  | [], _, e => by
    cases e
    exact Nat.zero_le _
  | d :: ds, _, e => by
    unfold keyNs at e
    cases e1 : keyN d with
    | none => rw [e1] at e; cases e
    | some k =>
      cases e2 : keyNs ds with
      | none => simp only [e1, e2] at e; cases e
      | some ks =>
        simp only [e1, e2] at e
        cases e
        rw [NestedKey.depthAll, PyData.depthAll]
        have a := key_depth e1
        have b := keys_depth e2
        omega
end
mutual
theorem key_hash (w : World) : ∀ {d : PyData} {k : NestedKey}, keyN d = some k → k.hash w = hashN k
  | .int i, _, e => by
    cases e
    rw [NestedKey.hash, hashN]
  | .tuple ds, _, e => by
    unfold keyN at e
    cases e2 : keyNs ds with
    | none => rw [e2] at e; cases e
    | some ks =>
      rw [e2] at e
      cases e
      rw [NestedKey.hash, hashN, keys_hash w e2]
  | .none, _, e => by cases e
  | .bool _, _, e => by cases e
  | .str _, _, e => by cases e
  | .list _, _, e => by cases e
  | .dict _, _, e => by cases e
theorem keys_hash (w : World) : ∀ {ds : List PyData} {ks : List NestedKey}, keyNs ds = some ks → NestedKey.hashes w ks = hashNs ks
  | [], _, e => by
    cases e
    rw [NestedKey.hashes, hashNs]
  | d :: ds, _, e => by
    unfold keyNs at e
    cases e1 : keyN d with
    | none => rw [e1] at e; cases e
    | some k =>
      cases e2 : keyNs ds with
      | none => simp only [e1, e2] at e; cases e
      | some ks =>
        simp only [e1, e2] at e
        cases e
        rw [NestedKey.hashes, hashNs, key_hash w e1, keys_hash w e2]
end
mutual
theorem key_eqv : ∀ {a b : PyData} {k k' : NestedKey}, keyN a = some k → keyN b = some k' → (PyData.eqv a b = true ↔ k = k')
  | .int i, b, _, k', e, e' => by
    cases e
    cases b with
    | int j =>
      cases e'
      rw [PyData.eqv]
      exact ⟨fun h => (by rw [eq_of_beq h]), fun h => (by cases h; exact beq_self_eq_true _)⟩
    | tuple ds =>
      unfold keyN at e'
      cases e2 : keyNs ds with
      | none => rw [e2] at e'; cases e'
      | some ks =>
        rw [e2] at e'
        cases e'
        rw [PyData.eqv]
        exact ⟨fun h => (by cases h), fun h => (by cases h)⟩
    | none => cases e'
    | bool _ => cases e'
    | str _ => cases e'
    | list _ => cases e'
    | dict _ => cases e'
  | .tuple xs, b, _, k', e, e' => by
    unfold keyN at e
    cases e2 : keyNs xs with
    | none => rw [e2] at e; cases e
    | some ks =>
      rw [e2] at e
      cases e
      cases b with
      | int j =>
        cases e'
        rw [PyData.eqv]
        exact ⟨fun h => (by cases h), fun h => (by cases h)⟩
      | tuple ys =>
        unfold keyN at e'
        cases e3 : keyNs ys with
        | none => rw [e3] at e'; cases e'
        | some ks' =>
          rw [e3] at e'
          cases e'
          rw [PyData.eqv]
          have := keys_eqv e2 e3
          exact ⟨fun h => (by rw [this.mp h]), fun h => this.mpr (by cases h; rfl)⟩
      | none => cases e'
      | bool _ => cases e'
      | str _ => cases e'
      | list _ => cases e'
      | dict _ => cases e'
  | .none, _, _, _, e, _ => by cases e
  | .bool _, _, _, _, e, _ => by cases e
  | .str _, _, _, _, e, _ => by cases e
  | .list _, _, _, _, e, _ => by cases e
  | .dict _, _, _, _, e, _ => by cases e
theorem keys_eqv : ∀ {as bs : List PyData} {ks ks' : List NestedKey}, keyNs as = some ks → keyNs bs = some ks' → (PyData.eqvAll as bs = true ↔ ks = ks')
  | [], bs, _, ks', e, e' => by
    cases e
    cases bs with
    | nil =>
      cases e'
      rw [PyData.eqvAll]
      exact ⟨fun _ => rfl, fun _ => rfl⟩
    | cons b bs =>
      rw [PyData.eqvAll]
      unfold keyNs at e'
      cases e1 : keyN b with
      | none => rw [e1] at e'; cases e'
      | some k =>
        cases e2 : keyNs bs with
        | none => simp only [e1, e2] at e'; cases e'
        | some ks =>
          simp only [e1, e2] at e'
          cases e'
          exact ⟨fun h => (by cases h), fun h => (by cases h)⟩
  | a :: as, bs, _, ks', e, e' => by
    unfold keyNs at e
    cases e1 : keyN a with
    | none => rw [e1] at e; cases e
    | some k =>
      cases e2 : keyNs as with
      | none => simp only [e1, e2] at e; cases e
      | some ks =>
        simp only [e1, e2] at e
        cases e
        cases bs with
        | nil =>
          cases e'
          rw [PyData.eqvAll]
          exact ⟨fun h => (by cases h), fun h => (by cases h)⟩
        | cons b bs =>
          unfold keyNs at e'
          cases e3 : keyN b with
          | none => rw [e3] at e'; cases e'
          | some k' =>
            cases e4 : keyNs bs with
            | none => simp only [e3, e4] at e'; cases e'
            | some ks' =>
              simp only [e3, e4] at e'
              cases e'
              rw [PyData.eqvAll, Bool.and_eq_true, key_eqv e1 e3, keys_eqv e2 e4]
              exact ⟨fun h => (by rw [h.1, h.2]), fun h => (by cases h; exact ⟨rfl, rfl⟩)⟩
end
mutual
theorem key_inj : ∀ {a b : PyData} {k : NestedKey}, keyN a = some k → keyN b = some k → a = b
  | .int i, b, _, e, e' => by
    cases e
    cases b with
    | int j => cases e'; rfl
    | tuple ds =>
      unfold keyN at e'
      cases e2 : keyNs ds with
      | none => rw [e2] at e'; cases e'
      | some ks => rw [e2] at e'; cases e'
    | none => cases e'
    | bool _ => cases e'
    | str _ => cases e'
    | list _ => cases e'
    | dict _ => cases e'
  | .tuple xs, b, k, e, e' => by
    unfold keyN at e
    cases e2 : keyNs xs with
    | none => rw [e2] at e; cases e
    | some ks =>
      rw [e2] at e
      cases e
      cases b with
      | int j => cases e'
      | tuple ys =>
        unfold keyN at e'
        cases e3 : keyNs ys with
        | none => rw [e3] at e'; cases e'
        | some ks' =>
          rw [e3] at e'
          cases e'
          rw [keys_inj e2 e3]
      | none => cases e'
      | bool _ => cases e'
      | str _ => cases e'
      | list _ => cases e'
      | dict _ => cases e'
  | .none, _, _, e, _ => by cases e
  | .bool _, _, _, e, _ => by cases e
  | .str _, _, _, e, _ => by cases e
  | .list _, _, _, e, _ => by cases e
  | .dict _, _, _, e, _ => by cases e
theorem keys_inj : ∀ {as bs : List PyData} {ks : List NestedKey}, keyNs as = some ks → keyNs bs = some ks → as = bs
  | [], bs, _, e, e' => by
    cases e
    cases bs with
    | nil => rfl
    | cons b bs =>
      unfold keyNs at e'
      cases e1 : keyN b with
      | none => rw [e1] at e'; cases e'
      | some k =>
        cases e2 : keyNs bs with
        | none => simp only [e1, e2] at e'; cases e'
        | some ks => simp only [e1, e2] at e'; cases e'
  | a :: as, bs, _, e, e' => by
    unfold keyNs at e
    cases e1 : keyN a with
    | none => rw [e1] at e; cases e
    | some k =>
      cases e2 : keyNs as with
      | none => simp only [e1, e2] at e; cases e
      | some ks =>
        simp only [e1, e2] at e
        cases e
        cases bs with
        | nil => cases e'
        | cons b bs =>
          unfold keyNs at e'
          cases e3 : keyN b with
          | none => rw [e3] at e'; cases e'
          | some k' =>
            cases e4 : keyNs bs with
            | none => simp only [e3, e4] at e'; cases e'
            | some ks' =>
              simp only [e3, e4] at e'
              cases e'
              rw [key_inj e1 e3, keys_inj e2 e4]
end
/-! ### what a dict holds -/
def lookD : List (PyData × PyData) → PyData → Option PyData
  | [], _ => none
  | (d', v) :: r, d => match PyData.eqv d' d with
    | true => some v
    | false => lookD r d
def putAtD (d dv : PyData) (p : PyData × PyData) : PyData × PyData := match PyData.eqv p.1 d with
  | true => (p.1, dv)
  | false => p
def putD (kvs : List (PyData × PyData)) (d dv : PyData) : List (PyData × PyData) := match lookD kvs d with
  | none => kvs ++ [(d, dv)]
  | some _ => kvs.map (putAtD d dv)
section
variable {K : PySem.W.Frag} {B : Hp}
theorem ents_look : ∀ {xs : List (NestedKey × Addr × Value)} {kvs : List (PyData × PyData)} {d : PyData} {k : NestedKey}, EntsOk K B xs kvs → keyN d = some k →
    (∀ dv, lookD kvs d = some dv → ∃ p v, atKey xs k = some p ∧ RelV v p.2 ∧ Dp K B v dv) ∧ (lookD kvs d = none → atKey xs k = none)
  | _, _, _, _, .nil, _ => ⟨fun _ h => (by cases h), fun _ => rfl⟩
  | _, _, d, k, .cons (k := k') (a := a) (u := u) (d := d') (dv := dv') (v := v) (xs := xs) (kvs := kvs) h1 h2 h3 h4 h5 t, e => by
    obtain ⟨i1, i2⟩ := ents_look t e
    have key := key_eqv h1 e
    have fnd : atKey ((k', a, u) :: xs) k = if k' = k then some (a, u) else atKey xs k := by
      unfold atKey
      rw [List.find?_cons]
      by_cases c : k' = k
      · rw [if_pos c]
        simp [c]
      · rw [if_neg c]
        simp [c]
    rw [fnd]
    show (∀ dv, (match PyData.eqv d' d with | true => some dv' | false => lookD kvs d) = some dv → _) ∧ ((match PyData.eqv d' d with | true => some dv' | false => lookD kvs d) = none → _)
    cases q : PyData.eqv d' d with
    | true =>
      rw [if_pos (key.mp q)]
      exact ⟨fun dv h => (by cases h; exact ⟨_, v, rfl, h4, h5⟩), fun h => (by cases h)⟩
    | false =>
      rw [if_neg fun c => by rw [key.mpr c] at q; cases q]
      exact ⟨i1, i2⟩
theorem ents_app : ∀ {xs ys : List (NestedKey × Addr × Value)} {kvs lvs : List (PyData × PyData)}, EntsOk K B xs kvs → EntsOk K B ys lvs → EntsOk K B (xs ++ ys) (kvs ++ lvs)
  | _, _, _, _, .nil, h => h
  | _, _, _, _, .cons a a' b c d t, h => .cons a a' b c d (ents_app t h)
theorem ents_map {d dv : PyData} {k : NestedKey} {u : Value} {v : V} (e : keyN d = some k) (ru : RelV v u) (hv : Dp K B v dv) : ∀ {xs : List (NestedKey × Addr × Value)} {kvs : List (PyData × PyData)}, EntsOk K B xs kvs → EntsOk K B (xs.map (putAt k u)) (kvs.map (putAtD d dv))
  | _, _, .nil => .nil
  | _, _, .cons (k := k') (a := a) (u := u') (d := d') (dv := dv') h1 h2 h3 h4 h5 t => by
    have key := key_eqv h1 e
    rw [List.map_cons, List.map_cons]
    unfold putAt putAtD
    dsimp only
    cases q : PyData.eqv d' d with
    | true =>
      rw [if_pos (by simpa using key.mp q)]
      exact .cons h1 h2 h3 ru hv (ents_map e ru hv t)
    | false =>
      rw [if_neg (fun c => by rw [key.mpr (by simpa using c)] at q; cases q)]
      exact .cons h1 h2 h3 h4 h5 (ents_map e ru hv t)
theorem ents_put {xs : List (NestedKey × Addr × Value)} {kvs : List (PyData × PyData)} {d dv : PyData} {k : NestedKey} {b : Addr} {u : Value} {v : V} (h : EntsOk K B xs kvs) (e : keyN d = some k) (e8 : d.depth ≤ 8) (hd : Dp K B (.ref b) d) (ru : RelV v u) (hv : Dp K B v dv) :
    EntsOk K B (storedH xs k b u) (putD kvs d dv) := by
  obtain ⟨i1, i2⟩ := ents_look h e
  unfold putD
  cases q : lookD kvs d with
  | none =>
    rw [storedH_new (i2 q)]
    exact ents_app h (.cons e e8 hd ru hv .nil)
  | some z =>
    obtain ⟨p, _, h1, _⟩ := i1 z q
    rw [storedH_old h1]
    exact ents_map e ru hv h
theorem ents_len : ∀ {xs : List (NestedKey × Addr × Value)} {kvs : List (PyData × PyData)}, EntsOk K B xs kvs → xs.length = kvs.length
  | _, _, .nil => rfl
  | _, _, .cons _ _ _ _ _ t => congrArg (· + 1) (ents_len t)
end
section
variable {X : Cx} {pins : List (Addr × Obj)} {σ : L2.St} {H : Hp} {s : Shared}
theorem ents_is (I : Inv X pins σ H s) : ∀ {xs : List (NestedKey × Addr × Value)} {kvs : List (PyData × PyData)}, EntsOk X.K H xs kvs → (∀ x ∈ xs, (nestedKind X.prog X.w).is s.heap x.1 x.2.1) ∧ xs.map entN = xs.map (entryOfKey (nestedKind X.prog X.w)) ∧ ∀ x ∈ xs, x.1.hash X.w = hashN x.1
  | _, _, .nil => ⟨fun x hx => (by cases hx), rfl, fun x hx => (by cases hx)⟩
  | _, _, .cons (k := k) (a := a) (u := u) h1 h2 h3 h4 h5 t => by
    obtain ⟨i1, i2, i3⟩ := ents_is I t
    obtain ⟨as, r⟩ := Dp.reads I _ _ (.ref a) h3 rfl
    refine ⟨fun x hx => ?_, ?_, fun x hx => ?_⟩
    · rcases List.mem_cons.mp hx with e | e
      · rw [e]
        exact ⟨reads_nested r h1, Nat.le_trans (key_depth h1) h2⟩
      · exact i1 x e
    · rw [List.map_cons, List.map_cons, i2]
      congr 1
      show DictEntry.mk _ _ _ = DictEntry.mk _ _ _
      congr 1
      exact (key_hash X.w h1).symm
    · rcases List.mem_cons.mp hx with e | e
      · rw [e]
        exact key_hash X.w h1
      · exact i3 x e
theorem dict_of (I : Inv X pins σ H s) {a : Addr} {xs : List (NestedKey × Addr × Value)} {kvs : List (PyData × PyData)} (e : H a = some (.ext (dictP xs a))) (h : EntsOk X.K H xs kvs) : s.heap.DictOfH (nestedKind X.prog X.w) a xs := by
  obtain ⟨⟨o, es, ep, h1, h2, h3, h4, h5⟩, _, _⟩ := I.hok a _ e
  obtain ⟨i1, i2, _⟩ := ents_is I h
  exact ⟨o, es, ep, h1, h2, h3, by rw [h4, i2], i1, h5⟩
theorem ext_ok {P : Program} {w : World} {H : Hp} {h : Heap} {a : Addr} {xs : List (NestedKey × Addr × Value)} (p : dictP xs a h) : ObjOk P w H h a (.ext (dictP xs a)) := by
  refine ⟨p, ?_, fun h1 h2 q k => ?_⟩
  · obtain ⟨o, _, _, h1, _⟩ := p
    exact ⟨o, h1⟩
  · obtain ⟨o, es, ep, q1, q2⟩ := q
    exact ⟨o, es, ep, k o q1, q2⟩
/-! ### the rules -/
variable {o i e value f : Expr} {pos pos' apos cpos : Pos} {td ty tv tx : TE}
theorem pe_dnewN : PE X (.Dict [] [] pos) (fun _ H Q => ∀ p, H p = none → (p == sysModules) = false → Q (.ref p) (upd H p (.ext (dictP [] p)))) := ⟨fun pins s σ H Q I h => by
  refine wpAny_Dict_empty ⟨.ref s.heap.objs.size, _, I.laid (a := s.heap.objs.size) (o := .ext (dictP [] s.heap.objs.size)) (t' := s.toks) (fun _ _ q => Heap.get?_push_of_some _ q) (Nat.le_refl _) (ext_ok ?_), rfl, h _ (I.hok.fresh (Nat.le_refl _)) ?_⟩
  · exact ⟨_, #[], 0, Heap.get?_push_size _ rfl, ⟨rfl, rfl, by first | rfl | decide⟩, rfl, rfl, List.nodup_nil⟩
  · have := I.big
    exact beq_eq_false_iff_ne.mpr (Nat.ne_of_gt this)⟩
/-- where a key stands in a dict -/
def AtK (K : PySem.W.Frag) (H : Hp) (x y : V) (r : NestedKey → Addr → List (NestedKey × Addr × Value) → Addr → Prop) : Prop := ∃ a xs kvs b d k, x = .ref a ∧ H a = some (.ext (dictP xs a)) ∧ EntsOk K H xs kvs ∧ xs.length ≤ sizeLine ∧ (a == sysModules) = false ∧ y = .ref b ∧ Dp K H y d ∧ keyN d = some k ∧ d.depth ≤ 8 ∧ r k b xs a
theorem AtK.use {K : PySem.W.Frag} {x y : V} {r : NestedKey → Addr → List (NestedKey × Addr × Value) → Addr → Prop} (h : AtK X.K H x y r) (I : Inv X pins σ H s) : ∃ a xs b k, x = .ref a ∧ y = .ref b ∧ s.heap.DictOfH (nestedKind X.prog X.w) a xs ∧ (nestedKind X.prog X.w).is s.heap k b ∧ H a = some (.ext (dictP xs a)) ∧ xs.length ≤ sizeLine ∧ (a == sysModules) = false ∧ ((∀ x ∈ xs, x.1.hash X.w = hashN x.1) ∧ k.hash X.w = hashN k) ∧ r k b xs a := by
  obtain ⟨a, xs, kvs, b, d, k, h1, h2, h3, h4, h5, h6, h7, h8, h9, h10⟩ := h
  subst h6
  obtain ⟨as, rd⟩ := Dp.reads I d _ (.ref b) h7 rfl
  exact ⟨a, xs, b, k, h1, rfl, dict_of I h2 h3, ⟨reads_nested rd h8, Nat.le_trans (key_depth h8) h9⟩, h2, h4, h5, ⟨(ents_is I h3).2.2, key_hash X.w h8⟩, h10⟩
def tDgN (K : PySem.W.Frag) (td ty : TE) : TE := fun σ H Q => td σ H fun x H1 => ty σ H1 fun y H2 => AtK K H2 x y fun k b xs a => ∃ p v, atKey xs k = some p ∧ RelV v p.2 ∧ Q v H2
theorem pe_dgN (hu : X.A.units + 65 < cLine) (ho : PE X o td) (hi : PE X i ty) (hs : NoSl i := by intro _ _; rfl) : PE X (.Subscript o i pos) (tDgN X.K td ty) := by
  refine ⟨fun pins s σ H Q I h => ?_⟩
  refine subD_of PySem.F.slot_dict_getitem.lookup hs (thn (ho.run pins s σ H _ I h) fun u s1 ⟨x, H1, I1, rx, q1⟩ => thn (hi.run pins s1 σ H1 _ I1 q1) fun iv s2 ⟨y, H2, I2, ry, q2⟩ => ?_)
  obtain ⟨a, xs, b, k, rfl, rfl, dd, ks, hH, hz, hm, _, p, v, e, rv, q⟩ := AtK.use (K := X.K) q2 I2
  obtain rfl : u = Value.ref a := rx
  obtain rfl : iv = Value.ref b := ry
  exact ⟨dd.typeIs, wpAny_getItem_heap (by show X.A.units + 1 + 8 < cLine; omega) ks dd e ⟨v, H2, I2.tok _, rv, q⟩⟩
def sDpN (K : PySem.W.Frag) (td ty tv : TE) : TS := fun D σ H => tv σ H fun v H1 => td σ H1 fun x H2 => ty σ H2 fun y H3 => AtK K H3 x y fun k b xs a => ∀ u, RelV v u → D.nx σ (upd H3 a (.ext (dictP (storedH xs k b u) a)))
theorem ps_dpN (hu : X.A.units + 65 < cLine) (ho : PE X o td) (hi : PE X i ty) (hv : PE X value tv) (hs : swapsWith value (some (.Subscript o i pos')) pos.line X.env = pure false := by rfl) : PS X (.Assign [.Subscript o i pos'] value pos) (sDpN X.K td ty tv) := by
  refine ⟨fun pins s σ H D I h => ?_⟩
  refine wpAny_Assign_Subscript (thn (hv.run pins s σ H _ I h) fun r s1 ⟨v, H1, I1, rv, q1⟩ => thn (ho.run pins s1 σ H1 _ I1 q1) fun u s2 ⟨x, H2, I2, rx, q2⟩ => thn (hi.run pins s2 σ H2 _ I2 q2) fun iv s3 ⟨y, H3, I3, ry, q3⟩ => ?_) hs
  obtain ⟨a, xs, b, k, rfl, rfl, dd, ks, hH, hz, hm, ⟨hx1, hx2⟩, q⟩ := AtK.use (K := X.K) q3 I3
  obtain rfl : u = Value.ref a := rx
  obtain rfl : iv = Value.ref b := ry
  refine wpAny_setItem_heap (hsz := hz) (by show X.A.units + 1 + 8 < cLine; omega) ks dd fun h' dd' sb => ?_
  obtain ⟨q', es, ep, hq, h2, h3, h4, his, h5⟩ := dd'
  refine ⟨σ, _, d_write I3 (by rw [hH]; exact True.intro) sb ⟨q', hq⟩ (ext_ok (xs := storedH xs k b r) ⟨q', es, ep, hq, h2, h3, ?_, h5⟩), q r rv⟩
  rw [h4]
  refine List.map_congr_left fun x hx => ?_
  show DictEntry.mk _ _ _ = DictEntry.mk _ _ _
  congr 1
  show x.1.hash X.w = hashN x.1
  unfold storedH at hx
  split at hx
  · obtain ⟨y, hy, rfl⟩ := List.mem_map.mp hx
    unfold putAt
    split
    · exact hx1 y hy
    · exact hx1 y hy
  · rcases List.mem_append.mp hx with z | z
    · exact hx1 x z
    · rw [List.mem_singleton.mp z]
      exact hx2
/-- k in d -/
def rInN (K : PySem.W.Frag) (neg : Bool) : R2 := fun y x H Q => AtK K H x y fun k b xs a => Q (.bl (xor neg (atKey xs k).isSome)) H
theorem op_inN (hu : X.A.units + 65 < cLine) : OpR X (compareOp .In) (rInN X.K false) := by
  intro pins s σ H y x iv u Q I ry rx h
  obtain ⟨a, xs, b, k, rfl, rfl, dd, ks, hH, hz, hm, _, q⟩ := AtK.use (K := X.K) h I
  obtain rfl : u = Value.ref a := rx
  obtain rfl : iv = Value.ref b := ry
  rw [Bool.false_xor] at q
  exact wpAny_in_heap (by show X.A.units + 1 + 8 < cLine; omega) ks hm dd ⟨.bl _, H, I.tok _, rfl, q⟩
theorem op_notInN (hu : X.A.units + 65 < cLine) : OpR X (compareOp .NotIn) (rInN X.K true) := by
  intro pins s σ H y x iv u Q I ry rx h
  obtain ⟨a, xs, b, k, rfl, rfl, dd, ks, hH, hz, hm, _, q⟩ := AtK.use (K := X.K) h I
  obtain rfl : u = Value.ref a := rx
  obtain rfl : iv = Value.ref b := ry
  rw [Bool.true_xor] at q
  exact wpAny_notIn_heap (by show X.A.units + 1 + 8 < cLine; omega) ks hm dd ⟨.bl _, H, I.tok _, rfl, q⟩
end
end VL
end
section
set_option Elab.async false
set_option linter.all false
set_option maxRecDepth 100000
set_option maxHeartbeats 2000000
namespace VL
open PySem PySem.Spec PyProof.Rows L2 HT PySem.W PySem.Calls
/-! ### sorted, of what is walked in any way; one thing alone is sorted whatever it is -/
def SortB (ds : List PyData) : Prop := Sortable ds ∨ ds.length ≤ 1
section
variable {prog : Program} {w : World} {A : Around} {E : Value → Shared → Prop} {s : Shared}
theorem sortsB {vs : List Value} {ds : List PyData} (e : EachIs (fun v d => ∃ as, Reads s.heap v d as) vs ds) (hal : AllAlike ds) (hn : ∀ d ∈ ds, d ≠ .none) (hk : SortB ds) (hu : ∀ d, d ∈ ds → A.units + d.depth < cLine) : SortsAt prog w A s (dataKind s.heap ds) vs := by
  rcases hk with hk | hk
  · exact SortsAt.data e hal hk hu
  · refine ⟨fun v hv => ?_, general', fun E x y a b Q ha hb hq => ?_, fun h2 => ?_⟩
    · obtain ⟨d, hd, as, r⟩ := e.left v hv
      exact ⟨_, dataKind_some hal hd r⟩
    · obtain ⟨d, as, hd, ra, rfl⟩ := dataKind_inv ha
      obtain ⟨d', as', hd', rb, rfl⟩ := dataKind_inv hb
      have hm := hu d hd
      show wpAny (model prog w) A (oneLt' false x y) Q E s
      exact oneLt_alike (fun z => (by cases z)) ra rb (hal d hd d' hd') (hn d hd) (by omega) hq
    · have := e.length
      omega
theorem sorted_go {l : Addr} {vs : List Value} {Q : Value → Shared → Prop} (hc : ∀ (E : Value → Shared → Prop) (R : List Value → Shared → Prop), (∀ (h' : Heap) (tk : Nat), (∀ b o, s.heap.get? b = some o → h'.get? b = some o) → R vs { s with heap := h', toks := tk }) → wpAny (model prog w) A.in1 (collect (.ref l)) R E s)
    (hL : vs.length ≤ sizeLine)
    (go : ∀ (h' : Heap) (tk : Nat) (E' : Value → Shared → Prop), (∀ b o, s.heap.get? b = some o → h'.get? b = some o) → wpAny (model prog w) A.in1.in1 (Builtin.«list.sort» ⟨[.ref h'.objs.size], []⟩) (fun f s' => f = .done (.ret .none) ∧ Q (.ref h'.objs.size) s') E' { s with heap := h'.push (seqObj "list" vs.toArray 0), toks := tk }) :
    wpAny (model prog w) A (call (.builtin "sorted") [.ref l]) Q E s := by
  refine call_function_entry_kw kind_sorted plain_sorted entry_sorted (args_sorted1 _) ?_
  unfold Builtin.«sorted»
  refine wpAny_bind (m := checkCount "sorted" 1 1 _) (wpAny_pure ?_)
  refine wpAny_bind (hc _ _ fun h' tk kp => ?_)
  refine wpAny_bind (wpAny_newList ?_ hL)
  refine wpAny_bind (wpAny_holding (wpAny_call_entry_kw slot_list_sort ⟨_, Heap.get?_push_size _ rfl, rfl⟩ entry_list_sort ?sortbody (args_list_sort _)))
  case sortbody =>
    refine wpAny_mono (go h' tk _ kp) (fun f s' hf => ?_) fun _ _ e => e
    obtain ⟨rfl, hq⟩ := hf
    exact ⟨_, rfl, wpAny_pure ⟨_, rfl, hq⟩⟩
variable {β : Type} {vs : List Value} {bs : List β} {enc : β → PyData} {R : Value → β → Prop}
theorem sorted_goD {l : Addr} {Q : Value → Shared → Prop} (hc : ∀ (E : Value → Shared → Prop) (R : List Value → Shared → Prop), (∀ (h' : Heap) (tk : Nat), (∀ b o, s.heap.get? b = some o → h'.get? b = some o) → R vs { s with heap := h', toks := tk }) → wpAny (model prog w) A.in1 (collect (.ref l)) R E s)
    (e : EachIs R vs bs) (er : EachIs (fun v b => ∃ as, Reads s.heap v (enc b) as) vs bs) (hal : AllAlike (bs.map enc)) (hn : ∀ d ∈ bs.map enc, d ≠ .none) (hk : SortB (bs.map enc)) (hL : bs.length ≤ sizeLine)
    (hu : ∀ b, b ∈ bs → A.units + 2 + (enc b).depth < cLine)
    (h : ∀ (h' : Heap) (tk : Nat) (out : List Value), (∀ b o, s.heap.get? b = some o → h'.get? b = some o) → out.length = bs.length → EachIs R out (bs.mergeSort (dataLe false enc)) → Q (.ref h'.objs.size) { s with heap := sortedHeap (h'.push (seqObj "list" vs.toArray 0)) h'.objs.size vs out.toArray, toks := tk }) :
    wpAny (model prog w) A (call (.builtin "sorted") [.ref l]) Q E s := by
  have hL' : vs.length ≤ sizeLine := by rw [e.length]; exact hL
  refine sorted_go hc hL' fun h' tk E' kp => ?_
  have er' : EachIs (fun v b => ∃ as, Reads (sortingHeap (h'.push (seqObj "list" vs.toArray 0)) h'.objs.size vs) v (enc b) as) vs bs := er.mono fun _ _ ⟨as, r⟩ => ⟨as, PyProof.Rows.Reads.keeps (fun b o q => by
    have q' := kp b o q
    exact sortingHeap_old (Nat.ne_of_lt (Heap.lt_size q')) (Heap.get?_push_of_some _ q')) r⟩
  refine list_sort_vals (s := { s with heap := h'.push (seqObj "list" vs.toArray 0), toks := tk }) (Heap.get?_push_size _ rfl) (sortsB (s := { s with heap := sortingHeap (h'.push (seqObj "list" vs.toArray 0)) h'.objs.size vs, toks := tk }) (each_map (R := fun v d => ∃ as, Reads (sortingHeap (h'.push (seqObj "list" vs.toArray 0)) h'.objs.size vs) v d as) enc er') hal hn hk (bound_map hu)) hL' ⟨rfl, ?_⟩
  exact h h' tk _ kp (by rw [sortVals_length false rfl]; exact e.length) (sortVals_data false e er' hal)
end
section
variable {K : PySem.W.Frag} {X : Cx}
/-- what sorted does with a thing that is walked as ys, which are ds -/
theorem sorted_main (hu : X.A.units + 65 < cLine) {pins : List (Addr × Obj)} {s : Shared} {σ : L2.St} {H : Hp} {p : Addr} {ys : List V} {ds : List PyData} {n : Nat} {Q : VK} (I : Inv X pins σ H s) (hd : DpAll X.K H ys ds) (hn : n ≤ 3) (ho : ∀ y ∈ ds, od n y = true) (hk : SortB ds) {its : List Value} (rv : Vals ys its) (hz : ys.length ≤ sizeLine)
    (hc : ∀ (E : Value → Shared → Prop) (R : List Value → Shared → Prop), (∀ (h' : Heap) (tk : Nat), (∀ b o, s.heap.get? b = some o → h'.get? b = some o) → R its { s with heap := h', toks := tk }) → wpAny (model X.prog X.w) X.A.in1 (collect (.ref p)) R E s)
    (q : ∀ (q : Addr) (zs : List V), H q = none → (∀ (B : Hp), DpAll X.K B ys ds → DpAll X.K B zs (sortD ds)) → Q (.ref q) (upd H q (.lst zs))) :
    wpAny (model X.prog X.w) X.A (call (.builtin "sorted") [.ref p]) (EP X pins σ Q) X.xe s := by
  obtain ⟨e1, e2⟩ := each_zip I hd rv
  have hsnd := zip_snd hd
  have hL : (ys.zip ds).length ≤ sizeLine := by rw [List.length_zip, dpAll_len hd, Nat.min_self, ← dpAll_len hd]; exact hz
  refine sorted_goD (enc := fun b : V × PyData => b.2) hc e1 e2 (by rw [hsnd]; exact fun a ha b hb => od_alike n (ho a ha) (ho b hb)) (by rw [hsnd]; exact fun a ha => od_none (ho a ha)) (by rw [hsnd]; exact hk) hL (fun b hb => ?_) fun h' tk out kp hl eo => ?_
  · have hb2 : b.2 ∈ ds := by
      rw [← hsnd]
      exact List.mem_map.mpr ⟨b, hb, rfl⟩
    have := (od_depth n (ho _ hb2)).1
    omega
  · have I1 : Inv X pins σ H { s with heap := h', toks := tk } := I.kept kp
    have hpush : (h'.push (seqObj "list" its.toArray 0)).get? h'.objs.size = some (seqObj "list" its.toArray 0) := Heap.get?_push_size _ rfl
    obtain ⟨ep, he⟩ := sortedHeap_at (vs := its) (out := out.toArray) hpush
    have pm : ((ys.zip ds).mergeSort (dataLe false fun b : V × PyData => b.2)).Perm (ys.zip ds) := List.mergeSort_perm _ _
    have srt : ((ys.zip ds).mergeSort (dataLe false fun b : V × PyData => b.2)).Pairwise (fun a b => dataLe false (fun b : V × PyData => b.2) a b = true) :=
      List.pairwise_mergeSort (le := dataLe false fun b : V × PyData => b.2) (fun a b c => (sortLe_total (listOrd itemOrd) false fun b : V × PyData => keyToks b.2).trans a b c) (fun a b => by
        have t := (sortLe_total (listOrd itemOrd) false fun b : V × PyData => keyToks b.2).total a b
        exact (Bool.or_eq_true _ _).mpr t) _
    have eD : ((ys.zip ds).mergeSort (dataLe false fun b : V × PyData => b.2)).map Prod.snd = sortD ds := by
      have p2 : (((ys.zip ds).mergeSort (dataLe false fun b : V × PyData => b.2)).map Prod.snd).Perm ds := by
        have := pm.map Prod.snd
        rw [hsnd] at this
        exact this
      refine sorted_uniq (n := n) (fun x hx => ho x (p2.mem_iff.mp hx)) ?_ (sort_sorted ho) (p2.trans (sort_perm ds).symm)
      refine List.pairwise_map.mpr (List.pairwise_iff_forall_sublist.mpr fun {a b} hab => ?_)
      have q1 := List.pairwise_iff_forall_sublist.mp srt hab
      have m1 : a.2 ∈ ds := p2.mem_iff.mp (List.mem_map.mpr ⟨a, hab.subset List.mem_cons_self, rfl⟩)
      have m2 : b.2 ∈ ds := p2.mem_iff.mp (List.mem_map.mpr ⟨b, hab.subset (List.mem_cons_of_mem _ List.mem_cons_self), rfl⟩)
      show ltT b.2 a.2 = false
      rw [← od_lt n (ho _ m2) (ho _ m1)]
      have q2 : (!dataLt b.2 a.2) = true := q1
      cases q3 : dataLt b.2 a.2 with
      | false => rfl
      | true => rw [q3] at q2; cases q2
    have hl2 : (((ys.zip ds).mergeSort (dataLe false fun b : V × PyData => b.2)).map Prod.fst).length ≤ sizeLine := by rw [List.length_map, pm.length_eq]; exact hL
    have J := I1.laid (h' := sortedHeap (h'.push (seqObj "list" its.toArray 0)) h'.objs.size its out.toArray) (a := h'.objs.size) (t' := tk) (o := .lst (((ys.zip ds).mergeSort (dataLe false fun b : V × PyData => b.2)).map Prod.fst)) (fun b o z => by
      have lt : b < h'.objs.size := Heap.lt_size z
      rw [sortedHeap_old (Nat.ne_of_lt lt) (by rw [size_push']; exact Nat.lt_succ_of_lt lt)]
      exact Heap.get?_push_of_some _ z) (Nat.le_refl _) ⟨hl2, out, ep, vals_each eo, he⟩
    refine ⟨.ref _, _, J, rfl, q _ _ (I1.hok.fresh (Nat.le_refl _)) fun B hB => ?_⟩
    rw [← eD]
    exact dpAll_pairs fun p hp => zip_mem hB p (pm.mem_iff.mp hp)
/-- a list or a tuple -/
def rSortB (K : PySem.W.Frag) : List V → Hp → VK → Prop := fun vs H Q => ∃ (p : Addr) (ys : List V) (ds : List PyData) (n : Nat), vs = [.ref p] ∧ (SqL K H p ys ∨ SqT K H p ys) ∧ DpAll K H ys ds ∧ n ≤ 3 ∧ (∀ y ∈ ds, od n y = true) ∧ SortB ds ∧
  ∀ (q : Addr) (zs : List V), H q = none → (∀ (B : Hp), DpAll K B ys ds → DpAll K B zs (sortD ds)) → Q (.ref q) (upd H q (.lst zs))
theorem cr_sortedB (hu : X.A.units + 65 < cLine) : CallR X (.builtin "sorted") (rSortB X.K) := by
  intro pins s σ H vs us Q I r h
  obtain ⟨p, ys, ds, n, rfl, hs, hd, hn, ho, hk, q⟩ := h
  rw [Vals.ref1 r]
  rcases hs with hs | hs
  · obtain ⟨its, rv, hl, hz⟩ := I.list hs
    exact sorted_main hu I hd hn ho hk rv hz (fun E R hq => collect_list hl.isList (hq _ _ fun b o e => by
      rw [Heap.get?_update_ne _ _ _ _ (Nat.ne_of_lt (Heap.lt_size e))]
      exact Heap.get?_push_of_some _ e) (by rw [← rv.length]; exact hz)) q
  · obtain ⟨its, rv, hl, hz⟩ := I.tuple hs
    exact sorted_main hu I hd hn ho hk rv hz (fun E R hq => collect_tup hl (by rw [← rv.length]; exact hz) (hq _ _ fun b o e => by
      rw [Heap.get?_update_ne _ _ _ _ (Nat.ne_of_lt (Heap.lt_size e))]
      exact Heap.get?_push_of_some _ e)) q
theorem ents_keys {B : Hp} : ∀ {xs : List (NestedKey × Addr × Value)} {kvs : List (PyData × PyData)}, EntsOk K B xs kvs → DpAll K B (xs.map fun x => V.ref x.2.1) (kvs.map Prod.fst)
  | _, _, .nil => .nil
  | _, _, .cons _ _ h _ _ t => .cons h (ents_keys t)
theorem vals_refs : ∀ xs : List (NestedKey × Addr × Value), Vals (xs.map fun x => V.ref x.2.1) (xs.map fun x => Value.ref x.2.1)
  | [] => .nil
  | _ :: xs => .cons rfl (vals_refs xs)
/-- the keys of a dict -/
def rSortK (K : PySem.W.Frag) : List V → Hp → VK → Prop := fun vs H Q => ∃ (p : Addr) (xs : List (NestedKey × Addr × Value)) (kvs : List (PyData × PyData)) (n : Nat), vs = [.ref p] ∧ H p = some (.ext (dictP xs p)) ∧ EntsOk K H xs kvs ∧ xs.length ≤ sizeLine ∧ (p == sysModules) = false ∧ n ≤ 3 ∧ (∀ y ∈ kvs.map Prod.fst, od n y = true) ∧ SortB (kvs.map Prod.fst) ∧
  ∀ (q : Addr) (zs : List V), H q = none → (∀ (B : Hp), DpAll K B (xs.map fun x => V.ref x.2.1) (kvs.map Prod.fst) → DpAll K B zs (sortD (kvs.map Prod.fst))) → Q (.ref q) (upd H q (.lst zs))
theorem cr_sortedK (hc : X.calm = true) (hu : X.A.units + 65 < cLine) : CallR X (.builtin "sorted") (rSortK X.K) := by
  intro pins s σ H vs us Q I r h
  obtain ⟨p, xs, kvs, n, rfl, hp, hd, hl, hm, hn, ho, hk, q⟩ := h
  rw [Vals.ref1 r]
  obtain ⟨⟨o, es, ep, h1, h2, h3, h4, h5⟩, _, _⟩ := I.hok p _ hp
  have raw : s.heap.DictRaw p es ep := ⟨o, h1, h2, h3⟩
  have hsz : es.size = xs.length := by rw [← Array.length_toList, h4, List.length_map]
  have rv := vals_refs xs
  refine sorted_main hu I (ents_keys hd) hn ho hk rv (by rw [List.length_map]; exact hl) (fun E R hq => ?_) q
  refine kdu_collect (A := X.A.in1) (KdlSrc.rawDict hm) (I.ok.hd hc) raw (by rw [hsz]; exact hl) fun h' tk acc kp ia => ?_
  have e : acc.toList = xs.map fun x => Value.ref x.2.1 := by
    refine List.ext_getElem? fun j => ?_
    cases hj : acc.toList[j]? with
    | none =>
      have := List.getElem?_eq_none_iff.mp hj
      rw [Array.length_toList, ia.1, hsz] at this
      rw [List.getElem?_eq_none (by rw [List.length_map]; exact this)]
    | some v =>
      obtain ⟨hi, ev⟩ := ia.2 j v (by rw [← Array.getElem?_toList]; exact hj)
      have z : (es.toList)[j]? = some es[j] := by rw [Array.getElem?_toList, Array.getElem?_eq_getElem hi]
      rw [h4, List.getElem?_map] at z
      obtain ⟨x, z1, z2⟩ := Option.map_eq_some_iff.mp z
      rw [List.getElem?_map, z1, ev, ← z2]
      rfl
  rw [e]
  exact hq h' tk kp
end
end VL
end
section
set_option Elab.async false
set_option linter.all false
set_option maxRecDepth 100000
set_option maxHeartbeats 2000000
namespace VL
open PySem PySem.Spec PyProof.Rows L2 HT PySem.W PySem.Calls
section
variable {K : PySem.W.Frag}
/-! ### dicts that a slot has -/
def dicOf : Option Sl → Option (List (PyData × PyData))
  | some (.dc kvs) => some kvs
  | some (.dr kvs) => some kvs
  | _ => none
theorem Rel.dict {W : Wd} {σ : L2.St} {H B : Hp} {e : Ev} {i : Nat} {kvs : List (PyData × PyData)} (r : Rel K W σ H B e) (h : dicOf e[i]? = some kvs) : ∃ p xs, σ[i]? = some (some (.ref p)) ∧ H p = some (.ext (dictP xs p)) ∧ EntsOk K B xs kvs ∧ (p == sysModules) = false := by
  obtain ⟨A, r⟩ := r
  cases h0 : e[i]? with
  | none => rw [h0] at h; cases h
  | some s =>
    rw [h0] at h
    obtain ⟨o, bs, h1, h2, _⟩ := r.sls.at h0
    cases s with
    | un => cases h
    | sh _ => cases h
    | ob _ => cases h
    | ow _ => cases h
    | bw _ => cases h
    | st _ _ => cases h
    | sb _ _ => cases h
    | dc kv =>
      cases h
      cases h2 with
      | @dc p xs _ a b c => exact ⟨p, xs, h1, a, b, c⟩
    | dr kv =>
      cases h
      cases h2 with
      | @dr p xs _ a b c => exact ⟨p, xs, h1, r.bh _ _ a, b, c⟩
theorem Rel.dictW {W : Wd} {σ : L2.St} {H B : Hp} {e : Ev} {i : Nat} {kvs : List (PyData × PyData)} (r : Rel K W σ H B e) (h : e[i]? = some (.dc kvs)) : ∃ p xs, σ[i]? = some (some (.ref p)) ∧ H p = some (.ext (dictP xs p)) ∧ EntsOk K B xs kvs ∧ (p == sysModules) = false ∧
    ∀ ys lvs, EntsOk K B ys lvs → Rel K W σ (upd H p (.ext (dictP ys p))) B (e.set i (.dc lvs)) := by
  obtain ⟨A, r⟩ := r
  obtain ⟨o, bs, cs, h1, h2, h3, h4, h5⟩ := r.sls.out r.nd h
  cases h2 with
  | @dc p xs _ a b c =>
    obtain ⟨k1, k2, k3⟩ := List.nodup_append.mp h4
    have hp : p ∈ A := h5 p (List.mem_append_left _ List.mem_cons_self)
    have ne : ∀ q ∈ cs, q ≠ p := fun q hq z => k3 p List.mem_cons_self q hq z.symm
    refine ⟨p, xs, h1, a, b, c, fun ys es hy => ?_⟩
    have t : Sls K W.bp (upd H p (.ext (dictP ys p))) B (σ.set i none) (e.set i .un) cs := h3.mono (Same.refl B) fun q hq => upd_ne (ne q hq)
    have n : SlOk K W.bp (upd H p (.ext (dictP ys p))) B (some (.ref p)) (.dc es) [p] := .dc upd_same hy c
    obtain ⟨fs, f1, f2, f3⟩ := t.set n i
    rw [set_set', set_set', set_same h1] at f1
    refine ⟨fs, f1, f2 k2 (by simp) (fun q hq z => ne q z (List.mem_singleton.mp hq)), fun q hq => ?_, fun b o hb => ?_, fun b o hb => ?_, r.new⟩
    · rcases f3 q hq with z | z
      · exact r.out q (h5 q (List.mem_append_right _ z))
      · rw [List.mem_singleton.mp z]
        exact r.out p hp
    · rw [upd_ne (ne_of_none hb (r.out p hp).1)]
      exact r.bh b o hb
    · rw [upd_ne (ne_of_none hb (r.out p hp).2)]
      exact r.fr b o hb
/-- a new dict -/
theorem Rel.bornD {W : Wd} {σ : L2.St} {H B : Hp} {e : Ev} {p : Addr} (r : Rel K W σ H B e) (hp : H p = none) (hs : (p == sysModules) = false) : Rel K W (some (.ref p) :: σ) (upd H p (.ext (dictP [] p))) B (.dc [] :: e) := by
  obtain ⟨A, r⟩ := r
  have r1 := r.ext (Ext.gone (o := .ext (dictP [] p)) r.bh hp)
  refine ⟨[p] ++ A, .cons (.dc upd_same .nil hs) r1.sls, List.nodup_append.mpr ⟨by simp, r.nd, fun x hx y hy z => ?_⟩, fun q hq => ?_, r1.bh, r1.fr, r1.new⟩
  · rw [List.mem_singleton.mp hx] at z
    exact r.sls.held y hy (by rw [← z]; exact hp)
  · rcases List.mem_append.mp hq with z | z
    · rw [List.mem_singleton.mp z]
      exact ⟨r.bh.free hp, r.fr.free hp⟩
    · exact r.out q z
def tDNew : TE := fun _ H Q => ∀ p, H p = none → (p == sysModules) = false → Q (.ref p) (upd H p (.ext (dictP [] p)))
def xDict : M Sl := fun e => some (.dc [], e)
theorem sx_dict : SX K tDNew xDict := fun W σ H B e s e' Q hf r q => by
  cases hf
  exact fun p hp hs => q _ _ B (Same.refl B) (r.bornD hp hs)
/-- the dict of a slot goes out of it -/
def xDVar (i : Nat) : M Sl := fun e => match e[i]? with
  | some (.dc kvs) => some (.dc kvs, e.set i .un)
  | _ => none
theorem sx_dvar {i : Nat} : SX K (tVar i) (xDVar i) := fun W σ H B e s e' Q hf r q => by
  unfold xDVar at hf
  split at hf
  · rename_i kvs h
    cases hf
    obtain ⟨A, r⟩ := r
    obtain ⟨o, bs, cs, h1, h2, h3, h4, h5⟩ := r.sls.out r.nd h
    cases h2 with
    | @dc p xs _ a b c =>
      have r1 : Rel K W (some (.ref p) :: σ.set i none) H B (.dc kvs :: e.set i .un) := ⟨[p] ++ cs, .cons (.dc a b c) h3, h4, fun q hq => r.out q (h5 q hq), r.bh, r.fr, r.new⟩
      exact ⟨_, h1, q _ H B (Same.refl B) (r1.weak h1)⟩
  · cases hf
def keyOk (d : PyData) : Bool := (match d with | .tuple _ => true | _ => false) && (keyN d).isSome && Nat.ble d.depth 8
theorem keyOk_some {d : PyData} (h : keyOk d = true) : (∃ ds, d = .tuple ds) ∧ (∃ k, keyN d = some k) ∧ d.depth ≤ 8 := by
  unfold keyOk at h
  rw [Bool.and_eq_true, Bool.and_eq_true] at h
  refine ⟨?_, Option.isSome_iff_exists.mp h.1.2, Nat.le_of_ble_eq_true h.2⟩
  have h1 := h.1.1
  cases d with
  | tuple ds => exact ⟨ds, rfl⟩
  | _ => cases h1
theorem dicOk {kvs : List (PyData × PyData)} {xs : List (NestedKey × Addr × Value)} {B : Hp} (h : EntsOk K B xs kvs) (c : sz kvs.length = true) : xs.length ≤ sizeLine := by
  rw [ents_len h]
  exact sz_le c
/-- d[k] -/
def eDGet (i : Nat) (fk : M PyData) : M PyData := fun e => match dicOf e[i]? with
  | none => none
  | some _ => bnd (fk e) fun d e1 => match dicOf e1[i]? with
    | none => none
    | some kvs => if keyOk d = true then if sz kvs.length = true then put (lookD kvs d) e1 else none else none
theorem se_dget {i : Nat} {t : TE} {fk : M PyData} (h : SE K t fk) : SE K (tDgN K (tVar i) t) (eDGet i fk) := fun W σ H B e d e' Q hf r q => by
  unfold eDGet at hf
  cases h0 : dicOf e[i]? with
  | none => rw [h0] at hf; cases hf
  | some _ =>
    rw [h0] at hf
    obtain ⟨kd, e1, h1, h2⟩ := bnd_some hf
    obtain ⟨p, xs, a1, a2, a3, a4⟩ := r.dict h0
    refine ⟨_, a1, ?_⟩
    refine h W σ H B e kd e1 _ h1 r fun v H1 B1 s1 r1 dv => ?_
    cases h3 : dicOf e1[i]? with
    | none => rw [h3] at h2; cases h2
    | some kvs =>
      simp only [h3] at h2
      by_cases c : keyOk kd = true
      · rw [if_pos c] at h2
        by_cases c2 : sz kvs.length = true
        · rw [if_pos c2] at h2
          obtain ⟨h4, rfl⟩ := put_some h2
          obtain ⟨p', ys, b1, b2, b3, b4⟩ := r1.dict h3
          obtain ⟨⟨ds, rfl⟩, ⟨k, hk⟩, h8⟩ := keyOk_some c
          obtain ⟨b, us, rfl, _⟩ := dp_tup dv
          rw [a1] at b1
          cases Option.some.inj (Option.some.inj b1)
          obtain ⟨pp, vv, g1, g2, g3⟩ := (ents_look b3 hk).1 d h4
          exact ⟨p, ys, kvs, b, _, k, rfl, b2, b3.mono r1.bh, dicOk b3 c2, a4, rfl, dp_mono r1.bh dv, hk, h8, pp, vv, g1, g2, q vv H1 B1 s1 r1 g3⟩
        · rw [if_neg c2] at h2
          cases h2
      · rw [if_neg c] at h2
        cases h2
/-- d[k] = v -/
def sDPut (i : Nat) (fv fk : M PyData) : Ev → Option Out := fun e => bnd (fv e) fun dv e1 => match e1[i]? with
  | some (.dc _) => bnd (fk e1) fun d e2 => match e2[i]? with
    | some (.dc kvs) => if keyOk d = true then if sz kvs.length = true then some (.nx (e2.set i (.dc (putD kvs d dv)))) else none else none
    | _ => none
  | _ => none
theorem ss_dput {i : Nat} {tv ty : TE} {fv fk : M PyData} (hv : SE K tv fv) (hk : SE K ty fk) : SS K (sDpN K (tVar i) ty tv) (sDPut i fv fk) := fun W D σ H B e o hf r qn qr => by
  obtain ⟨dv, e1, h1, h2⟩ := bnd_some hf
  refine hv W σ H B e dv e1 _ h1 r fun v H1 B1 s1 r1 dpv => ?_
  cases h3 : e1[i]? with
  | none => rw [h3] at h2; cases h2
  | some sl =>
    cases sl with
    | dc kv0 =>
      simp only [h3] at h2
      obtain ⟨d, e2, h4, h5⟩ := bnd_some h2
      obtain ⟨p, xs, a1, _⟩ := r1.dictW h3
      refine ⟨_, a1, ?_⟩
      refine hk W σ H1 B1 e1 d e2 _ h4 r1 fun y H2 B2 s2 r2 dy => ?_
      cases h6 : e2[i]? with
      | none => rw [h6] at h5; cases h5
      | some sl2 =>
        cases sl2 with
        | dc kvs =>
          simp only [h6] at h5
          by_cases c : keyOk d = true
          · rw [if_pos c] at h5
            by_cases c2 : sz kvs.length = true
            · rw [if_pos c2] at h5
              cases h5
              obtain ⟨p', ys, b1, b2, b3, b4, b5⟩ := r2.dictW h6
              obtain ⟨⟨ds, rfl⟩, ⟨k, hk⟩, h8⟩ := keyOk_some c
              obtain ⟨b, us, rfl, _⟩ := dp_tup dy
              rw [a1] at b1
              cases Option.some.inj (Option.some.inj b1)
              refine ⟨p, ys, kvs, b, _, k, rfl, b2, b3.mono r2.bh, dicOk b3 c2, b4, rfl, dp_mono r2.bh dy, hk, h8, fun u ru => ?_⟩
              exact qn _ _ _ B2 rfl (s1.trans s2) (b5 _ _ (ents_put b3 hk h8 dy ru (dp_mono s2 dpv)))
            · rw [if_neg c2] at h5
              cases h5
          · rw [if_neg c] at h5
            cases h5
        | _ => simp only [h6] at h5; cases h5
    | _ => simp only [h3] at h2; cases h2
/-- k in d -/
def eInD (neg : Bool) (fk : M PyData) (i : Nat) : M PyData := fun e => bnd (fk e) fun d e1 => match dicOf e1[i]? with
  | none => none
  | some kvs => if keyOk d = true then if sz kvs.length = true then some (.bool (xor neg (lookD kvs d).isSome), e1) else none else none
theorem se_inD {neg : Bool} {i : Nat} {t : TE} {fk : M PyData} (h : SE K t fk) : SE K (tOp (rInN K neg) t (tVar i)) (eInD neg fk i) := fun W σ H B e d e' Q hf r q => by
  obtain ⟨kd, e1, h1, h2⟩ := bnd_some hf
  refine h W σ H B e kd e1 _ h1 r fun v H1 B1 s1 r1 dv => ?_
  cases h3 : dicOf e1[i]? with
  | none => rw [h3] at h2; cases h2
  | some kvs =>
    simp only [h3] at h2
    by_cases c : keyOk kd = true
    · rw [if_pos c] at h2
      by_cases c2 : sz kvs.length = true
      · rw [if_pos c2] at h2
        cases h2
        obtain ⟨p', ys, b1, b2, b3, b4⟩ := r1.dict h3
        obtain ⟨⟨ds, rfl⟩, ⟨k, hk⟩, h8⟩ := keyOk_some c
        obtain ⟨b, us, rfl, _⟩ := dp_tup dv
        refine ⟨_, b1, p', ys, kvs, b, _, k, rfl, b2, b3.mono r1.bh, dicOk b3 c2, b4, rfl, dp_mono r1.bh dv, hk, h8, ?_⟩
        obtain ⟨g1, g2⟩ := ents_look b3 hk
        have e : (atKey ys k).isSome = (lookD kvs (.tuple ds)).isSome := by
          cases z : lookD kvs (.tuple ds) with
          | none =>
            rw [g2 z]
            rfl
          | some dv =>
            obtain ⟨pp, _, z2, _⟩ := g1 dv z
            rw [z2]
            rfl
        rw [e]
        exact q _ H1 B1 s1 r1 (.bl _)
      · rw [if_neg c2] at h2
        cases h2
    · rw [if_neg c] at h2
      cases h2
/-- sorted(d) -/
def isTupB (ds : List PyData) : Bool := ds.all isTup1 || Nat.ble ds.length 1
def xSortK (i : Nat) : M Sl := fun e => match dicOf e[i]? with
  | none => none
  | some kvs => if sz kvs.length = true then if isTupB (kvs.map Prod.fst) = true then match odOf (kvs.map Prod.fst) with
    | none => none
    | some _ => some (.ow (sortD (kvs.map Prod.fst)), e) else none else none
theorem sortB_of {ds : List PyData} (h : isTupB ds = true) : SortB ds := by
  unfold isTupB at h
  rcases (Bool.or_eq_true _ _).mp h with h | h
  · exact .inl (.inl fun d hd => isTup1_some (List.all_eq_true.mp h d hd))
  · exact .inr (Nat.le_of_ble_eq_true h)
theorem sx_sortK {i : Nat} : SX K (tCB (rSortK K) (tCons (tVar i) tNil)) (xSortK i) := fun W σ H B e s e' Q hf r q => by
  unfold xSortK at hf
  cases h0 : dicOf e[i]? with
  | none => rw [h0] at hf; cases hf
  | some kvs =>
    simp only [h0] at hf
    by_cases c : sz kvs.length = true
    · rw [if_pos c] at hf
      by_cases c2 : isTupB (kvs.map Prod.fst) = true
      · rw [if_pos c2] at hf
        cases h1 : odOf (kvs.map Prod.fst) with
        | none => rw [h1] at hf; cases hf
        | some n =>
          rw [h1] at hf
          cases hf
          obtain ⟨o1, o2⟩ := odOf_some h1
          obtain ⟨p, xs, a1, a2, a3, a4⟩ := r.dict h0
          refine ⟨_, a1, p, xs, kvs, n, rfl, a2, a3.mono r.bh, dicOk a3 c, a4, o1, o2, sortB_of c2, fun q' zs hq' hz => ?_⟩
          exact q _ _ B (Same.refl B) (r.born hq' (hz B (ents_keys a3)))
      · rw [if_neg c2] at hf
        cases hf
    · rw [if_neg c] at hf
      cases hf
end
/-! ### d.get(k, x) -/
section
variable {X : Cx} {o e f : Expr} {td ty tx : TE} {apos cpos : Pos}
def tDgetN (K : PySem.W.Frag) (td ty tx : TE) : TE := fun σ H Q => td σ H fun x H1 => (∃ a xs, x = .ref a ∧ H1 a = some (.ext (dictP xs a))) ∧ ty σ H1 fun y H2 => tx σ H2 fun z H3 => AtK K H3 x y fun k b xs a =>
  (∀ p, atKey xs k = some p → ∃ v, RelV v p.2 ∧ Q v H3) ∧ (atKey xs k = none → Q z H3)
theorem pe_dgetN (hu : X.A.units + 65 < cLine) (ho : PE X o td) (he : PE X e ty) (hf : PE X f tx) (m : M2 X o "get" apos e f cpos) : PE X (.Call (.Attribute o "get" apos) [e, f] [] cpos) (tDgetN X.K td ty tx) := by
  refine ⟨fun pins s σ H Q I h => ?_⟩
  refine wpAny_Call_method m.base m.few m.line PySem.F.plainAttrs_dict PySem.F.slot_dict_get PySem.F.type_dict_get (thn (ho.run pins s σ H _ I h) fun u s1 ⟨x, H1, I1, rx, ⟨a, xs, ex, ha⟩, q1⟩ => ?_)
  subst ex
  obtain rfl : u = Value.ref a := rx
  obtain ⟨⟨ob, es, ep, g1, g2, g3, _⟩, _, _⟩ := I1.hok a _ ha
  refine ⟨⟨ob, g1, g2.1⟩, fun b hb => (by cases hb; exact ⟨ob, g1, g2.2.1⟩), ?_⟩
  rw [m.trees]
  refine Calls.callWith_builtin rfl (Calls.evalArgs_plain (Calls.spliced_cons (thn (he.run pins s1 σ H1 _ I1 q1) fun iv s2 ⟨y, H2, I2, ry, q2⟩ =>
    Calls.spliced_cons (thn (hf.run pins s2 σ H2 _ I2 q2) fun fv s3 ⟨z, H3, I3, rz, q3⟩ => Calls.spliced_nil ?_))))
  obtain ⟨a', ys, b, k, e1, e2, dd, ks, hH, hz, hm, _, qy, qn⟩ := AtK.use (K := X.K) q3 I3
  cases e1
  subst e2
  obtain rfl : iv = Value.ref b := ry
  refine call_meetsIn PySem.F.slot_dict_get dd.typeIs PySem.F.entry_dict_get (PySem.F.args_dict_get_3 _ _ _) (meetsH_dict_get_default (nestedKind X.prog X.w) a b hm fv) ⟨by show X.A.units + 1 + 8 < cLine; omega, k, ys, ks, dd, ?_⟩
  cases hp : atKey ys k with
  | some p =>
    obtain ⟨v, rv, qv⟩ := qy p hp
    exact ⟨v, H3, I3.tok _, rv, qv⟩
  | none => exact ⟨z, H3, I3.tok _, rz, qn hp⟩
end
section
variable {K : PySem.W.Frag}
def eDGet2 (i : Nat) (fk fx : M PyData) : M PyData := fun e => match dicOf e[i]? with
  | none => none
  | some _ => bnd (fk e) fun d e1 => bnd (fx e1) fun dx e2 => match dicOf e2[i]? with
    | none => none
    | some kvs => if keyOk d = true then if sz kvs.length = true then (match lookD kvs d with | some dv => some (dv, e2) | none => some (dx, e2)) else none else none
theorem se_dget2 {i : Nat} {t u : TE} {fk fx : M PyData} (h : SE K t fk) (hx : SE K u fx) : SE K (tDgetN K (tVar i) t u) (eDGet2 i fk fx) := fun W σ H B e d e' Q hf r q => by
  unfold eDGet2 at hf
  cases h0 : dicOf e[i]? with
  | none => rw [h0] at hf; cases hf
  | some _ =>
    rw [h0] at hf
    obtain ⟨kd, e1, h1, h2⟩ := bnd_some hf
    obtain ⟨xd, e2, h4, h5⟩ := bnd_some h2
    obtain ⟨p, xs, a1, a2, a3, a4⟩ := r.dict h0
    refine ⟨_, a1, ⟨p, xs, rfl, a2⟩, ?_⟩
    refine h W σ H B e kd e1 _ h1 r fun v H1 B1 s1 r1 dv => ?_
    refine hx W σ H1 B1 e1 xd e2 _ h4 r1 fun z H2 B2 s2 r2 dz => ?_
    cases h3 : dicOf e2[i]? with
    | none => rw [h3] at h5; cases h5
    | some kvs =>
      simp only [h3] at h5
      by_cases c : keyOk kd = true
      · rw [if_pos c] at h5
        by_cases c2 : sz kvs.length = true
        · rw [if_pos c2] at h5
          obtain ⟨p', ys, b1, b2, b3, b4⟩ := r2.dict h3
          obtain ⟨⟨ds, rfl⟩, ⟨k, hk⟩, h8⟩ := keyOk_some c
          obtain ⟨b, us, rfl, _⟩ := dp_tup dv
          rw [a1] at b1
          cases Option.some.inj (Option.some.inj b1)
          obtain ⟨g1, g2⟩ := ents_look b3 hk
          refine ⟨p, ys, kvs, b, _, k, rfl, b2, b3.mono r2.bh, dicOk b3 c2, a4, rfl, dp_mono (s2.trans r2.bh) dv, hk, h8, fun pp hpp => ?_, fun hpp => ?_⟩
          · cases h6 : lookD kvs (.tuple ds) with
            | none =>
              rw [g2 h6] at hpp
              cases hpp
            | some dv' =>
              rw [h6] at h5
              cases h5
              obtain ⟨pp', v', z1, z2, z3⟩ := g1 _ h6
              rw [hpp] at z1
              cases z1
              exact ⟨v', z2, q v' H2 B2 (s1.trans s2) r2 z3⟩
          · cases h6 : lookD kvs (.tuple ds) with
            | none =>
              rw [h6] at h5
              cases h5
              exact q z H2 B2 (s1.trans s2) r2 dz
            | some dv' =>
              obtain ⟨pp', v', z1, z2, z3⟩ := g1 _ h6
              rw [hpp] at z1
              cases z1
        · rw [if_neg c2] at h5
          cases h5
      · rw [if_neg c] at h5
        cases h5
end
end VL
end
section
set_option Elab.async false
set_option linter.all false
set_option maxRecDepth 100000
set_option maxHeartbeats 2000000
namespace VL
open PySem PySem.Spec PyProof.Rows L2 HT PySem.W PySem.Calls
/-! ### an object without attributes is made -/
structure Mk0 (K : PySem.W.Frag) (C : Addr) : Prop where
  makes : PySem.W.makesIn K C = true
  init : PySem.W.findIn K (.ref C) "__init__" = some (some (.builtin "object.__init__"))
  kp : PySem.W.keepIn K (.ref C) = true
  top : mroIn K C (.type "object") = some true
def tMk0 (C : Addr) : TE := fun _ H Q => ∀ x dx, H x = none → H dx = none → dx ≠ x → Q (.ref x) (upd (upd H dx (.own x)) x (.ins C dx []))
section
variable {X : Cx} {C : Addr} {x : Str} {p pos : Pos}
theorem pe_mk0 (M : Mk0 X.K C) (hg : Gl X x) (hm : X.mg x = some (.ref C)) (hdb : (x == ("__debug__" : Str)) = false := by decide) : PE X (.Call (.Name x p) [] [] pos) (tMk0 C) := by
  refine ⟨fun pins s σ H Q I h => ?_⟩
  refine wpAny_Call_Name_kw (ld_glob I hg hm ?_ hdb)
  refine PySem.W.callWith_K0 I.kIn M.kp (wpAny_call (make_map0 I.kIn M.makes M.init (fun self => Looks.of_pure (oi_bind _)) ?_))
  have I2 := Inv.made (C := C) I
  have hq := h (s.heap.objs.size + 1) s.heap.objs.size (I.hok.fresh (Nat.le_succ _)) (I.hok.fresh (Nat.le_refl _)) (Nat.ne_of_lt (Nat.lt_succ_self _))
  have ho : ((s.heap.push PySem.W.emptyDict).push (PySem.W.instObj C s.heap.objs.size)).get? (s.heap.objs.size + 1) = some (PySem.W.instObj C s.heap.objs.size) := by
    have := Heap.get?_push_size (s.heap.push PySem.W.emptyDict) (o := PySem.W.instObj C s.heap.objs.size) rfl
    rwa [Heap.size_push] at this
  have t1 : Looks (model X.prog X.w) ((s.heap.push PySem.W.emptyDict).push (PySem.W.instObj C s.heap.objs.size)) (typeOf (.ref (s.heap.objs.size + 1))) (.ref C) := NwA.type_at ho rfl
  have t2 : Looks (model X.prog X.w) ((s.heap.push PySem.W.emptyDict).push (PySem.W.instObj C s.heap.objs.size)) (isInstance (.ref (s.heap.objs.size + 1)) (.type "object")) true := t1.andThen (looks_mroIn I2.kIn M.top)
  refine codeAny_call_builtin oi_plain entry_oi (check_slot oi_kind oi_split t2 (NwA.oi_args_any _ [] []) ?_)
  rw [oi_run]
  exact wpAny_pure ⟨rfl, V.ref (s.heap.objs.size + 1), _, I2, rfl, hq⟩
end
end VL
end
section
set_option Elab.async false
set_option linter.all false
set_option maxRecDepth 100000
set_option maxHeartbeats 2000000
namespace VL
open PySem PySem.Spec PyProof.Rows L2 HT PySem.W PySem.Calls
variable {K : PySem.W.Frag}
/-! ### a base that loses dicts only -/
def isExt : HO → Prop
  | .ext _ => True
  | _ => False
def KeepD (B B' : Hp) : Prop := ∀ b o, B b = some o → ¬ isExt o → B' b = some o
theorem KeepD.rd {B B' : Hp} (e : KeepD B B') {a : Addr} {o : HO} (hn : ¬ isExt o) (h : Rd B a o) : Rd B' a o := by
  rcases h with h | ⟨u, h⟩
  · exact .inl (e _ _ h hn)
  · exact .inr ⟨u, e _ _ h fun z => z⟩
theorem KeepD.sqT {B B' : Hp} (e : KeepD B B') {a : Addr} {xs : List V} (h : SqT K B a xs) : SqT K B' a xs := h.imp (e.rd fun z => z) id
theorem KeepD.sqL {B B' : Hp} (e : KeepD B B') {a : Addr} {xs : List V} (h : SqL K B a xs) : SqL K B' a xs := h.imp (e.rd fun z => z) id
mutual
theorem KeepD.dp {B B' : Hp} (e : KeepD B B') : ∀ {v : V} {d : PyData}, Dp K B v d → Dp K B' v d
  | _, _, .non => .non
  | _, _, .bl b => .bl b
  | _, _, .int i => .int i
  | _, _, .str x => .str x
  | _, _, .lst hs ha => .lst (e.sqL hs) (KeepD.all e ha)
  | _, _, .tup hs ha => .tup (e.sqT hs) (KeepD.all e ha)
theorem KeepD.all {B B' : Hp} (e : KeepD B B') : ∀ {vs : List V} {ds : List PyData}, DpAll K B vs ds → DpAll K B' vs ds
  | _, _, .nil => .nil
  | _, _, .cons h t => .cons (KeepD.dp e h) (KeepD.all e t)
end
theorem KeepD.ents {B B' : Hp} (e : KeepD B B') : ∀ {xs : List (NestedKey × Addr × Value)} {kvs : List (PyData × PyData)}, EntsOk K B xs kvs → EntsOk K B' xs kvs
  | _, _, .nil => .nil
  | _, _, .cons a a' b c d t => .cons a a' (e.dp b) c (e.dp d) (KeepD.ents e t)
/-- the base, with all dicts of the heap -/
def withD (B H : Hp) : Hp := fun b => match B b with
  | some o => some o
  | none => match H b with
    | some (.ext φ) => some (.ext φ)
    | _ => none
/-- .. and without them -/
def lessD (B H B' : Hp) : Hp := fun b => match B b with
  | some _ => B' b
  | none => match H b with
    | some (.ext _) => none
    | _ => B' b
theorem withD_some {B H : Hp} {b : Addr} {o : HO} (h : B b = some o) : withD B H b = some o := by
  unfold withD
  rw [h]
theorem withD_ext {B H : Hp} {b : Addr} {φ : Heap → Prop} (bh : Same B H) (h : H b = some (.ext φ)) : withD B H b = some (.ext φ) := by
  unfold withD
  cases q : B b with
  | some o =>
    have := bh b o q
    rw [h] at this
    exact this.symm
  | none =>
    rw [h]
theorem withD_none {B H : Hp} {b : Addr} (h : B b = none) (hn : ∀ φ, H b ≠ some (.ext φ)) : withD B H b = none := by
  unfold withD
  rw [h]
  show (match H b with | some (.ext φ) => some (HO.ext φ) | _ => none) = none
  split
  · rename_i φ e
    exact absurd e (hn φ)
  · rfl
theorem withD_same {B H : Hp} : Same B (withD B H) := fun b o h => withD_some h
theorem withD_heap {B H : Hp} (bh : Same B H) : Same (withD B H) H := fun b o h => by
  unfold withD at h
  cases q : B b with
  | some o' =>
    rw [q] at h
    cases h
    exact bh b _ q
  | none =>
    rw [q] at h
    have h : (match H b with | some (.ext φ) => some (HO.ext φ) | _ => none) = some o := h
    split at h
    · rename_i φ e
      cases h
      exact e
    · cases h
theorem lessD_sub {B H B' : Hp} {b : Addr} {o : HO} (h : lessD B H B' b = some o) : B' b = some o := by
  unfold lessD at h
  cases q : B b with
  | some o' =>
    rw [q] at h
    exact h
  | none =>
    rw [q] at h
    have h : (match H b with | some (.ext _) => none | _ => B' b) = some o := h
    split at h
    · cases h
    · exact h
theorem lessD_none {B H B' : Hp} {b : Addr} (h : B' b = none) : lessD B H B' b = none := by
  cases q : lessD B H B' b with
  | none => rfl
  | some o =>
    rw [lessD_sub q] at h
    cases h
theorem lessD_keep {B H B' : Hp} (sb : Same (withD B H) B') (bh : Same B H) : KeepD B' (lessD B H B') := fun b o h hn => by
  unfold lessD
  cases q : B b with
  | some o' => exact h
  | none =>
    show (match H b with | some (.ext _) => none | _ => B' b) = some o
    split
    · rename_i φ e
      have := sb b _ (withD_ext bh e)
      rw [h] at this
      cases this
      exact absurd True.intro hn
    · exact h
theorem lessD_base {B H B' : Hp} (sb : Same (withD B H) B') : Same B (lessD B H B') := fun b o h => by
  have h1 := sb b o (withD_some h)
  unfold lessD
  rw [h]
  exact h1
def noDr : Sl → Bool
  | .dr _ => false
  | _ => true
theorem SlOk.less {B H B' H' : Hp} {v : Option V} {s : Sl} {as : List Addr} (k : KeepD B' (lessD B H B')) (n : noDr s = true) (h : SlOk K none H' B' v s as) : SlOk K none H' (lessD B H B') v s as := by
  cases h with
  | un => exact .un
  | sh d => exact .sh (k.dp d)
  | ow a b => exact .ow a (k.all b)
  | bw a _ _ => cases a
  | ob a b => exact .ob (k _ _ a fun z => z) b
  | dc a b c => exact .dc a (k.ents b) c
  | dr a b c => cases n
  | st a =>
    obtain ⟨C, vr, ws, h0, h1, h2, h3, h4, h5⟩ := a
    exact .st ⟨C, vr, ws, h0, h1, h2, h3, k.dp h4, k.all h5⟩
  | sb a _ => cases a
/-- what comes back from a call whose base had all dicts -/
theorem Rel.less {H B H' B' : Hp} {v : V} {s : Sl} (bh : Same B H) (sb : Same (withD B H) B') (n : noDr s = true) (r : Rel K ⟨H, withD B H, none⟩ [some v] H' B' [s]) : Rel K ⟨H, B, none⟩ [some v] H' (lessD B H B') [s] := by
  obtain ⟨A, r⟩ := r
  have k := lessD_keep sb bh
  cases hs : r.sls with
  | @cons _ _ as bs _ _ h t =>
    cases t with
    | nil =>
      refine ⟨as ++ [], .cons (h.less k n) .nil, r.nd, fun p hp => ⟨lessD_none (r.out p hp).1, (r.out p hp).2⟩, fun b o q => r.bh b o (lessD_sub q), r.fr, fun b h1 h2 => ?_⟩
      cases q : H b with
      | none => exact absurd q h1
      | some o =>
        by_cases c : ∃ φ, o = .ext φ
        · obtain ⟨φ, rfl⟩ := c
          unfold lessD
          have h2 : B b = none := h2
          rw [h2, q]
        · refine lessD_none (r.new b h1 (withD_none h2 fun φ z => ?_))
          rw [q] at z
          cases z
          exact c ⟨φ, rfl⟩
/-! ### what a def promises over slots that it only reads -/
def spF (K : PySem.W.Frag) (F : List Sl → Option Sl) : Sp := fun vs H Q _ => ∃ (B : Hp) (ss : List Sl) (s : Sl), Same B H ∧ Sls K none H B (vs.map some) ss [] ∧ F ss = some s ∧ ∀ v H' B', Same B B' → Rel K ⟨H, B, none⟩ [some v] H' B' [s] → Q v H'
def fnF (n m : Nat) (f : Ev → Option Out) : List Sl → Option Sl := fun ss => if ss.length = n then (match f (ss ++ List.replicate m .un) with
  | none => none
  | some (.nx _) => some (.sh .none)
  | some (.rt s _) => some s) else none
theorem sls_app {bp : Option Addr} {H B : Hp} {σ' : L2.St} {e' : Ev} {A' : List Addr} (h' : Sls K bp H B σ' e' A') : ∀ {σ : L2.St} {e : Ev} {A : List Addr}, Sls K bp H B σ e A → Sls K bp H B (σ ++ σ') (e ++ e') (A ++ A')
  | _, _, _, .nil => h'
  | _, _, _, .cons (as := as) (bs := bs) a t => by
    rw [List.append_assoc]
    exact .cons a (sls_app h' t)
section
variable {P : Program} {w : World} {mg : Str → Option Value} {base : Heap}
theorem okF {x qual : Str} {st : Stmt} {f : Addr} {fd : FuncData} {N ps : List Str} {k n m : Nat} {t : TS} {fb : Ev → Option Out} (hs : SS K t fb) (F : Fun K x qual st f fd) (S : FnScope N ps (defScope st)) (hN : N.length = n + m) (hp : ps.length = n)
    (hb : ∀ (cdv : Value) (A : Around) (outer : List Env) (s : Shared) (H : Hp) (E : XK), Room k (A.deeper (envOfC qual (defScope st) s.heap.objs.size f cdv)) → PSs (cxOf CX0 P w K mg base N qual (defScope st) f cdv A outer s H E).nox (defBody st) t) :
    FnOk P w K mg base CX0 (k + 1) f fd ps (spF K (fnF n m fb)) := by
  have cut : ∀ {ss : List Sl} {r : Sl}, fnF n m fb ss = some r → ss.length = n := fun {ss r} h => by
    unfold fnF at h
    by_cases c : ss.length = n
    · exact c
    · rw [if_neg c] at h
      cases h
  refine F.ok S (fun vs H Q E h => ?_) (fun cdv A outer s H vs Q E hr h => ?_)
  · obtain ⟨B, ss, sl, _, h2, h3, _⟩ := h
    have := h2.len
    rw [List.length_map, cut h3] at this
    rw [this, hp]
  · refine ⟨t, hb cdv A outer s H E hr, ?_⟩
    obtain ⟨B, ss, sl, bh, h2, h3, q⟩ := h
    have c := cut h3
    have hl := h2.len
    rw [List.length_map, c] at hl
    unfold fnF at h3
    rw [if_pos c] at h3
    rw [start_eq hN hl]
    cases h4 : fb (ss ++ List.replicate m .un) with
    | none => rw [h4] at h3; cases h3
    | some o =>
      rw [h4] at h3
      refine hs ⟨H, B, none⟩ _ _ H B _ o h4 ⟨[] ++ [], sls_app (sls_un m) h2, List.nodup_nil, fun p hp => (by cases hp), bh, Same.refl H, fun b _ h => h⟩ (fun e' σ' H' B' he sb r => ?_) (fun s' e' v σ' H' B' he sb r => ?_)
      · subst he
        cases h3
        exact q _ H' B' sb (r.nil.cons .non)
      · subst he
        cases h3
        exact q v H' B' sb r.one
end
/-! ### arguments that are slots -/
inductive ArgsOk (K : PySem.W.Frag) (σ : L2.St) (B : Hp) (e : Ev) : List V → List Sl → Prop
  | nil : ArgsOk K σ B e [] []
  | sh {v : V} {d : PyData} {vs : List V} {ss : List Sl} : Dp K B v d → ArgsOk K σ B e vs ss → ArgsOk K σ B e (v :: vs) (.sh d :: ss)
  | ob {v : V} {i : Nat} {c : Str} {vs : List V} {ss : List Sl} : σ[i]? = some (some v) → e[i]? = some (.ob c) → ArgsOk K σ B e vs ss → ArgsOk K σ B e (v :: vs) (.ob c :: ss)
  | obv {a C dx : Addr} {c : Str} {vs : List V} {ss : List Sl} : B a = some (.ins C dx []) → PySem.W.nsIn K mainGlobals c = some (some (.ref C)) → ArgsOk K σ B e vs ss → ArgsOk K σ B e (.ref a :: vs) (.ob c :: ss)
  | dr {v : V} {i : Nat} {kvs : List (PyData × PyData)} {vs : List V} {ss : List Sl} : σ[i]? = some (some v) → dicOf e[i]? = some kvs → ArgsOk K σ B e vs ss → ArgsOk K σ B e (v :: vs) (.dr kvs :: ss)
def SAs (K : PySem.W.Frag) (t : TA) (f : M (List Sl)) : Prop := ∀ (W : Wd) (σ : L2.St) (H B : Hp) (e : Ev) (ss : List Sl) (e' : Ev) (Q : List V → Hp → Prop), f e = some (ss, e') → Rel K W σ H B e →
  (∀ vs H' B', Same B B' → Rel K W σ H' B' e' → ArgsOk K σ B' e' vs ss → Q vs H') → t σ H Q
def asNil : M (List Sl) := fun e => some ([], e)
theorem sas_nil : SAs K tNil asNil := fun W σ H B e ss e' Q hf r q => by
  cases hf
  exact q [] H B (Same.refl B) r .nil
def asSh (f : M PyData) (g : M (List Sl)) : M (List Sl) := fun e => bnd (f e) fun d e1 => bnd (g e1) fun ss e2 => some (.sh d :: ss, e2)
theorem sas_sh {t : TE} {u : TA} {f : M PyData} {g : M (List Sl)} (h : SE K t f) (hg : SAs K u g) : SAs K (tCons t u) (asSh f g) := fun W σ H B e ss e' Q hf r q => by
  obtain ⟨d, e1, h1, h2⟩ := bnd_some hf
  obtain ⟨ss1, e2, h3, h4⟩ := bnd_some h2
  cases h4
  refine h W σ H B e d e1 _ h1 r fun x H1 B1 s1 r1 dx => ?_
  exact hg W σ H1 B1 e1 ss1 _ _ h3 r1 fun vs H2 B2 s2 r2 a => q _ H2 B2 (s1.trans s2) r2 (.sh (dp_mono s2 dx) a)
def seeV : Option Sl → Option Sl
  | some (.ob c) => some (.ob c)
  | some (.dc kvs) => some (.dr kvs)
  | some (.dr kvs) => some (.dr kvs)
  | _ => none
theorem Rel.see {W : Wd} {σ : L2.St} {H B : Hp} {e : Ev} {i : Nat} {s : Sl} (r : Rel K W σ H B e) (h : seeV e[i]? = some s) : ∃ v, σ[i]? = some (some v) ∧ ∀ vs ss, ArgsOk K σ B e vs ss → ArgsOk K σ B e (v :: vs) (s :: ss) := by
  cases h0 : e[i]? with
  | none => rw [h0] at h; cases h
  | some sl =>
    cases sl with
    | ob c =>
      rw [h0] at h
      cases h
      obtain ⟨A, r⟩ := r
      obtain ⟨o, bs, h1, h2, _⟩ := r.sls.at h0
      cases h2 with
      | ob a b => exact ⟨_, h1, fun vs ss x => .ob h1 h0 x⟩
    | dc kvs =>
      rw [h0] at h
      cases h
      have hd : dicOf e[i]? = some kvs := by rw [h0]; rfl
      obtain ⟨p, xs, h1, _⟩ := r.dict hd
      exact ⟨_, h1, fun vs ss x => .dr h1 hd x⟩
    | dr kvs =>
      rw [h0] at h
      cases h
      have hd : dicOf e[i]? = some kvs := by rw [h0]; rfl
      obtain ⟨p, xs, h1, _⟩ := r.dict hd
      exact ⟨_, h1, fun vs ss x => .dr h1 hd x⟩
    | _ => rw [h0] at h; cases h
def asV (i : Nat) (g : M (List Sl)) : M (List Sl) := fun e => match seeV e[i]? with
  | none => none
  | some _ => bnd (g e) fun ss e1 => match seeV e1[i]? with
    | none => none
    | some s => some (s :: ss, e1)
theorem sas_v {i : Nat} {u : TA} {g : M (List Sl)} (hg : SAs K u g) : SAs K (tCons (tVar i) u) (asV i g) := fun W σ H B e ss e' Q hf r q => by
  unfold asV at hf
  cases h0 : seeV e[i]? with
  | none => rw [h0] at hf; cases hf
  | some s0 =>
    rw [h0] at hf
    obtain ⟨ss1, e1, h1, h2⟩ := bnd_some hf
    obtain ⟨v, a1, _⟩ := r.see h0
    refine ⟨v, a1, ?_⟩
    refine hg W σ H B e ss1 e1 _ h1 r fun vs H1 B1 s1 r1 a => ?_
    cases h3 : seeV e1[i]? with
    | none => rw [h3] at h2; cases h2
    | some s =>
      rw [h3] at h2
      cases h2
      obtain ⟨v', b1, b2⟩ := r1.see h3
      rw [a1] at b1
      cases b1
      exact q _ H1 B1 s1 r1 (b2 _ _ a)
theorem ArgsOk.sls {W : Wd} {σ : L2.St} {H B : Hp} {e : Ev} (r : Rel K W σ H B e) : ∀ {vs : List V} {ss : List Sl}, ArgsOk K σ B e vs ss → Sls K none H (withD B H) (vs.map some) ss []
  | _, _, .nil => .nil
  | _, _, .sh d t => .cons (as := []) (.sh (dp_mono withD_same d)) (ArgsOk.sls r t)
  | _, _, .ob (i := i) h1 h2 t => by
    refine .cons (as := []) ?_ (ArgsOk.sls r t)
    obtain ⟨A, r⟩ := r
    obtain ⟨o, bs, g1, g2, _⟩ := r.sls.at h2
    rw [h1] at g1
    cases g1
    cases g2 with
    | ob a b => exact .ob (withD_same _ _ a) b
  | _, _, .obv h1 h2 t => .cons (as := []) (.ob (withD_same _ _ h1) h2) (ArgsOk.sls r t)
  | _, _, .dr (i := i) h1 h2 t => by
    refine .cons (as := []) ?_ (ArgsOk.sls r t)
    obtain ⟨p, xs, g1, g2, g3, g4⟩ := r.dict h2
    rw [h1] at g1
    cases g1
    exact .dr (withD_ext r.bh g2) (g3.mono withD_same) g4
def resF (o : Option Sl) (e : Ev) : Option (Sl × Ev) := match o with
  | none => none
  | some s => if noDr s = true then some (s, e) else none
theorem resF_some {o : Option Sl} {e e' : Ev} {s : Sl} (h : resF o e = some (s, e')) : o = some s ∧ e' = e ∧ noDr s = true := by
  cases o with
  | none => cases h
  | some t =>
    unfold resF at h
    by_cases c : noDr t = true
    · simp only [if_pos c] at h
      cases h
      exact ⟨rfl, rfl, c⟩
    · simp only [if_neg c] at h
      cases h
def xFnF (F : List Sl → Option Sl) (fa : M (List Sl)) : M Sl := fun e => bnd (fa e) fun ss e1 => resF (F ss) e1
theorem sx_fnF {F : List Sl → Option Sl} {t : TA} {fa : M (List Sl)} (ha : SAs K t fa) : SX K (tCall (spF K F) [] E0 t) (xFnF F fa) := fun W σ H B e s e' Q hf r q => by
  obtain ⟨ss, e1, h1, h2⟩ := bnd_some hf
  obtain ⟨h3, rfl, h4⟩ := resF_some h2
  refine ha W σ H B e ss e' _ h1 r fun vs H1 B1 s1 r1 a => ?_
  rw [List.append_nil]
  refine ⟨withD B1 H1, ss, s, withD_heap r1.bh, a.sls r1, h3, fun v H' B' sb r' => ?_⟩
  exact q v H' _ (s1.trans (lessD_base sb)) (r1.join (lessD_base sb) (Rel.less r1.bh sb h4 r'))
/-- o.m(..) of an object without attributes, which m does not look at -/
def xMeth (c : Str) (i : Nat) (F : List Sl → Option Sl) (fa : M (List Sl)) : M Sl := fun e => match e[i]? with
  | some (.ob d) => if d = c then bnd (fa e) fun ss e1 => resF (F (.un :: ss)) e1 else none
  | _ => none
theorem sx_meth {c m : Str} {C : Addr} {i : Nat} {F : List Sl → Option Sl} {t : TA} {fa : M (List Sl)} (hC : PySem.W.nsIn K mainGlobals c = some (some (.ref C))) (ha : SAs K t fa) : SX K (tMeth C m (spF K F) [] E0 (tVar i) t) (xMeth c i F fa) := fun W σ H B e s e' Q hf r q => by
  unfold xMeth at hf
  split at hf
  · rename_i d h0
    by_cases cc : d = c
    · rw [if_pos cc] at hf
      subst cc
      obtain ⟨ss, e1, h1, h2⟩ := bnd_some hf
      obtain ⟨h3, rfl, h4⟩ := resF_some h2
      have r0 := r
      obtain ⟨A, r0⟩ := r0
      obtain ⟨o, bs, g1, g2, _⟩ := r0.sls.at h0
      cases g2 with
      | @ob a C' dx _ ga gb =>
        rw [hC] at gb
        cases Option.some.inj (Option.some.inj gb)
        refine ⟨_, g1, a, dx, [], rfl, r0.bh _ _ ga, rfl, ?_⟩
        refine ha W σ H B e ss e' _ h1 r fun vs H1 B1 s1 r1 ar => ?_
        rw [List.append_nil]
        refine ⟨withD B1 H1, _, s, withD_heap r1.bh, .cons (as := []) .un (ar.sls r1), h3, fun v H' B' sb r' => ?_⟩
        exact q v H' _ (s1.trans (lessD_base sb)) (r1.join (lessD_base sb) (Rel.less r1.bh sb h4 r'))
    · rw [if_neg cc] at hf
      cases hf
  · cases hf
/-- C() -/
def xMk (c : Str) : M Sl := fun e => some (.ob c, e)
theorem sx_mk {c : Str} {C : Addr} (hC : PySem.W.nsIn K mainGlobals c = some (some (.ref C))) : SX K (tMk0 C) (xMk c) := fun W σ H B e s e' Q hf r q => by
  cases hf
  intro x dx h1 h2 h3
  have x1 := Ext.new (o := .own x) r.bh h2
  have h1' : upd H dx (.own x) x = none := by rw [upd_ne (Ne.symm h3)]; exact h1
  have x2 := Ext.new (o := .ins C dx []) x1.bh h1'
  have r1 := r.ext (x1.trans x2)
  refine q _ _ _ (x1.trans x2).b ?_
  obtain ⟨A, r1⟩ := r1
  exact ⟨A, .cons (as := []) (.ob upd_same hC) r1.sls, r1.nd, r1.out, r1.bh, r1.fr, r1.new⟩
/-- .. as an argument -/
def asMk (c : Str) (g : M (List Sl)) : M (List Sl) := fun e => bnd (g e) fun ss e1 => some (.ob c :: ss, e1)
theorem sas_mk {c : Str} {C : Addr} {u : TA} {g : M (List Sl)} (hC : PySem.W.nsIn K mainGlobals c = some (some (.ref C))) (hg : SAs K u g) : SAs K (tCons (tMk0 C) u) (asMk c g) := fun W σ H B e ss e' Q hf r q => by
  obtain ⟨ss1, e1, h4, h5⟩ := bnd_some hf
  cases h5
  intro x dx h1 h2 h3
  have x1 := Ext.new (o := .own x) r.bh h2
  have h1' : upd H dx (.own x) x = none := by rw [upd_ne (Ne.symm h3)]; exact h1
  have x2 := Ext.new (o := .ins C dx []) x1.bh h1'
  exact hg W σ _ _ e ss1 _ _ h4 (r.ext (x1.trans x2)) fun vs H2 B2 s2 r2 a => q _ H2 B2 ((x1.trans x2).b.trans s2) r2 (.obv (s2 _ _ upd_same) hC a)
end VL
end
section
set_option Elab.async false
set_option linter.all false
set_option maxRecDepth 100000
set_option maxHeartbeats 2000000
namespace VL
open PySem PySem.Spec PyProof.Rows L2 HT PySem.W PySem.Calls
variable {K : PySem.W.Frag}
/-! ### xs[k] += v -/
section
variable {X : Cx}
def rGetL (K : PySem.W.Frag) : V → V → Hp → VK → Prop := fun o i H Q => ∃ p xs k v, o = .ref p ∧ i = .int (Int.ofNat k) ∧ SqL K H p xs ∧ xs[k]? = some v ∧ Q v H
theorem get_listN : PGet X (rGetL X.K) := by
  intro pins s σ H o i ov iv Q I ro ri h
  obtain ⟨p, xs, k, v, rfl, rfl, hq, he, q⟩ := h
  cases ro
  obtain ⟨t, rfl⟩ := ri
  obtain ⟨its, r, pl, hz⟩ := I.list hq
  obtain ⟨u, hu, ru⟩ := r.get he
  have hl := r.length
  have hn := line63
  obtain ⟨hk, _⟩ := List.getElem?_eq_some_iff.mp he
  refine wpAny_getItem_list (x := u) pl.isList (Int.natCast_nonneg k) (by show (k : Int) < _; omega) (by simpa using hu) ⟨v, H, I, ru, q⟩
end
def sAugI (i : Nat) (g : PyData → PyData → Option PyData) (fk fe : M PyData) : Ev → Option Out := fun e => match ownOf e[i]? with
  | none => none
  | some _ => bnd (fk e) fun k e1 => match ownOf e1[i]? with
    | none => none
    | some ds1 => match k with
      | .int (.ofNat n) => match ds1[n]? with
        | none => none
        | some old => bnd (fe e1) fun y e2 => match g old y with
          | none => none
          | some new => match ownOf e2[i]? with
            | none => none
            | some ds2 => if n < ds2.length then some (.nx (setOwn e2 i (ds2.set n new))) else none
      | _ => none
theorem ixN_nat {n m : Nat} (h : n < m) : ixN m (Int.ofNat n) = some n := by
  unfold ixN
  rw [if_pos (show (0 : Int) ≤ Int.ofNat n from Int.natCast_nonneg n), if_pos (show Int.ofNat n < (m : Int) from by show (n : Int) < m; omega)]
  rfl
theorem ss_augI {i : Nat} {r : TIp} {g : PyData → PyData → Option PyData} {tk te : TE} {fk fe : M PyData} (hr : SR2 K r g) (hsc : ∀ a b d, g a b = some d → isSc d = true) (hk : SE K tk fk) (he : SE K te fe) : SS K (tAugS (tVar i) tk te (rGetL K) r rSetL) (sAugI i g fk fe) := fun W D σ H B e o hf rl qn qr => by
  unfold sAugI at hf
  cases h0 : ownOf e[i]? with
  | none => rw [h0] at hf; cases hf
  | some ds0 =>
    rw [h0] at hf
    obtain ⟨p, xs, a1, a2, a3, _⟩ := rl.own h0
    obtain ⟨k, e1, h1, h2⟩ := bnd_some hf
    refine ⟨_, a1, hk W σ H B e k e1 _ h1 rl fun kv H1 B1 s1 r1 dk => ?_⟩
    cases h3 : ownOf e1[i]? with
    | none => rw [h3] at h2; cases h2
    | some ds1 =>
      rw [h3] at h2
      cases k with
      | int kk =>
        cases kk with
        | negSucc _ => cases h2
        | ofNat n =>
          dsimp only at h2
          cases h4 : ds1[n]? with
          | none => rw [h4] at h2; cases h2
          | some old =>
            rw [h4] at h2
            obtain ⟨y, e2, h5, h6⟩ := bnd_some h2
            obtain ⟨p', ys, b1, b2, b3, _⟩ := r1.own h3
            rw [a1] at b1
            cases b1
            obtain ⟨vo, c1, c2⟩ := dpAll_getD b3 h4
            rw [dp_int dk]
            refine ⟨p, ys, n, vo, rfl, rfl, SqL.of b2, c1, ?_⟩
            refine he W σ H1 B1 e1 y e2 _ h5 r1 fun yv H2 B2 s2 r2 dy => ?_
            cases h7 : g old y with
            | none => rw [h7] at h6; cases h6
            | some new =>
              rw [h7] at h6
              cases h8 : ownOf e2[i]? with
              | none => simp only [h8] at h6; cases h6
              | some ds2 =>
                simp only [h8] at h6
                by_cases c : n < ds2.length
                · rw [if_pos c] at h6
                  cases h6
                  refine hr H2 B2 vo yv old y new _ r2.bh (dp_mono s2 c2) dy h7 fun z H3 B3 x3 dz => ?_
                  have r3 := r2.ext x3
                  obtain ⟨p'', zs, f1, f2, f3, f4⟩ := r3.own h8
                  rw [a1] at f1
                  cases f1
                  exact ⟨p, zs, _, n, rfl, rfl, f2, ixN_nat (by rw [dpAll_len f3]; exact c), qn _ σ _ B3 rfl ((s1.trans s2).trans x3.b) (f4 _ _ (dpAll_set dz n f3))⟩
                · rw [if_neg c] at h6
                  cases h6
      | none => cases h2
      | bool _ => cases h2
      | str _ => cases h2
      | list _ => cases h2
      | tuple _ => cases h2
      | dict _ => cases h2
theorem pAddI_sc : ∀ a b d, pAddI a b = some d → isSc d = true := fun a b d h => by
  unfold pAddI pInt at h
  split at h
  · split at h
    · cases h
      rfl
    · cases h
  · cases h
/-! ### min(xs, default=None) -/
section
variable {X : Cx}
def rMinN (K : PySem.W.Frag) : List V → List V → Hp → VK → Prop := fun vs zs H Q => ∃ (p : Addr) (ys : List V) (ds : List PyData) (n : Nat), vs = [.ref p] ∧ zs = [.non] ∧ SqL K H p ys ∧ DpAll K H ys ds ∧ n ≤ 3 ∧ (∀ y ∈ ds, od n y = true) ∧ (ds = [] → Q .non H) ∧ ∀ (x : PyData) (xs : List PyData), ds = x :: xs → ∀ (i : Nat) (v : V), ys[i]? = some v → ds[i]? = some (minT x xs) → Q v H
theorem minD_mem : ∀ (xs : List PyData) (x : PyData), minD x xs ∈ x :: xs
  | [], x => List.mem_cons_self
  | y :: ys, x => by
    unfold minD
    rw [List.foldl_cons]
    split
    · exact List.mem_cons_of_mem _ (minD_mem ys y)
    · rcases List.mem_cons.mp (minD_mem ys x) with z | z
      · unfold minD at z
        rw [z]
        exact List.mem_cons_self
      · exact List.mem_cons_of_mem _ (List.mem_cons_of_mem _ z)
theorem cr_minN (hc : X.calm = true) (hu : X.A.units + 65 < cLine) : CallRK X (.builtin "min") [Str.ofString "default"] (rMinN X.K) := by
  intro pins s σ H vs zs us ws Q I r rz h
  obtain ⟨p, ys, ds, n, rfl, rfl, hs, hd, hn, ho, q0, q⟩ := h
  obtain ⟨its, rv, hl, _⟩ := I.list hs
  rw [Vals.ref1 r]
  have ez : ws = [.none] := by
    cases rz with
    | cons a t =>
      cases t
      cases a
      rfl
  subst ez
  obtain ⟨as, hr⟩ := readsAll I hd rv
  refine min_list_default (vs := its.toArray) (I.ok.hd hc) hl.isList hr ⟨fun a ha b hb => od_alike n (ho a ha) (ho b hb), fun a ha => od_none (ho a ha)⟩ (by have := depthAll_od ho; omega) (fun e h' tk hk => ⟨.non, H, I.kept hk, rfl, q0 e⟩) fun x xs i v h' tk bs e hv hr' hk => ?_
  subst e
  have hv' : its[i]? = some v := by simpa using hv
  have il : i < ys.length := by
    rw [rv.length]
    exact (List.getElem?_eq_some_iff.mp hv').1
  obtain ⟨u, hu1, hu2⟩ := rv.get (List.getElem?_eq_getElem il)
  rw [hv'] at hu1
  cases hu1
  obtain ⟨d, hd1, hd2⟩ := dpAll_get hd (List.getElem?_eq_getElem il)
  have od_d : od n d = true := ho d (List.mem_of_getElem? hd1)
  obtain ⟨cs, hr2⟩ := Dp.reads I d _ v hd2 hu2
  have e : d = minD x xs := alike_unique d _ v _ _ (od_alike n od_d (ho _ (minD_mem xs x))) (reads_keeps hk hr2) hr'
  rw [minT_eq ho] at e
  rw [e] at hd1
  exact ⟨_, H, I.kept hk, hu2, q x xs rfl i _ (List.getElem?_eq_getElem il) hd1⟩
end
def pMinN : PyData → Option PyData
  | .list [] => some .none
  | .list (x :: xs) => match odOf (x :: xs) with
    | none => none
    | some _ => some (minT x xs)
  | _ => none
theorem se_minN {t : TE} {f : M PyData} (h : SE K t f) : SE K (tCKw (rMinN K) (tCons t tNil) (tCons (tC .non) tNil)) (eUn pMinN f) := fun W σ H B e d e' Q hf r q => by
  obtain ⟨a, e1, h1, hf⟩ := bnd_some hf
  obtain ⟨h3, rfl⟩ := put_some hf
  refine h W σ H B e a e' _ h1 r fun x H1 B1 s1 r1 dx => ?_
  unfold pMinN at h3
  split at h3
  · cases h3
    obtain ⟨p, ys, rfl, b1, b2⟩ := dp_lst dx
    exact ⟨p, ys, [], 0, rfl, rfl, r1.bh.seq b1, dpAll_mono r1.bh b2, by omega, fun y hy => (by cases hy), fun _ => q _ H1 B1 s1 r1 .non, fun x xs z => (by cases z)⟩
  · rename_i x xs
    cases e2 : odOf (x :: xs) with
    | none => rw [e2] at h3; cases h3
    | some n =>
      rw [e2] at h3
      cases h3
      obtain ⟨k1, k2⟩ := odOf_some e2
      obtain ⟨p, ys, rfl, b1, b2⟩ := dp_lst dx
      refine ⟨p, ys, x :: xs, n, rfl, rfl, r1.bh.seq b1, dpAll_mono r1.bh b2, k1, k2, fun z => (by cases z), fun x' xs' z i v hv hd => ?_⟩
      cases z
      obtain ⟨d, m1, m2⟩ := dpAll_get b2 hv
      rw [hd] at m1
      cases m1
      exact q v H1 B1 s1 r1 m2
  · cases h3
/-! ### sorted, also of one thing -/
def pSortB : List PyData → Option (List PyData)
  | [.list ds] => if odAll 0 ds = true then some (sortD ds) else if isTupB ds = true then match odOf ds with
    | none => none
    | some _ => some (sortD ds) else none
  | [.tuple ds] => if odAll 0 ds = true then some (sortD ds) else if isTupB ds = true then match odOf ds with
    | none => none
    | some _ => some (sortD ds) else none
  | _ => none
theorem pSortB_ok {ds es : List PyData} (h : (if odAll 0 ds = true then some (sortD ds) else if isTupB ds = true then match odOf ds with
    | none => none
    | some _ => some (sortD ds) else none) = some es) : es = sortD ds ∧ ∃ n, n ≤ 3 ∧ (∀ y ∈ ds, od n y = true) ∧ SortB ds := by
  by_cases c : odAll 0 ds = true
  · rw [if_pos c] at h
    cases h
    have o : ∀ y ∈ ds, od 0 y = true := fun y hy => List.all_eq_true.mp c y hy
    refine ⟨rfl, 0, by omega, o, .inl (.inr fun d hd => ?_)⟩
    obtain ⟨i, rfl⟩ := od_zero (o d hd)
    exact ⟨fun z => (by cases z), fun xs z => (by cases z)⟩
  · rw [if_neg c] at h
    by_cases c2 : isTupB ds = true
    · rw [if_pos c2] at h
      cases e : odOf ds with
      | none => rw [e] at h; cases h
      | some n =>
        rw [e] at h
        cases h
        obtain ⟨k1, k2⟩ := odOf_some e
        exact ⟨rfl, n, k1, k2, sortB_of c2⟩
    · rw [if_neg c2] at h
      cases h
theorem sr_sortB : SRx K (rSortB K) pSortB := fun H B xs as ds Q bh ha h q => by
  unfold pSortB at h
  split at h
  · rename_i es
    obtain ⟨rfl, n, k1, k2, k3⟩ := pSortB_ok h
    obtain ⟨v, rfl, dv⟩ := dpAll_one ha
    obtain ⟨p, ys, rfl, b1, b2⟩ := dp_lst dv
    exact ⟨p, ys, es, n, rfl, .inl (bh.seq b1), dpAll_mono bh b2, k1, k2, k3, fun q' zs hq hz => q q' zs H B (Ext.refl bh) hq (hz B b2)⟩
  · rename_i es
    obtain ⟨rfl, n, k1, k2, k3⟩ := pSortB_ok h
    obtain ⟨v, rfl, dv⟩ := dpAll_one ha
    obtain ⟨p, ys, rfl, b1, b2⟩ := dp_tup dv
    exact ⟨p, ys, es, n, rfl, .inr (seqT bh b1), dpAll_mono bh b2, k1, k2, k3, fun q' zs hq hz => q q' zs H B (Ext.refl bh) hq (hz B b2)⟩
  · cases h
end VL
namespace VL
open PySem PySem.Spec PyProof.Rows L2 HT PySem.W PySem.Calls
/-! ### classes, methods -/
structure ClsOk (K : PySem.W.Frag) (C : Addr) (c : Str) : Prop where
  ns : PySem.W.nsIn K mainGlobals c = some (some (.ref C))
  mk0 : Mk0 K C
  cls : Cls K C
def MethAt (K : PySem.W.Frag) (C : Addr) (m qual : Str) (st : Stmt) (ps : List Str) : Prop := ∃ (f : Addr) (fd : FuncData), Fun K m qual st f fd ∧ Binds K fd ps [] ∧ Meth K C m f
def OkM (P : Program) (w : World) (K : PySem.W.Frag) (mg : Str → Option Value) (base : Heap) (L : Nat) (C : Addr) (m qual : Str) (st : Stmt) (ps : List Str) (sp : Sp) : Prop := ∃ (f : Addr) (fd : FuncData), Fun K m qual st f fd ∧ Binds K fd ps [] ∧ Meth K C m f ∧ FnOk P w K mg base CX0 L f fd ps sp
end VL
end
section
set_option Elab.async false
set_option linter.all false
set_option maxRecDepth 100000
set_option maxHeartbeats 2000000
namespace VL
open PySem PySem.Spec PyProof.Rows L2 HT PySem.W PySem.Calls
variable {K : PySem.W.Frag}
/-! ### a slot is lent -/
def hideL (ps : List Addr) (H : Hp) : Hp := fun b => if b ∈ ps then none else H b
theorem hideL_in {ps : List Addr} {H : Hp} {b : Addr} (h : b ∈ ps) : hideL ps H b = none := if_pos h
theorem hideL_out {ps : List Addr} {H : Hp} {b : Addr} (h : b ∉ ps) : hideL ps H b = H b := if_neg h
theorem hideL_sub {ps : List Addr} {H : Hp} {b : Addr} {o : HO} (h : hideL ps H b = some o) : b ∉ ps ∧ H b = some o := by
  by_cases c : b ∈ ps
  · rw [hideL_in c] at h
    cases h
  · rw [hideL_out c] at h
    exact ⟨c, h⟩
def free : Sl → Bool
  | .bw _ => false
  | .sb _ _ => false
  | _ => true
theorem SlOk.free {bp bp' : Option Addr} {H B : Hp} {o : Option V} {s : Sl} {as : List Addr} (f : VL.free s = true) (h : SlOk K bp H B o s as) : SlOk K bp' H B o s as := by
  cases h with
  | un => exact .un
  | sh d => exact .sh d
  | ow a b => exact .ow a b
  | bw _ _ _ => cases f
  | ob a b => exact .ob a b
  | dc a b c => exact .dc a b c
  | dr a b c => exact .dr a b c
  | st a => exact .st a
  | sb _ _ => cases f
theorem Rel.lend {W : Wd} {σ : L2.St} {H B : Hp} {e : Ev} {i : Nat} {s0 : Sl} (r : Rel K W σ H B e) (h0 : e[i]? = some s0) : ∃ o bs, σ[i]? = some o ∧ SlOk K W.bp H B o s0 bs ∧ bs.Nodup ∧ (∀ p ∈ bs, B p = none) ∧
    ∀ v s s1 s2 H' B' bp', Same B B' → Rel K ⟨hideL bs H, B, bp'⟩ [some v, o] H' B' [s, s1] → free s = true → (∀ as, SlOk K bp' H' B' o s1 as → SlOk K W.bp H' B' o s2 as) → Rel K W (some v :: σ) H' B' (s :: e.set i s2) := by
  obtain ⟨A, r⟩ := r
  obtain ⟨o, bs, cs, h1, h2, h3, h4, h5⟩ := r.sls.out r.nd h0
  obtain ⟨k1, k2, k3⟩ := List.nodup_append.mp h4
  refine ⟨o, bs, h1, h2, k1, fun p hp => (r.out p (h5 p (List.mem_append_left _ hp))).1, fun v s s1 s2 H' B' bp' sb r' fr cv => ?_⟩
  obtain ⟨A', r'⟩ := r'
  have ncs : ∀ q ∈ cs, q ∉ bs := fun q hq z => k3 q z q hq rfl
  cases hs : r'.sls with
  | @cons _ _ as _ _ _ g1 t =>
    cases t with
    | @cons _ _ ds _ _ _ g2 t2 =>
      cases t2 with
      | nil =>
        obtain ⟨n1, n2, n3⟩ := List.nodup_append.mp r'.nd
        have n2' : ds.Nodup := by rw [List.append_nil] at n2; exact n2
        have hd : ∀ q ∈ ds, q ∈ as ++ (ds ++ []) := fun q hq => List.mem_append_right _ (List.mem_append_left _ hq)
        have o1 : ∀ q, hideL bs H q = none → q ∈ bs ∨ H q = none := fun q hq => by
          by_cases c : q ∈ bs
          · exact .inl c
          · rw [hideL_out c] at hq
            exact .inr hq
        have oA : ∀ q ∈ as, q ∈ bs ∨ H q = none := fun q hq => o1 q (r'.out q (List.mem_append_left _ hq)).2
        have oD : ∀ q ∈ ds, q ∈ bs ∨ H q = none := fun q hq => o1 q (r'.out q (hd q hq)).2
        have keep : ∀ q ∈ cs, H' q = H q := fun q hq => by
          have hn := h3.held q hq
          have := same_at r'.fr (p := q) (by show hideL bs H q ≠ none; rw [hideL_out (ncs q hq)]; exact hn)
          rw [this]
          exact hideL_out (ncs q hq)
        have notC : ∀ q, q ∈ bs ∨ H q = none → q ∉ cs := fun q hq z => by
          rcases hq with w | w
          · exact ncs q z w
          · exact h3.held q z w
        have inA : ∀ q, q ∈ bs ∨ H q = none → W.H0 q = none := fun q hq => by
          rcases hq with w | w
          · exact (r.out q (h5 q (List.mem_append_left _ w))).2
          · exact r.fr.free w
        have t0 : Sls K W.bp H' B' (σ.set i none) (e.set i .un) cs := h3.mono sb keep
        obtain ⟨fs, f1, f2, f3⟩ := t0.set (cv ds g2) i
        rw [set_set', set_set', set_same h1] at f1
        refine ⟨as ++ fs, .cons (g1.free fr) f1, List.nodup_append.mpr ⟨n1, f2 k2 n2' (fun q hq => notC q (oD q hq)), fun x hx y hy z => ?_⟩, fun q hq => ?_, r'.bh, fun b ob hb => ?_, fun b hb1 hb2 => ?_⟩
        · rcases f3 y hy with w | w
          · exact notC x (oA x hx) (by rw [z]; exact w)
          · exact n3 x hx y (List.mem_append_left _ w) z
        · rcases List.mem_append.mp hq with z | z
          · exact ⟨(r'.out q (List.mem_append_left _ z)).1, inA q (oA q z)⟩
          · rcases f3 q z with w | w
            · refine ⟨?_, (r.out q (h5 q (List.mem_append_right _ w))).2⟩
              refine r'.new q ?_ (r.out q (h5 q (List.mem_append_right _ w))).1
              show hideL bs H q ≠ none
              rw [hideL_out (ncs q w)]
              exact h3.held q w
            · exact ⟨(r'.out q (hd q w)).1, inA q (oD q w)⟩
        · have c : b ∉ bs := fun z => by
            rw [(r.out b (h5 b (List.mem_append_left _ z))).2] at hb
            cases hb
          refine r'.fr b ob ?_
          show hideL bs H b = some ob
          rw [hideL_out c]
          exact r.fr b ob hb
        · have c : b ∉ bs := fun z => hb1 (r.out b (h5 b (List.mem_append_left _ z))).2
          refine r'.new b ?_ (r.new b hb1 hb2)
          show hideL bs H b ≠ none
          rw [hideL_out c]
          exact ne_none_of r.fr hb1
/-! ### streets -/
def strOf : Option Sl → Option (PyData × List PyData)
  | some (.st r er) => some (r, er)
  | some (.sb r er) => some (r, er)
  | _ => none
def setStr (e : Ev) (i : Nat) (r : PyData) (er : List PyData) : Ev := match e[i]? with
  | some (.sb _ _) => e.set i (.sb r er)
  | _ => e.set i (.st r er)
theorem setStr_st {e : Ev} {i : Nat} {r r' : PyData} {er er' : List PyData} (h : e[i]? = some (.st r er)) : setStr e i r' er' = e.set i (.st r' er') := by
  unfold setStr
  rw [h]
theorem setStr_sb {e : Ev} {i : Nat} {r r' : PyData} {er er' : List PyData} (h : e[i]? = some (.sb r er)) : setStr e i r' er' = e.set i (.sb r' er') := by
  unfold setStr
  rw [h]
/-- what a street's slot tells, and what becomes of it when one of its three places is written -/
theorem Rel.str {W : Wd} {σ : L2.St} {H B : Hp} {e : Ev} {i : Nat} {row : PyData} {er : List PyData} (r : Rel K W σ H B e) (h : strOf e[i]? = some (row, er)) : ∃ a dx q C vr ws, σ[i]? = some (some (.ref a)) ∧ PySem.W.nsIn K mainGlobals "Street" = some (some (.ref C)) ∧
    H a = some (.ins C dx [("row", vr), ("earlier_rows", .ref q)]) ∧ H dx = some (.own a) ∧ H q = some (.lst ws) ∧ Dp K B vr row ∧ DpAll K B ws er ∧ [a, dx, q].Nodup ∧
    ∀ (u : Addr) (ob : HO) (row' : PyData) (er' : List PyData), u ∈ [a, dx, q] → StAt K (upd H u ob) B a dx q row' er' → Rel K W σ (upd H u ob) B (setStr e i row' er') := by
  obtain ⟨A, r⟩ := r
  cases h0 : e[i]? with
  | none => rw [h0] at h; cases h
  | some s =>
    rw [h0] at h
    obtain ⟨o, bs, cs, h1, h2, h3, h4, h5⟩ := r.sls.out r.nd h0
    obtain ⟨k1, k2, k3⟩ := List.nodup_append.mp h4
    have main : ∀ (a dx q : Addr) (mk : PyData → List PyData → Sl), bs = [a, dx, q] → o = some (.ref a) → StAt K H B a dx q row er → (∀ r' er', setStr e i r' er' = e.set i (mk r' er')) → (∀ H' B' r' er', StAt K H' B' a dx q r' er' → SlOk K W.bp H' B' (some (.ref a)) (mk r' er') [a, dx, q]) →
        ∃ a dx q C vr ws, σ[i]? = some (some (.ref a)) ∧ PySem.W.nsIn K mainGlobals "Street" = some (some (.ref C)) ∧ H a = some (.ins C dx [("row", vr), ("earlier_rows", .ref q)]) ∧ H dx = some (.own a) ∧ H q = some (.lst ws) ∧ Dp K B vr row ∧ DpAll K B ws er ∧ [a, dx, q].Nodup ∧
        ∀ (u : Addr) (ob : HO) (row' : PyData) (er' : List PyData), u ∈ [a, dx, q] → StAt K (upd H u ob) B a dx q row' er' → Rel K W σ (upd H u ob) B (setStr e i row' er') := by
      intro a dx q mk eb eo sa hm hmk
      subst eb eo
      obtain ⟨C, vr, ws, g0, g1, g2, g3, g4, g5⟩ := sa
      refine ⟨a, dx, q, C, vr, ws, h1, g0, g1, g2, g3, g4, g5, k1, fun u ob row' er' hu sa' => ?_⟩
      have ne : ∀ p ∈ cs, p ≠ u := fun p hp z => k3 u hu p hp z.symm
      have t : Sls K W.bp (upd H u ob) B (σ.set i none) (e.set i .un) cs := h3.mono (Same.refl B) fun p hp => upd_ne (ne p hp)
      obtain ⟨fs, f1, f2, f3⟩ := t.set (hmk _ _ row' er' sa') i
      rw [set_set', set_set', set_same h1] at f1
      rw [hm]
      have hA : u ∈ A := h5 u (List.mem_append_left _ hu)
      refine ⟨fs, f1, f2 k2 k1 (fun p hp z => k3 p hp p z rfl), fun p hp => ?_, fun b o hb => ?_, fun b o hb => ?_, r.new⟩
      · rcases f3 p hp with z | z
        · exact r.out p (h5 p (List.mem_append_right _ z))
        · exact r.out p (h5 p (List.mem_append_left _ z))
      · rw [upd_ne (ne_of_none hb (r.out u hA).1)]
        exact r.bh b o hb
      · rw [upd_ne (ne_of_none hb (r.out u hA).2)]
        exact r.fr b o hb
    cases s with
    | un => cases h
    | sh _ => cases h
    | ow _ => cases h
    | bw _ => cases h
    | ob _ => cases h
    | dc _ => cases h
    | dr _ => cases h
    | st r0 er0 =>
      cases h
      cases h2 with
      | @st a dx q _ _ sa => exact main a dx q .st rfl rfl sa (fun _ _ => setStr_st h0) fun _ _ _ _ z => .st z
    | sb r0 er0 =>
      cases h
      cases h2 with
      | @sb a dx q _ _ eb sa => exact main a dx q .sb rfl rfl sa (fun _ _ => setStr_sb h0) fun _ _ _ _ z => .sb eb z
structure StreetOk (K : PySem.W.Frag) (C : Addr) : Prop where
  ns : PySem.W.nsIn K mainGlobals "Street" = some (some (.ref C))
  cls : Cls K C
  nr : NoAttr K C "row"
  ne : NoAttr K C "earlier_rows"
/-- self.row -/
def eRow (i : Nat) : M PyData := fun e => match strOf e[i]? with
  | none => none
  | some (r, _) => some (r, e)
theorem se_row {i : Nat} {C : Addr} (k : StreetOk K C) : SE K (tFld K (tVar i) "row") (eRow i) := fun W σ H B e d e' Q hf r q => by
  unfold eRow at hf
  cases h0 : strOf e[i]? with
  | none => rw [h0] at hf; cases hf
  | some p =>
    obtain ⟨row, er⟩ := p
    rw [h0] at hf
    cases hf
    obtain ⟨a, dx, q', C', vr, ws, g1, g2, g3, g4, g5, g6, g7, _⟩ := r.str h0
    rw [k.ns] at g2
    cases Option.some.inj (Option.some.inj g2)
    exact ⟨_, g1, a, C, dx, _, vr, rfl, g3, k.cls, k.nr, rfl, q vr H B (Same.refl B) r g6⟩
/-- self.row = .. -/
def sRow (i : Nat) (f : M PyData) : Ev → Option Out := fun e => bnd (f e) fun d e1 => match strOf e1[i]? with
  | none => none
  | some (_, er) => some (.nx (setStr e1 i d er))
theorem ss_row {i : Nat} {C : Addr} {t : TE} {f : M PyData} (k : StreetOk K C) (h : SE K t f) : SS K (sFld K (tVar i) t "row") (sRow i f) := fun W D σ H B e o hf r qn qr => by
  obtain ⟨d, e1, h1, h2⟩ := bnd_some hf
  refine h W σ H B e d e1 _ h1 r fun v H1 B1 s1 r1 dv => ?_
  cases h0 : strOf e1[i]? with
  | none => rw [h0] at h2; cases h2
  | some p =>
    obtain ⟨row, er⟩ := p
    rw [h0] at h2
    cases h2
    obtain ⟨a, dx, q', C', vr, ws, g1, g2, g3, g4, g5, g6, g7, nd, g8⟩ := r1.str h0
    have g2' := g2
    rw [k.ns] at g2'
    cases Option.some.inj (Option.some.inj g2')
    have nda : dx ≠ a := fun z => by subst z; simp at nd
    have nqa : q' ≠ a := fun z => by subst z; simp at nd
    refine ⟨_, g1, a, C, dx, _, rfl, g3, k.cls, k.nr, (by show 2 < 1000; decide), qn _ σ _ B1 rfl s1 (g8 a _ d er (by simp) ⟨C, v, ws, g2, upd_same, ?_, ?_, dv, g7⟩)⟩
    · rw [upd_ne nda]
      exact g4
    · rw [upd_ne nqa]
      exact g5
/-- self.earlier_rows.append(self.row) -/
def sEarl (i : Nat) : Ev → Option Out := fun e => match strOf e[i]? with
  | none => none
  | some (row, er) => if sz er.length = true then some (.nx (setStr e i row (er ++ [row]))) else none
theorem ss_earl {i : Nat} {C : Addr} (k : StreetOk K C) : SS K (tDrop (tBM K "list" rAppend (tFld K (tVar i) "earlier_rows") (tCons (tFld K (tVar i) "row") tNil))) (sEarl i) := fun W D σ H B e o hf r qn qr => by
  unfold sEarl at hf
  cases h0 : strOf e[i]? with
  | none => rw [h0] at hf; cases hf
  | some p =>
    obtain ⟨row, er⟩ := p
    simp only [h0] at hf
    by_cases c : sz er.length = true
    · rw [if_pos c] at hf
      cases hf
      obtain ⟨a, dx, q', C', vr, ws, g1, g2, g3, g4, g5, g6, g7, nd, g8⟩ := r.str h0
      have g2' := g2
      rw [k.ns] at g2'
      cases Option.some.inj (Option.some.inj g2')
      have nqa : a ≠ q' := fun z => by subst z; simp at nd
      have nqd : dx ≠ q' := fun z => by subst z; simp at nd
      refine ⟨_, g1, a, C, dx, _, _, rfl, g3, k.cls, k.ne, rfl, .inl ⟨rfl, _, SqL.of g5⟩, _, g1, a, C, dx, _, _, rfl, g3, k.cls, k.nr, rfl, q', ws, vr, rfl, rfl, g5, by rw [dpAll_len g7]; exact sz_lt c, ?_⟩
      refine qn _ σ _ B rfl (Same.refl B) (g8 q' _ row (er ++ [row]) (by simp) ⟨C, vr, ws ++ [vr], g2, ?_, ?_, upd_same, g6, dpAll_snoc g7 g6⟩)
      · rw [upd_ne nqa]
        exact g3
      · rw [upd_ne nqd]
        exact g4
    · rw [if_neg c] at hf
      cases hf
/-! ### what a method promises of the street that it is lent -/
abbrev FT := PyData → List PyData → List PyData → Option (Sl × PyData × List PyData)
def spT (K : PySem.W.Frag) (F : FT) : Sp := fun vs H Q _ => ∃ (B : Hp) (a dx q : Addr) (row : PyData) (er : List PyData) (vr : List V) (ds : List PyData) (s : Sl) (row1 : PyData) (er1 : List PyData), vs = .ref a :: vr ∧ StAt K H B a dx q row er ∧ (∀ p ∈ [a, dx, q], B p = none) ∧ [a, dx, q].Nodup ∧ Same B H ∧
  DpAll K B vr ds ∧ F row er ds = some (s, row1, er1) ∧ ∀ v H' B', Same B B' → Rel K ⟨hideL [a, dx, q] H, B, some a⟩ [some v, some (.ref a)] H' B' [s, .sb row1 er1] → Q v H'
def lentT (s : Sl) : Option Sl → Option (Sl × PyData × List PyData)
  | some (.sb r er) => if free s = true then some (s, r, er) else none
  | _ => none
theorem lentT_some {s s' : Sl} {o : Option Sl} {r : PyData} {er : List PyData} (h : lentT s o = some (s', r, er)) : s' = s ∧ o = some (.sb r er) ∧ free s = true := by
  unfold lentT at h
  split at h
  · by_cases c : free s = true
    · rw [if_pos c] at h
      cases h
      exact ⟨rfl, rfl, c⟩
    · rw [if_neg c] at h
      cases h
  · cases h
def fnT (n m : Nat) (f : Ev → Option Out) : FT := fun row er ds => if ds.length = n then (match f (.sb row er :: (ds.map Sl.sh ++ List.replicate m .un)) with
  | none => none
  | some (.nx e) => lentT (.sh .none) e[0]?
  | some (.rt s e) => lentT s e[0]?) else none
theorem fnT_free {n m : Nat} {f : Ev → Option Out} {row row1 : PyData} {er er1 ds : List PyData} {s : Sl} (h : fnT n m f row er ds = some (s, row1, er1)) : free s = true := by
  unfold fnT at h
  by_cases c : ds.length = n
  · rw [if_pos c] at h
    split at h
    · cases h
    · rw [(lentT_some h).1]
      rfl
    · rw [(lentT_some h).1]
      exact (lentT_some h).2.2
  · rw [if_neg c] at h
    cases h
theorem Rel.twoT {W : Wd} {σ : L2.St} {H B : Hp} {e : Ev} {o : Option V} {s : Sl} {row : PyData} {er : List PyData} {a : Addr} (r : Rel K W (o :: σ) H B (s :: e)) (hp : W.bp = some a) (h : e[0]? = some (.sb row er)) : Rel K W [o, some (.ref a)] H B [s, .sb row er] := by
  obtain ⟨A, r⟩ := r
  cases hs : r.sls with
  | @cons _ _ as bs _ _ h1 t =>
    cases t with
    | nil => cases h
    | @cons _ _ cs fs _ _ h2 t2 =>
      cases h
      cases h2 with
      | @sb a' dx q _ _ eb sa =>
        rw [hp] at eb
        cases eb
        obtain ⟨n1, n2, n3⟩ := List.nodup_append.mp r.nd
        obtain ⟨n4, n5, n6⟩ := List.nodup_append.mp n2
        refine ⟨as ++ ([a, dx, q] ++ []), .cons h1 (.cons (.sb hp sa) .nil), List.nodup_append.mpr ⟨n1, by rw [List.append_nil]; exact n4, fun x hx y hy z => ?_⟩, fun p hq => r.out p ?_, r.bh, r.fr, r.new⟩
        · rw [List.append_nil] at hy
          exact n3 x hx y (List.mem_append_left _ hy) z
        · rcases List.mem_append.mp hq with z | z
          · exact List.mem_append_left _ z
          · rw [List.append_nil] at z
            exact List.mem_append_right _ (List.mem_append_left _ z)
section
variable {P : Program} {w : World} {mg : Str → Option Value} {base : Heap}
theorem okT {x qual : Str} {st : Stmt} {f : Addr} {fd : FuncData} {N ps : List Str} {k n m : Nat} {t : TS} {fb : Ev → Option Out} (hs : SS K t fb) (F : Fun K x qual st f fd) (S : FnScope N ps (defScope st)) (hN : N.length = n + 1 + m) (hp : ps.length = n + 1)
    (hb : ∀ (cdv : Value) (A : Around) (outer : List Env) (s : Shared) (H : Hp) (E : XK), Room k (A.deeper (envOfC qual (defScope st) s.heap.objs.size f cdv)) → PSs (cxOf CX0 P w K mg base N qual (defScope st) f cdv A outer s H E).nox (defBody st) t) :
    FnOk P w K mg base CX0 (k + 1) f fd ps (spT K (fnT n m fb)) := by
  have cut : ∀ {row : PyData} {er ds : List PyData} {r : Sl × PyData × List PyData}, fnT n m fb row er ds = some r → ds.length = n := fun {row er ds r} h => by
    unfold fnT at h
    by_cases c : ds.length = n
    · exact c
    · rw [if_neg c] at h
      cases h
  refine F.ok S (fun vs H Q E h => ?_) (fun cdv A outer s H vs Q E hr h => ?_)
  · obtain ⟨B, a, dx, q, row, er, vr, ds, sl, row1, er1, rfl, h1, h2, h3, h4, h5, h6, _⟩ := h
    rw [List.length_cons, dpAll_len h5, hp, cut h6]
  · refine ⟨t, hb cdv A outer s H E hr, ?_⟩
    obtain ⟨B, a, dx, q, row, er, vr, ds, sl, row1, er1, rfl, h1, h2, nd, bh, h5, h6, qq⟩ := h
    have c := cut h6
    have hv : vr.length = n := by rw [dpAll_len h5]; exact c
    unfold fnT at h6
    rw [if_pos c] at h6
    have es : L2.start N (.ref a :: vr) = some (.ref a) :: (vr.map some ++ List.replicate m none) := by
      rw [start_eq hN (by rw [List.length_cons, hv])]
      rfl
    rw [es]
    have r0 : Rel K ⟨hideL [a, dx, q] H, B, some a⟩ (some (.ref a) :: (vr.map some ++ List.replicate m none)) H B (.sb row er :: (ds.map Sl.sh ++ List.replicate m .un)) := by
      refine ⟨[a, dx, q] ++ [], .cons (.sb rfl h1) (sls_sh (sls_un m) h5), by rw [List.append_nil]; exact nd, fun p hq => ?_, bh, fun b o hb => (hideL_sub hb).2, fun b _ h => h⟩
      rw [List.append_nil] at hq
      exact ⟨h2 p hq, hideL_in hq⟩
    cases h7 : fb (.sb row er :: (ds.map Sl.sh ++ List.replicate m .un)) with
    | none => rw [h7] at h6; cases h6
    | some o =>
      rw [h7] at h6
      refine hs ⟨hideL [a, dx, q] H, B, some a⟩ _ _ H B _ o h7 r0 (fun e' σ' H' B' he sb r => ?_) (fun s' e' v σ' H' B' he sb r => ?_)
      · subst he
        obtain ⟨rfl, h8, _⟩ := lentT_some h6
        exact qq _ H' B' sb ((r.cons (d := .none) .non).twoT rfl h8)
      · subst he
        obtain ⟨rfl, h8, _⟩ := lentT_some h6
        exact qq v H' B' sb (r.twoT rfl h8)
end
/-- o.m(..) of a street -/
def xMethT (i : Nat) (F : FT) (fa : M (List PyData)) : M Sl := fun e => match strOf e[i]? with
  | none => none
  | some _ => bnd (fa e) fun ds e1 => match strOf e1[i]? with
    | none => none
    | some (row, er) => match F row er ds with
      | none => none
      | some (s, row1, er1) => if free s = true then some (s, setStr e1 i row1 er1) else none
theorem sx_methT {m : Str} {C : Addr} {i : Nat} {F : FT} {t : TA} {fa : M (List PyData)} (k : StreetOk K C) (hm : List.lookup m [(("row" : Str), ()), ("earlier_rows", ())] = none) (ha : SA K t fa) : SX K (tMeth C m (spT K F) [] E0 (tVar i) t) (xMethT i F fa) := fun W σ H B e s e' Q hf r q => by
  unfold xMethT at hf
  cases h0 : strOf e[i]? with
  | none => rw [h0] at hf; cases hf
  | some p0 =>
    obtain ⟨row0, er0⟩ := p0
    rw [h0] at hf
    obtain ⟨ds, e1, h1, h2⟩ := bnd_some hf
    obtain ⟨a, dx, q', C', vr, ws, g1, g2, g3, _⟩ := r.str h0
    rw [k.ns] at g2
    cases Option.some.inj (Option.some.inj g2)
    refine ⟨_, g1, a, dx, _, rfl, g3, ?_, ha W σ H B e ds e1 _ h1 r fun vs H1 B1 s1 r1 dv => ?_⟩
    · revert hm
      simp only [List.lookup]
      cases (m == ("row" : Str)) <;> cases (m == ("earlier_rows" : Str)) <;> intro z <;> first | rfl | cases z
    · cases h3 : strOf e1[i]? with
      | none => rw [h3] at h2; cases h2
      | some p =>
        obtain ⟨row, er⟩ := p
        simp only [h3] at h2
        cases h4 : F row er ds with
        | none => rw [h4] at h2; cases h2
        | some z =>
          obtain ⟨s', row1, er1⟩ := z
          simp only [h4] at h2
          by_cases c : free s' = true
          · rw [if_pos c] at h2
            cases h2
            rw [List.append_nil]
            cases h5 : e1[i]? with
            | none => rw [h5] at h3; cases h3
            | some sl =>
              rw [h5] at h3
              obtain ⟨o, bs, b1, b2, b3, b4, b5⟩ := r1.lend h5
              rw [g1] at b1
              cases Option.some.inj b1
              cases sl with
              | un => cases h3
              | sh _ => cases h3
              | ow _ => cases h3
              | bw _ => cases h3
              | ob _ => cases h3
              | dc _ => cases h3
              | dr _ => cases h3
              | st r2 er2 =>
                cases h3
                rw [setStr_st h5] at q
                cases b2 with
                | @st _ dx2 q2 _ _ sa => exact ⟨B1, a, dx2, q2, row, er, vs, ds, s, row1, er1, rfl, sa, b4, b3, r1.bh, dv, h4, fun v H' B' sb r' => q v H' B' (s1.trans sb) (b5 v s _ (.st row1 er1) H' B' _ sb r' c fun as z => by cases z with | sb _ sa => exact .st sa)⟩
              | sb r2 er2 =>
                cases h3
                rw [setStr_sb h5] at q
                cases b2 with
                | @sb _ dx2 q2 _ _ eb sa => exact ⟨B1, a, dx2, q2, row, er, vs, ds, s, row1, er1, rfl, sa, b4, b3, r1.bh, dv, h4, fun v H' B' sb r' => q v H' B' (s1.trans sb) (b5 v s _ (.sb row1 er1) H' B' _ sb r' c fun as z => by cases z with | sb _ sa => exact .sb eb sa)⟩
          · rw [if_neg c] at h2
            cases h2
end VL
end
section
set_option Elab.async false
set_option linter.all false
set_option maxRecDepth 100000
set_option maxHeartbeats 2000000
namespace VL
open PySem PySem.Spec PyProof.Rows L2 HT PySem.W PySem.Calls
variable {K : PySem.W.Frag}
/-! ### Street() -/
def inH (H : Hp) (C x dx p q : Addr) : Hp := upd (upd (upd (upd H p (.tup [])) x (.ins C dx [("row", .ref p)])) q (.lst [])) x (.ins C dx [("row", .ref p), ("earlier_rows", .ref q)])
def spI (C : Addr) : Sp := fun vs H Q _ => ∃ x dx, vs = [.ref x] ∧ H x = some (.ins C dx []) ∧ ∀ p q, H p = none → upd (upd H p (.tup [])) x (.ins C dx [("row", .ref p)]) q = none → Q .non (inH H C x dx p q)
abbrev tInit (K : PySem.W.Frag) : TS := tSeq (sFld K (tVar 0) (tTup tNil) "row") (sFld K (tVar 0) (tLst tNil) "earlier_rows")
section
variable {P : Program} {w : World} {mg : Str → Option Value} {base : Heap}
theorem okI {x qual : Str} {st : Stmt} {f C : Addr} {fd : FuncData} {k : Nat} (kc : StreetOk K C) (F : Fun K x qual st f fd) (S : FnScope ["self"] ["self"] (defScope st))
    (hb : ∀ (cdv : Value) (A : Around) (outer : List Env) (s : Shared) (H : Hp) (E : XK), Room k (A.deeper (envOfC qual (defScope st) s.heap.objs.size f cdv)) → PSs (cxOf CX0 P w K mg base ["self"] qual (defScope st) f cdv A outer s H E).nox (defBody st) (tInit K)) :
    FnOk P w K mg base CX0 (k + 1) f fd ["self"] (spI C) := by
  refine F.ok S (fun vs H Q E h => ?_) (fun cdv A outer s H vs Q E hr h => ?_)
  · obtain ⟨x, dx, rfl, _⟩ := h
    rfl
  · refine ⟨_, hb cdv A outer s H E hr, ?_⟩
    obtain ⟨x, dx, rfl, h1, q⟩ := h
    show tInit K _ [some (.ref x)] H
    refine ⟨Nat.zero_le _, fun p hp => ⟨_, rfl, x, C, dx, [], rfl, ?_, kc.cls, kc.nr, (by decide), Nat.zero_le _, fun q' hq' => ⟨_, rfl, x, C, dx, [("row", .ref p)], rfl, ?_, kc.cls, kc.ne, (by show 1 < 1000; decide), ?_⟩⟩⟩
    · rw [upd_ne (ne_of_none h1 hp)]
      exact h1
    · have : x ≠ q' := fun z => by
        have hq'' : upd (upd H p (.tup [])) x (.ins C dx [("row", .ref p)]) q' = none := hq'
        rw [← z, upd_same] at hq''
        cases hq''
      show upd (upd (upd H p (.tup [])) x (.ins C dx [("row", .ref p)])) q' (.lst []) x = some (.ins C dx [("row", .ref p)])
      rw [upd_ne this, upd_same]
    · exact q p q' hp hq'
end
def xMkT : M Sl := fun e => some (.st (.tuple []) [], e)
theorem sx_mkT {C : Addr} (kc : StreetOk K C) : SX K (tMake C (spI C) [] E0 tNil) xMkT := fun W σ H B e s e' Q hf r qq => by
  cases hf
  intro x dx hx hdx ne
  refine ⟨x, dx, rfl, upd_same, fun p q hp hq => ⟨rfl, ?_⟩⟩
  have px : p ≠ x := fun z => by rw [z, upd_same] at hp; cases hp
  rw [upd_ne px] at hp
  have pd : p ≠ dx := fun z => by rw [z, upd_same] at hp; cases hp
  rw [upd_ne pd] at hp
  have qx : q ≠ x := fun z => by rw [z, upd_same] at hq; cases hq
  rw [upd_ne qx] at hq
  have qp : q ≠ p := fun z => by rw [z, upd_same] at hq; cases hq
  rw [upd_ne qp, upd_ne qx] at hq
  have qd : q ≠ dx := fun z => by rw [z, upd_same] at hq; cases hq
  rw [upd_ne qd] at hq
  have e1 : ∀ H5, H5 = inH (upd (upd H dx (.own x)) x (.ins C dx [])) C x dx p q → H5 x = some (.ins C dx [("row", .ref p), ("earlier_rows", .ref q)]) ∧ H5 dx = some (.own x) ∧ H5 q = some (.lst []) ∧ H5 p = some (.tup []) ∧ ∀ b, b ≠ x → b ≠ dx → b ≠ q → b ≠ p → H5 b = H b := by
    rintro H5 rfl
    unfold inH
    refine ⟨upd_same, ?_, ?_, ?_, fun b h1 h2 h3 h4 => ?_⟩
    · rw [upd_ne ne, upd_ne (Ne.symm qd), upd_ne ne, upd_ne (Ne.symm pd), upd_ne ne, upd_same]
    · rw [upd_ne qx, upd_same]
    · rw [upd_ne px, upd_ne (Ne.symm qp), upd_ne px, upd_same]
    · rw [upd_ne h1, upd_ne h3, upd_ne h1, upd_ne h4, upd_ne h1, upd_ne h2]
  generalize hH : inH (upd (upd H dx (.own x)) x (.ins C dx [])) C x dx p q = H5
  obtain ⟨g1, g2, g3, g4, g5⟩ := e1 H5 hH.symm
  have sh : Same H H5 := fun b o hb => by
    rw [g5 b (ne_of_none hb hx) (ne_of_none hb hdx) (ne_of_none hb hq) (ne_of_none hb hp)]
    exact hb
  have Bp : B p = none := r.bh.free hp
  have x1 : Ext H B H5 (upd B p (.tup [])) := by
    refine ⟨sh, same_upd Bp, fun b o hb => ?_, fun b h1 h2 => ?_⟩
    · by_cases c : b = p
      · rw [c, upd_same] at hb
        rw [c, g4]
        exact hb
      · rw [upd_ne c] at hb
        exact sh b o (r.bh b o hb)
    · rw [upd_ne (fun z => h1 (by rw [z]; exact hp))]
      exact h2
  have r1 := r.ext x1
  refine qq _ H5 _ x1.b ?_
  have hfr := r
  obtain ⟨A0, hfr⟩ := hfr
  obtain ⟨A, r1⟩ := r1
  have nA : ∀ u ∈ [x, dx, q], H u = none := fun u hu => by
    rcases List.mem_cons.mp hu with z | hu
    · rw [z]; exact hx
    · rcases List.mem_cons.mp hu with z | hu
      · rw [z]; exact hdx
      · rw [List.mem_singleton.mp hu]; exact hq
  have nB : ∀ u ∈ [x, dx, q], u ≠ p := fun u hu => by
    rcases List.mem_cons.mp hu with z | hu
    · rw [z]; exact Ne.symm px
    · rcases List.mem_cons.mp hu with z | hu
      · rw [z]; exact Ne.symm pd
      · rw [List.mem_singleton.mp hu]; exact qp
  have r2 := hfr.ext x1
  refine ⟨[x, dx, q] ++ A0, .cons (.st ⟨C, .ref p, [], kc.ns, g1, g2, g3, .tup (SqT.of upd_same) .nil, .nil⟩) r2.sls, List.nodup_append.mpr ⟨?_, r2.nd, fun u hu y hy z => ?_⟩, fun u hu => ?_, r2.bh, r2.fr, r2.new⟩
  · refine List.nodup_cons.mpr ⟨fun z => ?_, List.nodup_cons.mpr ⟨fun z => qd (List.mem_singleton.mp z).symm, by simp⟩⟩
    rcases List.mem_cons.mp z with z | z
    · exact ne z.symm
    · exact qx (List.mem_singleton.mp z).symm
  · exact hfr.sls.held y hy (by rw [← z]; exact nA u hu)
  · rcases List.mem_append.mp hu with z | z
    · refine ⟨?_, hfr.fr.free (nA u z)⟩
      rw [upd_ne (nB u z)]
      exact r.bh.free (nA u z)
    · exact r2.out u z
end VL
end
section
set_option Elab.async false
set_option linter.all false
set_option maxRecDepth 100000
set_option maxHeartbeats 2000000
namespace VL
open PySem PySem.Spec PyProof.Rows L2 HT
/-! ### what the top has left, as facts of the written part alone -/
def FnF (K : PySem.W.Frag) (x : Str) (st : Stmt) : Prop := ∃ (f : Addr) (oc kV doc pm cdv ct : Value) (od an : Option Addr) (osl : Array (Option Value)), PySem.W.nsIn K mainGlobals x = some (some (.ref f)) ∧
  K.lookup f = some ⟨oc, od, .func (PySem.W.fnOf x x (defArgs st) (defBody st) (defScope st) .none kV doc pm an cdv ct), osl⟩ ∧ PySem.W.codeIn K cdv x = true ∧ PySem.W.keepIn K (.ref f) = true
def BindP (m qual : Str) (st : Stmt) (ps : List Str) : Prop := ∀ (kV doc pm : Value) (an : Option Addr) (cdv ct : Value) (us : List Value), us.length = ps.length → bindArgs (PySem.W.fnOf m qual (defArgs st) (defBody st) (defScope st) .none kV doc pm an cdv ct) ⟨us, []⟩ = pure (ps.zip us)
theorem FnF.at {K : PySem.W.Frag} {x : Str} {st : Stmt} {ps : List Str} {h : Heap} {mg : Str → Option Value} (F : FnF K x st) (X : K.In h) (G : h.Ns mainGlobals mg) (b : BindP x x st ps) : DefAt K mg x st ps := by
  obtain ⟨f, oc, kV, doc, pm, cdv, ct, od, an, osl, a, l, c, k⟩ := F
  exact ⟨f, _, fun_mk l c k, Binds.all fun us hl => b kV doc pm an cdv ct us hl, PySem.W.mg_of X G a⟩
def MthF (K : PySem.W.Frag) (cl m qual : Str) (st : Stmt) : Prop := ∃ (C f : Addr) (oc kV doc pm cdv ct : Value) (od an : Option Addr) (osl : Array (Option Value)), PySem.W.nsIn K mainGlobals cl = some (some (.ref C)) ∧ PySem.W.findIn K (.ref C) m = some (some (.ref f)) ∧ PySem.W.isFn K (.ref f) = true ∧
  K.lookup f = some ⟨oc, od, .func (PySem.W.fnOf m qual (defArgs st) (defBody st) (defScope st) .none kV doc pm an cdv ct), osl⟩ ∧ PySem.W.codeIn K cdv qual = true ∧ PySem.W.keepIn K (.ref f) = true
theorem MthF.at {K : PySem.W.Frag} {cl m qual : Str} {st : Stmt} {ps : List Str} {h : Heap} {mg : Str → Option Value} (F : MthF K cl m qual st) (X : K.In h) (G : h.Ns mainGlobals mg) (b : BindP m qual st ps) : ∀ C, mg cl = some (.ref C) → MethAt K C m qual st ps := by
  intro C hC
  obtain ⟨C', f, oc, kV, doc, pm, cdv, ct, od, an, osl, n, a, i, l, c, k⟩ := F
  rw [PySem.W.mg_of X G n] at hC
  cases Option.some.inj hC
  exact ⟨f, _, fun_mk l c k, Binds.all fun us hl => b kV doc pm an cdv ct us hl, a, i, k⟩
def ClsF (K : PySem.W.Frag) (c : Str) : Prop := ∃ C : Addr, PySem.W.nsIn K mainGlobals c = some (some (.ref C)) ∧ PySem.W.plainGet K C Str.empty = true ∧ PySem.W.hasDictIn K C = true ∧ PySem.W.plainOver K C = true ∧ PySem.W.findIn K (.ref C) "__setattr__" = some (some (.builtin "object.__setattr__")) ∧
  PySem.W.makesIn K C = true ∧ PySem.W.findIn K (.ref C) "__init__" = some (some (.builtin "object.__init__")) ∧ PySem.W.keepIn K (.ref C) = true ∧ PySem.W.mroIn K C (.type "object") = some true
theorem ClsF.ex {K : PySem.W.Frag} {c : Str} {h : Heap} {mg : Str → Option Value} (F : ClsF K c) (X : K.In h) (G : h.Ns mainGlobals mg) : ∃ C, mg c = some (.ref C) := by
  obtain ⟨C, n, _⟩ := F
  exact ⟨C, PySem.W.mg_of X G n⟩
theorem ClsF.at {K : PySem.W.Frag} {c : Str} {h : Heap} {mg : Str → Option Value} (F : ClsF K c) (X : K.In h) (G : h.Ns mainGlobals mg) : ∀ C, mg c = some (.ref C) → ClsOk K C c := by
  intro C hC
  obtain ⟨C', n, a1, a2, a3, a4, a5, a6, a7, a8⟩ := F
  rw [PySem.W.mg_of X G n] at hC
  cases Option.some.inj hC
  exact ⟨n, ⟨a5, a6, a7, a8⟩, ⟨a1, a2, a3, a4⟩⟩
def StrF (K : PySem.W.Frag) : Prop := ∃ C : Addr, PySem.W.nsIn K mainGlobals "Street" = some (some (.ref C)) ∧ PySem.W.plainGet K C Str.empty = true ∧ PySem.W.hasDictIn K C = true ∧ PySem.W.plainOver K C = true ∧ PySem.W.findIn K (.ref C) "__setattr__" = some (some (.builtin "object.__setattr__")) ∧
  PySem.W.makesIn K C = true ∧ PySem.W.keepIn K (.ref C) = true ∧ PySem.W.findIn K (.ref C) "row" = some none ∧ PySem.W.findIn K (.ref C) "earlier_rows" = some none
theorem StrF.ex {K : PySem.W.Frag} {h : Heap} {mg : Str → Option Value} (F : StrF K) (X : K.In h) (G : h.Ns mainGlobals mg) : ∃ C, mg "Street" = some (.ref C) := by
  obtain ⟨C, n, _⟩ := F
  exact ⟨C, PySem.W.mg_of X G n⟩
theorem StrF.at {K : PySem.W.Frag} {h : Heap} {mg : Str → Option Value} (F : StrF K) (X : K.In h) (G : h.Ns mainGlobals mg) : ∀ C, mg "Street" = some (.ref C) → StreetOk K C := by
  intro C hC
  obtain ⟨C', n, a1, a2, a3, a4, _, _, a5, a6⟩ := F
  rw [PySem.W.mg_of X G n] at hC
  cases Option.some.inj hC
  exact ⟨n, ⟨a1, a2, a3, a4⟩, a5, a6⟩
theorem StrF.mk {K : PySem.W.Frag} {qual : Str} {st : Stmt} {h : Heap} {mg : Str → Option Value} (S : StrF K) (F : MthF K "Street" "__init__" qual st) (X : K.In h) (G : h.Ns mainGlobals mg) (b : BindP "__init__" qual st ["self"]) :
    ∀ C, mg "Street" = some (.ref C) → ∃ (f : Addr) (fd : FuncData), Fun K "__init__" qual st f fd ∧ Binds K fd ["self"] [] ∧ Mk K C f := by
  intro C hC
  obtain ⟨C1, n1, _, _, _, _, m1, k1, _, _⟩ := S
  have hC1 := hC
  rw [PySem.W.mg_of X G n1] at hC1
  cases Option.some.inj hC1
  obtain ⟨f, fd, q1, q2, q3⟩ := F.at X G b C hC
  exact ⟨f, fd, q1, q2, ⟨m1, q3.at_, q3.fn, k1⟩⟩
def CstF (K : PySem.W.Frag) (x : Str) (n : Int) : Prop := ∃ t, PySem.W.nsIn K mainGlobals x = some (some (.int n t))
theorem CstF.at {K : PySem.W.Frag} {x : Str} {n : Int} {h : Heap} {mg : Str → Option Value} (F : CstF K x n) (X : K.In h) (G : h.Ns mainGlobals mg) : ∃ t, mg x = some (.int n t) := by
  obtain ⟨t, e⟩ := F
  exact ⟨t, PySem.W.mg_of X G e⟩
theorem spS_law {K : PySem.W.Frag} {F : List PyData → Option Sl} {H : Hp} {a : Addr} {ns : List Int} (hF : F [.list (ns.map PyData.int)] = some (.sh (.bool true))) (hS : SqL K H a (ns.map V.int)) (E : XK) : spS K F [.ref a] H (fun v _ => v = .bl true) E := by
  have hd : ∀ ms : List Int, DpAll K H (ms.map V.int) (ms.map PyData.int) := fun ms => by
    induction ms with
    | nil => exact .nil
    | cons m ms ih => exact .cons (.int m) ih
  exact ⟨H, _, _, Same.refl H, .cons (.lst hS (hd ns)) .nil, hF, fun v H' B' _ r => dp_bl r.head⟩
end VL
end
section
set_option Elab.async false
set_option linter.all false
set_option maxRecDepth 100000
set_option maxHeartbeats 4000000
namespace VG
open PySem PySem.Spec PyProof.Rows L2 HT VL
def topS (i : Nat) : Stmt := PySem.Challenge.pw_roofsights_k13_whole_small_streets_by_wo.main.body.getD i (.Pass ⟨0, 0, 0, 0⟩)
def clsB : Stmt → List Stmt
  | .ClassDef _ _ _ b _ _ _ _ _ _ _ => b
  | _ => []
def clsS (i j : Nat) : Stmt := (clsB (topS i)).getD j (.Pass ⟨0, 0, 0, 0⟩)
structure Top (K : PySem.W.Frag) (mg : Str → Option Value) : Prop where
  n_all : mg "all" = none
  n_any : mg "any" = none
  n_bool : mg "bool" = none
  n_enumerate : mg "enumerate" = none
  n_int : mg "int" = none
  n_isinstance : mg "isinstance" = none
  n_len : mg "len" = none
  n_list : mg "list" = none
  n_max : mg "max" = none
  n_min : mg "min" = none
  n_range : mg "range" = none
  n_set : mg "set" = none
  n_sorted : mg "sorted" = none
  n_str : mg "str" = none
  n_sum : mg "sum" = none
  n_tuple : mg "tuple" = none
  n_zip : mg "zip" = none
  c_MOST_HOUSES : ∃ t, mg "MOST_HOUSES" = some (.int 12 t)
  c_MOST_HEIGHT : ∃ t, mg "MOST_HEIGHT" = some (.int 1000000000 t)
  c_MOST_NUMBER : ∃ t, mg "MOST_NUMBER" = some (.int 60 t)
  c_MOST_COUNTS : ∃ t, mg "MOST_COUNTS" = some (.int 8 t)
  c_MOST_COUNT : ∃ t, mg "MOST_COUNT" = some (.int 7 t)
  m_Street___init__ : ∀ C, mg "Street" = some (.ref C) → ∃ (f : Addr) (fd : FuncData), Fun K "__init__" "Street.__init__" (clsS 80 0) f fd ∧ Binds K fd ["self"] [] ∧ Mk K C f
  d_law_deck : DefAt K mg "_law_deck" (topS 84) ["cell", "turn"]
  m_Street_change_to : ∀ C, mg "Street" = some (.ref C) → MethAt K C "change_to" "Street.change_to" (clsS 80 4) ["self", "row"]
  d_is_whole : DefAt K mg "is_whole" (topS 16) ["thing"]
  d_is_whole_within : DefAt K mg "is_whole_within" (topS 17) ["thing", "least", "most"]
  d_is_height : DefAt K mg "is_height" (topS 19) ["thing"]
  m_Street_build : ∀ C, mg "Street" = some (.ref C) → MethAt K C "build" "Street.build" (clsS 80 1) ["self", "place", "height"]
  d_higher_than_all_ahead : DefAt K mg "higher_than_all_ahead" (topS 81) ["row"]
  d_higher_than_all_behind : DefAt K mg "higher_than_all_behind" (topS 82) ["row"]
  m_Street_from_ends : ∀ C, mg "Street" = some (.ref C) → MethAt K C "from_ends" "Street.from_ends" (clsS 80 7) ["self"]
  d_law_pick : DefAt K mg "_law_pick" (topS 85) ["deck", "size"]
  d_all_pairs : DefAt K mg "all_pairs" (topS 32) ["many"]
  d_see_one_another : DefAt K mg "see_one_another" (topS 33) ["heights", "one", "other"]
  d_sights_in_row : DefAt K mg "sights_in_row" (topS 31) ["row"]
  d_are_heights : DefAt K mg "are_heights" (topS 29) ["thing"]
  d_sights : DefAt K mg "sights" (topS 30) ["heights"]
  d_is_many : DefAt K mg "is_many" (topS 18) ["thing"]
  d_check_many : DefAt K mg "check_many" (topS 23) ["many"]
  d_is_place : DefAt K mg "is_place" (topS 20) ["many", "thing"]
  d_is_pair : DefAt K mg "is_pair" (topS 21) ["many", "thing"]
  d_is_lot : DefAt K mg "is_lot" (topS 22) ["many", "thing"]
  d_check_lot : DefAt K mg "check_lot" (topS 24) ["many", "lot", "name"]
  d_check_many_and_lot : DefAt K mg "check_many_and_lot" (topS 25) ["many", "lot"]
  d_both_see_one_between : DefAt K mg "both_see_one_between" (topS 40) ["lot", "one", "other"]
  d_bars_alone : DefAt K mg "bars_alone" (topS 39) ["lot"]
  d_bars_apart : DefAt K mg "bars_apart" (topS 37) ["many", "lot"]
  d_bars_cross : DefAt K mg "bars_cross" (topS 38) ["lot"]
  d_all_bars : DefAt K mg "all_bars" (topS 36) ["many", "lot"]
  d_what_bars : DefAt K mg "what_bars" (topS 35) ["many", "lot"]
  d_can_be : DefAt K mg "can_be" (topS 34) ["many", "lot"]
  d_last_free : DefAt K mg "last_free" (topS 55) ["tree", "order"]
  d_first_order_of : DefAt K mg "first_order_of" (topS 54) ["tree"]
  d_highest_between : DefAt K mg "highest_between" (topS 51) ["many", "lot", "left", "right"]
  d_tree_under : DefAt K mg "tree_under" (topS 50) ["many", "lot", "top"]
  d_is_seen_over : DefAt K mg "is_seen_over" (topS 49) ["lot", "house"]
  d_tops : DefAt K mg "tops" (topS 48) ["many", "lot"]
  d_first_order : DefAt K mg "first_order" (topS 43) ["many", "lot"]
  d_check_can_be : DefAt K mg "check_can_be" (topS 47) ["many", "lot"]
  d_seen_from_left : DefAt K mg "seen_from_left" (topS 56) ["tree"]
  d_seen_from_right : DefAt K mg "seen_from_right" (topS 57) ["tree"]
  d_count_under : DefAt K mg "count_under" (topS 53) ["tree", "house"]
  d_count_orders : DefAt K mg "count_orders" (topS 52) ["tree"]
  d_from_ends : DefAt K mg "from_ends" (topS 46) ["many", "lot"]
  d_check_many_seen_and_unseen : DefAt K mg "check_many_seen_and_unseen" (topS 26) ["many", "seen", "unseen"]
  d_gaps_within : DefAt K mg "gaps_within" (topS 60) ["left", "right"]
  m_FirstLot_bare : ∀ C, mg "FirstLot" = some (.ref C) → MethAt K C "bare" "FirstLot.bare" (clsS 68 0) ["self"]
  m_FirstLot_joined : ∀ C, mg "FirstLot" = some (.ref C) → MethAt K C "joined" "FirstLot.joined" (clsS 68 1) ["self", "own", "before", "behind"]
  d_sights_to_sides : DefAt K mg "sights_to_sides" (topS 62) ["many", "gap", "house"]
  d_houses_that_fit : DefAt K mg "houses_that_fit" (topS 63) ["seen", "unseen", "gap"]
  d_parts_of_gap : DefAt K mg "parts_of_gap" (topS 61) ["many", "seen", "unseen", "gap", "maker", "made"]
  m_FirstLot_chosen : ∀ C, mg "FirstLot" = some (.ref C) → MethAt K C "chosen" "FirstLot.chosen" (clsS 68 2) ["self", "parts"]
  d_made_of_trees : DefAt K mg "made_of_trees" (topS 59) ["many", "seen", "unseen", "left", "maker"]
  d_first_with : DefAt K mg "first_with" (topS 66) ["many", "seen", "unseen"]
  d_highest : DefAt K mg "highest" (topS 44) ["many", "lot"]
  d_how_many : DefAt K mg "how_many" (topS 42) ["many", "lot"]
  d_check_two_houses : DefAt K mg "check_two_houses" (topS 27) ["many", "one", "other"]
  d_higher : DefAt K mg "higher" (topS 45) ["many", "lot", "one", "other"]
  d_law_fan_right : DefAt K mg "_law_fan_right" (topS 87) ["many", "path"]
  d_are_counts : DefAt K mg "are_counts" (topS 75) ["thing"]
  m_LotList_bare : ∀ C, mg "LotList" = some (.ref C) → MethAt K C "bare" "LotList.bare" (clsS 78 0) ["self"]
  m_LotList_joined : ∀ C, mg "LotList" = some (.ref C) → MethAt K C "joined" "LotList.joined" (clsS 78 1) ["self", "own", "before", "behind"]
  m_LotList_chosen : ∀ C, mg "LotList" = some (.ref C) → MethAt K C "chosen" "LotList.chosen" (clsS 78 2) ["self", "parts"]
  d_all_lots : DefAt K mg "all_lots" (topS 76) ["many"]
  d_counts_of : DefAt K mg "counts_of" (topS 77) ["many", "lot"]
  d_by_counts : DefAt K mg "by_counts" (topS 74) ["counts"]
  m_Street_heights : ∀ C, mg "Street" = some (.ref C) → MethAt K C "heights" "Street.heights" (clsS 80 5) ["self"]
  m_Street_sights : ∀ C, mg "Street" = some (.ref C) → MethAt K C "sights" "Street.sights" (clsS 80 6) ["self"]
  d_law_doubled : DefAt K mg "_law_doubled" (topS 86) ["many"]
  m_TreeCount_bare : ∀ C, mg "TreeCount" = some (.ref C) → MethAt K C "bare" "TreeCount.bare" (clsS 67 0) ["self"]
  m_TreeCount_joined : ∀ C, mg "TreeCount" = some (.ref C) → MethAt K C "joined" "TreeCount.joined" (clsS 67 1) ["self", "own", "before", "behind"]
  m_TreeCount_chosen : ∀ C, mg "TreeCount" = some (.ref C) → MethAt K C "chosen" "TreeCount.chosen" (clsS 67 2) ["self", "parts"]
  d_lots_with : DefAt K mg "lots_with" (topS 65) ["many", "seen", "unseen"]
  d_lots_of : DefAt K mg "lots_of" (topS 73) ["number"]
  d_law : DefAt K mg "law" (topS 88) ["script"]
  e_Street : ∃ C, mg "Street" = some (.ref C)
  k_Street : ∀ C, mg "Street" = some (.ref C) → StreetOk K C
  e_TreeCount : ∃ C, mg "TreeCount" = some (.ref C)
  k_TreeCount : ∀ C, mg "TreeCount" = some (.ref C) → ClsOk K C "TreeCount"
  e_FirstLot : ∃ C, mg "FirstLot" = some (.ref C)
  k_FirstLot : ∀ C, mg "FirstLot" = some (.ref C) → ClsOk K C "FirstLot"
  e_LotList : ∃ C, mg "LotList" = some (.ref C)
  k_LotList : ∀ C, mg "LotList" = some (.ref C) → ClsOk K C "LotList"
section
variable {P : Program} {w : World} {K : PySem.W.Frag} {mg : Str → Option Value} {base : Heap}
abbrev s_Street___init__ : Stmt := (clsS 80 0)
theorem sc_Street___init__ : FnScope ["self"] ["self"] (defScope s_Street___init__) := ⟨rfl, rfl, rfl, by decide +kernel, rfl, by decide +kernel, by decide +kernel⟩
theorem ok_Street___init__ (T : Top K mg) {C : Addr} (hC : mg "Street" = some (.ref C)) : ∃ (f : Addr) (fd : FuncData), Fun K "__init__" "Street.__init__" s_Street___init__ f fd ∧ Binds K fd ["self"] [] ∧ Mk K C f ∧ FnOk P w K mg base CX0 1 f fd ["self"] (spI C) := by
  obtain ⟨f, fd, F, b, g⟩ := T.m_Street___init__ C hC
  exact ⟨f, fd, F, b, g, okI (T.k_Street C hC) F sc_Street___init__ (fun cdv A outer s H E hr => (pss_cons (ps_fld (pv 0) (pe_tup pa_nil) rfl) (pss_one (ps_fld (pv 0) (pe_lst pa_nil) rfl))))⟩

abbrev s_law_deck : Stmt := topS 84
abbrev N_law_deck : List Str := ["cell", "turn"]
theorem sc_law_deck : FnScope N_law_deck ["cell", "turn"] (defScope s_law_deck) := ⟨rfl, rfl, rfl, by decide +kernel, rfl, by decide +kernel, by decide +kernel⟩
def bd_law_deck : Ev → Option Out := (sSeq (sIf (bB (eOp pGe (eVar 0) (eOp pPow (eC (.int 10)) (eC (.int 18))))) (sRetX (xLst (aCons (eOp pSub (eVar 0) (eOp pPow (eC (.int 10)) (eC (.int 18)))) (aCons (eOp pMod (eVar 0) (eC (.int 2147483579))) (aCons (eVar 1) aNil))))) sNil) (sRetX (xLst (aCons (eC (.int 0)) (aCons (eOp pMod (eVar 0) (eC (.int 2147483579))) (aCons (eVar 1) aNil))))))
def fn_law_deck : List PyData → Option Sl := fnS 2 0 bd_law_deck
theorem ok_law_deck (T : Top K mg) : OkAt P w K mg base 1 "_law_deck" s_law_deck ["cell", "turn"] (spS K fn_law_deck) := by
  obtain ⟨f, fd, F, b, g⟩ := T.d_law_deck
  have hs : SS K _ bd_law_deck := (ss_seq (ss_if (st_t (se_op sr_ge se_var (se_op sr_pow se_int se_int))) (ss_retX (sx_lst (sa_cons (se_op sr_sub se_var (se_op sr_pow se_int se_int)) (sa_cons (se_op sr_mod se_var se_int) (sa_cons se_var sa_nil))))) ss_nil) (ss_retX (sx_lst (sa_cons se_int (sa_cons (se_op sr_mod se_var se_int) (sa_cons se_var sa_nil))))))
  exact ⟨f, fd, F, b, g, okS hs F sc_law_deck rfl rfl (fun cdv A outer s H E hr => (pss_cons (ps_if (pt_cmpR op_ge (pv 0) (pe_op op_pow pe_int pe_int) (nomark _)) (pss_one (ps_ret (pe_lst (pa_cons (pe_op op_sub (pv 0) (pe_op op_pow pe_int pe_int)) (pa_cons (pe_op op_mod (pv 0) pe_int) (pa_cons (pv 1) pa_nil)))))) pss_nil) (pss_one (ps_ret (pe_lst (pa_cons pe_int (pa_cons (pe_op op_mod (pv 0) pe_int) (pa_cons (pv 1) pa_nil))))))))⟩

abbrev s_Street_change_to : Stmt := (clsS 80 4)
abbrev N_Street_change_to : List Str := ["self", "row"]
theorem sc_Street_change_to : FnScope N_Street_change_to ["self", "row"] (defScope s_Street_change_to) := ⟨rfl, rfl, rfl, by decide +kernel, rfl, by decide +kernel, by decide +kernel⟩
def bd_Street_change_to : Ev → Option Out := (sSeq (sEarl 0) (sRow 0 (eVar 1)))
def fn_Street_change_to : FT := fnT 1 0 bd_Street_change_to
theorem ok_Street_change_to (T : Top K mg) {C : Addr} (hC : mg "Street" = some (.ref C)) : OkM P w K mg base 1 C "change_to" "Street.change_to" s_Street_change_to ["self", "row"] (spT K fn_Street_change_to) := by
  obtain ⟨f, fd, F, b, g⟩ := T.m_Street_change_to C hC
  have h_Street := hC
  have k_Street := T.k_Street C hC
  have hs : SS K _ bd_Street_change_to := (ss_seq (ss_earl k_Street) (ss_row k_Street se_var))
  exact ⟨f, fd, F, b, g, okT hs F sc_Street_change_to rfl rfl (fun cdv A outer s H E hr => (pss_cons (ps_expr (pe_bm PySem.F.plainAttrs_list PySem.F.slot_list_append PySem.F.type_list_append mt_append (pe_fld (pv 0) rfl) (pa_cons (pe_fld (pv 0) rfl) pa_nil))) (pss_one (ps_fld (pv 0) (pv 1) rfl))))⟩

abbrev s_is_whole : Stmt := topS 16
abbrev N_is_whole : List Str := ["thing"]
theorem sc_is_whole : FnScope N_is_whole ["thing"] (defScope s_is_whole) := ⟨rfl, rfl, rfl, by decide +kernel, rfl, by decide +kernel, by decide +kernel⟩
def bd_is_whole : Ev → Option Out := (sRetX (xE (eAndT (eUn (pIsi .int) (eVar 0)) (eNot (eUn (pIsi .bool) (eVar 0))))))
def fn_is_whole : List PyData → Option Sl := fnS 1 0 bd_is_whole
theorem ok_is_whole (T : Top K mg) : OkAt P w K mg base 1 "is_whole" s_is_whole ["thing"] (spS K fn_is_whole) := by
  obtain ⟨f, fd, F, b, g⟩ := T.d_is_whole
  have hs : SS K _ bd_is_whole := (ss_retX (sx_e (se_andT (se_isi .int se_var) (se_not (se_isi .bool se_var)))))
  exact ⟨f, fd, F, b, g, okS hs F sc_is_whole rfl rfl (fun cdv A outer s H E hr => (pss_one (ps_ret (pe_andT (pe_callB call_isi (by rfl) T.n_isinstance boot_isinstance (pa_cons (pv 0) (pa_cons (pe_bltn (v := .ty "int") (by rfl) T.n_int boot_int rfl) pa_nil))) (pe_one (pe_not (pe_callB call_isi (by rfl) T.n_isinstance boot_isinstance (pa_cons (pv 0) (pa_cons (pe_bltn (v := .ty "bool") (by rfl) T.n_bool boot_bool rfl) pa_nil)))))))))⟩

abbrev s_is_whole_within : Stmt := topS 17
abbrev N_is_whole_within : List Str := ["thing", "least", "most"]
theorem sc_is_whole_within : FnScope N_is_whole_within ["thing", "least", "most"] (defScope s_is_whole_within) := ⟨rfl, rfl, rfl, by decide +kernel, rfl, by decide +kernel, by decide +kernel⟩
def bd_is_whole_within : Ev → Option Out := (sRetX (xE (eAndT (eX (xFn fn_is_whole (aCons (eVar 0) aNil))) (eChain pLe pLe (eVar 1) (eVar 0) (eVar 2)))))
def fn_is_whole_within : List PyData → Option Sl := fnS 3 0 bd_is_whole_within
theorem ok_is_whole_within (T : Top K mg) : OkAt P w K mg base 2 "is_whole_within" s_is_whole_within ["thing", "least", "most"] (spS K fn_is_whole_within) := by
  obtain ⟨f, fd, F, b, g⟩ := T.d_is_whole_within
  obtain ⟨f_is_whole, fd_is_whole, F_is_whole, b_is_whole, g_is_whole, G_is_whole⟩ := ok_is_whole (P := P) (w := w) (base := base) T
  have hs : SS K _ bd_is_whole_within := (ss_retX (sx_e (se_andT (se_x (sx_fn (sa_cons se_var sa_nil))) (se_chain sr_le sr_le se_var se_var se_var))))
  exact ⟨f, fd, F, b, g, okS hs F sc_is_whole_within rfl rfl (fun cdv A outer s H E hr => (pss_one (ps_ret (pe_andT (pe_call G_is_whole (hr.mono (by decide)) (by rfl) g_is_whole F_is_whole.kp b_is_whole .nil pass0 (pa_cons (pv 0) pa_nil)) (pe_one (pe_chain op_le op_le (pv 1) (pv 0) (pv 2)))))))⟩

abbrev s_is_height : Stmt := topS 19
abbrev N_is_height : List Str := ["thing"]
theorem sc_is_height : FnScope N_is_height ["thing"] (defScope s_is_height) := ⟨rfl, rfl, rfl, by decide +kernel, rfl, by decide +kernel, by decide +kernel⟩
def bd_is_height : Ev → Option Out := (sRetX (xFn fn_is_whole_within (aCons (eVar 0) (aCons (eC (.int 0)) (aCons (eC (.int 1000000000)) aNil)))))
def fn_is_height : List PyData → Option Sl := fnS 1 0 bd_is_height
theorem ok_is_height (T : Top K mg) : OkAt P w K mg base 3 "is_height" s_is_height ["thing"] (spS K fn_is_height) := by
  obtain ⟨f, fd, F, b, g⟩ := T.d_is_height
  obtain ⟨f_is_whole_within, fd_is_whole_within, F_is_whole_within, b_is_whole_within, g_is_whole_within, G_is_whole_within⟩ := ok_is_whole_within (P := P) (w := w) (base := base) T
  have hs : SS K _ bd_is_height := (ss_retX (sx_fn (sa_cons se_var (sa_cons se_int (sa_cons se_int sa_nil)))))
  exact ⟨f, fd, F, b, g, okS hs F sc_is_height rfl rfl (fun cdv A outer s H E hr => (pss_one (ps_ret (pe_call G_is_whole_within (hr.mono (by decide)) (by rfl) g_is_whole_within F_is_whole_within.kp b_is_whole_within .nil pass0 (pa_cons (pv 0) (pa_cons pe_int (pa_cons (pe_glob (v := .int 1000000000) (by rfl) T.c_MOST_HEIGHT.choose_spec ⟨_, rfl⟩) pa_nil)))))))⟩

abbrev s_Street_build : Stmt := (clsS 80 1)
abbrev N_Street_build : List Str := ["self", "place", "height"]
theorem sc_Street_build : FnScope N_Street_build ["self", "place", "height"] (defScope s_Street_build) := ⟨rfl, rfl, rfl, by decide +kernel, rfl, by decide +kernel, by decide +kernel⟩
def bd_Street_build : Ev → Option Out := (sSeq (sIf (bNot (bTru (eX (xFn fn_is_whole_within (aCons (eVar 1) (aCons (eC (.int 0)) (aCons (eCall pLen (aCons (eRow 0) aNil)) aNil))))))) sNever sNil) (sSeq (sIf (bB (eOp pGe (eCall pLen (aCons (eRow 0) aNil)) (eC (.int 12)))) sNever sNil) (sSeq (sIf (bNot (bTru (eX (xFn fn_is_height (aCons (eVar 2) aNil))))) sNever sNil) (sSeq (sIf (bB (eOp (pIn false) (eVar 2) (eRow 0))) sNever sNil) (sExpr (eX (xMethT 0 fn_Street_change_to (aCons (eX (xOps pAdd (eX (xOps pAdd (eX (xSl (eRow 0) oNo (oSome (eVar 1)))) (eTup (aCons (eVar 2) aNil)))) (eX (xSl (eRow 0) (oSome (eVar 1)) oNo)))) aNil))))))))
def fn_Street_build : FT := fnT 2 0 bd_Street_build
theorem ok_Street_build (T : Top K mg) {C : Addr} (hC : mg "Street" = some (.ref C)) : OkM P w K mg base 4 C "build" "Street.build" s_Street_build ["self", "place", "height"] (spT K fn_Street_build) := by
  obtain ⟨f, fd, F, b, g⟩ := T.m_Street_build C hC
  have h_Street := hC
  have k_Street := T.k_Street C hC
  obtain ⟨f_is_whole_within, fd_is_whole_within, F_is_whole_within, b_is_whole_within, g_is_whole_within, G_is_whole_within⟩ := ok_is_whole_within (P := P) (w := w) (base := base) T
  obtain ⟨f_is_height, fd_is_height, F_is_height, b_is_height, g_is_height, G_is_height⟩ := ok_is_height (P := P) (w := w) (base := base) T
  obtain ⟨f_Street_change_to, fd_Street_change_to, F_Street_change_to, b_Street_change_to, m_Street_change_to, G_Street_change_to⟩ := ok_Street_change_to (P := P) (w := w) (base := base) T h_Street
  have hs : SS K _ bd_Street_build := (ss_seq (ss_if (st_not (st_tru (se_x (sx_fn (sa_cons se_var (sa_cons se_int (sa_cons (se_callB sr_len (sa_cons (se_row k_Street) sa_nil)) sa_nil))))))) ss_never ss_nil) (ss_seq (ss_if (st_t (se_op sr_ge (se_callB sr_len (sa_cons (se_row k_Street) sa_nil)) se_int)) ss_never ss_nil) (ss_seq (ss_if (st_not (st_tru (se_x (sx_fn (sa_cons se_var sa_nil))))) ss_never ss_nil) (ss_seq (ss_if (st_t (se_op sr_in se_var (se_row k_Street))) ss_never ss_nil) (ss_expr (se_x (sx_methT (m := "change_to") k_Street rfl (sa_cons (se_x (sx_ops sr_add (se_x (sx_ops sr_add (se_x (sx_slice (se_row k_Street) so_no (so_some se_var))) (se_tup (sa_cons se_var sa_nil)))) (se_x (sx_slice (se_row k_Street) (so_some se_var) so_no)))) sa_nil))))))))
  exact ⟨f, fd, F, b, g, okT hs F sc_Street_build rfl rfl (fun cdv A outer s H E hr => (pss_cons (ps_if (pt_not (pt_tru (pe_call G_is_whole_within (hr.mono (by decide)) (by rfl) g_is_whole_within F_is_whole_within.kp b_is_whole_within .nil pass0 (pa_cons (pv 1) (pa_cons pe_int (pa_cons (pe_callB c_len (by rfl) T.n_len PySem.boot_len (pa_cons (pe_fld (pv 0) rfl) pa_nil)) pa_nil)))))) (pss_one ps_never) pss_nil) (pss_cons (ps_if (pt_cmpR op_ge (pe_callB c_len (by rfl) T.n_len PySem.boot_len (pa_cons (pe_fld (pv 0) rfl) pa_nil)) (pe_glob (v := .int 12) (by rfl) T.c_MOST_HOUSES.choose_spec ⟨_, rfl⟩) (nomark _)) (pss_one ps_never) pss_nil) (pss_cons (ps_if (pt_not (pt_tru (pe_call G_is_height (hr.mono (by decide)) (by rfl) g_is_height F_is_height.kp b_is_height .nil pass0 (pa_cons (pv 2) pa_nil)))) (pss_one ps_never) pss_nil) (pss_cons (ps_if (pt_cmpR (op_inA (hu65 hr)) (pv 2) (pe_fld (pv 0) rfl) (by rfl)) (pss_one ps_never) pss_nil) (pss_one (ps_expr (pe_meth (pv 0) k_Street.cls m_Street_change_to G_Street_change_to (hr.mono (by decide)) b_Street_change_to .nil pass0 (pa_cons (pe_op op_addA (pe_op op_addA (pe_slice sl_X (pe_fld (pv 0) rfl) po_none (po_some (pv 1))) (pe_tup (pa_cons (pv 2) pa_nil))) (pe_slice sl_X (pe_fld (pv 0) rfl) (po_some (pv 1)) po_none)) pa_nil)))))))))⟩

abbrev s_higher_than_all_ahead : Stmt := topS 81
abbrev N_higher_than_all_ahead : List Str := ["row", "house", "height", "before"]
theorem sc_higher_than_all_ahead : FnScope N_higher_than_all_ahead ["row"] (defScope s_higher_than_all_ahead) := ⟨rfl, rfl, rfl, by decide +kernel, rfl, by decide +kernel, by decide +kernel⟩
def bd_higher_than_all_ahead : Ev → Option Out := (sRetX (xE (eCall pTuple (aCons (eX (xLc (iEn (eVar 0)) (gT 2 (gsCons (gN 1) (gsCons (gN 2) gsNil))) (bTru (eCall pAll (aCons (eX (xLc (iAny (eX (xSl (eVar 0) oNo (oSome (eVar 1))))) (gN 3) bYes (eOp pLt (eVar 3) (eVar 2)) [3])) aNil))) (eVar 1) [1, 2])) aNil))))
def fn_higher_than_all_ahead : List PyData → Option Sl := fnS 1 3 bd_higher_than_all_ahead
theorem ok_higher_than_all_ahead (T : Top K mg) : OkAt P w K mg base 1 "higher_than_all_ahead" s_higher_than_all_ahead ["row"] (spS K fn_higher_than_all_ahead) := by
  obtain ⟨f, fd, F, b, g⟩ := T.d_higher_than_all_ahead
  have hs : SS K _ bd_higher_than_all_ahead := (ss_retX (sx_e (se_callB sr_tuple (sa_cons (se_x (sx_lc (by decide) (si_enum se_var) (sg_tup (sgs_cons sg_name (sgs_cons sg_name sgs_nil))) (lcl_tup (lcls_cons mn_name (mns_cons mn_name mns_nil) (lcl_name (by decide)) (lcls_cons mn_name mns_nil (lcl_name (by decide)) lcls_nil))) (mn_tup (mns_cons mn_name (mns_cons mn_name mns_nil))) (st_tru (se_callB sr_all (sa_cons (se_x (sx_lc (by decide) (si_any (se_x (sx_slice se_var so_no (so_some se_var)))) sg_name (lcl_name (by decide)) mn_name st_yes (se_op sr_lt se_var se_var))) sa_nil))) se_var)) sa_nil))))
  exact ⟨f, fd, F, b, g, okS hs F sc_higher_than_all_ahead rfl rfl (fun cdv A outer s H E hr => (pss_one (ps_ret (pe_callTy c_tuple (by rfl) T.n_tuple boot_tuple (pa_cons (pe_lc (own := [("house", 1), ("height", 2)]) rfl sc_higher_than_all_ahead.nd (pi_enumA (by rfl) T.n_enumerate (pa_cons (pv 0) pa_nil)) (blkOk_by (N := N_higher_than_all_ahead) (sc := defScope s_higher_than_all_ahead) (by decide +kernel)) (fun _ _ _ _ _ => (pg_tup rfl (pgs_cons (pg_name (i := 1) sc_higher_than_all_ahead.nd rfl (by first | exact Or.inl rfl | exact Or.inr rfl)) (pgs_cons (pg_name (i := 2) sc_higher_than_all_ahead.nd rfl (by first | exact Or.inl rfl | exact Or.inr rfl)) pgs_nil)))) (fun _ _ _ _ _ => (pts_one (pt_tru (pe_callB (cr_all rfl) (by rfl) T.n_all boot_all (pa_cons (pe_lc (own := [("before", 3)]) rfl sc_higher_than_all_ahead.nd (pi_any (pe_slice sl_X (pv 0) po_none (po_some (pv 1)))) (blk_of (N := N_higher_than_all_ahead) (sc := defScope s_higher_than_all_ahead) (by decide +kernel)) (fun _ _ _ _ _ => (pg_name (i := 3) sc_higher_than_all_ahead.nd rfl (by first | exact Or.inl rfl | exact Or.inr rfl))) (fun _ _ _ _ _ => pts_nil) (fun _ _ _ _ _ => (pe_cmpR (op_ltA hr.units0) (pv 3) (pv 2) (nomark _)))) pa_nil))))) (fun _ _ _ _ _ => (pv 1))) pa_nil)))))⟩

abbrev s_higher_than_all_behind : Stmt := topS 82
abbrev N_higher_than_all_behind : List Str := ["row", "house", "height", "behind"]
theorem sc_higher_than_all_behind : FnScope N_higher_than_all_behind ["row"] (defScope s_higher_than_all_behind) := ⟨rfl, rfl, rfl, by decide +kernel, rfl, by decide +kernel, by decide +kernel⟩
def bd_higher_than_all_behind : Ev → Option Out := (sRetX (xE (eCall pTuple (aCons (eX (xLc (iEn (eVar 0)) (gT 2 (gsCons (gN 1) (gsCons (gN 2) gsNil))) (bTru (eCall pAll (aCons (eX (xLc (iAny (eX (xSl (eVar 0) (oSome (eX (xOps pAdd (eVar 1) (eC (.int 1))))) oNo))) (gN 3) bYes (eOp pLt (eVar 3) (eVar 2)) [3])) aNil))) (eVar 1) [1, 2])) aNil))))
def fn_higher_than_all_behind : List PyData → Option Sl := fnS 1 3 bd_higher_than_all_behind
theorem ok_higher_than_all_behind (T : Top K mg) : OkAt P w K mg base 1 "higher_than_all_behind" s_higher_than_all_behind ["row"] (spS K fn_higher_than_all_behind) := by
  obtain ⟨f, fd, F, b, g⟩ := T.d_higher_than_all_behind
  have hs : SS K _ bd_higher_than_all_behind := (ss_retX (sx_e (se_callB sr_tuple (sa_cons (se_x (sx_lc (by decide) (si_enum se_var) (sg_tup (sgs_cons sg_name (sgs_cons sg_name sgs_nil))) (lcl_tup (lcls_cons mn_name (mns_cons mn_name mns_nil) (lcl_name (by decide)) (lcls_cons mn_name mns_nil (lcl_name (by decide)) lcls_nil))) (mn_tup (mns_cons mn_name (mns_cons mn_name mns_nil))) (st_tru (se_callB sr_all (sa_cons (se_x (sx_lc (by decide) (si_any (se_x (sx_slice se_var (so_some (se_x (sx_ops sr_add se_var se_int))) so_no))) sg_name (lcl_name (by decide)) mn_name st_yes (se_op sr_lt se_var se_var))) sa_nil))) se_var)) sa_nil))))
  exact ⟨f, fd, F, b, g, okS hs F sc_higher_than_all_behind rfl rfl (fun cdv A outer s H E hr => (pss_one (ps_ret (pe_callTy c_tuple (by rfl) T.n_tuple boot_tuple (pa_cons (pe_lc (own := [("house", 1), ("height", 2)]) rfl sc_higher_than_all_behind.nd (pi_enumA (by rfl) T.n_enumerate (pa_cons (pv 0) pa_nil)) (blkOk_by (N := N_higher_than_all_behind) (sc := defScope s_higher_than_all_behind) (by decide +kernel)) (fun _ _ _ _ _ => (pg_tup rfl (pgs_cons (pg_name (i := 1) sc_higher_than_all_behind.nd rfl (by first | exact Or.inl rfl | exact Or.inr rfl)) (pgs_cons (pg_name (i := 2) sc_higher_than_all_behind.nd rfl (by first | exact Or.inl rfl | exact Or.inr rfl)) pgs_nil)))) (fun _ _ _ _ _ => (pts_one (pt_tru (pe_callB (cr_all rfl) (by rfl) T.n_all boot_all (pa_cons (pe_lc (own := [("behind", 3)]) rfl sc_higher_than_all_behind.nd (pi_any (pe_slice sl_X (pv 0) (po_some (pe_op op_addA (pv 1) pe_int)) po_none)) (blk_of (N := N_higher_than_all_behind) (sc := defScope s_higher_than_all_behind) (by decide +kernel)) (fun _ _ _ _ _ => (pg_name (i := 3) sc_higher_than_all_behind.nd rfl (by first | exact Or.inl rfl | exact Or.inr rfl))) (fun _ _ _ _ _ => pts_nil) (fun _ _ _ _ _ => (pe_cmpR (op_ltA hr.units0) (pv 3) (pv 2) (nomark _)))) pa_nil))))) (fun _ _ _ _ _ => (pv 1))) pa_nil)))))⟩

abbrev s_Street_from_ends : Stmt := (clsS 80 7)
abbrev N_Street_from_ends : List Str := ["self"]
theorem sc_Street_from_ends : FnScope N_Street_from_ends ["self"] (defScope s_Street_from_ends) := ⟨rfl, rfl, rfl, by decide +kernel, rfl, by decide +kernel, by decide +kernel⟩
def bd_Street_from_ends : Ev → Option Out := (sRetX (xE (eTup (aCons (eX (xFn fn_higher_than_all_ahead (aCons (eRow 0) aNil))) (aCons (eX (xFn fn_higher_than_all_behind (aCons (eRow 0) aNil))) aNil)))))
def fn_Street_from_ends : FT := fnT 0 0 bd_Street_from_ends
theorem ok_Street_from_ends (T : Top K mg) {C : Addr} (hC : mg "Street" = some (.ref C)) : OkM P w K mg base 2 C "from_ends" "Street.from_ends" s_Street_from_ends ["self"] (spT K fn_Street_from_ends) := by
  obtain ⟨f, fd, F, b, g⟩ := T.m_Street_from_ends C hC
  have h_Street := hC
  have k_Street := T.k_Street C hC
  obtain ⟨f_higher_than_all_ahead, fd_higher_than_all_ahead, F_higher_than_all_ahead, b_higher_than_all_ahead, g_higher_than_all_ahead, G_higher_than_all_ahead⟩ := ok_higher_than_all_ahead (P := P) (w := w) (base := base) T
  obtain ⟨f_higher_than_all_behind, fd_higher_than_all_behind, F_higher_than_all_behind, b_higher_than_all_behind, g_higher_than_all_behind, G_higher_than_all_behind⟩ := ok_higher_than_all_behind (P := P) (w := w) (base := base) T
  have hs : SS K _ bd_Street_from_ends := (ss_retX (sx_e (se_tup (sa_cons (se_x (sx_fn (sa_cons (se_row k_Street) sa_nil))) (sa_cons (se_x (sx_fn (sa_cons (se_row k_Street) sa_nil))) sa_nil)))))
  exact ⟨f, fd, F, b, g, okT hs F sc_Street_from_ends rfl rfl (fun cdv A outer s H E hr => (pss_one (ps_ret (pe_tup (pa_cons (pe_call G_higher_than_all_ahead (hr.mono (by decide)) (by rfl) g_higher_than_all_ahead F_higher_than_all_ahead.kp b_higher_than_all_ahead .nil pass0 (pa_cons (pe_fld (pv 0) rfl) pa_nil)) (pa_cons (pe_call G_higher_than_all_behind (hr.mono (by decide)) (by rfl) g_higher_than_all_behind F_higher_than_all_behind.kp b_higher_than_all_behind .nil pass0 (pa_cons (pe_fld (pv 0) rfl) pa_nil)) pa_nil))))))⟩

abbrev s_law_pick : Stmt := topS 85
abbrev N_law_pick : List Str := ["deck", "size", "number", "found"]
theorem sc_law_pick : FnScope N_law_pick ["deck", "size"] (defScope s_law_pick) := ⟨rfl, rfl, rfl, by decide +kernel, rfl, by decide +kernel, by decide +kernel⟩
def bd_law_pick : Ev → Option Out := (sSeq (sIf (bScal (bB (eOp pGt (eIxV 0 (eC (.int 0))) (eC (.int 1))))) (sSeq (sSet 3 (xE (eOp pMod (eIxV 0 (eC (.int 0))) (eVar 1)))) (sSeq (sSetI 0 (eOp pFdiv (eIxV 0 (eC (.int 0))) (eVar 1)) (eC (.int 0))) (sRetX (xVar 3)))) sNil) (sSeq (sSetI 0 (eX (xOps pAdd (eIxV 0 (eC (.int 2))) (eC (.int 1)))) (eC (.int 2))) (sSeq (sSet 2 (xE (eOp pMod (eOp pPow (eX (xOps pAdd (eIxV 0 (eC (.int 1))) (eOp pMul (eC (.int 15485867)) (eIxV 0 (eC (.int 2)))))) (eC (.int 5))) (eC (.int 2147483647))))) (sSeq (sSet 3 (xE (eOp pFdiv (eOp pMod (eOp pPow (eX (xOps pAdd (eVar 2) (eOp pMul (eC (.int 7919)) (eIxV 0 (eC (.int 2)))))) (eC (.int 3))) (eC (.int 2147483629))) (eC (.int 32))))) (sRetX (xE (eOp pMod (eVar 3) (eVar 1))))))))
def fn_law_pick : List PyData → List PyData → Option (Sl × List PyData) := fnB 1 2 bd_law_pick
theorem ok_law_pick (T : Top K mg) : OkAt P w K mg base 1 "_law_pick" s_law_pick ["deck", "size"] (spB K fn_law_pick) := by
  obtain ⟨f, fd, F, b, g⟩ := T.d_law_pick
  have hs : SS K _ bd_law_pick := (ss_seq (ss_if (st_scal (st_t (se_op sr_gt (se_ixv se_int) se_int))) (ss_seq (ss_set (sx_e (se_op sr_mod (se_ixv se_int) se_var))) (ss_seq (ss_setI (se_op sr_fdiv (se_ixv se_int) se_var) se_int) (ss_retX sx_var))) ss_nil) (ss_seq (ss_setI (se_x (sx_ops sr_add (se_ixv se_int) se_int)) se_int) (ss_seq (ss_set (sx_e (se_op sr_mod (se_op sr_pow (se_x (sx_ops sr_add (se_ixv se_int) (se_op sr_mul se_int (se_ixv se_int)))) se_int) se_int))) (ss_seq (ss_set (sx_e (se_op sr_fdiv (se_op sr_mod (se_op sr_pow (se_x (sx_ops sr_add se_var (se_op sr_mul se_int (se_ixv se_int)))) se_int) se_int) se_int))) (ss_retX (sx_e (se_op sr_mod se_var se_var)))))))
  exact ⟨f, fd, F, b, g, okB hs F sc_law_pick rfl rfl (fun cdv A outer s H E hr => (pss_cons (ps_if (pt_cmpR op_gt (pe_ix ix_seq (pv 0) pe_int (fun _ _ => rfl)) pe_int (nomark _)) (pss_cons (ps_set (i := 3) sc_law_pick.nd rfl (by first | exact Or.inl rfl | exact Or.inr rfl) (pe_op op_mod (pe_ix ix_seq (pv 0) pe_int (fun _ _ => rfl)) (pv 1))) (pss_cons (ps_asg (pe_op op_fdiv (pe_ix ix_seq (pv 0) pe_int (fun _ _ => rfl)) (pv 1)) (pg_sub (pv 0) pe_int set_list)) (pss_one (ps_ret (pv 3))))) pss_nil) (pss_cons (ps_asg (pe_op op_addA (pe_ix ix_seq (pv 0) pe_int (fun _ _ => rfl)) pe_int) (pg_sub (pv 0) pe_int set_list)) (pss_cons (ps_set (i := 2) sc_law_pick.nd rfl (by first | exact Or.inl rfl | exact Or.inr rfl) (pe_op op_mod (pe_op op_pow (pe_op op_addA (pe_ix ix_seq (pv 0) pe_int (fun _ _ => rfl)) (pe_op op_mul pe_int (pe_ix ix_seq (pv 0) pe_int (fun _ _ => rfl)))) pe_int) pe_int)) (pss_cons (ps_set (i := 3) sc_law_pick.nd rfl (by first | exact Or.inl rfl | exact Or.inr rfl) (pe_op op_fdiv (pe_op op_mod (pe_op op_pow (pe_op op_addA (pv 2) (pe_op op_mul pe_int (pe_ix ix_seq (pv 0) pe_int (fun _ _ => rfl)))) pe_int) pe_int) pe_int)) (pss_one (ps_ret (pe_op op_mod (pv 3) (pv 1)))))))))⟩

abbrev s_all_pairs : Stmt := topS 32
abbrev N_all_pairs : List Str := ["many", "one", "other"]
theorem sc_all_pairs : FnScope N_all_pairs ["many"] (defScope s_all_pairs) := ⟨rfl, rfl, rfl, by decide +kernel, rfl, by decide +kernel, by decide +kernel⟩
def bd_all_pairs : Ev → Option Out := (sRetX (xLc2 (iR1 (aCons (eVar 0) aNil)) (gN 1) bYes (iR2 (aCons (eX (xOps pAdd (eVar 1) (eC (.int 1)))) (aCons (eVar 0) aNil))) (gN 2) bYes (eTup (aCons (eVar 1) (aCons (eVar 2) aNil))) [1, 2] [2]))
def fn_all_pairs : List PyData → Option Sl := fnS 1 2 bd_all_pairs
theorem ok_all_pairs (T : Top K mg) : OkAt P w K mg base 1 "all_pairs" s_all_pairs ["many"] (spS K fn_all_pairs) := by
  obtain ⟨f, fd, F, b, g⟩ := T.d_all_pairs
  have hs : SS K _ bd_all_pairs := (ss_retX (sx_lc2 (by decide) (by decide) (si_rng1 (sa_cons se_var sa_nil)) sg_name (lcl_name (by decide)) mn_name st_yes (si_rng2 (sa_cons (se_x (sx_ops sr_add se_var se_int)) (sa_cons se_var sa_nil))) sg_name (lcl_name (by decide)) mn_name st_yes (se_tup (sa_cons se_var (sa_cons se_var sa_nil)))))
  exact ⟨f, fd, F, b, g, okS hs F sc_all_pairs rfl rfl (fun cdv A outer s H E hr => (pss_one (ps_ret (pe_lc2 (own := [("one", 1), ("other", 2)]) (vs1 := [2]) rfl sc_all_pairs.nd (pi_range1 (by rfl) T.n_range (pa_cons (pv 0) pa_nil)) (blkOk_by (N := N_all_pairs) (sc := defScope s_all_pairs) (by decide +kernel)) (by decide) (fun _ _ _ _ _ => (pg_name (i := 1) sc_all_pairs.nd rfl (by first | exact Or.inl rfl | exact Or.inr rfl))) (fun _ _ _ _ _ => pts_nil) (fun _ _ _ _ _ => (pi_range2 (by rfl) T.n_range (pa_cons (pe_op op_addA (pv 1) pe_int) (pa_cons (pv 0) pa_nil)))) (fun _ _ _ _ _ => (pg_name (i := 2) sc_all_pairs.nd rfl (by first | exact Or.inl rfl | exact Or.inr rfl))) (fun _ _ _ _ _ => pts_nil) (fun _ _ _ _ _ => (pe_tup (pa_cons (pv 1) (pa_cons (pv 2) pa_nil))))))))⟩

abbrev s_see_one_another : Stmt := topS 33
abbrev N_see_one_another : List Str := ["heights", "one", "other", "limit", "height"]
theorem sc_see_one_another : FnScope N_see_one_another ["heights", "one", "other"] (defScope s_see_one_another) := ⟨rfl, rfl, rfl, by decide +kernel, rfl, by decide +kernel, by decide +kernel⟩
def bd_see_one_another : Ev → Option Out := (sSeq (sSet 3 (xE (eCall pMin2 (aCons (eIxV 0 (eVar 1)) (aCons (eIxV 0 (eVar 2)) aNil))))) (sRetX (xE (eCall pAll (aCons (eX (xLc (iAny (eX (xSl (eVar 0) (oSome (eX (xOps pAdd (eVar 1) (eC (.int 1))))) (oSome (eVar 2))))) (gN 4) bYes (eOp pLt (eVar 4) (eVar 3)) [4])) aNil)))))
def fn_see_one_another : List PyData → Option Sl := fnS 3 2 bd_see_one_another
theorem ok_see_one_another (T : Top K mg) : OkAt P w K mg base 1 "see_one_another" s_see_one_another ["heights", "one", "other"] (spS K fn_see_one_another) := by
  obtain ⟨f, fd, F, b, g⟩ := T.d_see_one_another
  have hs : SS K _ bd_see_one_another := (ss_seq (ss_set (sx_e (se_callB sr_min2 (sa_cons (se_ixv se_var) (sa_cons (se_ixv se_var) sa_nil))))) (ss_retX (sx_e (se_callB sr_all (sa_cons (se_x (sx_lc (by decide) (si_any (se_x (sx_slice se_var (so_some (se_x (sx_ops sr_add se_var se_int))) (so_some se_var)))) sg_name (lcl_name (by decide)) mn_name st_yes (se_op sr_lt se_var se_var))) sa_nil)))))
  exact ⟨f, fd, F, b, g, okS hs F sc_see_one_another rfl rfl (fun cdv A outer s H E hr => (pss_cons (ps_set (i := 3) sc_see_one_another.nd rfl (by first | exact Or.inl rfl | exact Or.inr rfl) (pe_callB (c_min2 rfl) (by rfl) T.n_min boot_min (pa_cons (pe_ix ix_seq (pv 0) (pv 1) (fun _ _ => rfl)) (pa_cons (pe_ix ix_seq (pv 0) (pv 2) (fun _ _ => rfl)) pa_nil)))) (pss_one (ps_ret (pe_callB (cr_all rfl) (by rfl) T.n_all boot_all (pa_cons (pe_lc (own := [("height", 4)]) rfl sc_see_one_another.nd (pi_any (pe_slice sl_X (pv 0) (po_some (pe_op op_addA (pv 1) pe_int)) (po_some (pv 2)))) (blkOk_by (N := N_see_one_another) (sc := defScope s_see_one_another) (by decide +kernel)) (fun _ _ _ _ _ => (pg_name (i := 4) sc_see_one_another.nd rfl (by first | exact Or.inl rfl | exact Or.inr rfl))) (fun _ _ _ _ _ => pts_nil) (fun _ _ _ _ _ => (pe_cmpR (op_ltA hr.units0) (pv 4) (pv 3) (nomark _)))) pa_nil))))))⟩

abbrev s_sights_in_row : Stmt := topS 31
abbrev N_sights_in_row : List Str := ["row", "one", "other"]
theorem sc_sights_in_row : FnScope N_sights_in_row ["row"] (defScope s_sights_in_row) := ⟨rfl, rfl, rfl, by decide +kernel, rfl, by decide +kernel, by decide +kernel⟩
def bd_sights_in_row : Ev → Option Out := (sRetX (xE (eCall pTuple (aCons (eX (xLc (iAny (eX (xFn fn_all_pairs (aCons (eCall pLen (aCons (eVar 0) aNil)) aNil)))) (gT 2 (gsCons (gN 1) (gsCons (gN 2) gsNil))) (bTru (eX (xFn fn_see_one_another (aCons (eVar 0) (aCons (eVar 1) (aCons (eVar 2) aNil)))))) (eTup (aCons (eVar 1) (aCons (eVar 2) aNil))) [1, 2])) aNil))))
def fn_sights_in_row : List PyData → Option Sl := fnS 1 2 bd_sights_in_row
theorem ok_sights_in_row (T : Top K mg) : OkAt P w K mg base 2 "sights_in_row" s_sights_in_row ["row"] (spS K fn_sights_in_row) := by
  obtain ⟨f, fd, F, b, g⟩ := T.d_sights_in_row
  obtain ⟨f_all_pairs, fd_all_pairs, F_all_pairs, b_all_pairs, g_all_pairs, G_all_pairs⟩ := ok_all_pairs (P := P) (w := w) (base := base) T
  obtain ⟨f_see_one_another, fd_see_one_another, F_see_one_another, b_see_one_another, g_see_one_another, G_see_one_another⟩ := ok_see_one_another (P := P) (w := w) (base := base) T
  have hs : SS K _ bd_sights_in_row := (ss_retX (sx_e (se_callB sr_tuple (sa_cons (se_x (sx_lc (by decide) (si_any (se_x (sx_fn (sa_cons (se_callB sr_len (sa_cons se_var sa_nil)) sa_nil)))) (sg_tup (sgs_cons sg_name (sgs_cons sg_name sgs_nil))) (lcl_tup (lcls_cons mn_name (mns_cons mn_name mns_nil) (lcl_name (by decide)) (lcls_cons mn_name mns_nil (lcl_name (by decide)) lcls_nil))) (mn_tup (mns_cons mn_name (mns_cons mn_name mns_nil))) (st_tru (se_x (sx_fn (sa_cons se_var (sa_cons se_var (sa_cons se_var sa_nil)))))) (se_tup (sa_cons se_var (sa_cons se_var sa_nil))))) sa_nil))))
  exact ⟨f, fd, F, b, g, okS hs F sc_sights_in_row rfl rfl (fun cdv A outer s H E hr => (pss_one (ps_ret (pe_callTy c_tuple (by rfl) T.n_tuple boot_tuple (pa_cons (pe_lc (own := [("one", 1), ("other", 2)]) rfl sc_sights_in_row.nd (pi_any (pe_call G_all_pairs (hr.mono (by decide)) (by rfl) g_all_pairs F_all_pairs.kp b_all_pairs .nil pass0 (pa_cons (pe_callB c_len (by rfl) T.n_len PySem.boot_len (pa_cons (pv 0) pa_nil)) pa_nil))) (blkOk_by (N := N_sights_in_row) (sc := defScope s_sights_in_row) (by decide +kernel)) (fun _ _ _ _ _ => (pg_tup rfl (pgs_cons (pg_name (i := 1) sc_sights_in_row.nd rfl (by first | exact Or.inl rfl | exact Or.inr rfl)) (pgs_cons (pg_name (i := 2) sc_sights_in_row.nd rfl (by first | exact Or.inl rfl | exact Or.inr rfl)) pgs_nil)))) (fun _ _ _ _ _ => (pts_one (pt_tru (pe_call G_see_one_another (hr.mono (by decide)) (by rfl) g_see_one_another F_see_one_another.kp b_see_one_another .nil pass0 (pa_cons (pv 0) (pa_cons (pv 1) (pa_cons (pv 2) pa_nil))))))) (fun _ _ _ _ _ => (pe_tup (pa_cons (pv 1) (pa_cons (pv 2) pa_nil))))) pa_nil)))))⟩

abbrev s_are_heights : Stmt := topS 29
abbrev N_are_heights : List Str := ["thing", "part"]
theorem sc_are_heights : FnScope N_are_heights ["thing"] (defScope s_are_heights) := ⟨rfl, rfl, rfl, by decide +kernel, rfl, by decide +kernel, by decide +kernel⟩
def bd_are_heights : Ev → Option Out := (sSeq (sIf (bOr (bNot (bTru (eUn (pIsi .tuple) (eVar 0)))) (bNot (bB (eChain pLe pLe (eC (.int 1)) (eCall pLen (aCons (eVar 0) aNil)) (eC (.int 12)))))) (sRetX (xE (eC (.bool false)))) sNil) (sSeq (sIf (bNot (bTru (eCall pAll (aCons (eX (xLc (iAny (eVar 0)) (gN 1) bYes (eX (xFn fn_is_height (aCons (eVar 1) aNil))) [1])) aNil)))) (sRetX (xE (eC (.bool false)))) sNil) (sRetX (xE (eOp pEq (eUn pLenSet (eVar 0)) (eCall pLen (aCons (eVar 0) aNil)))))))
def fn_are_heights : List PyData → Option Sl := fnS 1 1 bd_are_heights
theorem ok_are_heights (T : Top K mg) : OkAt P w K mg base 4 "are_heights" s_are_heights ["thing"] (spS K fn_are_heights) := by
  obtain ⟨f, fd, F, b, g⟩ := T.d_are_heights
  obtain ⟨f_is_height, fd_is_height, F_is_height, b_is_height, g_is_height, G_is_height⟩ := ok_is_height (P := P) (w := w) (base := base) T
  have hs : SS K _ bd_are_heights := (ss_seq (ss_if (st_or (st_not (st_tru (se_isi .tuple se_var))) (st_not (st_t (se_chain sr_le sr_le se_int (se_callB sr_len (sa_cons se_var sa_nil)) se_int)))) (ss_retX (sx_e se_bl)) ss_nil) (ss_seq (ss_if (st_not (st_tru (se_callB sr_all (sa_cons (se_x (sx_lc (by decide) (si_any se_var) sg_name (lcl_name (by decide)) mn_name st_yes (se_x (sx_fn (sa_cons se_var sa_nil))))) sa_nil)))) (ss_retX (sx_e se_bl)) ss_nil) (ss_retX (sx_e (se_op sr_eq (se_lenSet se_var) (se_callB sr_len (sa_cons se_var sa_nil)))))))
  exact ⟨f, fd, F, b, g, okS hs F sc_are_heights rfl rfl (fun cdv A outer s H E hr => (pss_cons (ps_if (PW.pt (pw_or (pt_not (pt_tru (pe_callB call_isi (by rfl) T.n_isinstance boot_isinstance (pa_cons (pv 0) (pa_cons (pe_bltn (v := .ty "tuple") (by rfl) T.n_tuple boot_tuple rfl) pa_nil))))) (pw_or1 (pt_not (pt_chain op_le op_le pe_int (pe_callB c_len (by rfl) T.n_len PySem.boot_len (pa_cons (pv 0) pa_nil)) (pe_glob (v := .int 12) (by rfl) T.c_MOST_HOUSES.choose_spec ⟨_, rfl⟩)))))) (pss_one (ps_ret pe_bl)) pss_nil) (pss_cons (ps_if (pt_not (pt_tru (pe_callB (cr_all rfl) (by rfl) T.n_all boot_all (pa_cons (pe_lc (own := [("part", 1)]) rfl sc_are_heights.nd (pi_any (pv 0)) (blkOk_by (N := N_are_heights) (sc := defScope s_are_heights) (by decide +kernel)) (fun _ _ _ _ _ => (pg_name (i := 1) sc_are_heights.nd rfl (by first | exact Or.inl rfl | exact Or.inr rfl))) (fun _ _ _ _ _ => pts_nil) (fun _ _ _ _ _ => (pe_call G_is_height (hr.mono (by decide)) (by rfl) g_is_height F_is_height.kp b_is_height .nil pass0 (pa_cons (pv 1) pa_nil)))) pa_nil)))) (pss_one (ps_ret pe_bl)) pss_nil) (pss_one (ps_ret (pe_cmpR (op_eqD hr.units) (pe_lenSetT (by rfl) T.n_len (by rfl) T.n_set (pv 0)) (pe_callB c_len (by rfl) T.n_len PySem.boot_len (pa_cons (pv 0) pa_nil)) (nomark _)))))))⟩

abbrev s_sights : Stmt := topS 30
abbrev N_sights : List Str := ["heights"]
theorem sc_sights : FnScope N_sights ["heights"] (defScope s_sights) := ⟨rfl, rfl, rfl, by decide +kernel, rfl, by decide +kernel, by decide +kernel⟩
def bd_sights : Ev → Option Out := (sSeq (sIf (bNot (bTru (eX (xFn fn_are_heights (aCons (eVar 0) aNil))))) sNever sNil) (sRetX (xFn fn_sights_in_row (aCons (eVar 0) aNil))))
def fn_sights : List PyData → Option Sl := fnS 1 0 bd_sights
theorem ok_sights (T : Top K mg) : OkAt P w K mg base 5 "sights" s_sights ["heights"] (spS K fn_sights) := by
  obtain ⟨f, fd, F, b, g⟩ := T.d_sights
  obtain ⟨f_are_heights, fd_are_heights, F_are_heights, b_are_heights, g_are_heights, G_are_heights⟩ := ok_are_heights (P := P) (w := w) (base := base) T
  obtain ⟨f_sights_in_row, fd_sights_in_row, F_sights_in_row, b_sights_in_row, g_sights_in_row, G_sights_in_row⟩ := ok_sights_in_row (P := P) (w := w) (base := base) T
  have hs : SS K _ bd_sights := (ss_seq (ss_if (st_not (st_tru (se_x (sx_fn (sa_cons se_var sa_nil))))) ss_never ss_nil) (ss_retX (sx_fn (sa_cons se_var sa_nil))))
  exact ⟨f, fd, F, b, g, okS hs F sc_sights rfl rfl (fun cdv A outer s H E hr => (pss_cons (ps_if (pt_not (pt_tru (pe_call G_are_heights (hr.mono (by decide)) (by rfl) g_are_heights F_are_heights.kp b_are_heights .nil pass0 (pa_cons (pv 0) pa_nil)))) (pss_one ps_never) pss_nil) (pss_one (ps_ret (pe_call G_sights_in_row (hr.mono (by decide)) (by rfl) g_sights_in_row F_sights_in_row.kp b_sights_in_row .nil pass0 (pa_cons (pv 0) pa_nil))))))⟩

abbrev s_is_many : Stmt := topS 18
abbrev N_is_many : List Str := ["thing"]
theorem sc_is_many : FnScope N_is_many ["thing"] (defScope s_is_many) := ⟨rfl, rfl, rfl, by decide +kernel, rfl, by decide +kernel, by decide +kernel⟩
def bd_is_many : Ev → Option Out := (sRetX (xFn fn_is_whole_within (aCons (eVar 0) (aCons (eC (.int 1)) (aCons (eC (.int 12)) aNil)))))
def fn_is_many : List PyData → Option Sl := fnS 1 0 bd_is_many
theorem ok_is_many (T : Top K mg) : OkAt P w K mg base 3 "is_many" s_is_many ["thing"] (spS K fn_is_many) := by
  obtain ⟨f, fd, F, b, g⟩ := T.d_is_many
  obtain ⟨f_is_whole_within, fd_is_whole_within, F_is_whole_within, b_is_whole_within, g_is_whole_within, G_is_whole_within⟩ := ok_is_whole_within (P := P) (w := w) (base := base) T
  have hs : SS K _ bd_is_many := (ss_retX (sx_fn (sa_cons se_var (sa_cons se_int (sa_cons se_int sa_nil)))))
  exact ⟨f, fd, F, b, g, okS hs F sc_is_many rfl rfl (fun cdv A outer s H E hr => (pss_one (ps_ret (pe_call G_is_whole_within (hr.mono (by decide)) (by rfl) g_is_whole_within F_is_whole_within.kp b_is_whole_within .nil pass0 (pa_cons (pv 0) (pa_cons pe_int (pa_cons (pe_glob (v := .int 12) (by rfl) T.c_MOST_HOUSES.choose_spec ⟨_, rfl⟩) pa_nil)))))))⟩

abbrev s_check_many : Stmt := topS 23
abbrev N_check_many : List Str := ["many"]
theorem sc_check_many : FnScope N_check_many ["many"] (defScope s_check_many) := ⟨rfl, rfl, rfl, by decide +kernel, rfl, by decide +kernel, by decide +kernel⟩
def bd_check_many : Ev → Option Out := (sIf (bNot (bTru (eX (xFn fn_is_many (aCons (eVar 0) aNil))))) sNever sNil)
def fn_check_many : List PyData → Option Sl := fnS 1 0 bd_check_many
theorem ok_check_many (T : Top K mg) : OkAt P w K mg base 4 "check_many" s_check_many ["many"] (spS K fn_check_many) := by
  obtain ⟨f, fd, F, b, g⟩ := T.d_check_many
  obtain ⟨f_is_many, fd_is_many, F_is_many, b_is_many, g_is_many, G_is_many⟩ := ok_is_many (P := P) (w := w) (base := base) T
  have hs : SS K _ bd_check_many := (ss_if (st_not (st_tru (se_x (sx_fn (sa_cons se_var sa_nil))))) ss_never ss_nil)
  exact ⟨f, fd, F, b, g, okS hs F sc_check_many rfl rfl (fun cdv A outer s H E hr => (pss_one (ps_if (pt_not (pt_tru (pe_call G_is_many (hr.mono (by decide)) (by rfl) g_is_many F_is_many.kp b_is_many .nil pass0 (pa_cons (pv 0) pa_nil)))) (pss_one ps_never) pss_nil)))⟩

abbrev s_is_place : Stmt := topS 20
abbrev N_is_place : List Str := ["many", "thing"]
theorem sc_is_place : FnScope N_is_place ["many", "thing"] (defScope s_is_place) := ⟨rfl, rfl, rfl, by decide +kernel, rfl, by decide +kernel, by decide +kernel⟩
def bd_is_place : Ev → Option Out := (sRetX (xFn fn_is_whole_within (aCons (eVar 1) (aCons (eC (.int 0)) (aCons (eOp pSub (eVar 0) (eC (.int 1))) aNil)))))
def fn_is_place : List PyData → Option Sl := fnS 2 0 bd_is_place
theorem ok_is_place (T : Top K mg) : OkAt P w K mg base 3 "is_place" s_is_place ["many", "thing"] (spS K fn_is_place) := by
  obtain ⟨f, fd, F, b, g⟩ := T.d_is_place
  obtain ⟨f_is_whole_within, fd_is_whole_within, F_is_whole_within, b_is_whole_within, g_is_whole_within, G_is_whole_within⟩ := ok_is_whole_within (P := P) (w := w) (base := base) T
  have hs : SS K _ bd_is_place := (ss_retX (sx_fn (sa_cons se_var (sa_cons se_int (sa_cons (se_op sr_sub se_var se_int) sa_nil)))))
  exact ⟨f, fd, F, b, g, okS hs F sc_is_place rfl rfl (fun cdv A outer s H E hr => (pss_one (ps_ret (pe_call G_is_whole_within (hr.mono (by decide)) (by rfl) g_is_whole_within F_is_whole_within.kp b_is_whole_within .nil pass0 (pa_cons (pv 1) (pa_cons pe_int (pa_cons (pe_op op_sub (pv 0) pe_int) pa_nil)))))))⟩

abbrev s_is_pair : Stmt := topS 21
abbrev N_is_pair : List Str := ["many", "thing", "one", "other"]
theorem sc_is_pair : FnScope N_is_pair ["many", "thing"] (defScope s_is_pair) := ⟨rfl, rfl, rfl, by decide +kernel, rfl, by decide +kernel, by decide +kernel⟩
def bd_is_pair : Ev → Option Out := (sSeq (sIf (bOr (bNot (bTru (eUn (pIsi .tuple) (eVar 1)))) (bB (eOp pNe (eCall pLen (aCons (eVar 1) aNil)) (eC (.int 2))))) (sRetX (xE (eC (.bool false)))) sNil) (sSeq (sAsg (eVar 1) (gT 2 (gsCons (gN 2) (gsCons (gN 3) gsNil)))) (sRetX (xE (eAndT (eX (xFn fn_is_place (aCons (eVar 0) (aCons (eVar 2) aNil)))) (eAndT (eX (xFn fn_is_place (aCons (eVar 0) (aCons (eVar 3) aNil)))) (eOp pLt (eVar 2) (eVar 3))))))))
def fn_is_pair : List PyData → Option Sl := fnS 2 2 bd_is_pair
theorem ok_is_pair (T : Top K mg) : OkAt P w K mg base 4 "is_pair" s_is_pair ["many", "thing"] (spS K fn_is_pair) := by
  obtain ⟨f, fd, F, b, g⟩ := T.d_is_pair
  obtain ⟨f_is_place, fd_is_place, F_is_place, b_is_place, g_is_place, G_is_place⟩ := ok_is_place (P := P) (w := w) (base := base) T
  have hs : SS K _ bd_is_pair := (ss_seq (ss_if (st_or (st_not (st_tru (se_isi .tuple se_var))) (st_t (se_op sr_ne (se_callB sr_len (sa_cons se_var sa_nil)) se_int))) (ss_retX (sx_e se_bl)) ss_nil) (ss_seq (ss_asg se_var (sg_tup (sgs_cons sg_name (sgs_cons sg_name sgs_nil)))) (ss_retX (sx_e (se_andT (se_x (sx_fn (sa_cons se_var (sa_cons se_var sa_nil)))) (se_andT (se_x (sx_fn (sa_cons se_var (sa_cons se_var sa_nil)))) (se_op sr_lt se_var se_var)))))))
  exact ⟨f, fd, F, b, g, okS hs F sc_is_pair rfl rfl (fun cdv A outer s H E hr => (pss_cons (ps_if (PW.pt (pw_or (pt_not (pt_tru (pe_callB call_isi (by rfl) T.n_isinstance boot_isinstance (pa_cons (pv 1) (pa_cons (pe_bltn (v := .ty "tuple") (by rfl) T.n_tuple boot_tuple rfl) pa_nil))))) (pw_or1 (pt_cmpR (op_neD hr.units) (pe_callB c_len (by rfl) T.n_len PySem.boot_len (pa_cons (pv 1) pa_nil)) pe_int (nomark _))))) (pss_one (ps_ret pe_bl)) pss_nil) (pss_cons (ps_asg (pv 1) (pg_tup rfl (pgs_cons (pg_name (i := 2) sc_is_pair.nd rfl (by first | exact Or.inl rfl | exact Or.inr rfl)) (pgs_cons (pg_name (i := 3) sc_is_pair.nd rfl (by first | exact Or.inl rfl | exact Or.inr rfl)) pgs_nil)))) (pss_one (ps_ret (pe_andT (pe_call G_is_place (hr.mono (by decide)) (by rfl) g_is_place F_is_place.kp b_is_place .nil pass0 (pa_cons (pv 0) (pa_cons (pv 2) pa_nil))) (pe_andT (pe_call G_is_place (hr.mono (by decide)) (by rfl) g_is_place F_is_place.kp b_is_place .nil pass0 (pa_cons (pv 0) (pa_cons (pv 3) pa_nil))) (pe_one (pe_cmpR (op_ltA hr.units0) (pv 2) (pv 3) (nomark _))))))))))⟩

abbrev s_is_lot : Stmt := topS 22
abbrev N_is_lot : List Str := ["many", "thing", "part", "before", "behind"]
theorem sc_is_lot : FnScope N_is_lot ["many", "thing"] (defScope s_is_lot) := ⟨rfl, rfl, rfl, by decide +kernel, rfl, by decide +kernel, by decide +kernel⟩
def bd_is_lot : Ev → Option Out := (sSeq (sIf (bNot (bTru (eUn (pIsi .tuple) (eVar 1)))) (sRetX (xE (eC (.bool false)))) sNil) (sSeq (sIf (bNot (bTru (eCall pAll (aCons (eX (xLc (iAny (eVar 1)) (gN 2) bYes (eX (xFn fn_is_pair (aCons (eVar 0) (aCons (eVar 2) aNil)))) [2])) aNil)))) (sRetX (xE (eC (.bool false)))) sNil) (sRetX (xE (eCall pAll (aCons (eX (xLc (iZp (eVar 1) (eX (xSl (eVar 1) (oSome (eC (.int 1))) oNo))) (gT 2 (gsCons (gN 3) (gsCons (gN 4) gsNil))) bYes (eOp pLt (eVar 3) (eVar 4)) [3, 4])) aNil))))))
def fn_is_lot : List PyData → Option Sl := fnS 2 3 bd_is_lot
theorem ok_is_lot (T : Top K mg) : OkAt P w K mg base 5 "is_lot" s_is_lot ["many", "thing"] (spS K fn_is_lot) := by
  obtain ⟨f, fd, F, b, g⟩ := T.d_is_lot
  obtain ⟨f_is_pair, fd_is_pair, F_is_pair, b_is_pair, g_is_pair, G_is_pair⟩ := ok_is_pair (P := P) (w := w) (base := base) T
  have hs : SS K _ bd_is_lot := (ss_seq (ss_if (st_not (st_tru (se_isi .tuple se_var))) (ss_retX (sx_e se_bl)) ss_nil) (ss_seq (ss_if (st_not (st_tru (se_callB sr_all (sa_cons (se_x (sx_lc (by decide) (si_any se_var) sg_name (lcl_name (by decide)) mn_name st_yes (se_x (sx_fn (sa_cons se_var (sa_cons se_var sa_nil)))))) sa_nil)))) (ss_retX (sx_e se_bl)) ss_nil) (ss_retX (sx_e (se_callB sr_all (sa_cons (se_x (sx_lc (by decide) (si_zip se_var (se_x (sx_slice se_var (so_some se_int) so_no))) (sg_tup (sgs_cons sg_name (sgs_cons sg_name sgs_nil))) (lcl_tup (lcls_cons mn_name (mns_cons mn_name mns_nil) (lcl_name (by decide)) (lcls_cons mn_name mns_nil (lcl_name (by decide)) lcls_nil))) (mn_tup (mns_cons mn_name (mns_cons mn_name mns_nil))) st_yes (se_op sr_lt se_var se_var))) sa_nil))))))
  exact ⟨f, fd, F, b, g, okS hs F sc_is_lot rfl rfl (fun cdv A outer s H E hr => (pss_cons (ps_if (pt_not (pt_tru (pe_callB call_isi (by rfl) T.n_isinstance boot_isinstance (pa_cons (pv 1) (pa_cons (pe_bltn (v := .ty "tuple") (by rfl) T.n_tuple boot_tuple rfl) pa_nil))))) (pss_one (ps_ret pe_bl)) pss_nil) (pss_cons (ps_if (pt_not (pt_tru (pe_callB (cr_all rfl) (by rfl) T.n_all boot_all (pa_cons (pe_lc (own := [("part", 2)]) rfl sc_is_lot.nd (pi_any (pv 1)) (blkOk_by (N := N_is_lot) (sc := defScope s_is_lot) (by decide +kernel)) (fun _ _ _ _ _ => (pg_name (i := 2) sc_is_lot.nd rfl (by first | exact Or.inl rfl | exact Or.inr rfl))) (fun _ _ _ _ _ => pts_nil) (fun _ _ _ _ _ => (pe_call G_is_pair (hr.mono (by decide)) (by rfl) g_is_pair F_is_pair.kp b_is_pair .nil pass0 (pa_cons (pv 0) (pa_cons (pv 2) pa_nil))))) pa_nil)))) (pss_one (ps_ret pe_bl)) pss_nil) (pss_one (ps_ret (pe_callB (cr_all rfl) (by rfl) T.n_all boot_all (pa_cons (pe_lc (own := [("before", 3), ("behind", 4)]) rfl sc_is_lot.nd (RZ.pi_zipA (by rfl) T.n_zip (pa_cons (pv 1) (pa_cons (pe_slice sl_X (pv 1) (po_some pe_int) po_none) pa_nil))) (blkOk_by (N := N_is_lot) (sc := defScope s_is_lot) (by decide +kernel)) (fun _ _ _ _ _ => (pg_tup rfl (pgs_cons (pg_name (i := 3) sc_is_lot.nd rfl (by first | exact Or.inl rfl | exact Or.inr rfl)) (pgs_cons (pg_name (i := 4) sc_is_lot.nd rfl (by first | exact Or.inl rfl | exact Or.inr rfl)) pgs_nil)))) (fun _ _ _ _ _ => pts_nil) (fun _ _ _ _ _ => (pe_cmpR (op_ltA hr.units0) (pv 3) (pv 4) (nomark _)))) pa_nil)))))))⟩

abbrev s_check_lot : Stmt := topS 24
abbrev N_check_lot : List Str := ["many", "lot", "name"]
theorem sc_check_lot : FnScope N_check_lot ["many", "lot", "name"] (defScope s_check_lot) := ⟨rfl, rfl, rfl, by decide +kernel, rfl, by decide +kernel, by decide +kernel⟩
def bd_check_lot : Ev → Option Out := (sIf (bNot (bTru (eX (xFn fn_is_lot (aCons (eVar 0) (aCons (eVar 1) aNil)))))) sNever sNil)
def fn_check_lot : List PyData → Option Sl := fnS 3 0 bd_check_lot
theorem ok_check_lot (T : Top K mg) : OkAt P w K mg base 6 "check_lot" s_check_lot ["many", "lot", "name"] (spS K fn_check_lot) := by
  obtain ⟨f, fd, F, b, g⟩ := T.d_check_lot
  obtain ⟨f_is_lot, fd_is_lot, F_is_lot, b_is_lot, g_is_lot, G_is_lot⟩ := ok_is_lot (P := P) (w := w) (base := base) T
  have hs : SS K _ bd_check_lot := (ss_if (st_not (st_tru (se_x (sx_fn (sa_cons se_var (sa_cons se_var sa_nil)))))) ss_never ss_nil)
  exact ⟨f, fd, F, b, g, okS hs F sc_check_lot rfl rfl (fun cdv A outer s H E hr => (pss_one (ps_if (pt_not (pt_tru (pe_call G_is_lot (hr.mono (by decide)) (by rfl) g_is_lot F_is_lot.kp b_is_lot .nil pass0 (pa_cons (pv 0) (pa_cons (pv 1) pa_nil))))) (pss_one ps_never) pss_nil)))⟩

abbrev s_check_many_and_lot : Stmt := topS 25
abbrev N_check_many_and_lot : List Str := ["many", "lot"]
theorem sc_check_many_and_lot : FnScope N_check_many_and_lot ["many", "lot"] (defScope s_check_many_and_lot) := ⟨rfl, rfl, rfl, by decide +kernel, rfl, by decide +kernel, by decide +kernel⟩
def bd_check_many_and_lot : Ev → Option Out := (sSeq (sExpr (eX (xFn fn_check_many (aCons (eVar 0) aNil)))) (sExpr (eX (xFn fn_check_lot (aCons (eVar 0) (aCons (eVar 1) (aCons (eC (.str "lot")) aNil)))))))
def fn_check_many_and_lot : List PyData → Option Sl := fnS 2 0 bd_check_many_and_lot
theorem ok_check_many_and_lot (T : Top K mg) : OkAt P w K mg base 7 "check_many_and_lot" s_check_many_and_lot ["many", "lot"] (spS K fn_check_many_and_lot) := by
  obtain ⟨f, fd, F, b, g⟩ := T.d_check_many_and_lot
  obtain ⟨f_check_many, fd_check_many, F_check_many, b_check_many, g_check_many, G_check_many⟩ := ok_check_many (P := P) (w := w) (base := base) T
  obtain ⟨f_check_lot, fd_check_lot, F_check_lot, b_check_lot, g_check_lot, G_check_lot⟩ := ok_check_lot (P := P) (w := w) (base := base) T
  have hs : SS K _ bd_check_many_and_lot := (ss_seq (ss_expr (se_x (sx_fn (sa_cons se_var sa_nil)))) (ss_expr (se_x (sx_fn (sa_cons se_var (sa_cons se_var (sa_cons se_str sa_nil)))))))
  exact ⟨f, fd, F, b, g, okS hs F sc_check_many_and_lot rfl rfl (fun cdv A outer s H E hr => (pss_cons (ps_expr (pe_call G_check_many (hr.mono (by decide)) (by rfl) g_check_many F_check_many.kp b_check_many .nil pass0 (pa_cons (pv 0) pa_nil))) (pss_one (ps_expr (pe_call G_check_lot (hr.mono (by decide)) (by rfl) g_check_lot F_check_lot.kp b_check_lot .nil pass0 (pa_cons (pv 0) (pa_cons (pv 1) (pa_cons pe_str pa_nil))))))))⟩

abbrev s_both_see_one_between : Stmt := topS 40
abbrev N_both_see_one_between : List Str := ["lot", "one", "other", "between"]
theorem sc_both_see_one_between : FnScope N_both_see_one_between ["lot", "one", "other"] (defScope s_both_see_one_between) := ⟨rfl, rfl, rfl, by decide +kernel, rfl, by decide +kernel, by decide +kernel⟩
def bd_both_see_one_between : Ev → Option Out := (sRetX (xE (eCall pAny (aCons (eX (xLc (iR2 (aCons (eX (xOps pAdd (eVar 1) (eC (.int 1)))) (aCons (eVar 2) aNil))) (gN 3) bYes (eAndT (eOp (pIn false) (eTup (aCons (eVar 1) (aCons (eVar 3) aNil))) (eVar 0)) (eOp (pIn false) (eTup (aCons (eVar 3) (aCons (eVar 2) aNil))) (eVar 0))) [3])) aNil))))
def fn_both_see_one_between : List PyData → Option Sl := fnS 3 1 bd_both_see_one_between
theorem ok_both_see_one_between (T : Top K mg) : OkAt P w K mg base 1 "both_see_one_between" s_both_see_one_between ["lot", "one", "other"] (spS K fn_both_see_one_between) := by
  obtain ⟨f, fd, F, b, g⟩ := T.d_both_see_one_between
  have hs : SS K _ bd_both_see_one_between := (ss_retX (sx_e (se_callB sr_any (sa_cons (se_x (sx_lc (by decide) (si_rng2 (sa_cons (se_x (sx_ops sr_add se_var se_int)) (sa_cons se_var sa_nil))) sg_name (lcl_name (by decide)) mn_name st_yes (se_andT (se_op sr_in (se_tup (sa_cons se_var (sa_cons se_var sa_nil))) se_var) (se_op sr_in (se_tup (sa_cons se_var (sa_cons se_var sa_nil))) se_var)))) sa_nil))))
  exact ⟨f, fd, F, b, g, okS hs F sc_both_see_one_between rfl rfl (fun cdv A outer s H E hr => (pss_one (ps_ret (pe_callB (cr_any rfl) (by rfl) T.n_any boot_any (pa_cons (pe_lc (own := [("between", 3)]) rfl sc_both_see_one_between.nd (pi_range2 (by rfl) T.n_range (pa_cons (pe_op op_addA (pv 1) pe_int) (pa_cons (pv 2) pa_nil))) (blkOk_by (N := N_both_see_one_between) (sc := defScope s_both_see_one_between) (by decide +kernel)) (fun _ _ _ _ _ => (pg_name (i := 3) sc_both_see_one_between.nd rfl (by first | exact Or.inl rfl | exact Or.inr rfl))) (fun _ _ _ _ _ => pts_nil) (fun _ _ _ _ _ => (pe_andT (pe_cmpR (op_inA (hu65 hr)) (pe_tup (pa_cons (pv 1) (pa_cons (pv 3) pa_nil))) (pv 0) (by rfl)) (pe_one (pe_cmpR (op_inA (hu65 hr)) (pe_tup (pa_cons (pv 3) (pa_cons (pv 2) pa_nil))) (pv 0) (by rfl)))))) pa_nil)))))⟩

abbrev s_bars_alone : Stmt := topS 39
abbrev N_bars_alone : List Str := ["lot", "one", "other"]
theorem sc_bars_alone : FnScope N_bars_alone ["lot"] (defScope s_bars_alone) := ⟨rfl, rfl, rfl, by decide +kernel, rfl, by decide +kernel, by decide +kernel⟩
def bd_bars_alone : Ev → Option Out := (sRetX (xLc (iAny (eVar 0)) (gT 2 (gsCons (gN 1) (gsCons (gN 2) gsNil))) (bAnd (bB (eOp pGt (eVar 2) (eX (xOps pAdd (eVar 1) (eC (.int 1)))))) (bNot (bTru (eX (xFn fn_both_see_one_between (aCons (eVar 0) (aCons (eVar 1) (aCons (eVar 2) aNil)))))))) (eTup (aCons (eC (.str "alone")) (aCons (eVar 1) (aCons (eVar 2) aNil)))) [1, 2]))
def fn_bars_alone : List PyData → Option Sl := fnS 1 2 bd_bars_alone
theorem ok_bars_alone (T : Top K mg) : OkAt P w K mg base 2 "bars_alone" s_bars_alone ["lot"] (spS K fn_bars_alone) := by
  obtain ⟨f, fd, F, b, g⟩ := T.d_bars_alone
  obtain ⟨f_both_see_one_between, fd_both_see_one_between, F_both_see_one_between, b_both_see_one_between, g_both_see_one_between, G_both_see_one_between⟩ := ok_both_see_one_between (P := P) (w := w) (base := base) T
  have hs : SS K _ bd_bars_alone := (ss_retX (sx_lc (by decide) (si_any se_var) (sg_tup (sgs_cons sg_name (sgs_cons sg_name sgs_nil))) (lcl_tup (lcls_cons mn_name (mns_cons mn_name mns_nil) (lcl_name (by decide)) (lcls_cons mn_name mns_nil (lcl_name (by decide)) lcls_nil))) (mn_tup (mns_cons mn_name (mns_cons mn_name mns_nil))) (st_and (st_t (se_op sr_gt se_var (se_x (sx_ops sr_add se_var se_int)))) (st_not (st_tru (se_x (sx_fn (sa_cons se_var (sa_cons se_var (sa_cons se_var sa_nil)))))))) (se_tup (sa_cons se_str (sa_cons se_var (sa_cons se_var sa_nil))))))
  exact ⟨f, fd, F, b, g, okS hs F sc_bars_alone rfl rfl (fun cdv A outer s H E hr => (pss_one (ps_ret (pe_lc (own := [("one", 1), ("other", 2)]) rfl sc_bars_alone.nd (pi_any (pv 0)) (blkOk_by (N := N_bars_alone) (sc := defScope s_bars_alone) (by decide +kernel)) (fun _ _ _ _ _ => (pg_tup rfl (pgs_cons (pg_name (i := 1) sc_bars_alone.nd rfl (by first | exact Or.inl rfl | exact Or.inr rfl)) (pgs_cons (pg_name (i := 2) sc_bars_alone.nd rfl (by first | exact Or.inl rfl | exact Or.inr rfl)) pgs_nil)))) (fun _ _ _ _ _ => (pts_one (PW.pt (pw_and (pt_cmpR op_gt (pv 2) (pe_op op_addA (pv 1) pe_int) (nomark _)) (pw_and1 (pt_not (pt_tru (pe_call G_both_see_one_between (hr.mono (by decide)) (by rfl) g_both_see_one_between F_both_see_one_between.kp b_both_see_one_between .nil pass0 (pa_cons (pv 0) (pa_cons (pv 1) (pa_cons (pv 2) pa_nil))))))))))) (fun _ _ _ _ _ => (pe_tup (pa_cons pe_str (pa_cons (pv 1) (pa_cons (pv 2) pa_nil)))))))))⟩

abbrev s_bars_apart : Stmt := topS 37
abbrev N_bars_apart : List Str := ["many", "lot", "one"]
theorem sc_bars_apart : FnScope N_bars_apart ["many", "lot"] (defScope s_bars_apart) := ⟨rfl, rfl, rfl, by decide +kernel, rfl, by decide +kernel, by decide +kernel⟩
def bd_bars_apart : Ev → Option Out := (sRetX (xLc (iR1 (aCons (eOp pSub (eVar 0) (eC (.int 1))) aNil)) (gN 2) (bB (eOp (pIn true) (eTup (aCons (eVar 2) (aCons (eX (xOps pAdd (eVar 2) (eC (.int 1)))) aNil))) (eVar 1))) (eTup (aCons (eC (.str "apart")) (aCons (eVar 2) (aCons (eX (xOps pAdd (eVar 2) (eC (.int 1)))) aNil)))) [2]))
def fn_bars_apart : List PyData → Option Sl := fnS 2 1 bd_bars_apart
theorem ok_bars_apart (T : Top K mg) : OkAt P w K mg base 1 "bars_apart" s_bars_apart ["many", "lot"] (spS K fn_bars_apart) := by
  obtain ⟨f, fd, F, b, g⟩ := T.d_bars_apart
  have hs : SS K _ bd_bars_apart := (ss_retX (sx_lc (by decide) (si_rng1 (sa_cons (se_op sr_sub se_var se_int) sa_nil)) sg_name (lcl_name (by decide)) mn_name (st_t (se_op sr_notIn (se_tup (sa_cons se_var (sa_cons (se_x (sx_ops sr_add se_var se_int)) sa_nil))) se_var)) (se_tup (sa_cons se_str (sa_cons se_var (sa_cons (se_x (sx_ops sr_add se_var se_int)) sa_nil))))))
  exact ⟨f, fd, F, b, g, okS hs F sc_bars_apart rfl rfl (fun cdv A outer s H E hr => (pss_one (ps_ret (pe_lc (own := [("one", 2)]) rfl sc_bars_apart.nd (pi_range1 (by rfl) T.n_range (pa_cons (pe_op op_sub (pv 0) pe_int) pa_nil)) (blkOk_by (N := N_bars_apart) (sc := defScope s_bars_apart) (by decide +kernel)) (fun _ _ _ _ _ => (pg_name (i := 2) sc_bars_apart.nd rfl (by first | exact Or.inl rfl | exact Or.inr rfl))) (fun _ _ _ _ _ => (pts_one (pt_cmpR (op_notInA (hu65 hr)) (pe_tup (pa_cons (pv 2) (pa_cons (pe_op op_addA (pv 2) pe_int) pa_nil))) (pv 1) (by rfl)))) (fun _ _ _ _ _ => (pe_tup (pa_cons pe_str (pa_cons (pv 2) (pa_cons (pe_op op_addA (pv 2) pe_int) pa_nil)))))))))⟩

abbrev s_bars_cross : Stmt := topS 38
abbrev N_bars_cross : List Str := ["lot", "one", "other", "third", "fourth"]
theorem sc_bars_cross : FnScope N_bars_cross ["lot"] (defScope s_bars_cross) := ⟨rfl, rfl, rfl, by decide +kernel, rfl, by decide +kernel, by decide +kernel⟩
def bd_bars_cross : Ev → Option Out := (sRetX (xLc2 (iAny (eVar 0)) (gT 2 (gsCons (gN 1) (gsCons (gN 2) gsNil))) bYes (iAny (eVar 0)) (gT 2 (gsCons (gN 3) (gsCons (gN 4) gsNil))) (bThree pLt pLt pLt (eVar 1) (eVar 3) (eVar 2) (eVar 4)) (eTup (aCons (eC (.str "cross")) (aCons (eVar 1) (aCons (eVar 2) (aCons (eVar 3) (aCons (eVar 4) aNil)))))) [1, 2, 3, 4] [3, 4]))
def fn_bars_cross : List PyData → Option Sl := fnS 1 4 bd_bars_cross
theorem ok_bars_cross (T : Top K mg) : OkAt P w K mg base 1 "bars_cross" s_bars_cross ["lot"] (spS K fn_bars_cross) := by
  obtain ⟨f, fd, F, b, g⟩ := T.d_bars_cross
  have hs : SS K _ bd_bars_cross := (ss_retX (sx_lc2 (by decide) (by decide) (si_any se_var) (sg_tup (sgs_cons sg_name (sgs_cons sg_name sgs_nil))) (lcl_tup (lcls_cons mn_name (mns_cons mn_name mns_nil) (lcl_name (by decide)) (lcls_cons mn_name mns_nil (lcl_name (by decide)) lcls_nil))) (mn_tup (mns_cons mn_name (mns_cons mn_name mns_nil))) st_yes (si_any se_var) (sg_tup (sgs_cons sg_name (sgs_cons sg_name sgs_nil))) (lcl_tup (lcls_cons mn_name (mns_cons mn_name mns_nil) (lcl_name (by decide)) (lcls_cons mn_name mns_nil (lcl_name (by decide)) lcls_nil))) (mn_tup (mns_cons mn_name (mns_cons mn_name mns_nil))) (st_three sr_lt sr_lt sr_lt se_var se_var se_var se_var) (se_tup (sa_cons se_str (sa_cons se_var (sa_cons se_var (sa_cons se_var (sa_cons se_var sa_nil))))))))
  exact ⟨f, fd, F, b, g, okS hs F sc_bars_cross rfl rfl (fun cdv A outer s H E hr => (pss_one (ps_ret (pe_lc2 (own := [("one", 1), ("other", 2), ("third", 3), ("fourth", 4)]) (vs1 := [3, 4]) rfl sc_bars_cross.nd (pi_any (pv 0)) (blkOk_by (N := N_bars_cross) (sc := defScope s_bars_cross) (by decide +kernel)) (by decide) (fun _ _ _ _ _ => (pg_tup rfl (pgs_cons (pg_name (i := 1) sc_bars_cross.nd rfl (by first | exact Or.inl rfl | exact Or.inr rfl)) (pgs_cons (pg_name (i := 2) sc_bars_cross.nd rfl (by first | exact Or.inl rfl | exact Or.inr rfl)) pgs_nil)))) (fun _ _ _ _ _ => pts_nil) (fun _ _ _ _ _ => (pi_any (pv 0))) (fun _ _ _ _ _ => (pg_tup rfl (pgs_cons (pg_name (i := 3) sc_bars_cross.nd rfl (by first | exact Or.inl rfl | exact Or.inr rfl)) (pgs_cons (pg_name (i := 4) sc_bars_cross.nd rfl (by first | exact Or.inl rfl | exact Or.inr rfl)) pgs_nil)))) (fun _ _ _ _ _ => (pts_one (pt_three (op_ltA hr.units0) (op_ltA hr.units0) (op_ltA hr.units0) (pv 1) (pv 3) (pv 2) (pv 4)))) (fun _ _ _ _ _ => (pe_tup (pa_cons pe_str (pa_cons (pv 1) (pa_cons (pv 2) (pa_cons (pv 3) (pa_cons (pv 4) pa_nil)))))))))))⟩

abbrev s_all_bars : Stmt := topS 36
abbrev N_all_bars : List Str := ["many", "lot"]
theorem sc_all_bars : FnScope N_all_bars ["many", "lot"] (defScope s_all_bars) := ⟨rfl, rfl, rfl, by decide +kernel, rfl, by decide +kernel, by decide +kernel⟩
def bd_all_bars : Ev → Option Out := (sRetX (xOps pAdd (eX (xOps pAdd (eX (xFn fn_bars_apart (aCons (eVar 0) (aCons (eVar 1) aNil)))) (eX (xFn fn_bars_cross (aCons (eVar 1) aNil))))) (eX (xFn fn_bars_alone (aCons (eVar 1) aNil)))))
def fn_all_bars : List PyData → Option Sl := fnS 2 0 bd_all_bars
theorem ok_all_bars (T : Top K mg) : OkAt P w K mg base 3 "all_bars" s_all_bars ["many", "lot"] (spS K fn_all_bars) := by
  obtain ⟨f, fd, F, b, g⟩ := T.d_all_bars
  obtain ⟨f_bars_apart, fd_bars_apart, F_bars_apart, b_bars_apart, g_bars_apart, G_bars_apart⟩ := ok_bars_apart (P := P) (w := w) (base := base) T
  obtain ⟨f_bars_cross, fd_bars_cross, F_bars_cross, b_bars_cross, g_bars_cross, G_bars_cross⟩ := ok_bars_cross (P := P) (w := w) (base := base) T
  obtain ⟨f_bars_alone, fd_bars_alone, F_bars_alone, b_bars_alone, g_bars_alone, G_bars_alone⟩ := ok_bars_alone (P := P) (w := w) (base := base) T
  have hs : SS K _ bd_all_bars := (ss_retX (sx_ops sr_add (se_x (sx_ops sr_add (se_x (sx_fn (sa_cons se_var (sa_cons se_var sa_nil)))) (se_x (sx_fn (sa_cons se_var sa_nil))))) (se_x (sx_fn (sa_cons se_var sa_nil)))))
  exact ⟨f, fd, F, b, g, okS hs F sc_all_bars rfl rfl (fun cdv A outer s H E hr => (pss_one (ps_ret (pe_op op_addA (pe_op op_addA (pe_call G_bars_apart (hr.mono (by decide)) (by rfl) g_bars_apart F_bars_apart.kp b_bars_apart .nil pass0 (pa_cons (pv 0) (pa_cons (pv 1) pa_nil))) (pe_call G_bars_cross (hr.mono (by decide)) (by rfl) g_bars_cross F_bars_cross.kp b_bars_cross .nil pass0 (pa_cons (pv 1) pa_nil))) (pe_call G_bars_alone (hr.mono (by decide)) (by rfl) g_bars_alone F_bars_alone.kp b_bars_alone .nil pass0 (pa_cons (pv 1) pa_nil))))))⟩

abbrev s_what_bars : Stmt := topS 35
abbrev N_what_bars : List Str := ["many", "lot", "found"]
theorem sc_what_bars : FnScope N_what_bars ["many", "lot"] (defScope s_what_bars) := ⟨rfl, rfl, rfl, by decide +kernel, rfl, by decide +kernel, by decide +kernel⟩
def bd_what_bars : Ev → Option Out := (sSeq (sExpr (eX (xFn fn_check_many_and_lot (aCons (eVar 0) (aCons (eVar 1) aNil))))) (sSeq (sSet 2 (xFn fn_all_bars (aCons (eVar 0) (aCons (eVar 1) aNil)))) (sRetX (xE (eIf (bTru (eVar 2)) (eIxV 2 (eC (.int 0))) (eC .none))))))
def fn_what_bars : List PyData → Option Sl := fnS 2 1 bd_what_bars
theorem ok_what_bars (T : Top K mg) : OkAt P w K mg base 8 "what_bars" s_what_bars ["many", "lot"] (spS K fn_what_bars) := by
  obtain ⟨f, fd, F, b, g⟩ := T.d_what_bars
  obtain ⟨f_check_many_and_lot, fd_check_many_and_lot, F_check_many_and_lot, b_check_many_and_lot, g_check_many_and_lot, G_check_many_and_lot⟩ := ok_check_many_and_lot (P := P) (w := w) (base := base) T
  obtain ⟨f_all_bars, fd_all_bars, F_all_bars, b_all_bars, g_all_bars, G_all_bars⟩ := ok_all_bars (P := P) (w := w) (base := base) T
  have hs : SS K _ bd_what_bars := (ss_seq (ss_expr (se_x (sx_fn (sa_cons se_var (sa_cons se_var sa_nil))))) (ss_seq (ss_set (sx_fn (sa_cons se_var (sa_cons se_var sa_nil)))) (ss_retX (sx_e (se_if (st_tru se_var) (se_ixv se_int) se_non)))))
  exact ⟨f, fd, F, b, g, okS hs F sc_what_bars rfl rfl (fun cdv A outer s H E hr => (pss_cons (ps_expr (pe_call G_check_many_and_lot (hr.mono (by decide)) (by rfl) g_check_many_and_lot F_check_many_and_lot.kp b_check_many_and_lot .nil pass0 (pa_cons (pv 0) (pa_cons (pv 1) pa_nil)))) (pss_cons (ps_set (i := 2) sc_what_bars.nd rfl (by first | exact Or.inl rfl | exact Or.inr rfl) (pe_call G_all_bars (hr.mono (by decide)) (by rfl) g_all_bars F_all_bars.kp b_all_bars .nil pass0 (pa_cons (pv 0) (pa_cons (pv 1) pa_nil)))) (pss_one (ps_ret (pe_ifExp (pt_tru (pv 2)) (pe_ix ix_seq (pv 2) pe_int (fun _ _ => rfl)) pe_non))))))⟩

abbrev s_can_be : Stmt := topS 34
abbrev N_can_be : List Str := ["many", "lot"]
theorem sc_can_be : FnScope N_can_be ["many", "lot"] (defScope s_can_be) := ⟨rfl, rfl, rfl, by decide +kernel, rfl, by decide +kernel, by decide +kernel⟩
def bd_can_be : Ev → Option Out := (sRetX (xE (eOp (pIs false) (eX (xFn fn_what_bars (aCons (eVar 0) (aCons (eVar 1) aNil)))) (eC .none))))
def fn_can_be : List PyData → Option Sl := fnS 2 0 bd_can_be
theorem ok_can_be (T : Top K mg) : OkAt P w K mg base 9 "can_be" s_can_be ["many", "lot"] (spS K fn_can_be) := by
  obtain ⟨f, fd, F, b, g⟩ := T.d_can_be
  obtain ⟨f_what_bars, fd_what_bars, F_what_bars, b_what_bars, g_what_bars, G_what_bars⟩ := ok_what_bars (P := P) (w := w) (base := base) T
  have hs : SS K _ bd_can_be := (ss_retX (sx_e (se_op sr_is (se_x (sx_fn (sa_cons se_var (sa_cons se_var sa_nil)))) se_non)))
  exact ⟨f, fd, F, b, g, okS hs F sc_can_be rfl rfl (fun cdv A outer s H E hr => (pss_one (ps_ret (pe_cmpR op_isA (pe_call G_what_bars (hr.mono (by decide)) (by rfl) g_what_bars F_what_bars.kp b_what_bars .nil pass0 (pa_cons (pv 0) (pa_cons (pv 1) pa_nil))) pe_non (nomark _)))))⟩

abbrev s_last_free : Stmt := topS 55
abbrev N_last_free : List Str := ["tree", "order", "house", "above", "upper"]
theorem sc_last_free : FnScope N_last_free ["tree", "order"] (defScope s_last_free) := ⟨rfl, rfl, rfl, by decide +kernel, rfl, by decide +kernel, by decide +kernel⟩
def bd_last_free : Ev → Option Out := (sRetX (xE (eCall pMax (aCons (eX (xLc (iEn (eVar 0)) (gT 2 (gsCons (gN 2) (gsCons (gN 3) gsNil))) (bAnd (bB (eOp pEq (eIxV 1 (eVar 2)) (eC (.int 0)))) (bTru (eCall pAll (aCons (eX (xLc (iAny (eVar 3)) (gN 4) bYes (eOp pGt (eIxV 1 (eVar 4)) (eC (.int 0))) [4])) aNil)))) (eVar 2) [2, 3])) aNil))))
def fn_last_free : List PyData → Option Sl := fnS 2 3 bd_last_free
theorem ok_last_free (T : Top K mg) : OkAt P w K mg base 1 "last_free" s_last_free ["tree", "order"] (spS K fn_last_free) := by
  obtain ⟨f, fd, F, b, g⟩ := T.d_last_free
  have hs : SS K _ bd_last_free := (ss_retX (sx_e (se_callB sr_max (sa_cons (se_x (sx_lc (by decide) (si_enum se_var) (sg_tup (sgs_cons sg_name (sgs_cons sg_name sgs_nil))) (lcl_tup (lcls_cons mn_name (mns_cons mn_name mns_nil) (lcl_name (by decide)) (lcls_cons mn_name mns_nil (lcl_name (by decide)) lcls_nil))) (mn_tup (mns_cons mn_name (mns_cons mn_name mns_nil))) (st_and (st_t (se_op sr_eq (se_ixv se_var) se_int)) (st_tru (se_callB sr_all (sa_cons (se_x (sx_lc (by decide) (si_any se_var) sg_name (lcl_name (by decide)) mn_name st_yes (se_op sr_gt (se_ixv se_var) se_int))) sa_nil)))) se_var)) sa_nil))))
  exact ⟨f, fd, F, b, g, okS hs F sc_last_free rfl rfl (fun cdv A outer s H E hr => (pss_one (ps_ret (pe_callB (cr_max rfl) (by rfl) T.n_max boot_max (pa_cons (pe_lc (own := [("house", 2), ("above", 3)]) rfl sc_last_free.nd (pi_enumA (by rfl) T.n_enumerate (pa_cons (pv 0) pa_nil)) (blkOk_by (N := N_last_free) (sc := defScope s_last_free) (by decide +kernel)) (fun _ _ _ _ _ => (pg_tup rfl (pgs_cons (pg_name (i := 2) sc_last_free.nd rfl (by first | exact Or.inl rfl | exact Or.inr rfl)) (pgs_cons (pg_name (i := 3) sc_last_free.nd rfl (by first | exact Or.inl rfl | exact Or.inr rfl)) pgs_nil)))) (fun _ _ _ _ _ => (pts_one (PW.pt (pw_and (pt_cmpR (op_eqD hr.units) (pe_ix ix_seq (pv 1) (pv 2) (fun _ _ => rfl)) pe_int (nomark _)) (pw_and1 (pt_tru (pe_callB (cr_all rfl) (by rfl) T.n_all boot_all (pa_cons (pe_lc (own := [("upper", 4)]) rfl sc_last_free.nd (pi_any (pv 3)) (blk_of (N := N_last_free) (sc := defScope s_last_free) (by decide +kernel)) (fun _ _ _ _ _ => (pg_name (i := 4) sc_last_free.nd rfl (by first | exact Or.inl rfl | exact Or.inr rfl))) (fun _ _ _ _ _ => pts_nil) (fun _ _ _ _ _ => (pe_cmpR op_gt (pe_ix ix_seq (pv 1) (pv 4) (fun _ _ => rfl)) pe_int (nomark _)))) pa_nil)))))))) (fun _ _ _ _ _ => (pv 2))) pa_nil)))))⟩

abbrev s_first_order_of : Stmt := topS 54
abbrev N_first_order_of : List Str := ["tree", "order", "number"]
theorem sc_first_order_of : FnScope N_first_order_of ["tree"] (defScope s_first_order_of) := ⟨rfl, rfl, rfl, by decide +kernel, rfl, by decide +kernel, by decide +kernel⟩
def bd_first_order_of : Ev → Option Out := (sSeq (sSet 1 (xRep (aCons (eC (.int 0)) aNil) (eCall pLen (aCons (eVar 0) aNil)))) (sSeq (sFor (iR3 (aCons (eCall pLen (aCons (eVar 0) aNil)) (aCons (eC (.int 0)) (aCons (eUn pNeg (eC (.int 1))) aNil)))) (gN 2) (sSetI 1 (eVar 2) (eScal (eX (xFn fn_last_free (aCons (eVar 0) (aCons (eVar 1) aNil))))))) (sRetX (xE (eCall pTuple (aCons (eVar 1) aNil))))))
def fn_first_order_of : List PyData → Option Sl := fnS 1 2 bd_first_order_of
theorem ok_first_order_of (T : Top K mg) : OkAt P w K mg base 2 "first_order_of" s_first_order_of ["tree"] (spS K fn_first_order_of) := by
  obtain ⟨f, fd, F, b, g⟩ := T.d_first_order_of
  obtain ⟨f_last_free, fd_last_free, F_last_free, b_last_free, g_last_free, G_last_free⟩ := ok_last_free (P := P) (w := w) (base := base) T
  have hs : SS K _ bd_first_order_of := (ss_seq (ss_set (sx_rep (sa_cons se_int sa_nil) (se_callB sr_len (sa_cons se_var sa_nil)))) (ss_seq (ss_for (si_rng3 (sa_cons (se_callB sr_len (sa_cons se_var sa_nil)) (sa_cons se_int (sa_cons (se_un sr_neg se_int) sa_nil)))) sg_name (ss_setI se_var (se_scal (se_x (sx_fn (sa_cons se_var (sa_cons se_var sa_nil))))))) (ss_retX (sx_e (se_callB sr_tuple (sa_cons se_var sa_nil))))))
  exact ⟨f, fd, F, b, g, okS hs F sc_first_order_of rfl rfl (fun cdv A outer s H E hr => (pss_cons (ps_set (i := 1) sc_first_order_of.nd rfl (by first | exact Or.inl rfl | exact Or.inr rfl) (pe_op op_rep (pe_lst (pa_cons pe_int pa_nil)) (pe_callB c_len (by rfl) T.n_len PySem.boot_len (pa_cons (pv 0) pa_nil)))) (pss_cons (ps_for PassesOwn.never rfl (pi_range3 (by rfl) T.n_range (pa_cons (pe_callB c_len (by rfl) T.n_len PySem.boot_len (pa_cons (pv 0) pa_nil)) (pa_cons pe_int (pa_cons (pe_un un_neg pe_int) pa_nil)))) (pg_name (i := 2) sc_first_order_of.nd rfl (by first | exact Or.inl rfl | exact Or.inr rfl)) (pss_one (ps_asg (pv 2) (pg_sub (pv 1) (pe_call G_last_free (hr.mono (by decide)) (by rfl) g_last_free F_last_free.kp b_last_free .nil pass0 (pa_cons (pv 0) (pa_cons (pv 1) pa_nil))) set_list)))) (pss_one (ps_ret (pe_callTy c_tuple (by rfl) T.n_tuple boot_tuple (pa_cons (pv 1) pa_nil)))))))⟩

abbrev s_highest_between : Stmt := topS 51
abbrev N_highest_between : List Str := ["many", "lot", "left", "right", "seen", "house"]
theorem sc_highest_between : FnScope N_highest_between ["many", "lot", "left", "right"] (defScope s_highest_between) := ⟨rfl, rfl, rfl, by decide +kernel, rfl, by decide +kernel, by decide +kernel⟩
def bd_highest_between : Ev → Option Out := (sSeq (sSet 4 (xLc (iR2 (aCons (eX (xOps pAdd (eVar 2) (eC (.int 1)))) (aCons (eVar 3) aNil))) (gN 5) (bAnd (bOr (bB (eOp pEq (eVar 2) (eUn pNeg (eC (.int 1))))) (bB (eOp (pIn false) (eTup (aCons (eVar 2) (aCons (eVar 5) aNil))) (eVar 1)))) (bOr (bB (eOp pEq (eVar 3) (eVar 0))) (bB (eOp (pIn false) (eTup (aCons (eVar 5) (aCons (eVar 3) aNil))) (eVar 1))))) (eVar 5) [5])) (sRetX (xE (eIf (bB (eOp pEq (eVar 3) (eVar 0))) (eIxV 4 (eUn pNeg (eC (.int 1)))) (eIxV 4 (eC (.int 0)))))))
def fn_highest_between : List PyData → Option Sl := fnS 4 2 bd_highest_between
theorem ok_highest_between (T : Top K mg) : OkAt P w K mg base 1 "highest_between" s_highest_between ["many", "lot", "left", "right"] (spS K fn_highest_between) := by
  obtain ⟨f, fd, F, b, g⟩ := T.d_highest_between
  have hs : SS K _ bd_highest_between := (ss_seq (ss_set (sx_lc (by decide) (si_rng2 (sa_cons (se_x (sx_ops sr_add se_var se_int)) (sa_cons se_var sa_nil))) sg_name (lcl_name (by decide)) mn_name (st_and (st_or (st_t (se_op sr_eq se_var (se_un sr_neg se_int))) (st_t (se_op sr_in (se_tup (sa_cons se_var (sa_cons se_var sa_nil))) se_var))) (st_or (st_t (se_op sr_eq se_var se_var)) (st_t (se_op sr_in (se_tup (sa_cons se_var (sa_cons se_var sa_nil))) se_var)))) se_var)) (ss_retX (sx_e (se_if (st_t (se_op sr_eq se_var se_var)) (se_ixv (se_un sr_neg se_int)) (se_ixv se_int)))))
  exact ⟨f, fd, F, b, g, okS hs F sc_highest_between rfl rfl (fun cdv A outer s H E hr => (pss_cons (ps_setLc (i := 4) (own := [("house", 5)]) rfl sc_highest_between.nd rfl rfl (sw_true rfl rfl rfl (by decide +kernel)) (pi_range2 (by rfl) T.n_range (pa_cons (pe_op op_addA (pv 2) pe_int) (pa_cons (pv 3) pa_nil))) (blkOk_by (N := N_highest_between) (sc := defScope s_highest_between) (by decide +kernel)) (fun _ _ _ _ _ => (pg_name (i := 5) sc_highest_between.nd rfl (by first | exact Or.inl rfl | exact Or.inr rfl))) (fun _ _ _ _ _ => (pts_one (PW.pt (pw_and (PW.pt (pw_or (pt_cmpR (op_eqD hr.units) (pv 2) (pe_un un_neg pe_int) (nomark _)) (pw_or1 (pt_cmpR (op_inA (hu65 hr)) (pe_tup (pa_cons (pv 2) (pa_cons (pv 5) pa_nil))) (pv 1) (by rfl))))) (pw_and1 (PW.pt (pw_or (pt_cmpR (op_eqD hr.units) (pv 3) (pv 0) (nomark _)) (pw_or1 (pt_cmpR (op_inA (hu65 hr)) (pe_tup (pa_cons (pv 5) (pa_cons (pv 3) pa_nil))) (pv 1) (by rfl)))))))))) (fun _ _ _ _ _ => (pv 5))) (pss_one (ps_ret (pe_ifExp (pt_cmpR (op_eqD hr.units) (pv 3) (pv 0) (nomark _)) (pe_ix ix_seq (pv 4) (pe_un un_neg pe_int) (fun _ _ => rfl)) (pe_ix ix_seq (pv 4) pe_int (fun _ _ => rfl)))))))⟩

abbrev s_tree_under : Stmt := topS 50
abbrev N_tree_under : List Str := ["many", "lot", "top", "tree", "gaps", "left", "right", "above", "house"]
theorem sc_tree_under : FnScope N_tree_under ["many", "lot", "top"] (defScope s_tree_under) := ⟨rfl, rfl, rfl, by decide +kernel, rfl, by decide +kernel, by decide +kernel⟩
def bd_tree_under : Ev → Option Out := (sSeq (sSet 3 (xRep (aCons (eTup aNil) aNil) (eVar 0))) (sSeq (sSet 4 (xLst (aCons (eTup (aCons (eUn pNeg (eC (.int 1))) (aCons (eVar 2) (aCons (eTup (aCons (eVar 2) aNil)) aNil)))) (aCons (eTup (aCons (eVar 2) (aCons (eVar 0) (aCons (eTup (aCons (eVar 2) aNil)) aNil)))) aNil)))) (sSeq (wloop (bScal (bTru (eVar 4))) (sSeq (sAsg (ePop 4) (gT 3 (gsCons (gN 5) (gsCons (gN 6) (gsCons (gN 7) gsNil))))) (sIf (bB (eOp pGt (eOp pSub (eVar 6) (eVar 5)) (eC (.int 1)))) (sSeq (sSet 8 (xFn fn_highest_between (aCons (eVar 0) (aCons (eVar 1) (aCons (eVar 5) (aCons (eVar 6) aNil)))))) (sSeq (sSetI 3 (eVar 7) (eVar 8)) (sSeq (sApp 4 (eTup (aCons (eVar 5) (aCons (eVar 8) (aCons (eX (xOps pAdd (eVar 7) (eTup (aCons (eVar 8) aNil)))) aNil))))) (sApp 4 (eTup (aCons (eVar 8) (aCons (eVar 6) (aCons (eX (xOps pAdd (eVar 7) (eTup (aCons (eVar 8) aNil)))) aNil)))))))) sNil)) 64) (sRetX (xVar 3)))))
def fn_tree_under : List PyData → Option Sl := fnS 3 6 bd_tree_under
theorem ok_tree_under (T : Top K mg) : OkAt P w K mg base 2 "tree_under" s_tree_under ["many", "lot", "top"] (spS K fn_tree_under) := by
  obtain ⟨f, fd, F, b, g⟩ := T.d_tree_under
  obtain ⟨f_highest_between, fd_highest_between, F_highest_between, b_highest_between, g_highest_between, G_highest_between⟩ := ok_highest_between (P := P) (w := w) (base := base) T
  have hs : SS K _ bd_tree_under := (ss_seq (ss_set (sx_rep (sa_cons (se_tup sa_nil) sa_nil) se_var)) (ss_seq (ss_set (sx_lst (sa_cons (se_tup (sa_cons (se_un sr_neg se_int) (sa_cons se_var (sa_cons (se_tup (sa_cons se_var sa_nil)) sa_nil)))) (sa_cons (se_tup (sa_cons se_var (sa_cons se_var (sa_cons (se_tup (sa_cons se_var sa_nil)) sa_nil)))) sa_nil)))) (ss_seq (ss_while 64 (st_scal (st_tru se_var)) (ss_seq (ss_asg se_pop (sg_tup (sgs_cons sg_name (sgs_cons sg_name (sgs_cons sg_name sgs_nil))))) (ss_if (st_t (se_op sr_gt (se_op sr_sub se_var se_var) se_int)) (ss_seq (ss_set (sx_fn (sa_cons se_var (sa_cons se_var (sa_cons se_var (sa_cons se_var sa_nil)))))) (ss_seq (ss_setI se_var se_var) (ss_seq (ss_app (se_tup (sa_cons se_var (sa_cons se_var (sa_cons (se_x (sx_ops sr_add se_var (se_tup (sa_cons se_var sa_nil)))) sa_nil))))) (ss_app (se_tup (sa_cons se_var (sa_cons se_var (sa_cons (se_x (sx_ops sr_add se_var (se_tup (sa_cons se_var sa_nil)))) sa_nil)))))))) ss_nil))) (ss_retX sx_var))))
  exact ⟨f, fd, F, b, g, okS hs F sc_tree_under rfl rfl (fun cdv A outer s H E hr => (pss_cons (ps_set (i := 3) sc_tree_under.nd rfl (by first | exact Or.inl rfl | exact Or.inr rfl) (pe_op op_rep (pe_lst (pa_cons (pe_tup pa_nil) pa_nil)) (pv 0))) (pss_cons (ps_set (i := 4) sc_tree_under.nd rfl (by first | exact Or.inl rfl | exact Or.inr rfl) (pe_lst (pa_cons (pe_tup (pa_cons (pe_un un_neg pe_int) (pa_cons (pv 2) (pa_cons (pe_tup (pa_cons (pv 2) pa_nil)) pa_nil)))) (pa_cons (pe_tup (pa_cons (pv 2) (pa_cons (pv 0) (pa_cons (pe_tup (pa_cons (pv 2) pa_nil)) pa_nil)))) pa_nil)))) (pss_cons (ps_while PassesOwn.never (pt_tru (pv 4)) (pss_cons (ps_asg (pe_bm0 PySem.F.plainAttrs_list PySem.F.slot_list_pop PySem.F.type_list_pop mt_pop (pv 4)) (pg_tup rfl (pgs_cons (pg_name (i := 5) sc_tree_under.nd rfl (by first | exact Or.inl rfl | exact Or.inr rfl)) (pgs_cons (pg_name (i := 6) sc_tree_under.nd rfl (by first | exact Or.inl rfl | exact Or.inr rfl)) (pgs_cons (pg_name (i := 7) sc_tree_under.nd rfl (by first | exact Or.inl rfl | exact Or.inr rfl)) pgs_nil))))) (pss_one (ps_if (pt_cmpR op_gt (pe_op op_sub (pv 6) (pv 5)) pe_int (nomark _)) (pss_cons (ps_set (i := 8) sc_tree_under.nd rfl (by first | exact Or.inl rfl | exact Or.inr rfl) (pe_call G_highest_between (hr.mono (by decide)) (by rfl) g_highest_between F_highest_between.kp b_highest_between .nil pass0 (pa_cons (pv 0) (pa_cons (pv 1) (pa_cons (pv 5) (pa_cons (pv 6) pa_nil)))))) (pss_cons (ps_asg (pv 7) (pg_sub (pv 3) (pv 8) set_list)) (pss_cons (ps_expr (pe_bm PySem.F.plainAttrs_list PySem.F.slot_list_append PySem.F.type_list_append mt_append (pv 4) (pa_cons (pe_tup (pa_cons (pv 5) (pa_cons (pv 8) (pa_cons (pe_op op_addA (pv 7) (pe_tup (pa_cons (pv 8) pa_nil))) pa_nil)))) pa_nil))) (pss_one (ps_expr (pe_bm PySem.F.plainAttrs_list PySem.F.slot_list_append PySem.F.type_list_append mt_append (pv 4) (pa_cons (pe_tup (pa_cons (pv 8) (pa_cons (pv 6) (pa_cons (pe_op op_addA (pv 7) (pe_tup (pa_cons (pv 8) pa_nil))) pa_nil)))) pa_nil))))))) pss_nil)))) (pss_one (ps_ret (pv 3)))))))⟩

abbrev s_is_seen_over : Stmt := topS 49
abbrev N_is_seen_over : List Str := ["lot", "house", "one", "other"]
theorem sc_is_seen_over : FnScope N_is_seen_over ["lot", "house"] (defScope s_is_seen_over) := ⟨rfl, rfl, rfl, by decide +kernel, rfl, by decide +kernel, by decide +kernel⟩
def bd_is_seen_over : Ev → Option Out := (sRetX (xE (eCall pAny (aCons (eX (xLc (iAny (eVar 0)) (gT 2 (gsCons (gN 2) (gsCons (gN 3) gsNil))) bYes (eChain pLt pLt (eVar 2) (eVar 1) (eVar 3)) [2, 3])) aNil))))
def fn_is_seen_over : List PyData → Option Sl := fnS 2 2 bd_is_seen_over
theorem ok_is_seen_over (T : Top K mg) : OkAt P w K mg base 1 "is_seen_over" s_is_seen_over ["lot", "house"] (spS K fn_is_seen_over) := by
  obtain ⟨f, fd, F, b, g⟩ := T.d_is_seen_over
  have hs : SS K _ bd_is_seen_over := (ss_retX (sx_e (se_callB sr_any (sa_cons (se_x (sx_lc (by decide) (si_any se_var) (sg_tup (sgs_cons sg_name (sgs_cons sg_name sgs_nil))) (lcl_tup (lcls_cons mn_name (mns_cons mn_name mns_nil) (lcl_name (by decide)) (lcls_cons mn_name mns_nil (lcl_name (by decide)) lcls_nil))) (mn_tup (mns_cons mn_name (mns_cons mn_name mns_nil))) st_yes (se_chain sr_lt sr_lt se_var se_var se_var))) sa_nil))))
  exact ⟨f, fd, F, b, g, okS hs F sc_is_seen_over rfl rfl (fun cdv A outer s H E hr => (pss_one (ps_ret (pe_callB (cr_any rfl) (by rfl) T.n_any boot_any (pa_cons (pe_lc (own := [("one", 2), ("other", 3)]) rfl sc_is_seen_over.nd (pi_any (pv 0)) (blkOk_by (N := N_is_seen_over) (sc := defScope s_is_seen_over) (by decide +kernel)) (fun _ _ _ _ _ => (pg_tup rfl (pgs_cons (pg_name (i := 2) sc_is_seen_over.nd rfl (by first | exact Or.inl rfl | exact Or.inr rfl)) (pgs_cons (pg_name (i := 3) sc_is_seen_over.nd rfl (by first | exact Or.inl rfl | exact Or.inr rfl)) pgs_nil)))) (fun _ _ _ _ _ => pts_nil) (fun _ _ _ _ _ => (pe_chain (op_ltA hr.units0) (op_ltA hr.units0) (pv 2) (pv 1) (pv 3)))) pa_nil)))))⟩

abbrev s_tops : Stmt := topS 48
abbrev N_tops : List Str := ["many", "lot", "house"]
theorem sc_tops : FnScope N_tops ["many", "lot"] (defScope s_tops) := ⟨rfl, rfl, rfl, by decide +kernel, rfl, by decide +kernel, by decide +kernel⟩
def bd_tops : Ev → Option Out := (sRetX (xLc (iR1 (aCons (eVar 0) aNil)) (gN 2) (bNot (bTru (eX (xFn fn_is_seen_over (aCons (eVar 1) (aCons (eVar 2) aNil)))))) (eVar 2) [2]))
def fn_tops : List PyData → Option Sl := fnS 2 1 bd_tops
theorem ok_tops (T : Top K mg) : OkAt P w K mg base 2 "tops" s_tops ["many", "lot"] (spS K fn_tops) := by
  obtain ⟨f, fd, F, b, g⟩ := T.d_tops
  obtain ⟨f_is_seen_over, fd_is_seen_over, F_is_seen_over, b_is_seen_over, g_is_seen_over, G_is_seen_over⟩ := ok_is_seen_over (P := P) (w := w) (base := base) T
  have hs : SS K _ bd_tops := (ss_retX (sx_lc (by decide) (si_rng1 (sa_cons se_var sa_nil)) sg_name (lcl_name (by decide)) mn_name (st_not (st_tru (se_x (sx_fn (sa_cons se_var (sa_cons se_var sa_nil)))))) se_var))
  exact ⟨f, fd, F, b, g, okS hs F sc_tops rfl rfl (fun cdv A outer s H E hr => (pss_one (ps_ret (pe_lc (own := [("house", 2)]) rfl sc_tops.nd (pi_range1 (by rfl) T.n_range (pa_cons (pv 0) pa_nil)) (blkOk_by (N := N_tops) (sc := defScope s_tops) (by decide +kernel)) (fun _ _ _ _ _ => (pg_name (i := 2) sc_tops.nd rfl (by first | exact Or.inl rfl | exact Or.inr rfl))) (fun _ _ _ _ _ => (pts_one (pt_not (pt_tru (pe_call G_is_seen_over (hr.mono (by decide)) (by rfl) g_is_seen_over F_is_seen_over.kp b_is_seen_over .nil pass0 (pa_cons (pv 1) (pa_cons (pv 2) pa_nil))))))) (fun _ _ _ _ _ => (pv 2))))))⟩

abbrev s_first_order : Stmt := topS 43
abbrev N_first_order : List Str := ["many", "lot", "top"]
theorem sc_first_order : FnScope N_first_order ["many", "lot"] (defScope s_first_order) := ⟨rfl, rfl, rfl, by decide +kernel, rfl, by decide +kernel, by decide +kernel⟩
def bd_first_order : Ev → Option Out := (sSeq (sIf (bNot (bTru (eX (xFn fn_can_be (aCons (eVar 0) (aCons (eVar 1) aNil)))))) (sRetX (xE (eC .none))) sNil) (sRetX (xE (eCall pMinD (aCons (eX (xLc (iAny (eX (xFn fn_tops (aCons (eVar 0) (aCons (eVar 1) aNil))))) (gN 2) bYes (eX (xFn fn_first_order_of (aCons (eX (xFn fn_tree_under (aCons (eVar 0) (aCons (eVar 1) (aCons (eVar 2) aNil))))) aNil))) [2])) aNil)))))
def fn_first_order : List PyData → Option Sl := fnS 2 1 bd_first_order
theorem ok_first_order (T : Top K mg) : OkAt P w K mg base 10 "first_order" s_first_order ["many", "lot"] (spS K fn_first_order) := by
  obtain ⟨f, fd, F, b, g⟩ := T.d_first_order
  obtain ⟨f_can_be, fd_can_be, F_can_be, b_can_be, g_can_be, G_can_be⟩ := ok_can_be (P := P) (w := w) (base := base) T
  obtain ⟨f_tops, fd_tops, F_tops, b_tops, g_tops, G_tops⟩ := ok_tops (P := P) (w := w) (base := base) T
  obtain ⟨f_first_order_of, fd_first_order_of, F_first_order_of, b_first_order_of, g_first_order_of, G_first_order_of⟩ := ok_first_order_of (P := P) (w := w) (base := base) T
  obtain ⟨f_tree_under, fd_tree_under, F_tree_under, b_tree_under, g_tree_under, G_tree_under⟩ := ok_tree_under (P := P) (w := w) (base := base) T
  have hs : SS K _ bd_first_order := (ss_seq (ss_if (st_not (st_tru (se_x (sx_fn (sa_cons se_var (sa_cons se_var sa_nil)))))) (ss_retX (sx_e se_non)) ss_nil) (ss_retX (sx_e (se_callB sr_minD (sa_cons (se_x (sx_lc (by decide) (si_any (se_x (sx_fn (sa_cons se_var (sa_cons se_var sa_nil))))) sg_name (lcl_name (by decide)) mn_name st_yes (se_x (sx_fn (sa_cons (se_x (sx_fn (sa_cons se_var (sa_cons se_var (sa_cons se_var sa_nil))))) sa_nil))))) sa_nil)))))
  exact ⟨f, fd, F, b, g, okS hs F sc_first_order rfl rfl (fun cdv A outer s H E hr => (pss_cons (ps_if (pt_not (pt_tru (pe_call G_can_be (hr.mono (by decide)) (by rfl) g_can_be F_can_be.kp b_can_be .nil pass0 (pa_cons (pv 0) (pa_cons (pv 1) pa_nil))))) (pss_one (ps_ret pe_non)) pss_nil) (pss_one (ps_ret (pe_callB (cr_minD rfl (hu65 hr)) (by rfl) T.n_min boot_min (pa_cons (pe_lc (own := [("top", 2)]) rfl sc_first_order.nd (pi_any (pe_call G_tops (hr.mono (by decide)) (by rfl) g_tops F_tops.kp b_tops .nil pass0 (pa_cons (pv 0) (pa_cons (pv 1) pa_nil)))) (blkOk_by (N := N_first_order) (sc := defScope s_first_order) (by decide +kernel)) (fun _ _ _ _ _ => (pg_name (i := 2) sc_first_order.nd rfl (by first | exact Or.inl rfl | exact Or.inr rfl))) (fun _ _ _ _ _ => pts_nil) (fun _ _ _ _ _ => (pe_call G_first_order_of (hr.mono (by decide)) (by rfl) g_first_order_of F_first_order_of.kp b_first_order_of .nil pass0 (pa_cons (pe_call G_tree_under (hr.mono (by decide)) (by rfl) g_tree_under F_tree_under.kp b_tree_under .nil pass0 (pa_cons (pv 0) (pa_cons (pv 1) (pa_cons (pv 2) pa_nil)))) pa_nil)))) pa_nil))))))⟩

abbrev s_check_can_be : Stmt := topS 47
abbrev N_check_can_be : List Str := ["many", "lot"]
theorem sc_check_can_be : FnScope N_check_can_be ["many", "lot"] (defScope s_check_can_be) := ⟨rfl, rfl, rfl, by decide +kernel, rfl, by decide +kernel, by decide +kernel⟩
def bd_check_can_be : Ev → Option Out := (sIf (bNot (bTru (eX (xFn fn_can_be (aCons (eVar 0) (aCons (eVar 1) aNil)))))) sNever sNil)
def fn_check_can_be : List PyData → Option Sl := fnS 2 0 bd_check_can_be
theorem ok_check_can_be (T : Top K mg) : OkAt P w K mg base 10 "check_can_be" s_check_can_be ["many", "lot"] (spS K fn_check_can_be) := by
  obtain ⟨f, fd, F, b, g⟩ := T.d_check_can_be
  obtain ⟨f_can_be, fd_can_be, F_can_be, b_can_be, g_can_be, G_can_be⟩ := ok_can_be (P := P) (w := w) (base := base) T
  have hs : SS K _ bd_check_can_be := (ss_if (st_not (st_tru (se_x (sx_fn (sa_cons se_var (sa_cons se_var sa_nil)))))) ss_never ss_nil)
  exact ⟨f, fd, F, b, g, okS hs F sc_check_can_be rfl rfl (fun cdv A outer s H E hr => (pss_one (ps_if (pt_not (pt_tru (pe_call G_can_be (hr.mono (by decide)) (by rfl) g_can_be F_can_be.kp b_can_be .nil pass0 (pa_cons (pv 0) (pa_cons (pv 1) pa_nil))))) (pss_one ps_never) pss_nil)))⟩

abbrev s_seen_from_left : Stmt := topS 56
abbrev N_seen_from_left : List Str := ["tree", "house", "above"]
theorem sc_seen_from_left : FnScope N_seen_from_left ["tree"] (defScope s_seen_from_left) := ⟨rfl, rfl, rfl, by decide +kernel, rfl, by decide +kernel, by decide +kernel⟩
def bd_seen_from_left : Ev → Option Out := (sRetX (xE (eCall pTuple (aCons (eX (xLc (iR1 (aCons (eCall pLen (aCons (eVar 0) aNil)) aNil)) (gN 1) (bTru (eCall pAll (aCons (eX (xLc (iAny (eX (xSl (eVar 0) oNo (oSome (eVar 1))))) (gN 2) bYes (eOp (pIn false) (eVar 1) (eVar 2)) [2])) aNil))) (eVar 1) [1])) aNil))))
def fn_seen_from_left : List PyData → Option Sl := fnS 1 2 bd_seen_from_left
theorem ok_seen_from_left (T : Top K mg) : OkAt P w K mg base 1 "seen_from_left" s_seen_from_left ["tree"] (spS K fn_seen_from_left) := by
  obtain ⟨f, fd, F, b, g⟩ := T.d_seen_from_left
  have hs : SS K _ bd_seen_from_left := (ss_retX (sx_e (se_callB sr_tuple (sa_cons (se_x (sx_lc (by decide) (si_rng1 (sa_cons (se_callB sr_len (sa_cons se_var sa_nil)) sa_nil)) sg_name (lcl_name (by decide)) mn_name (st_tru (se_callB sr_all (sa_cons (se_x (sx_lc (by decide) (si_any (se_x (sx_slice se_var so_no (so_some se_var)))) sg_name (lcl_name (by decide)) mn_name st_yes (se_op sr_in se_var se_var))) sa_nil))) se_var)) sa_nil))))
  exact ⟨f, fd, F, b, g, okS hs F sc_seen_from_left rfl rfl (fun cdv A outer s H E hr => (pss_one (ps_ret (pe_callTy c_tuple (by rfl) T.n_tuple boot_tuple (pa_cons (pe_lc (own := [("house", 1)]) rfl sc_seen_from_left.nd (pi_range1 (by rfl) T.n_range (pa_cons (pe_callB c_len (by rfl) T.n_len PySem.boot_len (pa_cons (pv 0) pa_nil)) pa_nil)) (blkOk_by (N := N_seen_from_left) (sc := defScope s_seen_from_left) (by decide +kernel)) (fun _ _ _ _ _ => (pg_name (i := 1) sc_seen_from_left.nd rfl (by first | exact Or.inl rfl | exact Or.inr rfl))) (fun _ _ _ _ _ => (pts_one (pt_tru (pe_callB (cr_all rfl) (by rfl) T.n_all boot_all (pa_cons (pe_lc (own := [("above", 2)]) rfl sc_seen_from_left.nd (pi_any (pe_slice sl_X (pv 0) po_none (po_some (pv 1)))) (blk_of (N := N_seen_from_left) (sc := defScope s_seen_from_left) (by decide +kernel)) (fun _ _ _ _ _ => (pg_name (i := 2) sc_seen_from_left.nd rfl (by first | exact Or.inl rfl | exact Or.inr rfl))) (fun _ _ _ _ _ => pts_nil) (fun _ _ _ _ _ => (pe_cmpR (op_inA (hu65 hr)) (pv 1) (pv 2) (by rfl)))) pa_nil))))) (fun _ _ _ _ _ => (pv 1))) pa_nil)))))⟩

abbrev s_seen_from_right : Stmt := topS 57
abbrev N_seen_from_right : List Str := ["tree", "house", "above"]
theorem sc_seen_from_right : FnScope N_seen_from_right ["tree"] (defScope s_seen_from_right) := ⟨rfl, rfl, rfl, by decide +kernel, rfl, by decide +kernel, by decide +kernel⟩
def bd_seen_from_right : Ev → Option Out := (sRetX (xE (eCall pTuple (aCons (eX (xLc (iR1 (aCons (eCall pLen (aCons (eVar 0) aNil)) aNil)) (gN 1) (bTru (eCall pAll (aCons (eX (xLc (iAny (eX (xSl (eVar 0) (oSome (eX (xOps pAdd (eVar 1) (eC (.int 1))))) oNo))) (gN 2) bYes (eOp (pIn false) (eVar 1) (eVar 2)) [2])) aNil))) (eVar 1) [1])) aNil))))
def fn_seen_from_right : List PyData → Option Sl := fnS 1 2 bd_seen_from_right
theorem ok_seen_from_right (T : Top K mg) : OkAt P w K mg base 1 "seen_from_right" s_seen_from_right ["tree"] (spS K fn_seen_from_right) := by
  obtain ⟨f, fd, F, b, g⟩ := T.d_seen_from_right
  have hs : SS K _ bd_seen_from_right := (ss_retX (sx_e (se_callB sr_tuple (sa_cons (se_x (sx_lc (by decide) (si_rng1 (sa_cons (se_callB sr_len (sa_cons se_var sa_nil)) sa_nil)) sg_name (lcl_name (by decide)) mn_name (st_tru (se_callB sr_all (sa_cons (se_x (sx_lc (by decide) (si_any (se_x (sx_slice se_var (so_some (se_x (sx_ops sr_add se_var se_int))) so_no))) sg_name (lcl_name (by decide)) mn_name st_yes (se_op sr_in se_var se_var))) sa_nil))) se_var)) sa_nil))))
  exact ⟨f, fd, F, b, g, okS hs F sc_seen_from_right rfl rfl (fun cdv A outer s H E hr => (pss_one (ps_ret (pe_callTy c_tuple (by rfl) T.n_tuple boot_tuple (pa_cons (pe_lc (own := [("house", 1)]) rfl sc_seen_from_right.nd (pi_range1 (by rfl) T.n_range (pa_cons (pe_callB c_len (by rfl) T.n_len PySem.boot_len (pa_cons (pv 0) pa_nil)) pa_nil)) (blkOk_by (N := N_seen_from_right) (sc := defScope s_seen_from_right) (by decide +kernel)) (fun _ _ _ _ _ => (pg_name (i := 1) sc_seen_from_right.nd rfl (by first | exact Or.inl rfl | exact Or.inr rfl))) (fun _ _ _ _ _ => (pts_one (pt_tru (pe_callB (cr_all rfl) (by rfl) T.n_all boot_all (pa_cons (pe_lc (own := [("above", 2)]) rfl sc_seen_from_right.nd (pi_any (pe_slice sl_X (pv 0) (po_some (pe_op op_addA (pv 1) pe_int)) po_none)) (blk_of (N := N_seen_from_right) (sc := defScope s_seen_from_right) (by decide +kernel)) (fun _ _ _ _ _ => (pg_name (i := 2) sc_seen_from_right.nd rfl (by first | exact Or.inl rfl | exact Or.inr rfl))) (fun _ _ _ _ _ => pts_nil) (fun _ _ _ _ _ => (pe_cmpR (op_inA (hu65 hr)) (pv 1) (pv 2) (by rfl)))) pa_nil))))) (fun _ _ _ _ _ => (pv 1))) pa_nil)))))⟩

abbrev s_count_under : Stmt := topS 53
abbrev N_count_under : List Str := ["tree", "house", "above"]
theorem sc_count_under : FnScope N_count_under ["tree", "house"] (defScope s_count_under) := ⟨rfl, rfl, rfl, by decide +kernel, rfl, by decide +kernel, by decide +kernel⟩
def bd_count_under : Ev → Option Out := (sRetX (xE (eCall pLen (aCons (eX (xLc (iAny (eVar 0)) (gN 2) (bB (eOp (pIn false) (eVar 1) (eVar 2))) (eVar 2) [2])) aNil))))
def fn_count_under : List PyData → Option Sl := fnS 2 1 bd_count_under
theorem ok_count_under (T : Top K mg) : OkAt P w K mg base 1 "count_under" s_count_under ["tree", "house"] (spS K fn_count_under) := by
  obtain ⟨f, fd, F, b, g⟩ := T.d_count_under
  have hs : SS K _ bd_count_under := (ss_retX (sx_e (se_callB sr_len (sa_cons (se_x (sx_lc (by decide) (si_any se_var) sg_name (lcl_name (by decide)) mn_name (st_t (se_op sr_in se_var se_var)) se_var)) sa_nil))))
  exact ⟨f, fd, F, b, g, okS hs F sc_count_under rfl rfl (fun cdv A outer s H E hr => (pss_one (ps_ret (pe_callB c_len (by rfl) T.n_len PySem.boot_len (pa_cons (pe_lc (own := [("above", 2)]) rfl sc_count_under.nd (pi_any (pv 0)) (blkOk_by (N := N_count_under) (sc := defScope s_count_under) (by decide +kernel)) (fun _ _ _ _ _ => (pg_name (i := 2) sc_count_under.nd rfl (by first | exact Or.inl rfl | exact Or.inr rfl))) (fun _ _ _ _ _ => (pts_one (pt_cmpR (op_inA (hu65 hr)) (pv 1) (pv 2) (by rfl)))) (fun _ _ _ _ _ => (pv 2))) pa_nil)))))⟩

abbrev s_count_orders : Stmt := topS 52
abbrev N_count_orders : List Str := ["tree", "orders", "house"]
theorem sc_count_orders : FnScope N_count_orders ["tree"] (defScope s_count_orders) := ⟨rfl, rfl, rfl, by decide +kernel, rfl, by decide +kernel, by decide +kernel⟩
def bd_count_orders : Ev → Option Out := (sSeq (sSet 1 (xE (eC (.int 1)))) (sSeq (sFor (iR1 (aCons (eCall pLen (aCons (eVar 0) aNil)) aNil)) (gN 2) (sAug 1 pMul (eX (xOps pAdd (eVar 2) (eC (.int 1)))))) (sSeq (sFor (iR1 (aCons (eCall pLen (aCons (eVar 0) aNil)) aNil)) (gN 2) (sAug 1 pFdiv (eX (xOps pAdd (eC (.int 1)) (eX (xFn fn_count_under (aCons (eVar 0) (aCons (eVar 2) aNil)))))))) (sRetX (xVar 1)))))
def fn_count_orders : List PyData → Option Sl := fnS 1 2 bd_count_orders
theorem ok_count_orders (T : Top K mg) : OkAt P w K mg base 2 "count_orders" s_count_orders ["tree"] (spS K fn_count_orders) := by
  obtain ⟨f, fd, F, b, g⟩ := T.d_count_orders
  obtain ⟨f_count_under, fd_count_under, F_count_under, b_count_under, g_count_under, G_count_under⟩ := ok_count_under (P := P) (w := w) (base := base) T
  have hs : SS K _ bd_count_orders := (ss_seq (ss_set (sx_e se_int)) (ss_seq (ss_for (si_rng1 (sa_cons (se_callB sr_len (sa_cons se_var sa_nil)) sa_nil)) sg_name (ss_aug sr_mul (se_x (sx_ops sr_add se_var se_int)))) (ss_seq (ss_for (si_rng1 (sa_cons (se_callB sr_len (sa_cons se_var sa_nil)) sa_nil)) sg_name (ss_aug sr_fdiv (se_x (sx_ops sr_add se_int (se_x (sx_fn (sa_cons se_var (sa_cons se_var sa_nil)))))))) (ss_retX sx_var))))
  exact ⟨f, fd, F, b, g, okS hs F sc_count_orders rfl rfl (fun cdv A outer s H E hr => (pss_cons (ps_set (i := 1) sc_count_orders.nd rfl (by first | exact Or.inl rfl | exact Or.inr rfl) pe_int) (pss_cons (ps_for PassesOwn.never rfl (pi_range1 (by rfl) T.n_range (pa_cons (pe_callB c_len (by rfl) T.n_len PySem.boot_len (pa_cons (pv 0) pa_nil)) pa_nil)) (pg_name (i := 2) sc_count_orders.nd rfl (by first | exact Or.inl rfl | exact Or.inr rfl)) (pss_one (ps_aug (i := 1) sc_count_orders.nd rfl (by first | exact Or.inl rfl | exact Or.inr rfl) (pe_op op_addA (pv 2) pe_int) iop_mul))) (pss_cons (ps_for PassesOwn.never rfl (pi_range1 (by rfl) T.n_range (pa_cons (pe_callB c_len (by rfl) T.n_len PySem.boot_len (pa_cons (pv 0) pa_nil)) pa_nil)) (pg_name (i := 2) sc_count_orders.nd rfl (by first | exact Or.inl rfl | exact Or.inr rfl)) (pss_one (ps_aug (i := 1) sc_count_orders.nd rfl (by first | exact Or.inl rfl | exact Or.inr rfl) (pe_op op_addA pe_int (pe_call G_count_under (hr.mono (by decide)) (by rfl) g_count_under F_count_under.kp b_count_under .nil pass0 (pa_cons (pv 0) (pa_cons (pv 2) pa_nil)))) iop_fdiv))) (pss_one (ps_ret (pv 1)))))))⟩

abbrev s_from_ends : Stmt := topS 46
abbrev N_from_ends : List Str := ["many", "lot", "trees", "top", "tree"]
theorem sc_from_ends : FnScope N_from_ends ["many", "lot"] (defScope s_from_ends) := ⟨rfl, rfl, rfl, by decide +kernel, rfl, by decide +kernel, by decide +kernel⟩
def bd_from_ends : Ev → Option Out := (sSeq (sExpr (eX (xFn fn_check_can_be (aCons (eVar 0) (aCons (eVar 1) aNil))))) (sSeq (sSet 2 (xLc (iAny (eX (xFn fn_tops (aCons (eVar 0) (aCons (eVar 1) aNil))))) (gN 3) bYes (eX (xFn fn_tree_under (aCons (eVar 0) (aCons (eVar 1) (aCons (eVar 3) aNil))))) [3])) (sRetX (xLc (iAny (eVar 2)) (gN 4) bYes (eTup (aCons (eX (xFn fn_seen_from_left (aCons (eVar 4) aNil))) (aCons (eX (xFn fn_seen_from_right (aCons (eVar 4) aNil))) (aCons (eX (xFn fn_count_orders (aCons (eVar 4) aNil))) aNil)))) [4]))))
def fn_from_ends : List PyData → Option Sl := fnS 2 3 bd_from_ends
theorem ok_from_ends (T : Top K mg) : OkAt P w K mg base 11 "from_ends" s_from_ends ["many", "lot"] (spS K fn_from_ends) := by
  obtain ⟨f, fd, F, b, g⟩ := T.d_from_ends
  obtain ⟨f_check_can_be, fd_check_can_be, F_check_can_be, b_check_can_be, g_check_can_be, G_check_can_be⟩ := ok_check_can_be (P := P) (w := w) (base := base) T
  obtain ⟨f_tops, fd_tops, F_tops, b_tops, g_tops, G_tops⟩ := ok_tops (P := P) (w := w) (base := base) T
  obtain ⟨f_tree_under, fd_tree_under, F_tree_under, b_tree_under, g_tree_under, G_tree_under⟩ := ok_tree_under (P := P) (w := w) (base := base) T
  obtain ⟨f_seen_from_left, fd_seen_from_left, F_seen_from_left, b_seen_from_left, g_seen_from_left, G_seen_from_left⟩ := ok_seen_from_left (P := P) (w := w) (base := base) T
  obtain ⟨f_seen_from_right, fd_seen_from_right, F_seen_from_right, b_seen_from_right, g_seen_from_right, G_seen_from_right⟩ := ok_seen_from_right (P := P) (w := w) (base := base) T
  obtain ⟨f_count_orders, fd_count_orders, F_count_orders, b_count_orders, g_count_orders, G_count_orders⟩ := ok_count_orders (P := P) (w := w) (base := base) T
  have hs : SS K _ bd_from_ends := (ss_seq (ss_expr (se_x (sx_fn (sa_cons se_var (sa_cons se_var sa_nil))))) (ss_seq (ss_set (sx_lc (by decide) (si_any (se_x (sx_fn (sa_cons se_var (sa_cons se_var sa_nil))))) sg_name (lcl_name (by decide)) mn_name st_yes (se_x (sx_fn (sa_cons se_var (sa_cons se_var (sa_cons se_var sa_nil))))))) (ss_retX (sx_lc (by decide) (si_any se_var) sg_name (lcl_name (by decide)) mn_name st_yes (se_tup (sa_cons (se_x (sx_fn (sa_cons se_var sa_nil))) (sa_cons (se_x (sx_fn (sa_cons se_var sa_nil))) (sa_cons (se_x (sx_fn (sa_cons se_var sa_nil))) sa_nil))))))))
  exact ⟨f, fd, F, b, g, okS hs F sc_from_ends rfl rfl (fun cdv A outer s H E hr => (pss_cons (ps_expr (pe_call G_check_can_be (hr.mono (by decide)) (by rfl) g_check_can_be F_check_can_be.kp b_check_can_be .nil pass0 (pa_cons (pv 0) (pa_cons (pv 1) pa_nil)))) (pss_cons (ps_setLc (i := 2) (own := [("top", 3)]) rfl sc_from_ends.nd rfl rfl (sw_true rfl rfl rfl (by decide +kernel)) (pi_any (pe_call G_tops (hr.mono (by decide)) (by rfl) g_tops F_tops.kp b_tops .nil pass0 (pa_cons (pv 0) (pa_cons (pv 1) pa_nil)))) (blkOk_by (N := N_from_ends) (sc := defScope s_from_ends) (by decide +kernel)) (fun _ _ _ _ _ => (pg_name (i := 3) sc_from_ends.nd rfl (by first | exact Or.inl rfl | exact Or.inr rfl))) (fun _ _ _ _ _ => pts_nil) (fun _ _ _ _ _ => (pe_call G_tree_under (hr.mono (by decide)) (by rfl) g_tree_under F_tree_under.kp b_tree_under .nil pass0 (pa_cons (pv 0) (pa_cons (pv 1) (pa_cons (pv 3) pa_nil)))))) (pss_one (ps_ret (pe_lc (own := [("tree", 4)]) rfl sc_from_ends.nd (pi_any (pv 2)) (blkOk_by (N := N_from_ends) (sc := defScope s_from_ends) (by decide +kernel)) (fun _ _ _ _ _ => (pg_name (i := 4) sc_from_ends.nd rfl (by first | exact Or.inl rfl | exact Or.inr rfl))) (fun _ _ _ _ _ => pts_nil) (fun _ _ _ _ _ => (pe_tup (pa_cons (pe_call G_seen_from_left (hr.mono (by decide)) (by rfl) g_seen_from_left F_seen_from_left.kp b_seen_from_left .nil pass0 (pa_cons (pv 4) pa_nil)) (pa_cons (pe_call G_seen_from_right (hr.mono (by decide)) (by rfl) g_seen_from_right F_seen_from_right.kp b_seen_from_right .nil pass0 (pa_cons (pv 4) pa_nil)) (pa_cons (pe_call G_count_orders (hr.mono (by decide)) (by rfl) g_count_orders F_count_orders.kp b_count_orders .nil pass0 (pa_cons (pv 4) pa_nil)) pa_nil)))))))))))⟩

abbrev s_check_many_seen_and_unseen : Stmt := topS 26
abbrev N_check_many_seen_and_unseen : List Str := ["many", "seen", "unseen"]
theorem sc_check_many_seen_and_unseen : FnScope N_check_many_seen_and_unseen ["many", "seen", "unseen"] (defScope s_check_many_seen_and_unseen) := ⟨rfl, rfl, rfl, by decide +kernel, rfl, by decide +kernel, by decide +kernel⟩
def bd_check_many_seen_and_unseen : Ev → Option Out := (sSeq (sExpr (eX (xFn fn_check_many (aCons (eVar 0) aNil)))) (sSeq (sExpr (eX (xFn fn_check_lot (aCons (eVar 0) (aCons (eVar 1) (aCons (eC (.str "seen")) aNil)))))) (sExpr (eX (xFn fn_check_lot (aCons (eVar 0) (aCons (eVar 2) (aCons (eC (.str "unseen")) aNil))))))))
def fn_check_many_seen_and_unseen : List PyData → Option Sl := fnS 3 0 bd_check_many_seen_and_unseen
theorem ok_check_many_seen_and_unseen (T : Top K mg) : OkAt P w K mg base 7 "check_many_seen_and_unseen" s_check_many_seen_and_unseen ["many", "seen", "unseen"] (spS K fn_check_many_seen_and_unseen) := by
  obtain ⟨f, fd, F, b, g⟩ := T.d_check_many_seen_and_unseen
  obtain ⟨f_check_many, fd_check_many, F_check_many, b_check_many, g_check_many, G_check_many⟩ := ok_check_many (P := P) (w := w) (base := base) T
  obtain ⟨f_check_lot, fd_check_lot, F_check_lot, b_check_lot, g_check_lot, G_check_lot⟩ := ok_check_lot (P := P) (w := w) (base := base) T
  have hs : SS K _ bd_check_many_seen_and_unseen := (ss_seq (ss_expr (se_x (sx_fn (sa_cons se_var sa_nil)))) (ss_seq (ss_expr (se_x (sx_fn (sa_cons se_var (sa_cons se_var (sa_cons se_str sa_nil)))))) (ss_expr (se_x (sx_fn (sa_cons se_var (sa_cons se_var (sa_cons se_str sa_nil))))))))
  exact ⟨f, fd, F, b, g, okS hs F sc_check_many_seen_and_unseen rfl rfl (fun cdv A outer s H E hr => (pss_cons (ps_expr (pe_call G_check_many (hr.mono (by decide)) (by rfl) g_check_many F_check_many.kp b_check_many .nil pass0 (pa_cons (pv 0) pa_nil))) (pss_cons (ps_expr (pe_call G_check_lot (hr.mono (by decide)) (by rfl) g_check_lot F_check_lot.kp b_check_lot .nil pass0 (pa_cons (pv 0) (pa_cons (pv 1) (pa_cons pe_str pa_nil))))) (pss_one (ps_expr (pe_call G_check_lot (hr.mono (by decide)) (by rfl) g_check_lot F_check_lot.kp b_check_lot .nil pass0 (pa_cons (pv 0) (pa_cons (pv 2) (pa_cons pe_str pa_nil)))))))))⟩

abbrev s_gaps_within : Stmt := topS 60
abbrev N_gaps_within : List Str := ["left", "right", "width", "start"]
theorem sc_gaps_within : FnScope N_gaps_within ["left", "right"] (defScope s_gaps_within) := ⟨rfl, rfl, rfl, by decide +kernel, rfl, by decide +kernel, by decide +kernel⟩
def bd_gaps_within : Ev → Option Out := (sRetX (xLc2 (iR2 (aCons (eC (.int 1)) (aCons (eX (xOps pAdd (eOp pSub (eVar 1) (eVar 0)) (eC (.int 1)))) aNil))) (gN 2) bYes (iR2 (aCons (eVar 0) (aCons (eX (xOps pAdd (eOp pSub (eVar 1) (eVar 2)) (eC (.int 1)))) aNil))) (gN 3) bYes (eTup (aCons (eVar 3) (aCons (eX (xOps pAdd (eVar 3) (eVar 2))) aNil))) [2, 3] [3]))
def fn_gaps_within : List PyData → Option Sl := fnS 2 2 bd_gaps_within
theorem ok_gaps_within (T : Top K mg) : OkAt P w K mg base 1 "gaps_within" s_gaps_within ["left", "right"] (spS K fn_gaps_within) := by
  obtain ⟨f, fd, F, b, g⟩ := T.d_gaps_within
  have hs : SS K _ bd_gaps_within := (ss_retX (sx_lc2 (by decide) (by decide) (si_rng2 (sa_cons se_int (sa_cons (se_x (sx_ops sr_add (se_op sr_sub se_var se_var) se_int)) sa_nil))) sg_name (lcl_name (by decide)) mn_name st_yes (si_rng2 (sa_cons se_var (sa_cons (se_x (sx_ops sr_add (se_op sr_sub se_var se_var) se_int)) sa_nil))) sg_name (lcl_name (by decide)) mn_name st_yes (se_tup (sa_cons se_var (sa_cons (se_x (sx_ops sr_add se_var se_var)) sa_nil)))))
  exact ⟨f, fd, F, b, g, okS hs F sc_gaps_within rfl rfl (fun cdv A outer s H E hr => (pss_one (ps_ret (pe_lc2 (own := [("width", 2), ("start", 3)]) (vs1 := [3]) rfl sc_gaps_within.nd (pi_range2 (by rfl) T.n_range (pa_cons pe_int (pa_cons (pe_op op_addA (pe_op op_sub (pv 1) (pv 0)) pe_int) pa_nil))) (blkOk_by (N := N_gaps_within) (sc := defScope s_gaps_within) (by decide +kernel)) (by decide) (fun _ _ _ _ _ => (pg_name (i := 2) sc_gaps_within.nd rfl (by first | exact Or.inl rfl | exact Or.inr rfl))) (fun _ _ _ _ _ => pts_nil) (fun _ _ _ _ _ => (pi_range2 (by rfl) T.n_range (pa_cons (pv 0) (pa_cons (pe_op op_addA (pe_op op_sub (pv 1) (pv 2)) pe_int) pa_nil)))) (fun _ _ _ _ _ => (pg_name (i := 3) sc_gaps_within.nd rfl (by first | exact Or.inl rfl | exact Or.inr rfl))) (fun _ _ _ _ _ => pts_nil) (fun _ _ _ _ _ => (pe_tup (pa_cons (pv 3) (pa_cons (pe_op op_addA (pv 3) (pv 2)) pa_nil))))))))⟩

abbrev s_FirstLot_bare : Stmt := (clsS 68 0)
abbrev N_FirstLot_bare : List Str := ["self"]
theorem sc_FirstLot_bare : FnScope N_FirstLot_bare ["self"] (defScope s_FirstLot_bare) := ⟨rfl, rfl, rfl, by decide +kernel, rfl, by decide +kernel, by decide +kernel⟩
def bd_FirstLot_bare : Ev → Option Out := (sRetX (xE (eTup aNil)))
def fn_FirstLot_bare : List Sl → Option Sl := fnF 1 0 bd_FirstLot_bare
theorem ok_FirstLot_bare (T : Top K mg) {C : Addr} (hC : mg "FirstLot" = some (.ref C)) : OkM P w K mg base 1 C "bare" "FirstLot.bare" s_FirstLot_bare ["self"] (spF K fn_FirstLot_bare) := by
  obtain ⟨f, fd, F, b, g⟩ := T.m_FirstLot_bare C hC
  have hs : SS K _ bd_FirstLot_bare := (ss_retX (sx_e (se_tup sa_nil)))
  exact ⟨f, fd, F, b, g, okF hs F sc_FirstLot_bare rfl rfl (fun cdv A outer s H E hr => (pss_one (ps_ret (pe_tup pa_nil))))⟩

abbrev s_FirstLot_joined : Stmt := (clsS 68 1)
abbrev N_FirstLot_joined : List Str := ["self", "own", "before", "behind"]
theorem sc_FirstLot_joined : FnScope N_FirstLot_joined ["self", "own", "before", "behind"] (defScope s_FirstLot_joined) := ⟨rfl, rfl, rfl, by decide +kernel, rfl, by decide +kernel, by decide +kernel⟩
def bd_FirstLot_joined : Ev → Option Out := (sRetX (xE (eCall pTuple (aCons (eX (xCall pSortB (aCons (eX (xOps pAdd (eX (xOps pAdd (eVar 2) (eVar 1))) (eVar 3))) aNil))) aNil))))
def fn_FirstLot_joined : List Sl → Option Sl := fnF 4 0 bd_FirstLot_joined
theorem ok_FirstLot_joined (T : Top K mg) {C : Addr} (hC : mg "FirstLot" = some (.ref C)) : OkM P w K mg base 1 C "joined" "FirstLot.joined" s_FirstLot_joined ["self", "own", "before", "behind"] (spF K fn_FirstLot_joined) := by
  obtain ⟨f, fd, F, b, g⟩ := T.m_FirstLot_joined C hC
  have hs : SS K _ bd_FirstLot_joined := (ss_retX (sx_e (se_callB sr_tuple (sa_cons (se_x (sx_callB sr_sortB (sa_cons (se_x (sx_ops sr_add (se_x (sx_ops sr_add se_var se_var)) se_var)) sa_nil))) sa_nil))))
  exact ⟨f, fd, F, b, g, okF hs F sc_FirstLot_joined rfl rfl (fun cdv A outer s H E hr => (pss_one (ps_ret (pe_callTy c_tuple (by rfl) T.n_tuple boot_tuple (pa_cons (pe_callB (cr_sortedB (hu65 hr)) (by rfl) T.n_sorted boot_sorted (pa_cons (pe_op op_addA (pe_op op_addA (pv 2) (pv 1)) (pv 3)) pa_nil)) pa_nil)))))⟩

abbrev s_sights_to_sides : Stmt := topS 62
abbrev N_sights_to_sides : List Str := ["many", "gap", "house", "to_left", "to_right", "left", "right"]
theorem sc_sights_to_sides : FnScope N_sights_to_sides ["many", "gap", "house"] (defScope s_sights_to_sides) := ⟨rfl, rfl, rfl, by decide +kernel, rfl, by decide +kernel, by decide +kernel⟩
def bd_sights_to_sides : Ev → Option Out := (sSeq (sAsg (eVar 1) (gT 2 (gsCons (gN 5) (gsCons (gN 6) gsNil)))) (sSeq (sSet 3 (xE (eIf (bB (eOp pGe (eVar 5) (eC (.int 0)))) (eTup (aCons (eTup (aCons (eVar 5) (aCons (eVar 2) aNil))) aNil)) (eTup aNil)))) (sSeq (sSet 4 (xE (eIf (bB (eOp pLt (eVar 6) (eVar 0))) (eTup (aCons (eTup (aCons (eVar 2) (aCons (eVar 6) aNil))) aNil)) (eTup aNil)))) (sRetX (xOps pAdd (eVar 3) (eVar 4))))))
def fn_sights_to_sides : List PyData → Option Sl := fnS 3 4 bd_sights_to_sides
theorem ok_sights_to_sides (T : Top K mg) : OkAt P w K mg base 1 "sights_to_sides" s_sights_to_sides ["many", "gap", "house"] (spS K fn_sights_to_sides) := by
  obtain ⟨f, fd, F, b, g⟩ := T.d_sights_to_sides
  have hs : SS K _ bd_sights_to_sides := (ss_seq (ss_asg se_var (sg_tup (sgs_cons sg_name (sgs_cons sg_name sgs_nil)))) (ss_seq (ss_set (sx_e (se_if (st_t (se_op sr_ge se_var se_int)) (se_tup (sa_cons (se_tup (sa_cons se_var (sa_cons se_var sa_nil))) sa_nil)) (se_tup sa_nil)))) (ss_seq (ss_set (sx_e (se_if (st_t (se_op sr_lt se_var se_var)) (se_tup (sa_cons (se_tup (sa_cons se_var (sa_cons se_var sa_nil))) sa_nil)) (se_tup sa_nil)))) (ss_retX (sx_ops sr_add se_var se_var)))))
  exact ⟨f, fd, F, b, g, okS hs F sc_sights_to_sides rfl rfl (fun cdv A outer s H E hr => (pss_cons (ps_asg (pv 1) (pg_tup rfl (pgs_cons (pg_name (i := 5) sc_sights_to_sides.nd rfl (by first | exact Or.inl rfl | exact Or.inr rfl)) (pgs_cons (pg_name (i := 6) sc_sights_to_sides.nd rfl (by first | exact Or.inl rfl | exact Or.inr rfl)) pgs_nil)))) (pss_cons (ps_set (i := 3) sc_sights_to_sides.nd rfl (by first | exact Or.inl rfl | exact Or.inr rfl) (pe_ifExp (pt_cmpR op_ge (pv 5) pe_int (nomark _)) (pe_tup (pa_cons (pe_tup (pa_cons (pv 5) (pa_cons (pv 2) pa_nil))) pa_nil)) (pe_tup pa_nil))) (pss_cons (ps_set (i := 4) sc_sights_to_sides.nd rfl (by first | exact Or.inl rfl | exact Or.inr rfl) (pe_ifExp (pt_cmpR (op_ltA hr.units0) (pv 6) (pv 0) (nomark _)) (pe_tup (pa_cons (pe_tup (pa_cons (pv 2) (pa_cons (pv 6) pa_nil))) pa_nil)) (pe_tup pa_nil))) (pss_one (ps_ret (pe_op op_addA (pv 3) (pv 4))))))))⟩

abbrev s_houses_that_fit : Stmt := topS 63
abbrev N_houses_that_fit : List Str := ["seen", "unseen", "gap", "inside", "left", "right", "house", "one", "other"]
theorem sc_houses_that_fit : FnScope N_houses_that_fit ["seen", "unseen", "gap"] (defScope s_houses_that_fit) := ⟨rfl, rfl, rfl, by decide +kernel, rfl, by decide +kernel, by decide +kernel⟩
def bd_houses_that_fit : Ev → Option Out := (sSeq (sAsg (eVar 2) (gT 2 (gsCons (gN 4) (gsCons (gN 5) gsNil)))) (sSeq (sSet 3 (xLc (iAny (eVar 0)) (gT 2 (gsCons (gN 7) (gsCons (gN 8) gsNil))) (bAnd (bB (eOp pLe (eVar 4) (eVar 7))) (bAnd (bB (eOp pLe (eVar 8) (eVar 5))) (bB (eOp pNe (eTup (aCons (eVar 7) (aCons (eVar 8) aNil))) (eVar 2))))) (eTup (aCons (eVar 7) (aCons (eVar 8) aNil))) [7, 8])) (sRetX (xLc (iR2 (aCons (eX (xOps pAdd (eVar 4) (eC (.int 1)))) (aCons (eVar 5) aNil))) (gN 6) (bAnd (bB (eOp (pIn true) (eTup (aCons (eVar 4) (aCons (eVar 6) aNil))) (eVar 1))) (bAnd (bB (eOp (pIn true) (eTup (aCons (eVar 6) (aCons (eVar 5) aNil))) (eVar 1))) (bNot (bTru (eCall pAny (aCons (eX (xLc (iAny (eVar 3)) (gT 2 (gsCons (gN 7) (gsCons (gN 8) gsNil))) bYes (eChain pLt pLt (eVar 7) (eVar 6) (eVar 8)) [7, 8])) aNil)))))) (eVar 6) [6]))))
def fn_houses_that_fit : List PyData → Option Sl := fnS 3 6 bd_houses_that_fit
theorem ok_houses_that_fit (T : Top K mg) : OkAt P w K mg base 1 "houses_that_fit" s_houses_that_fit ["seen", "unseen", "gap"] (spS K fn_houses_that_fit) := by
  obtain ⟨f, fd, F, b, g⟩ := T.d_houses_that_fit
  have hs : SS K _ bd_houses_that_fit := (ss_seq (ss_asg se_var (sg_tup (sgs_cons sg_name (sgs_cons sg_name sgs_nil)))) (ss_seq (ss_set (sx_lc (by decide) (si_any se_var) (sg_tup (sgs_cons sg_name (sgs_cons sg_name sgs_nil))) (lcl_tup (lcls_cons mn_name (mns_cons mn_name mns_nil) (lcl_name (by decide)) (lcls_cons mn_name mns_nil (lcl_name (by decide)) lcls_nil))) (mn_tup (mns_cons mn_name (mns_cons mn_name mns_nil))) (st_and (st_t (se_op sr_le se_var se_var)) (st_and (st_t (se_op sr_le se_var se_var)) (st_t (se_op sr_ne (se_tup (sa_cons se_var (sa_cons se_var sa_nil))) se_var)))) (se_tup (sa_cons se_var (sa_cons se_var sa_nil))))) (ss_retX (sx_lc (by decide) (si_rng2 (sa_cons (se_x (sx_ops sr_add se_var se_int)) (sa_cons se_var sa_nil))) sg_name (lcl_name (by decide)) mn_name (st_and (st_t (se_op sr_notIn (se_tup (sa_cons se_var (sa_cons se_var sa_nil))) se_var)) (st_and (st_t (se_op sr_notIn (se_tup (sa_cons se_var (sa_cons se_var sa_nil))) se_var)) (st_not (st_tru (se_callB sr_any (sa_cons (se_x (sx_lc (by decide) (si_any se_var) (sg_tup (sgs_cons sg_name (sgs_cons sg_name sgs_nil))) (lcl_tup (lcls_cons mn_name (mns_cons mn_name mns_nil) (lcl_name (by decide)) (lcls_cons mn_name mns_nil (lcl_name (by decide)) lcls_nil))) (mn_tup (mns_cons mn_name (mns_cons mn_name mns_nil))) st_yes (se_chain sr_lt sr_lt se_var se_var se_var))) sa_nil)))))) se_var))))
  exact ⟨f, fd, F, b, g, okS hs F sc_houses_that_fit rfl rfl (fun cdv A outer s H E hr => (pss_cons (ps_asg (pv 2) (pg_tup rfl (pgs_cons (pg_name (i := 4) sc_houses_that_fit.nd rfl (by first | exact Or.inl rfl | exact Or.inr rfl)) (pgs_cons (pg_name (i := 5) sc_houses_that_fit.nd rfl (by first | exact Or.inl rfl | exact Or.inr rfl)) pgs_nil)))) (pss_cons (ps_set (i := 3) sc_houses_that_fit.nd rfl (by first | exact Or.inl rfl | exact Or.inr rfl) (pe_lc (own := [("one", 7), ("other", 8)]) rfl sc_houses_that_fit.nd (pi_any (pv 0)) (blkOk_by (N := N_houses_that_fit) (sc := defScope s_houses_that_fit) (by decide +kernel)) (fun _ _ _ _ _ => (pg_tup rfl (pgs_cons (pg_name (i := 7) sc_houses_that_fit.nd rfl (by first | exact Or.inl rfl | exact Or.inr rfl)) (pgs_cons (pg_name (i := 8) sc_houses_that_fit.nd rfl (by first | exact Or.inl rfl | exact Or.inr rfl)) pgs_nil)))) (fun _ _ _ _ _ => (pts_one (PW.pt (pw_and (pt_cmpR op_le (pv 4) (pv 7) (nomark _)) (pw_and (pt_cmpR op_le (pv 8) (pv 5) (nomark _)) (pw_and1 (pt_cmpR (op_neD hr.units) (pe_tup (pa_cons (pv 7) (pa_cons (pv 8) pa_nil))) (pv 2) (nomark _)))))))) (fun _ _ _ _ _ => (pe_tup (pa_cons (pv 7) (pa_cons (pv 8) pa_nil)))))) (pss_one (ps_ret (pe_lc (own := [("house", 6)]) rfl sc_houses_that_fit.nd (pi_range2 (by rfl) T.n_range (pa_cons (pe_op op_addA (pv 4) pe_int) (pa_cons (pv 5) pa_nil))) (blkOk_by (N := N_houses_that_fit) (sc := defScope s_houses_that_fit) (by decide +kernel)) (fun _ _ _ _ _ => (pg_name (i := 6) sc_houses_that_fit.nd rfl (by first | exact Or.inl rfl | exact Or.inr rfl))) (fun _ _ _ _ _ => (pts_one (PW.pt (pw_and (pt_cmpR (op_notInA (hu65 hr)) (pe_tup (pa_cons (pv 4) (pa_cons (pv 6) pa_nil))) (pv 1) (by rfl)) (pw_and (pt_cmpR (op_notInA (hu65 hr)) (pe_tup (pa_cons (pv 6) (pa_cons (pv 5) pa_nil))) (pv 1) (by rfl)) (pw_and1 (pt_not (pt_tru (pe_callB (cr_any rfl) (by rfl) T.n_any boot_any (pa_cons (pe_lc (own := [("one", 7), ("other", 8)]) rfl sc_houses_that_fit.nd (pi_any (pv 3)) (blk_of (N := N_houses_that_fit) (sc := defScope s_houses_that_fit) (by decide +kernel)) (fun _ _ _ _ _ => (pg_tup rfl (pgs_cons (pg_name (i := 7) sc_houses_that_fit.nd rfl (by first | exact Or.inl rfl | exact Or.inr rfl)) (pgs_cons (pg_name (i := 8) sc_houses_that_fit.nd rfl (by first | exact Or.inl rfl | exact Or.inr rfl)) pgs_nil)))) (fun _ _ _ _ _ => pts_nil) (fun _ _ _ _ _ => (pe_chain (op_ltA hr.units0) (op_ltA hr.units0) (pv 7) (pv 6) (pv 8)))) pa_nil)))))))))) (fun _ _ _ _ _ => (pv 6))))))))⟩

abbrev s_parts_of_gap_FirstLot : Stmt := topS 61
abbrev N_parts_of_gap_FirstLot : List Str := ["many", "seen", "unseen", "gap", "maker", "made", "left", "right", "house"]
theorem sc_parts_of_gap_FirstLot : FnScope N_parts_of_gap_FirstLot ["many", "seen", "unseen", "gap", "maker", "made"] (defScope s_parts_of_gap_FirstLot) := ⟨rfl, rfl, rfl, by decide +kernel, rfl, by decide +kernel, by decide +kernel⟩
def bd_parts_of_gap_FirstLot : Ev → Option Out := (sSeq (sAsg (eVar 3) (gT 2 (gsCons (gN 6) (gsCons (gN 7) gsNil)))) (sRetX (xLc (iAny (eX (xFn fn_houses_that_fit (aCons (eVar 1) (aCons (eVar 2) (aCons (eVar 3) aNil)))))) (gN 8) (bAnd (bB (eOp (pIs true) (eDGet 5 (eTup (aCons (eVar 6) (aCons (eVar 8) aNil)))) (eC .none))) (bB (eOp (pIs true) (eDGet 5 (eTup (aCons (eVar 8) (aCons (eVar 7) aNil)))) (eC .none)))) (eX (xMeth "FirstLot" 4 fn_FirstLot_joined (asSh (eX (xFn fn_sights_to_sides (aCons (eVar 0) (aCons (eVar 3) (aCons (eVar 8) aNil))))) (asSh (eDGet 5 (eTup (aCons (eVar 6) (aCons (eVar 8) aNil)))) (asSh (eDGet 5 (eTup (aCons (eVar 8) (aCons (eVar 7) aNil)))) asNil))))) [8])))
def fn_parts_of_gap_FirstLot : List Sl → Option Sl := fnF 6 3 bd_parts_of_gap_FirstLot
theorem ok_parts_of_gap_FirstLot (T : Top K mg) : OkAt P w K mg base 2 "parts_of_gap" s_parts_of_gap_FirstLot ["many", "seen", "unseen", "gap", "maker", "made"] (spF K fn_parts_of_gap_FirstLot) := by
  obtain ⟨f, fd, F, b, g⟩ := T.d_parts_of_gap
  obtain ⟨C_FirstLot, h_FirstLot⟩ := T.e_FirstLot
  have k_FirstLot := T.k_FirstLot C_FirstLot h_FirstLot
  obtain ⟨f_houses_that_fit, fd_houses_that_fit, F_houses_that_fit, b_houses_that_fit, g_houses_that_fit, G_houses_that_fit⟩ := ok_houses_that_fit (P := P) (w := w) (base := base) T
  obtain ⟨f_FirstLot_joined, fd_FirstLot_joined, F_FirstLot_joined, b_FirstLot_joined, m_FirstLot_joined, G_FirstLot_joined⟩ := ok_FirstLot_joined (P := P) (w := w) (base := base) T h_FirstLot
  obtain ⟨f_sights_to_sides, fd_sights_to_sides, F_sights_to_sides, b_sights_to_sides, g_sights_to_sides, G_sights_to_sides⟩ := ok_sights_to_sides (P := P) (w := w) (base := base) T
  have hs : SS K _ bd_parts_of_gap_FirstLot := (ss_seq (ss_asg se_var (sg_tup (sgs_cons sg_name (sgs_cons sg_name sgs_nil)))) (ss_retX (sx_lc (by decide) (si_any (se_x (sx_fn (sa_cons se_var (sa_cons se_var (sa_cons se_var sa_nil)))))) sg_name (lcl_name (by decide)) mn_name (st_and (st_t (se_op sr_isnot (se_dget (se_tup (sa_cons se_var (sa_cons se_var sa_nil)))) se_non)) (st_t (se_op sr_isnot (se_dget (se_tup (sa_cons se_var (sa_cons se_var sa_nil)))) se_non))) (se_x (sx_meth (m := "joined") k_FirstLot.ns (sas_sh (se_x (sx_fn (sa_cons se_var (sa_cons se_var (sa_cons se_var sa_nil))))) (sas_sh (se_dget (se_tup (sa_cons se_var (sa_cons se_var sa_nil)))) (sas_sh (se_dget (se_tup (sa_cons se_var (sa_cons se_var sa_nil)))) sas_nil))))))))
  exact ⟨f, fd, F, b, g, okF hs F sc_parts_of_gap_FirstLot rfl rfl (fun cdv A outer s H E hr => (pss_cons (ps_asg (pv 3) (pg_tup rfl (pgs_cons (pg_name (i := 6) sc_parts_of_gap_FirstLot.nd rfl (by first | exact Or.inl rfl | exact Or.inr rfl)) (pgs_cons (pg_name (i := 7) sc_parts_of_gap_FirstLot.nd rfl (by first | exact Or.inl rfl | exact Or.inr rfl)) pgs_nil)))) (pss_one (ps_ret (pe_lc (own := [("house", 8)]) rfl sc_parts_of_gap_FirstLot.nd (pi_any (pe_call G_houses_that_fit (hr.mono (by decide)) (by rfl) g_houses_that_fit F_houses_that_fit.kp b_houses_that_fit .nil pass0 (pa_cons (pv 1) (pa_cons (pv 2) (pa_cons (pv 3) pa_nil))))) (blkOk_by (N := N_parts_of_gap_FirstLot) (sc := defScope s_parts_of_gap_FirstLot) (by decide +kernel)) (fun _ _ _ _ _ => (pg_name (i := 8) sc_parts_of_gap_FirstLot.nd rfl (by first | exact Or.inl rfl | exact Or.inr rfl))) (fun _ _ _ _ _ => (pts_one (PW.pt (pw_and (pt_cmpR op_isnotA (pe_dgN (hu65 hr) (pv 5) (pe_tup (pa_cons (pv 6) (pa_cons (pv 8) pa_nil)))) pe_non (nomark _)) (pw_and1 (pt_cmpR op_isnotA (pe_dgN (hu65 hr) (pv 5) (pe_tup (pa_cons (pv 8) (pa_cons (pv 7) pa_nil)))) pe_non (nomark _))))))) (fun _ _ _ _ _ => (pe_meth (pv 4) k_FirstLot.cls m_FirstLot_joined G_FirstLot_joined (hr.mono (by decide)) b_FirstLot_joined .nil pass0 (pa_cons (pe_call G_sights_to_sides (hr.mono (by decide)) (by rfl) g_sights_to_sides F_sights_to_sides.kp b_sights_to_sides .nil pass0 (pa_cons (pv 0) (pa_cons (pv 3) (pa_cons (pv 8) pa_nil)))) (pa_cons (pe_dgN (hu65 hr) (pv 5) (pe_tup (pa_cons (pv 6) (pa_cons (pv 8) pa_nil)))) (pa_cons (pe_dgN (hu65 hr) (pv 5) (pe_tup (pa_cons (pv 8) (pa_cons (pv 7) pa_nil)))) pa_nil))))))))))⟩

abbrev s_FirstLot_chosen : Stmt := (clsS 68 2)
abbrev N_FirstLot_chosen : List Str := ["self", "parts"]
theorem sc_FirstLot_chosen : FnScope N_FirstLot_chosen ["self", "parts"] (defScope s_FirstLot_chosen) := ⟨rfl, rfl, rfl, by decide +kernel, rfl, by decide +kernel, by decide +kernel⟩
def bd_FirstLot_chosen : Ev → Option Out := (sRetX (xE (eCall pMinD (aCons (eVar 1) aNil))))
def fn_FirstLot_chosen : List Sl → Option Sl := fnF 2 0 bd_FirstLot_chosen
theorem ok_FirstLot_chosen (T : Top K mg) {C : Addr} (hC : mg "FirstLot" = some (.ref C)) : OkM P w K mg base 1 C "chosen" "FirstLot.chosen" s_FirstLot_chosen ["self", "parts"] (spF K fn_FirstLot_chosen) := by
  obtain ⟨f, fd, F, b, g⟩ := T.m_FirstLot_chosen C hC
  have hs : SS K _ bd_FirstLot_chosen := (ss_retX (sx_e (se_callB sr_minD (sa_cons se_var sa_nil))))
  exact ⟨f, fd, F, b, g, okF hs F sc_FirstLot_chosen rfl rfl (fun cdv A outer s H E hr => (pss_one (ps_ret (pe_callB (cr_minD rfl (hu65 hr)) (by rfl) T.n_min boot_min (pa_cons (pv 1) pa_nil)))))⟩

abbrev s_made_of_trees_FirstLot : Stmt := topS 59
abbrev N_made_of_trees_FirstLot : List Str := ["many", "seen", "unseen", "left", "maker", "made", "gap", "parts"]
theorem sc_made_of_trees_FirstLot : FnScope N_made_of_trees_FirstLot ["many", "seen", "unseen", "left", "maker"] (defScope s_made_of_trees_FirstLot) := ⟨rfl, rfl, rfl, by decide +kernel, rfl, by decide +kernel, by decide +kernel⟩
def bd_made_of_trees_FirstLot : Ev → Option Out := (sSeq (sSet 5 xDict) (sSeq (sFor (iAny (eX (xFn fn_gaps_within (aCons (eVar 3) (aCons (eVar 0) aNil))))) (gN 6) (sIf (bB (eOp pEq (eOp pSub (eIxV 6 (eC (.int 1))) (eIxV 6 (eC (.int 0)))) (eC (.int 1)))) (sDPut 5 (eX (xMeth "FirstLot" 4 fn_FirstLot_bare asNil)) (eVar 6)) (sSeq (sSet 7 (xFnF fn_parts_of_gap_FirstLot (asSh (eVar 0) (asSh (eVar 1) (asSh (eVar 2) (asSh (eVar 6) (asV 4 (asV 5 asNil)))))))) (sDPut 5 (eIf (bTru (eVar 7)) (eX (xMeth "FirstLot" 4 fn_FirstLot_chosen (asSh (eVar 7) asNil))) (eC .none)) (eVar 6))))) (sRetX (xE (eDGet 5 (eTup (aCons (eVar 3) (aCons (eVar 0) aNil))))))))
def fn_made_of_trees_FirstLot : List Sl → Option Sl := fnF 5 3 bd_made_of_trees_FirstLot
theorem ok_made_of_trees_FirstLot (T : Top K mg) : OkAt P w K mg base 3 "made_of_trees" s_made_of_trees_FirstLot ["many", "seen", "unseen", "left", "maker"] (spF K fn_made_of_trees_FirstLot) := by
  obtain ⟨f, fd, F, b, g⟩ := T.d_made_of_trees
  obtain ⟨C_FirstLot, h_FirstLot⟩ := T.e_FirstLot
  have k_FirstLot := T.k_FirstLot C_FirstLot h_FirstLot
  obtain ⟨f_gaps_within, fd_gaps_within, F_gaps_within, b_gaps_within, g_gaps_within, G_gaps_within⟩ := ok_gaps_within (P := P) (w := w) (base := base) T
  obtain ⟨f_FirstLot_bare, fd_FirstLot_bare, F_FirstLot_bare, b_FirstLot_bare, m_FirstLot_bare, G_FirstLot_bare⟩ := ok_FirstLot_bare (P := P) (w := w) (base := base) T h_FirstLot
  obtain ⟨f_parts_of_gap_FirstLot, fd_parts_of_gap_FirstLot, F_parts_of_gap_FirstLot, b_parts_of_gap_FirstLot, g_parts_of_gap_FirstLot, G_parts_of_gap_FirstLot⟩ := ok_parts_of_gap_FirstLot (P := P) (w := w) (base := base) T
  obtain ⟨f_FirstLot_chosen, fd_FirstLot_chosen, F_FirstLot_chosen, b_FirstLot_chosen, m_FirstLot_chosen, G_FirstLot_chosen⟩ := ok_FirstLot_chosen (P := P) (w := w) (base := base) T h_FirstLot
  have hs : SS K _ bd_made_of_trees_FirstLot := (ss_seq (ss_set sx_dict) (ss_seq (ss_for (si_any (se_x (sx_fn (sa_cons se_var (sa_cons se_var sa_nil))))) sg_name (ss_if (st_t (se_op sr_eq (se_op sr_sub (se_ixv se_int) (se_ixv se_int)) se_int)) (ss_dput (se_x (sx_meth (m := "bare") k_FirstLot.ns sas_nil)) se_var) (ss_seq (ss_set (sx_fnF (sas_sh se_var (sas_sh se_var (sas_sh se_var (sas_sh se_var (sas_v (sas_v sas_nil)))))))) (ss_dput (se_if (st_tru se_var) (se_x (sx_meth (m := "chosen") k_FirstLot.ns (sas_sh se_var sas_nil))) se_non) se_var)))) (ss_retX (sx_e (se_dget (se_tup (sa_cons se_var (sa_cons se_var sa_nil))))))))
  exact ⟨f, fd, F, b, g, okF hs F sc_made_of_trees_FirstLot rfl rfl (fun cdv A outer s H E hr => (pss_cons (ps_set (i := 5) sc_made_of_trees_FirstLot.nd rfl (by first | exact Or.inl rfl | exact Or.inr rfl) pe_dnewN) (pss_cons (ps_for PassesOwn.never rfl (pi_any (pe_call G_gaps_within (hr.mono (by decide)) (by rfl) g_gaps_within F_gaps_within.kp b_gaps_within .nil pass0 (pa_cons (pv 3) (pa_cons (pv 0) pa_nil)))) (pg_name (i := 6) sc_made_of_trees_FirstLot.nd rfl (by first | exact Or.inl rfl | exact Or.inr rfl)) (pss_one (ps_if (pt_cmpR (op_eqD hr.units) (pe_op op_sub (pe_ix ix_seq (pv 6) pe_int (fun _ _ => rfl)) (pe_ix ix_seq (pv 6) pe_int (fun _ _ => rfl))) pe_int (nomark _)) (pss_one (ps_dpN (hu65 hr) (pv 5) (pv 6) (pe_meth0 (pv 4) k_FirstLot.cls m_FirstLot_bare G_FirstLot_bare (hr.mono (by decide)) b_FirstLot_bare .nil pass0))) (pss_cons (ps_set (i := 7) sc_made_of_trees_FirstLot.nd rfl (by first | exact Or.inl rfl | exact Or.inr rfl) (pe_call G_parts_of_gap_FirstLot (hr.mono (by decide)) (by rfl) g_parts_of_gap_FirstLot F_parts_of_gap_FirstLot.kp b_parts_of_gap_FirstLot .nil pass0 (pa_cons (pv 0) (pa_cons (pv 1) (pa_cons (pv 2) (pa_cons (pv 6) (pa_cons (pv 4) (pa_cons (pv 5) pa_nil)))))))) (pss_one (ps_dpN (hu65 hr) (pv 5) (pv 6) (pe_ifExp (pt_tru (pv 7)) (pe_meth (pv 4) k_FirstLot.cls m_FirstLot_chosen G_FirstLot_chosen (hr.mono (by decide)) b_FirstLot_chosen .nil pass0 (pa_cons (pv 7) pa_nil)) pe_non))))))) (pss_one (ps_ret (pe_dgN (hu65 hr) (pv 5) (pe_tup (pa_cons (pv 3) (pa_cons (pv 0) pa_nil)))))))))⟩

abbrev s_first_with : Stmt := topS 66
abbrev N_first_with : List Str := ["many", "seen", "unseen"]
theorem sc_first_with : FnScope N_first_with ["many", "seen", "unseen"] (defScope s_first_with) := ⟨rfl, rfl, rfl, by decide +kernel, rfl, by decide +kernel, by decide +kernel⟩
def bd_first_with : Ev → Option Out := (sSeq (sExpr (eX (xFn fn_check_many_seen_and_unseen (aCons (eVar 0) (aCons (eVar 1) (aCons (eVar 2) aNil)))))) (sRetX (xFnF fn_made_of_trees_FirstLot (asSh (eVar 0) (asSh (eVar 1) (asSh (eVar 2) (asSh (eC (.int 0)) (asMk "FirstLot" asNil))))))))
def fn_first_with : List PyData → Option Sl := fnS 3 0 bd_first_with
theorem ok_first_with (T : Top K mg) : OkAt P w K mg base 8 "first_with" s_first_with ["many", "seen", "unseen"] (spS K fn_first_with) := by
  obtain ⟨f, fd, F, b, g⟩ := T.d_first_with
  obtain ⟨C_FirstLot, h_FirstLot⟩ := T.e_FirstLot
  have k_FirstLot := T.k_FirstLot C_FirstLot h_FirstLot
  obtain ⟨f_check_many_seen_and_unseen, fd_check_many_seen_and_unseen, F_check_many_seen_and_unseen, b_check_many_seen_and_unseen, g_check_many_seen_and_unseen, G_check_many_seen_and_unseen⟩ := ok_check_many_seen_and_unseen (P := P) (w := w) (base := base) T
  obtain ⟨f_made_of_trees_FirstLot, fd_made_of_trees_FirstLot, F_made_of_trees_FirstLot, b_made_of_trees_FirstLot, g_made_of_trees_FirstLot, G_made_of_trees_FirstLot⟩ := ok_made_of_trees_FirstLot (P := P) (w := w) (base := base) T
  have hs : SS K _ bd_first_with := (ss_seq (ss_expr (se_x (sx_fn (sa_cons se_var (sa_cons se_var (sa_cons se_var sa_nil)))))) (ss_retX (sx_fnF (sas_sh se_var (sas_sh se_var (sas_sh se_var (sas_sh se_int (sas_mk k_FirstLot.ns sas_nil))))))))
  exact ⟨f, fd, F, b, g, okS hs F sc_first_with rfl rfl (fun cdv A outer s H E hr => (pss_cons (ps_expr (pe_call G_check_many_seen_and_unseen (hr.mono (by decide)) (by rfl) g_check_many_seen_and_unseen F_check_many_seen_and_unseen.kp b_check_many_seen_and_unseen .nil pass0 (pa_cons (pv 0) (pa_cons (pv 1) (pa_cons (pv 2) pa_nil))))) (pss_one (ps_ret (pe_call G_made_of_trees_FirstLot (hr.mono (by decide)) (by rfl) g_made_of_trees_FirstLot F_made_of_trees_FirstLot.kp b_made_of_trees_FirstLot .nil pass0 (pa_cons (pv 0) (pa_cons (pv 1) (pa_cons (pv 2) (pa_cons pe_int (pa_cons (pe_mk0 k_FirstLot.mk0 (by rfl) h_FirstLot) pa_nil))))))))))⟩

abbrev s_highest : Stmt := topS 44
abbrev N_highest : List Str := ["many", "lot", "top"]
theorem sc_highest : FnScope N_highest ["many", "lot"] (defScope s_highest) := ⟨rfl, rfl, rfl, by decide +kernel, rfl, by decide +kernel, by decide +kernel⟩
def bd_highest : Ev → Option Out := (sSeq (sIf (bNot (bTru (eX (xFn fn_can_be (aCons (eVar 0) (aCons (eVar 1) aNil)))))) (sRetX (xLst aNil)) sNil) (sRetX (xLc (iAny (eX (xFn fn_tops (aCons (eVar 0) (aCons (eVar 1) aNil))))) (gN 2) bYes (eTup (aCons (eVar 2) (aCons (eX (xFn fn_count_orders (aCons (eX (xFn fn_tree_under (aCons (eVar 0) (aCons (eVar 1) (aCons (eVar 2) aNil))))) aNil))) aNil))) [2])))
def fn_highest : List PyData → Option Sl := fnS 2 1 bd_highest
theorem ok_highest (T : Top K mg) : OkAt P w K mg base 10 "highest" s_highest ["many", "lot"] (spS K fn_highest) := by
  obtain ⟨f, fd, F, b, g⟩ := T.d_highest
  obtain ⟨f_can_be, fd_can_be, F_can_be, b_can_be, g_can_be, G_can_be⟩ := ok_can_be (P := P) (w := w) (base := base) T
  obtain ⟨f_tops, fd_tops, F_tops, b_tops, g_tops, G_tops⟩ := ok_tops (P := P) (w := w) (base := base) T
  obtain ⟨f_count_orders, fd_count_orders, F_count_orders, b_count_orders, g_count_orders, G_count_orders⟩ := ok_count_orders (P := P) (w := w) (base := base) T
  obtain ⟨f_tree_under, fd_tree_under, F_tree_under, b_tree_under, g_tree_under, G_tree_under⟩ := ok_tree_under (P := P) (w := w) (base := base) T
  have hs : SS K _ bd_highest := (ss_seq (ss_if (st_not (st_tru (se_x (sx_fn (sa_cons se_var (sa_cons se_var sa_nil)))))) (ss_retX (sx_lst sa_nil)) ss_nil) (ss_retX (sx_lc (by decide) (si_any (se_x (sx_fn (sa_cons se_var (sa_cons se_var sa_nil))))) sg_name (lcl_name (by decide)) mn_name st_yes (se_tup (sa_cons se_var (sa_cons (se_x (sx_fn (sa_cons (se_x (sx_fn (sa_cons se_var (sa_cons se_var (sa_cons se_var sa_nil))))) sa_nil))) sa_nil))))))
  exact ⟨f, fd, F, b, g, okS hs F sc_highest rfl rfl (fun cdv A outer s H E hr => (pss_cons (ps_if (pt_not (pt_tru (pe_call G_can_be (hr.mono (by decide)) (by rfl) g_can_be F_can_be.kp b_can_be .nil pass0 (pa_cons (pv 0) (pa_cons (pv 1) pa_nil))))) (pss_one (ps_ret (pe_lst pa_nil))) pss_nil) (pss_one (ps_ret (pe_lc (own := [("top", 2)]) rfl sc_highest.nd (pi_any (pe_call G_tops (hr.mono (by decide)) (by rfl) g_tops F_tops.kp b_tops .nil pass0 (pa_cons (pv 0) (pa_cons (pv 1) pa_nil)))) (blkOk_by (N := N_highest) (sc := defScope s_highest) (by decide +kernel)) (fun _ _ _ _ _ => (pg_name (i := 2) sc_highest.nd rfl (by first | exact Or.inl rfl | exact Or.inr rfl))) (fun _ _ _ _ _ => pts_nil) (fun _ _ _ _ _ => (pe_tup (pa_cons (pv 2) (pa_cons (pe_call G_count_orders (hr.mono (by decide)) (by rfl) g_count_orders F_count_orders.kp b_count_orders .nil pass0 (pa_cons (pe_call G_tree_under (hr.mono (by decide)) (by rfl) g_tree_under F_tree_under.kp b_tree_under .nil pass0 (pa_cons (pv 0) (pa_cons (pv 1) (pa_cons (pv 2) pa_nil)))) pa_nil)) pa_nil)))))))))⟩

abbrev s_how_many : Stmt := topS 42
abbrev N_how_many : List Str := ["many", "lot", "house", "count"]
theorem sc_how_many : FnScope N_how_many ["many", "lot"] (defScope s_how_many) := ⟨rfl, rfl, rfl, by decide +kernel, rfl, by decide +kernel, by decide +kernel⟩
def bd_how_many : Ev → Option Out := (sRetX (xE (eCall pSum (aCons (eX (xLc (iAny (eX (xFn fn_highest (aCons (eVar 0) (aCons (eVar 1) aNil))))) (gT 2 (gsCons (gN 2) (gsCons (gN 3) gsNil))) bYes (eVar 3) [2, 3])) aNil))))
def fn_how_many : List PyData → Option Sl := fnS 2 2 bd_how_many
theorem ok_how_many (T : Top K mg) : OkAt P w K mg base 11 "how_many" s_how_many ["many", "lot"] (spS K fn_how_many) := by
  obtain ⟨f, fd, F, b, g⟩ := T.d_how_many
  obtain ⟨f_highest, fd_highest, F_highest, b_highest, g_highest, G_highest⟩ := ok_highest (P := P) (w := w) (base := base) T
  have hs : SS K _ bd_how_many := (ss_retX (sx_e (se_callB sr_sum (sa_cons (se_x (sx_lc (by decide) (si_any (se_x (sx_fn (sa_cons se_var (sa_cons se_var sa_nil))))) (sg_tup (sgs_cons sg_name (sgs_cons sg_name sgs_nil))) (lcl_tup (lcls_cons mn_name (mns_cons mn_name mns_nil) (lcl_name (by decide)) (lcls_cons mn_name mns_nil (lcl_name (by decide)) lcls_nil))) (mn_tup (mns_cons mn_name (mns_cons mn_name mns_nil))) st_yes se_var)) sa_nil))))
  exact ⟨f, fd, F, b, g, okS hs F sc_how_many rfl rfl (fun cdv A outer s H E hr => (pss_one (ps_ret (pe_callB (cr_sum rfl) (by rfl) T.n_sum boot_sum (pa_cons (pe_lc (own := [("house", 2), ("count", 3)]) rfl sc_how_many.nd (pi_any (pe_call G_highest (hr.mono (by decide)) (by rfl) g_highest F_highest.kp b_highest .nil pass0 (pa_cons (pv 0) (pa_cons (pv 1) pa_nil)))) (blkOk_by (N := N_how_many) (sc := defScope s_how_many) (by decide +kernel)) (fun _ _ _ _ _ => (pg_tup rfl (pgs_cons (pg_name (i := 2) sc_how_many.nd rfl (by first | exact Or.inl rfl | exact Or.inr rfl)) (pgs_cons (pg_name (i := 3) sc_how_many.nd rfl (by first | exact Or.inl rfl | exact Or.inr rfl)) pgs_nil)))) (fun _ _ _ _ _ => pts_nil) (fun _ _ _ _ _ => (pv 3))) pa_nil)))))⟩

abbrev s_check_two_houses : Stmt := topS 27
abbrev N_check_two_houses : List Str := ["many", "one", "other"]
theorem sc_check_two_houses : FnScope N_check_two_houses ["many", "one", "other"] (defScope s_check_two_houses) := ⟨rfl, rfl, rfl, by decide +kernel, rfl, by decide +kernel, by decide +kernel⟩
def bd_check_two_houses : Ev → Option Out := (sSeq (sIf (bOr (bNot (bTru (eX (xFn fn_is_place (aCons (eVar 0) (aCons (eVar 1) aNil)))))) (bNot (bTru (eX (xFn fn_is_place (aCons (eVar 0) (aCons (eVar 2) aNil))))))) sNever sNil) (sIf (bB (eOp pEq (eVar 1) (eVar 2))) sNever sNil))
def fn_check_two_houses : List PyData → Option Sl := fnS 3 0 bd_check_two_houses
theorem ok_check_two_houses (T : Top K mg) : OkAt P w K mg base 4 "check_two_houses" s_check_two_houses ["many", "one", "other"] (spS K fn_check_two_houses) := by
  obtain ⟨f, fd, F, b, g⟩ := T.d_check_two_houses
  obtain ⟨f_is_place, fd_is_place, F_is_place, b_is_place, g_is_place, G_is_place⟩ := ok_is_place (P := P) (w := w) (base := base) T
  have hs : SS K _ bd_check_two_houses := (ss_seq (ss_if (st_or (st_not (st_tru (se_x (sx_fn (sa_cons se_var (sa_cons se_var sa_nil)))))) (st_not (st_tru (se_x (sx_fn (sa_cons se_var (sa_cons se_var sa_nil))))))) ss_never ss_nil) (ss_if (st_t (se_op sr_eq se_var se_var)) ss_never ss_nil))
  exact ⟨f, fd, F, b, g, okS hs F sc_check_two_houses rfl rfl (fun cdv A outer s H E hr => (pss_cons (ps_if (PW.pt (pw_or (pt_not (pt_tru (pe_call G_is_place (hr.mono (by decide)) (by rfl) g_is_place F_is_place.kp b_is_place .nil pass0 (pa_cons (pv 0) (pa_cons (pv 1) pa_nil))))) (pw_or1 (pt_not (pt_tru (pe_call G_is_place (hr.mono (by decide)) (by rfl) g_is_place F_is_place.kp b_is_place .nil pass0 (pa_cons (pv 0) (pa_cons (pv 2) pa_nil)))))))) (pss_one ps_never) pss_nil) (pss_one (ps_if (pt_cmpR (op_eqD hr.units) (pv 1) (pv 2) (nomark _)) (pss_one ps_never) pss_nil))))⟩

abbrev s_higher : Stmt := topS 45
abbrev N_higher : List Str := ["many", "lot", "one", "other", "trees", "top", "tree"]
theorem sc_higher : FnScope N_higher ["many", "lot", "one", "other"] (defScope s_higher) := ⟨rfl, rfl, rfl, by decide +kernel, rfl, by decide +kernel, by decide +kernel⟩
def bd_higher : Ev → Option Out := (sSeq (sExpr (eX (xFn fn_check_can_be (aCons (eVar 0) (aCons (eVar 1) aNil))))) (sSeq (sExpr (eX (xFn fn_check_two_houses (aCons (eVar 0) (aCons (eVar 2) (aCons (eVar 3) aNil)))))) (sSeq (sSet 4 (xLc (iAny (eX (xFn fn_tops (aCons (eVar 0) (aCons (eVar 1) aNil))))) (gN 5) bYes (eX (xFn fn_tree_under (aCons (eVar 0) (aCons (eVar 1) (aCons (eVar 5) aNil))))) [5])) (sSeq (sIf (bTru (eCall pAll (aCons (eX (xLc (iAny (eVar 4)) (gN 6) bYes (eOp (pIn false) (eVar 2) (eIxV 6 (eVar 3))) [6])) aNil))) (sRetX (xE (eC (.str "higher")))) sNil) (sSeq (sIf (bTru (eCall pAll (aCons (eX (xLc (iAny (eVar 4)) (gN 6) bYes (eOp (pIn false) (eVar 3) (eIxV 6 (eVar 2))) [6])) aNil))) (sRetX (xE (eC (.str "lower")))) sNil) (sRetX (xE (eC (.str "either")))))))))
def fn_higher : List PyData → Option Sl := fnS 4 3 bd_higher
theorem ok_higher (T : Top K mg) : OkAt P w K mg base 11 "higher" s_higher ["many", "lot", "one", "other"] (spS K fn_higher) := by
  obtain ⟨f, fd, F, b, g⟩ := T.d_higher
  obtain ⟨f_check_can_be, fd_check_can_be, F_check_can_be, b_check_can_be, g_check_can_be, G_check_can_be⟩ := ok_check_can_be (P := P) (w := w) (base := base) T
  obtain ⟨f_check_two_houses, fd_check_two_houses, F_check_two_houses, b_check_two_houses, g_check_two_houses, G_check_two_houses⟩ := ok_check_two_houses (P := P) (w := w) (base := base) T
  obtain ⟨f_tops, fd_tops, F_tops, b_tops, g_tops, G_tops⟩ := ok_tops (P := P) (w := w) (base := base) T
  obtain ⟨f_tree_under, fd_tree_under, F_tree_under, b_tree_under, g_tree_under, G_tree_under⟩ := ok_tree_under (P := P) (w := w) (base := base) T
  have hs : SS K _ bd_higher := (ss_seq (ss_expr (se_x (sx_fn (sa_cons se_var (sa_cons se_var sa_nil))))) (ss_seq (ss_expr (se_x (sx_fn (sa_cons se_var (sa_cons se_var (sa_cons se_var sa_nil)))))) (ss_seq (ss_set (sx_lc (by decide) (si_any (se_x (sx_fn (sa_cons se_var (sa_cons se_var sa_nil))))) sg_name (lcl_name (by decide)) mn_name st_yes (se_x (sx_fn (sa_cons se_var (sa_cons se_var (sa_cons se_var sa_nil))))))) (ss_seq (ss_if (st_tru (se_callB sr_all (sa_cons (se_x (sx_lc (by decide) (si_any se_var) sg_name (lcl_name (by decide)) mn_name st_yes (se_op sr_in se_var (se_ixv se_var)))) sa_nil))) (ss_retX (sx_e se_str)) ss_nil) (ss_seq (ss_if (st_tru (se_callB sr_all (sa_cons (se_x (sx_lc (by decide) (si_any se_var) sg_name (lcl_name (by decide)) mn_name st_yes (se_op sr_in se_var (se_ixv se_var)))) sa_nil))) (ss_retX (sx_e se_str)) ss_nil) (ss_retX (sx_e se_str)))))))
  exact ⟨f, fd, F, b, g, okS hs F sc_higher rfl rfl (fun cdv A outer s H E hr => (pss_cons (ps_expr (pe_call G_check_can_be (hr.mono (by decide)) (by rfl) g_check_can_be F_check_can_be.kp b_check_can_be .nil pass0 (pa_cons (pv 0) (pa_cons (pv 1) pa_nil)))) (pss_cons (ps_expr (pe_call G_check_two_houses (hr.mono (by decide)) (by rfl) g_check_two_houses F_check_two_houses.kp b_check_two_houses .nil pass0 (pa_cons (pv 0) (pa_cons (pv 2) (pa_cons (pv 3) pa_nil))))) (pss_cons (ps_setLc (i := 4) (own := [("top", 5)]) rfl sc_higher.nd rfl rfl (sw_true rfl rfl rfl (by decide +kernel)) (pi_any (pe_call G_tops (hr.mono (by decide)) (by rfl) g_tops F_tops.kp b_tops .nil pass0 (pa_cons (pv 0) (pa_cons (pv 1) pa_nil)))) (blkOk_by (N := N_higher) (sc := defScope s_higher) (by decide +kernel)) (fun _ _ _ _ _ => (pg_name (i := 5) sc_higher.nd rfl (by first | exact Or.inl rfl | exact Or.inr rfl))) (fun _ _ _ _ _ => pts_nil) (fun _ _ _ _ _ => (pe_call G_tree_under (hr.mono (by decide)) (by rfl) g_tree_under F_tree_under.kp b_tree_under .nil pass0 (pa_cons (pv 0) (pa_cons (pv 1) (pa_cons (pv 5) pa_nil)))))) (pss_cons (ps_if (pt_tru (pe_callB (cr_all rfl) (by rfl) T.n_all boot_all (pa_cons (pe_lc (own := [("tree", 6)]) rfl sc_higher.nd (pi_any (pv 4)) (blkOk_by (N := N_higher) (sc := defScope s_higher) (by decide +kernel)) (fun _ _ _ _ _ => (pg_name (i := 6) sc_higher.nd rfl (by first | exact Or.inl rfl | exact Or.inr rfl))) (fun _ _ _ _ _ => pts_nil) (fun _ _ _ _ _ => (pe_cmpR (op_inA (hu65 hr)) (pv 2) (pe_ix ix_seq (pv 6) (pv 3) (fun _ _ => rfl)) (by rfl)))) pa_nil))) (pss_one (ps_ret pe_str)) pss_nil) (pss_cons (ps_if (pt_tru (pe_callB (cr_all rfl) (by rfl) T.n_all boot_all (pa_cons (pe_lc (own := [("tree", 6)]) rfl sc_higher.nd (pi_any (pv 4)) (blkOk_by (N := N_higher) (sc := defScope s_higher) (by decide +kernel)) (fun _ _ _ _ _ => (pg_name (i := 6) sc_higher.nd rfl (by first | exact Or.inl rfl | exact Or.inr rfl))) (fun _ _ _ _ _ => pts_nil) (fun _ _ _ _ _ => (pe_cmpR (op_inA (hu65 hr)) (pv 3) (pe_ix ix_seq (pv 6) (pv 2) (fun _ _ => rfl)) (by rfl)))) pa_nil))) (pss_one (ps_ret pe_str)) pss_nil) (pss_one (ps_ret pe_str))))))))⟩

abbrev s_law_fan_right : Stmt := topS 87
abbrev N_law_fan_right : List Str := ["many", "path", "rays", "fan", "house"]
theorem sc_law_fan_right : FnScope N_law_fan_right ["many", "path"] (defScope s_law_fan_right) := ⟨rfl, rfl, rfl, by decide +kernel, rfl, by decide +kernel, by decide +kernel⟩
def bd_law_fan_right : Ev → Option Out := (sSeq (sSet 2 (xE (eCall pTuple (aCons (eX (xLc (iR2 (aCons (eC (.int 2)) (aCons (eVar 0) aNil))) (gN 4) bYes (eTup (aCons (eC (.int 0)) (aCons (eVar 4) aNil))) [4])) aNil)))) (sSeq (sSet 3 (xE (eCall pTuple (aCons (eX (xCall pSortB (aCons (eX (xOps pAdd (eVar 1) (eVar 2))) aNil))) aNil)))) (sSeq (sIf (bOr (bB (eOp (pIs true) (eX (xFn fn_can_be (aCons (eVar 0) (aCons (eVar 3) aNil)))) (eC (.bool true)))) (bB (eOp pNe (eX (xFn fn_how_many (aCons (eVar 0) (aCons (eVar 3) aNil)))) (eC (.int 2))))) (sRetX (xE (eC (.bool false)))) sNil) (sSeq (sIf (bB (eOp pNe (eX (xFn fn_first_order (aCons (eVar 0) (aCons (eVar 3) aNil)))) (eX (xOps pAdd (eX (xOps pAdd (eTup (aCons (eOp pSub (eVar 0) (eC (.int 1))) aNil)) (eTupRg (rg2 (eC (.int 1)) (eOp pSub (eVar 0) (eC (.int 1))))))) (eTup (aCons (eVar 0) aNil)))))) (sRetX (xE (eC (.bool false)))) sNil) (sSeq (sIf (bOr (bB (eOp pNe (eX (xFn fn_higher (aCons (eVar 0) (aCons (eVar 3) (aCons (eC (.int 0)) (aCons (eC (.int 1)) aNil)))))) (eC (.str "higher")))) (bB (eOp pNe (eX (xFn fn_higher (aCons (eVar 0) (aCons (eVar 3) (aCons (eC (.int 0)) (aCons (eOp pSub (eVar 0) (eC (.int 1))) aNil)))))) (eC (.str "either"))))) (sRetX (xE (eC (.bool false)))) sNil) (sSeq (sIf (bB (eOp pNe (eX (xFn fn_from_ends (aCons (eVar 0) (aCons (eVar 3) aNil)))) (eX (xLst (aCons (eTup (aCons (eTup (aCons (eC (.int 0)) aNil)) (aCons (eTup (aCons (eC (.int 0)) (aCons (eOp pSub (eVar 0) (eC (.int 1))) aNil))) (aCons (eC (.int 1)) aNil)))) (aCons (eTup (aCons (eTup (aCons (eC (.int 0)) (aCons (eOp pSub (eVar 0) (eC (.int 1))) aNil))) (aCons (eTup (aCons (eOp pSub (eVar 0) (eC (.int 1))) aNil)) (aCons (eC (.int 1)) aNil)))) aNil)))))) (sRetX (xE (eC (.bool false)))) sNil) (sRetX (xE (eOp pEq (eX (xFn fn_first_with (aCons (eVar 0) (aCons (eTup aNil) (aCons (eTup aNil) aNil))))) (eVar 3))))))))))
def fn_law_fan_right : List PyData → Option Sl := fnS 2 3 bd_law_fan_right
theorem ok_law_fan_right (T : Top K mg) : OkAt P w K mg base 12 "_law_fan_right" s_law_fan_right ["many", "path"] (spS K fn_law_fan_right) := by
  obtain ⟨f, fd, F, b, g⟩ := T.d_law_fan_right
  obtain ⟨f_can_be, fd_can_be, F_can_be, b_can_be, g_can_be, G_can_be⟩ := ok_can_be (P := P) (w := w) (base := base) T
  obtain ⟨f_how_many, fd_how_many, F_how_many, b_how_many, g_how_many, G_how_many⟩ := ok_how_many (P := P) (w := w) (base := base) T
  obtain ⟨f_first_order, fd_first_order, F_first_order, b_first_order, g_first_order, G_first_order⟩ := ok_first_order (P := P) (w := w) (base := base) T
  obtain ⟨f_higher, fd_higher, F_higher, b_higher, g_higher, G_higher⟩ := ok_higher (P := P) (w := w) (base := base) T
  obtain ⟨f_from_ends, fd_from_ends, F_from_ends, b_from_ends, g_from_ends, G_from_ends⟩ := ok_from_ends (P := P) (w := w) (base := base) T
  obtain ⟨f_first_with, fd_first_with, F_first_with, b_first_with, g_first_with, G_first_with⟩ := ok_first_with (P := P) (w := w) (base := base) T
  have hs : SS K _ bd_law_fan_right := (ss_seq (ss_set (sx_e (se_callB sr_tuple (sa_cons (se_x (sx_lc (by decide) (si_rng2 (sa_cons se_int (sa_cons se_var sa_nil))) sg_name (lcl_name (by decide)) mn_name st_yes (se_tup (sa_cons se_int (sa_cons se_var sa_nil))))) sa_nil)))) (ss_seq (ss_set (sx_e (se_callB sr_tuple (sa_cons (se_x (sx_callB sr_sortB (sa_cons (se_x (sx_ops sr_add se_var se_var)) sa_nil))) sa_nil)))) (ss_seq (ss_if (st_or (st_t (se_op sr_isnot (se_x (sx_fn (sa_cons se_var (sa_cons se_var sa_nil)))) se_bl)) (st_t (se_op sr_ne (se_x (sx_fn (sa_cons se_var (sa_cons se_var sa_nil)))) se_int))) (ss_retX (sx_e se_bl)) ss_nil) (ss_seq (ss_if (st_t (se_op sr_ne (se_x (sx_fn (sa_cons se_var (sa_cons se_var sa_nil)))) (se_x (sx_ops sr_add (se_x (sx_ops sr_add (se_tup (sa_cons (se_op sr_sub se_var se_int) sa_nil)) (se_tupRg (srg2 se_int (se_op sr_sub se_var se_int))))) (se_tup (sa_cons se_var sa_nil)))))) (ss_retX (sx_e se_bl)) ss_nil) (ss_seq (ss_if (st_or (st_t (se_op sr_ne (se_x (sx_fn (sa_cons se_var (sa_cons se_var (sa_cons se_int (sa_cons se_int sa_nil)))))) se_str)) (st_t (se_op sr_ne (se_x (sx_fn (sa_cons se_var (sa_cons se_var (sa_cons se_int (sa_cons (se_op sr_sub se_var se_int) sa_nil)))))) se_str))) (ss_retX (sx_e se_bl)) ss_nil) (ss_seq (ss_if (st_t (se_op sr_ne (se_x (sx_fn (sa_cons se_var (sa_cons se_var sa_nil)))) (se_x (sx_lst (sa_cons (se_tup (sa_cons (se_tup (sa_cons se_int sa_nil)) (sa_cons (se_tup (sa_cons se_int (sa_cons (se_op sr_sub se_var se_int) sa_nil))) (sa_cons se_int sa_nil)))) (sa_cons (se_tup (sa_cons (se_tup (sa_cons se_int (sa_cons (se_op sr_sub se_var se_int) sa_nil))) (sa_cons (se_tup (sa_cons (se_op sr_sub se_var se_int) sa_nil)) (sa_cons se_int sa_nil)))) sa_nil)))))) (ss_retX (sx_e se_bl)) ss_nil) (ss_retX (sx_e (se_op sr_eq (se_x (sx_fn (sa_cons se_var (sa_cons (se_tup sa_nil) (sa_cons (se_tup sa_nil) sa_nil))))) se_var)))))))))
  exact ⟨f, fd, F, b, g, okS hs F sc_law_fan_right rfl rfl (fun cdv A outer s H E hr => (pss_cons (ps_set (i := 2) sc_law_fan_right.nd rfl (by first | exact Or.inl rfl | exact Or.inr rfl) (pe_callTy c_tuple (by rfl) T.n_tuple boot_tuple (pa_cons (pe_lc (own := [("house", 4)]) rfl sc_law_fan_right.nd (pi_range2 (by rfl) T.n_range (pa_cons pe_int (pa_cons (pv 0) pa_nil))) (blkOk_by (N := N_law_fan_right) (sc := defScope s_law_fan_right) (by decide +kernel)) (fun _ _ _ _ _ => (pg_name (i := 4) sc_law_fan_right.nd rfl (by first | exact Or.inl rfl | exact Or.inr rfl))) (fun _ _ _ _ _ => pts_nil) (fun _ _ _ _ _ => (pe_tup (pa_cons pe_int (pa_cons (pv 4) pa_nil))))) pa_nil))) (pss_cons (ps_set (i := 3) sc_law_fan_right.nd rfl (by first | exact Or.inl rfl | exact Or.inr rfl) (pe_callTy c_tuple (by rfl) T.n_tuple boot_tuple (pa_cons (pe_callB (cr_sortedB (hu65 hr)) (by rfl) T.n_sorted boot_sorted (pa_cons (pe_op op_addA (pv 1) (pv 2)) pa_nil)) pa_nil))) (pss_cons (ps_if (PW.pt (pw_or (pt_cmpR op_isnotA (pe_call G_can_be (hr.mono (by decide)) (by rfl) g_can_be F_can_be.kp b_can_be .nil pass0 (pa_cons (pv 0) (pa_cons (pv 3) pa_nil))) pe_bl (nomark _)) (pw_or1 (pt_cmpR (op_neD hr.units) (pe_call G_how_many (hr.mono (by decide)) (by rfl) g_how_many F_how_many.kp b_how_many .nil pass0 (pa_cons (pv 0) (pa_cons (pv 3) pa_nil))) pe_int (nomark _))))) (pss_one (ps_ret pe_bl)) pss_nil) (pss_cons (ps_if (pt_cmpR (op_neD hr.units) (pe_call G_first_order (hr.mono (by decide)) (by rfl) g_first_order F_first_order.kp b_first_order .nil pass0 (pa_cons (pv 0) (pa_cons (pv 3) pa_nil))) (pe_op op_addA (pe_op op_addA (pe_tup (pa_cons (pe_op op_sub (pv 0) pe_int) pa_nil)) (pe_tupRg rfl (by rfl) T.n_tuple (prg_2 (by rfl) T.n_range pe_int (pe_op op_sub (pv 0) pe_int)))) (pe_tup (pa_cons (pv 0) pa_nil))) (nomark _)) (pss_one (ps_ret pe_bl)) pss_nil) (pss_cons (ps_if (PW.pt (pw_or (pt_cmpR (op_neD hr.units) (pe_call G_higher (hr.mono (by decide)) (by rfl) g_higher F_higher.kp b_higher .nil pass0 (pa_cons (pv 0) (pa_cons (pv 3) (pa_cons pe_int (pa_cons pe_int pa_nil))))) pe_str (nomark _)) (pw_or1 (pt_cmpR (op_neD hr.units) (pe_call G_higher (hr.mono (by decide)) (by rfl) g_higher F_higher.kp b_higher .nil pass0 (pa_cons (pv 0) (pa_cons (pv 3) (pa_cons pe_int (pa_cons (pe_op op_sub (pv 0) pe_int) pa_nil))))) pe_str (nomark _))))) (pss_one (ps_ret pe_bl)) pss_nil) (pss_cons (ps_if (pt_cmpR (op_neD hr.units) (pe_call G_from_ends (hr.mono (by decide)) (by rfl) g_from_ends F_from_ends.kp b_from_ends .nil pass0 (pa_cons (pv 0) (pa_cons (pv 3) pa_nil))) (pe_lst (pa_cons (pe_tup (pa_cons (pe_tup (pa_cons pe_int pa_nil)) (pa_cons (pe_tup (pa_cons pe_int (pa_cons (pe_op op_sub (pv 0) pe_int) pa_nil))) (pa_cons pe_int pa_nil)))) (pa_cons (pe_tup (pa_cons (pe_tup (pa_cons pe_int (pa_cons (pe_op op_sub (pv 0) pe_int) pa_nil))) (pa_cons (pe_tup (pa_cons (pe_op op_sub (pv 0) pe_int) pa_nil)) (pa_cons pe_int pa_nil)))) pa_nil))) (nomark _)) (pss_one (ps_ret pe_bl)) pss_nil) (pss_one (ps_ret (pe_cmpR (op_eqD hr.units) (pe_call G_first_with (hr.mono (by decide)) (by rfl) g_first_with F_first_with.kp b_first_with .nil pass0 (pa_cons (pv 0) (pa_cons (pe_tup pa_nil) (pa_cons (pe_tup pa_nil) pa_nil)))) (pv 3) (nomark _)))))))))))⟩

abbrev s_are_counts : Stmt := topS 75
abbrev N_are_counts : List Str := ["thing", "part"]
theorem sc_are_counts : FnScope N_are_counts ["thing"] (defScope s_are_counts) := ⟨rfl, rfl, rfl, by decide +kernel, rfl, by decide +kernel, by decide +kernel⟩
def bd_are_counts : Ev → Option Out := (sSeq (sIf (bOr (bNot (bTru (eUn (pIsi .tuple) (eVar 0)))) (bNot (bB (eChain pLe pLe (eC (.int 1)) (eCall pLen (aCons (eVar 0) aNil)) (eC (.int 8)))))) (sRetX (xE (eC (.bool false)))) sNil) (sRetX (xE (eCall pAll (aCons (eX (xLc (iAny (eVar 0)) (gN 1) bYes (eX (xFn fn_is_whole_within (aCons (eVar 1) (aCons (eC (.int 0)) (aCons (eC (.int 7)) aNil))))) [1])) aNil)))))
def fn_are_counts : List PyData → Option Sl := fnS 1 1 bd_are_counts
theorem ok_are_counts (T : Top K mg) : OkAt P w K mg base 3 "are_counts" s_are_counts ["thing"] (spS K fn_are_counts) := by
  obtain ⟨f, fd, F, b, g⟩ := T.d_are_counts
  obtain ⟨f_is_whole_within, fd_is_whole_within, F_is_whole_within, b_is_whole_within, g_is_whole_within, G_is_whole_within⟩ := ok_is_whole_within (P := P) (w := w) (base := base) T
  have hs : SS K _ bd_are_counts := (ss_seq (ss_if (st_or (st_not (st_tru (se_isi .tuple se_var))) (st_not (st_t (se_chain sr_le sr_le se_int (se_callB sr_len (sa_cons se_var sa_nil)) se_int)))) (ss_retX (sx_e se_bl)) ss_nil) (ss_retX (sx_e (se_callB sr_all (sa_cons (se_x (sx_lc (by decide) (si_any se_var) sg_name (lcl_name (by decide)) mn_name st_yes (se_x (sx_fn (sa_cons se_var (sa_cons se_int (sa_cons se_int sa_nil))))))) sa_nil)))))
  exact ⟨f, fd, F, b, g, okS hs F sc_are_counts rfl rfl (fun cdv A outer s H E hr => (pss_cons (ps_if (PW.pt (pw_or (pt_not (pt_tru (pe_callB call_isi (by rfl) T.n_isinstance boot_isinstance (pa_cons (pv 0) (pa_cons (pe_bltn (v := .ty "tuple") (by rfl) T.n_tuple boot_tuple rfl) pa_nil))))) (pw_or1 (pt_not (pt_chain op_le op_le pe_int (pe_callB c_len (by rfl) T.n_len PySem.boot_len (pa_cons (pv 0) pa_nil)) (pe_glob (v := .int 8) (by rfl) T.c_MOST_COUNTS.choose_spec ⟨_, rfl⟩)))))) (pss_one (ps_ret pe_bl)) pss_nil) (pss_one (ps_ret (pe_callB (cr_all rfl) (by rfl) T.n_all boot_all (pa_cons (pe_lc (own := [("part", 1)]) rfl sc_are_counts.nd (pi_any (pv 0)) (blkOk_by (N := N_are_counts) (sc := defScope s_are_counts) (by decide +kernel)) (fun _ _ _ _ _ => (pg_name (i := 1) sc_are_counts.nd rfl (by first | exact Or.inl rfl | exact Or.inr rfl))) (fun _ _ _ _ _ => pts_nil) (fun _ _ _ _ _ => (pe_call G_is_whole_within (hr.mono (by decide)) (by rfl) g_is_whole_within F_is_whole_within.kp b_is_whole_within .nil pass0 (pa_cons (pv 1) (pa_cons pe_int (pa_cons (pe_glob (v := .int 7) (by rfl) T.c_MOST_COUNT.choose_spec ⟨_, rfl⟩) pa_nil)))))) pa_nil))))))⟩

abbrev s_LotList_bare : Stmt := (clsS 78 0)
abbrev N_LotList_bare : List Str := ["self"]
theorem sc_LotList_bare : FnScope N_LotList_bare ["self"] (defScope s_LotList_bare) := ⟨rfl, rfl, rfl, by decide +kernel, rfl, by decide +kernel, by decide +kernel⟩
def bd_LotList_bare : Ev → Option Out := (sRetX (xLst (aCons (eTup aNil) aNil)))
def fn_LotList_bare : List Sl → Option Sl := fnF 1 0 bd_LotList_bare
theorem ok_LotList_bare (T : Top K mg) {C : Addr} (hC : mg "LotList" = some (.ref C)) : OkM P w K mg base 1 C "bare" "LotList.bare" s_LotList_bare ["self"] (spF K fn_LotList_bare) := by
  obtain ⟨f, fd, F, b, g⟩ := T.m_LotList_bare C hC
  have hs : SS K _ bd_LotList_bare := (ss_retX (sx_lst (sa_cons (se_tup sa_nil) sa_nil)))
  exact ⟨f, fd, F, b, g, okF hs F sc_LotList_bare rfl rfl (fun cdv A outer s H E hr => (pss_one (ps_ret (pe_lst (pa_cons (pe_tup pa_nil) pa_nil)))))⟩

abbrev s_LotList_joined : Stmt := (clsS 78 1)
abbrev N_LotList_joined : List Str := ["self", "own", "before", "behind", "first", "second"]
theorem sc_LotList_joined : FnScope N_LotList_joined ["self", "own", "before", "behind"] (defScope s_LotList_joined) := ⟨rfl, rfl, rfl, by decide +kernel, rfl, by decide +kernel, by decide +kernel⟩
def bd_LotList_joined : Ev → Option Out := (sRetX (xLc2 (iAny (eVar 2)) (gN 4) bYes (iAny (eVar 3)) (gN 5) bYes (eCall pTuple (aCons (eX (xCall pSortB (aCons (eX (xOps pAdd (eX (xOps pAdd (eVar 4) (eVar 1))) (eVar 5))) aNil))) aNil)) [4, 5] [5]))
def fn_LotList_joined : List Sl → Option Sl := fnF 4 2 bd_LotList_joined
theorem ok_LotList_joined (T : Top K mg) {C : Addr} (hC : mg "LotList" = some (.ref C)) : OkM P w K mg base 1 C "joined" "LotList.joined" s_LotList_joined ["self", "own", "before", "behind"] (spF K fn_LotList_joined) := by
  obtain ⟨f, fd, F, b, g⟩ := T.m_LotList_joined C hC
  have hs : SS K _ bd_LotList_joined := (ss_retX (sx_lc2 (by decide) (by decide) (si_any se_var) sg_name (lcl_name (by decide)) mn_name st_yes (si_any se_var) sg_name (lcl_name (by decide)) mn_name st_yes (se_callB sr_tuple (sa_cons (se_x (sx_callB sr_sortB (sa_cons (se_x (sx_ops sr_add (se_x (sx_ops sr_add se_var se_var)) se_var)) sa_nil))) sa_nil))))
  exact ⟨f, fd, F, b, g, okF hs F sc_LotList_joined rfl rfl (fun cdv A outer s H E hr => (pss_one (ps_ret (pe_lc2 (own := [("first", 4), ("second", 5)]) (vs1 := [5]) rfl sc_LotList_joined.nd (pi_any (pv 2)) (blkOk_by (N := N_LotList_joined) (sc := defScope s_LotList_joined) (by decide +kernel)) (by decide) (fun _ _ _ _ _ => (pg_name (i := 4) sc_LotList_joined.nd rfl (by first | exact Or.inl rfl | exact Or.inr rfl))) (fun _ _ _ _ _ => pts_nil) (fun _ _ _ _ _ => (pi_any (pv 3))) (fun _ _ _ _ _ => (pg_name (i := 5) sc_LotList_joined.nd rfl (by first | exact Or.inl rfl | exact Or.inr rfl))) (fun _ _ _ _ _ => pts_nil) (fun _ _ _ _ _ => (pe_callTy c_tuple (by rfl) T.n_tuple boot_tuple (pa_cons (pe_callB (cr_sortedB (hu65 hr)) (by rfl) T.n_sorted boot_sorted (pa_cons (pe_op op_addA (pe_op op_addA (pv 4) (pv 1)) (pv 5)) pa_nil)) pa_nil)))))))⟩

abbrev s_parts_of_gap_LotList : Stmt := topS 61
abbrev N_parts_of_gap_LotList : List Str := ["many", "seen", "unseen", "gap", "maker", "made", "left", "right", "house"]
theorem sc_parts_of_gap_LotList : FnScope N_parts_of_gap_LotList ["many", "seen", "unseen", "gap", "maker", "made"] (defScope s_parts_of_gap_LotList) := ⟨rfl, rfl, rfl, by decide +kernel, rfl, by decide +kernel, by decide +kernel⟩
def bd_parts_of_gap_LotList : Ev → Option Out := (sSeq (sAsg (eVar 3) (gT 2 (gsCons (gN 6) (gsCons (gN 7) gsNil)))) (sRetX (xLc (iAny (eX (xFn fn_houses_that_fit (aCons (eVar 1) (aCons (eVar 2) (aCons (eVar 3) aNil)))))) (gN 8) (bAnd (bB (eOp (pIs true) (eDGet 5 (eTup (aCons (eVar 6) (aCons (eVar 8) aNil)))) (eC .none))) (bB (eOp (pIs true) (eDGet 5 (eTup (aCons (eVar 8) (aCons (eVar 7) aNil)))) (eC .none)))) (eX (xMeth "LotList" 4 fn_LotList_joined (asSh (eX (xFn fn_sights_to_sides (aCons (eVar 0) (aCons (eVar 3) (aCons (eVar 8) aNil))))) (asSh (eDGet 5 (eTup (aCons (eVar 6) (aCons (eVar 8) aNil)))) (asSh (eDGet 5 (eTup (aCons (eVar 8) (aCons (eVar 7) aNil)))) asNil))))) [8])))
def fn_parts_of_gap_LotList : List Sl → Option Sl := fnF 6 3 bd_parts_of_gap_LotList
theorem ok_parts_of_gap_LotList (T : Top K mg) : OkAt P w K mg base 2 "parts_of_gap" s_parts_of_gap_LotList ["many", "seen", "unseen", "gap", "maker", "made"] (spF K fn_parts_of_gap_LotList) := by
  obtain ⟨f, fd, F, b, g⟩ := T.d_parts_of_gap
  obtain ⟨C_LotList, h_LotList⟩ := T.e_LotList
  have k_LotList := T.k_LotList C_LotList h_LotList
  obtain ⟨f_houses_that_fit, fd_houses_that_fit, F_houses_that_fit, b_houses_that_fit, g_houses_that_fit, G_houses_that_fit⟩ := ok_houses_that_fit (P := P) (w := w) (base := base) T
  obtain ⟨f_LotList_joined, fd_LotList_joined, F_LotList_joined, b_LotList_joined, m_LotList_joined, G_LotList_joined⟩ := ok_LotList_joined (P := P) (w := w) (base := base) T h_LotList
  obtain ⟨f_sights_to_sides, fd_sights_to_sides, F_sights_to_sides, b_sights_to_sides, g_sights_to_sides, G_sights_to_sides⟩ := ok_sights_to_sides (P := P) (w := w) (base := base) T
  have hs : SS K _ bd_parts_of_gap_LotList := (ss_seq (ss_asg se_var (sg_tup (sgs_cons sg_name (sgs_cons sg_name sgs_nil)))) (ss_retX (sx_lc (by decide) (si_any (se_x (sx_fn (sa_cons se_var (sa_cons se_var (sa_cons se_var sa_nil)))))) sg_name (lcl_name (by decide)) mn_name (st_and (st_t (se_op sr_isnot (se_dget (se_tup (sa_cons se_var (sa_cons se_var sa_nil)))) se_non)) (st_t (se_op sr_isnot (se_dget (se_tup (sa_cons se_var (sa_cons se_var sa_nil)))) se_non))) (se_x (sx_meth (m := "joined") k_LotList.ns (sas_sh (se_x (sx_fn (sa_cons se_var (sa_cons se_var (sa_cons se_var sa_nil))))) (sas_sh (se_dget (se_tup (sa_cons se_var (sa_cons se_var sa_nil)))) (sas_sh (se_dget (se_tup (sa_cons se_var (sa_cons se_var sa_nil)))) sas_nil))))))))
  exact ⟨f, fd, F, b, g, okF hs F sc_parts_of_gap_LotList rfl rfl (fun cdv A outer s H E hr => (pss_cons (ps_asg (pv 3) (pg_tup rfl (pgs_cons (pg_name (i := 6) sc_parts_of_gap_LotList.nd rfl (by first | exact Or.inl rfl | exact Or.inr rfl)) (pgs_cons (pg_name (i := 7) sc_parts_of_gap_LotList.nd rfl (by first | exact Or.inl rfl | exact Or.inr rfl)) pgs_nil)))) (pss_one (ps_ret (pe_lc (own := [("house", 8)]) rfl sc_parts_of_gap_LotList.nd (pi_any (pe_call G_houses_that_fit (hr.mono (by decide)) (by rfl) g_houses_that_fit F_houses_that_fit.kp b_houses_that_fit .nil pass0 (pa_cons (pv 1) (pa_cons (pv 2) (pa_cons (pv 3) pa_nil))))) (blkOk_by (N := N_parts_of_gap_LotList) (sc := defScope s_parts_of_gap_LotList) (by decide +kernel)) (fun _ _ _ _ _ => (pg_name (i := 8) sc_parts_of_gap_LotList.nd rfl (by first | exact Or.inl rfl | exact Or.inr rfl))) (fun _ _ _ _ _ => (pts_one (PW.pt (pw_and (pt_cmpR op_isnotA (pe_dgN (hu65 hr) (pv 5) (pe_tup (pa_cons (pv 6) (pa_cons (pv 8) pa_nil)))) pe_non (nomark _)) (pw_and1 (pt_cmpR op_isnotA (pe_dgN (hu65 hr) (pv 5) (pe_tup (pa_cons (pv 8) (pa_cons (pv 7) pa_nil)))) pe_non (nomark _))))))) (fun _ _ _ _ _ => (pe_meth (pv 4) k_LotList.cls m_LotList_joined G_LotList_joined (hr.mono (by decide)) b_LotList_joined .nil pass0 (pa_cons (pe_call G_sights_to_sides (hr.mono (by decide)) (by rfl) g_sights_to_sides F_sights_to_sides.kp b_sights_to_sides .nil pass0 (pa_cons (pv 0) (pa_cons (pv 3) (pa_cons (pv 8) pa_nil)))) (pa_cons (pe_dgN (hu65 hr) (pv 5) (pe_tup (pa_cons (pv 6) (pa_cons (pv 8) pa_nil)))) (pa_cons (pe_dgN (hu65 hr) (pv 5) (pe_tup (pa_cons (pv 8) (pa_cons (pv 7) pa_nil)))) pa_nil))))))))))⟩

abbrev s_LotList_chosen : Stmt := (clsS 78 2)
abbrev N_LotList_chosen : List Str := ["self", "parts", "part", "lot"]
theorem sc_LotList_chosen : FnScope N_LotList_chosen ["self", "parts"] (defScope s_LotList_chosen) := ⟨rfl, rfl, rfl, by decide +kernel, rfl, by decide +kernel, by decide +kernel⟩
def bd_LotList_chosen : Ev → Option Out := (sRetX (xLc2 (iAny (eVar 1)) (gN 2) bYes (iAny (eVar 2)) (gN 3) bYes (eVar 3) [2, 3] [3]))
def fn_LotList_chosen : List Sl → Option Sl := fnF 2 2 bd_LotList_chosen
theorem ok_LotList_chosen (T : Top K mg) {C : Addr} (hC : mg "LotList" = some (.ref C)) : OkM P w K mg base 1 C "chosen" "LotList.chosen" s_LotList_chosen ["self", "parts"] (spF K fn_LotList_chosen) := by
  obtain ⟨f, fd, F, b, g⟩ := T.m_LotList_chosen C hC
  have hs : SS K _ bd_LotList_chosen := (ss_retX (sx_lc2 (by decide) (by decide) (si_any se_var) sg_name (lcl_name (by decide)) mn_name st_yes (si_any se_var) sg_name (lcl_name (by decide)) mn_name st_yes se_var))
  exact ⟨f, fd, F, b, g, okF hs F sc_LotList_chosen rfl rfl (fun cdv A outer s H E hr => (pss_one (ps_ret (pe_lc2 (own := [("part", 2), ("lot", 3)]) (vs1 := [3]) rfl sc_LotList_chosen.nd (pi_any (pv 1)) (blkOk_by (N := N_LotList_chosen) (sc := defScope s_LotList_chosen) (by decide +kernel)) (by decide) (fun _ _ _ _ _ => (pg_name (i := 2) sc_LotList_chosen.nd rfl (by first | exact Or.inl rfl | exact Or.inr rfl))) (fun _ _ _ _ _ => pts_nil) (fun _ _ _ _ _ => (pi_any (pv 2))) (fun _ _ _ _ _ => (pg_name (i := 3) sc_LotList_chosen.nd rfl (by first | exact Or.inl rfl | exact Or.inr rfl))) (fun _ _ _ _ _ => pts_nil) (fun _ _ _ _ _ => (pv 3))))))⟩

abbrev s_made_of_trees_LotList : Stmt := topS 59
abbrev N_made_of_trees_LotList : List Str := ["many", "seen", "unseen", "left", "maker", "made", "gap", "parts"]
theorem sc_made_of_trees_LotList : FnScope N_made_of_trees_LotList ["many", "seen", "unseen", "left", "maker"] (defScope s_made_of_trees_LotList) := ⟨rfl, rfl, rfl, by decide +kernel, rfl, by decide +kernel, by decide +kernel⟩
def bd_made_of_trees_LotList : Ev → Option Out := (sSeq (sSet 5 xDict) (sSeq (sFor (iAny (eX (xFn fn_gaps_within (aCons (eVar 3) (aCons (eVar 0) aNil))))) (gN 6) (sIf (bB (eOp pEq (eOp pSub (eIxV 6 (eC (.int 1))) (eIxV 6 (eC (.int 0)))) (eC (.int 1)))) (sDPut 5 (eX (xMeth "LotList" 4 fn_LotList_bare asNil)) (eVar 6)) (sSeq (sSet 7 (xFnF fn_parts_of_gap_LotList (asSh (eVar 0) (asSh (eVar 1) (asSh (eVar 2) (asSh (eVar 6) (asV 4 (asV 5 asNil)))))))) (sDPut 5 (eIf (bTru (eVar 7)) (eX (xMeth "LotList" 4 fn_LotList_chosen (asSh (eVar 7) asNil))) (eC .none)) (eVar 6))))) (sRetX (xE (eDGet 5 (eTup (aCons (eVar 3) (aCons (eVar 0) aNil))))))))
def fn_made_of_trees_LotList : List Sl → Option Sl := fnF 5 3 bd_made_of_trees_LotList
theorem ok_made_of_trees_LotList (T : Top K mg) : OkAt P w K mg base 3 "made_of_trees" s_made_of_trees_LotList ["many", "seen", "unseen", "left", "maker"] (spF K fn_made_of_trees_LotList) := by
  obtain ⟨f, fd, F, b, g⟩ := T.d_made_of_trees
  obtain ⟨C_LotList, h_LotList⟩ := T.e_LotList
  have k_LotList := T.k_LotList C_LotList h_LotList
  obtain ⟨f_gaps_within, fd_gaps_within, F_gaps_within, b_gaps_within, g_gaps_within, G_gaps_within⟩ := ok_gaps_within (P := P) (w := w) (base := base) T
  obtain ⟨f_LotList_bare, fd_LotList_bare, F_LotList_bare, b_LotList_bare, m_LotList_bare, G_LotList_bare⟩ := ok_LotList_bare (P := P) (w := w) (base := base) T h_LotList
  obtain ⟨f_parts_of_gap_LotList, fd_parts_of_gap_LotList, F_parts_of_gap_LotList, b_parts_of_gap_LotList, g_parts_of_gap_LotList, G_parts_of_gap_LotList⟩ := ok_parts_of_gap_LotList (P := P) (w := w) (base := base) T
  obtain ⟨f_LotList_chosen, fd_LotList_chosen, F_LotList_chosen, b_LotList_chosen, m_LotList_chosen, G_LotList_chosen⟩ := ok_LotList_chosen (P := P) (w := w) (base := base) T h_LotList
  have hs : SS K _ bd_made_of_trees_LotList := (ss_seq (ss_set sx_dict) (ss_seq (ss_for (si_any (se_x (sx_fn (sa_cons se_var (sa_cons se_var sa_nil))))) sg_name (ss_if (st_t (se_op sr_eq (se_op sr_sub (se_ixv se_int) (se_ixv se_int)) se_int)) (ss_dput (se_x (sx_meth (m := "bare") k_LotList.ns sas_nil)) se_var) (ss_seq (ss_set (sx_fnF (sas_sh se_var (sas_sh se_var (sas_sh se_var (sas_sh se_var (sas_v (sas_v sas_nil)))))))) (ss_dput (se_if (st_tru se_var) (se_x (sx_meth (m := "chosen") k_LotList.ns (sas_sh se_var sas_nil))) se_non) se_var)))) (ss_retX (sx_e (se_dget (se_tup (sa_cons se_var (sa_cons se_var sa_nil))))))))
  exact ⟨f, fd, F, b, g, okF hs F sc_made_of_trees_LotList rfl rfl (fun cdv A outer s H E hr => (pss_cons (ps_set (i := 5) sc_made_of_trees_LotList.nd rfl (by first | exact Or.inl rfl | exact Or.inr rfl) pe_dnewN) (pss_cons (ps_for PassesOwn.never rfl (pi_any (pe_call G_gaps_within (hr.mono (by decide)) (by rfl) g_gaps_within F_gaps_within.kp b_gaps_within .nil pass0 (pa_cons (pv 3) (pa_cons (pv 0) pa_nil)))) (pg_name (i := 6) sc_made_of_trees_LotList.nd rfl (by first | exact Or.inl rfl | exact Or.inr rfl)) (pss_one (ps_if (pt_cmpR (op_eqD hr.units) (pe_op op_sub (pe_ix ix_seq (pv 6) pe_int (fun _ _ => rfl)) (pe_ix ix_seq (pv 6) pe_int (fun _ _ => rfl))) pe_int (nomark _)) (pss_one (ps_dpN (hu65 hr) (pv 5) (pv 6) (pe_meth0 (pv 4) k_LotList.cls m_LotList_bare G_LotList_bare (hr.mono (by decide)) b_LotList_bare .nil pass0))) (pss_cons (ps_set (i := 7) sc_made_of_trees_LotList.nd rfl (by first | exact Or.inl rfl | exact Or.inr rfl) (pe_call G_parts_of_gap_LotList (hr.mono (by decide)) (by rfl) g_parts_of_gap_LotList F_parts_of_gap_LotList.kp b_parts_of_gap_LotList .nil pass0 (pa_cons (pv 0) (pa_cons (pv 1) (pa_cons (pv 2) (pa_cons (pv 6) (pa_cons (pv 4) (pa_cons (pv 5) pa_nil)))))))) (pss_one (ps_dpN (hu65 hr) (pv 5) (pv 6) (pe_ifExp (pt_tru (pv 7)) (pe_meth (pv 4) k_LotList.cls m_LotList_chosen G_LotList_chosen (hr.mono (by decide)) b_LotList_chosen .nil pass0 (pa_cons (pv 7) pa_nil)) pe_non))))))) (pss_one (ps_ret (pe_dgN (hu65 hr) (pv 5) (pe_tup (pa_cons (pv 3) (pa_cons (pv 0) pa_nil)))))))))⟩

abbrev s_all_lots : Stmt := topS 76
abbrev N_all_lots : List Str := ["many"]
theorem sc_all_lots : FnScope N_all_lots ["many"] (defScope s_all_lots) := ⟨rfl, rfl, rfl, by decide +kernel, rfl, by decide +kernel, by decide +kernel⟩
def bd_all_lots : Ev → Option Out := (sRetX (xFnF fn_made_of_trees_LotList (asSh (eVar 0) (asSh (eTup aNil) (asSh (eTup aNil) (asSh (eC (.int 0)) (asMk "LotList" asNil)))))))
def fn_all_lots : List PyData → Option Sl := fnS 1 0 bd_all_lots
theorem ok_all_lots (T : Top K mg) : OkAt P w K mg base 4 "all_lots" s_all_lots ["many"] (spS K fn_all_lots) := by
  obtain ⟨f, fd, F, b, g⟩ := T.d_all_lots
  obtain ⟨C_LotList, h_LotList⟩ := T.e_LotList
  have k_LotList := T.k_LotList C_LotList h_LotList
  obtain ⟨f_made_of_trees_LotList, fd_made_of_trees_LotList, F_made_of_trees_LotList, b_made_of_trees_LotList, g_made_of_trees_LotList, G_made_of_trees_LotList⟩ := ok_made_of_trees_LotList (P := P) (w := w) (base := base) T
  have hs : SS K _ bd_all_lots := (ss_retX (sx_fnF (sas_sh se_var (sas_sh (se_tup sa_nil) (sas_sh (se_tup sa_nil) (sas_sh se_int (sas_mk k_LotList.ns sas_nil)))))))
  exact ⟨f, fd, F, b, g, okS hs F sc_all_lots rfl rfl (fun cdv A outer s H E hr => (pss_one (ps_ret (pe_call G_made_of_trees_LotList (hr.mono (by decide)) (by rfl) g_made_of_trees_LotList F_made_of_trees_LotList.kp b_made_of_trees_LotList .nil pass0 (pa_cons (pv 0) (pa_cons (pe_tup pa_nil) (pa_cons (pe_tup pa_nil) (pa_cons pe_int (pa_cons (pe_mk0 k_LotList.mk0 (by rfl) h_LotList) pa_nil)))))))))⟩

abbrev s_counts_of : Stmt := topS 77
abbrev N_counts_of : List Str := ["many", "lot", "counts", "one", "other"]
theorem sc_counts_of : FnScope N_counts_of ["many", "lot"] (defScope s_counts_of) := ⟨rfl, rfl, rfl, by decide +kernel, rfl, by decide +kernel, by decide +kernel⟩
def bd_counts_of : Ev → Option Out := (sSeq (sSet 2 (xRep (aCons (eC (.int 0)) aNil) (eVar 0))) (sSeq (sFor (iAny (eVar 1)) (gT 2 (gsCons (gN 3) (gsCons (gN 4) gsNil))) (sSeq (sAugI 2 pAddI (eVar 3) (eC (.int 1))) (sAugI 2 pAddI (eVar 4) (eC (.int 1))))) (sRetX (xE (eCall pTuple (aCons (eVar 2) aNil))))))
def fn_counts_of : List PyData → Option Sl := fnS 2 3 bd_counts_of
theorem ok_counts_of (T : Top K mg) : OkAt P w K mg base 1 "counts_of" s_counts_of ["many", "lot"] (spS K fn_counts_of) := by
  obtain ⟨f, fd, F, b, g⟩ := T.d_counts_of
  have hs : SS K _ bd_counts_of := (ss_seq (ss_set (sx_rep (sa_cons se_int sa_nil) se_var)) (ss_seq (ss_for (si_any se_var) (sg_tup (sgs_cons sg_name (sgs_cons sg_name sgs_nil))) (ss_seq (ss_augI sr_addI pAddI_sc se_var se_int) (ss_augI sr_addI pAddI_sc se_var se_int))) (ss_retX (sx_e (se_callB sr_tuple (sa_cons se_var sa_nil))))))
  exact ⟨f, fd, F, b, g, okS hs F sc_counts_of rfl rfl (fun cdv A outer s H E hr => (pss_cons (ps_set (i := 2) sc_counts_of.nd rfl (by first | exact Or.inl rfl | exact Or.inr rfl) (pe_op op_rep (pe_lst (pa_cons pe_int pa_nil)) (pv 0))) (pss_cons (ps_for PassesOwn.never rfl (pi_any (pv 1)) (pg_tup rfl (pgs_cons (pg_name (i := 3) sc_counts_of.nd rfl (by first | exact Or.inl rfl | exact Or.inr rfl)) (pgs_cons (pg_name (i := 4) sc_counts_of.nd rfl (by first | exact Or.inl rfl | exact Or.inr rfl)) pgs_nil))) (pss_cons (ps_augS (pv 2) (pv 3) get_listN pe_int iop_add set_list) (pss_one (ps_augS (pv 2) (pv 4) get_listN pe_int iop_add set_list)))) (pss_one (ps_ret (pe_callTy c_tuple (by rfl) T.n_tuple boot_tuple (pa_cons (pv 2) pa_nil)))))))⟩

abbrev s_by_counts : Stmt := topS 74
abbrev N_by_counts : List Str := ["counts", "lots", "lot"]
theorem sc_by_counts : FnScope N_by_counts ["counts"] (defScope s_by_counts) := ⟨rfl, rfl, rfl, by decide +kernel, rfl, by decide +kernel, by decide +kernel⟩
def bd_by_counts : Ev → Option Out := (sSeq (sIf (bNot (bTru (eX (xFn fn_are_counts (aCons (eVar 0) aNil))))) sNever sNil) (sSeq (sSet 1 (xLc (iAny (eX (xFn fn_all_lots (aCons (eCall pLen (aCons (eVar 0) aNil)) aNil)))) (gN 2) (bB (eOp pEq (eX (xFn fn_counts_of (aCons (eCall pLen (aCons (eVar 0) aNil)) (aCons (eVar 2) aNil)))) (eVar 0))) (eVar 2) [2])) (sRetX (xE (eTup (aCons (eCall pLen (aCons (eVar 1) aNil)) (aCons (eUn pMinN (eVar 1)) aNil)))))))
def fn_by_counts : List PyData → Option Sl := fnS 1 2 bd_by_counts
theorem ok_by_counts (T : Top K mg) : OkAt P w K mg base 5 "by_counts" s_by_counts ["counts"] (spS K fn_by_counts) := by
  obtain ⟨f, fd, F, b, g⟩ := T.d_by_counts
  obtain ⟨f_are_counts, fd_are_counts, F_are_counts, b_are_counts, g_are_counts, G_are_counts⟩ := ok_are_counts (P := P) (w := w) (base := base) T
  obtain ⟨f_all_lots, fd_all_lots, F_all_lots, b_all_lots, g_all_lots, G_all_lots⟩ := ok_all_lots (P := P) (w := w) (base := base) T
  obtain ⟨f_counts_of, fd_counts_of, F_counts_of, b_counts_of, g_counts_of, G_counts_of⟩ := ok_counts_of (P := P) (w := w) (base := base) T
  have hs : SS K _ bd_by_counts := (ss_seq (ss_if (st_not (st_tru (se_x (sx_fn (sa_cons se_var sa_nil))))) ss_never ss_nil) (ss_seq (ss_set (sx_lc (by decide) (si_any (se_x (sx_fn (sa_cons (se_callB sr_len (sa_cons se_var sa_nil)) sa_nil)))) sg_name (lcl_name (by decide)) mn_name (st_t (se_op sr_eq (se_x (sx_fn (sa_cons (se_callB sr_len (sa_cons se_var sa_nil)) (sa_cons se_var sa_nil)))) se_var)) se_var)) (ss_retX (sx_e (se_tup (sa_cons (se_callB sr_len (sa_cons se_var sa_nil)) (sa_cons (se_minN se_var) sa_nil)))))))
  exact ⟨f, fd, F, b, g, okS hs F sc_by_counts rfl rfl (fun cdv A outer s H E hr => (pss_cons (ps_if (pt_not (pt_tru (pe_call G_are_counts (hr.mono (by decide)) (by rfl) g_are_counts F_are_counts.kp b_are_counts .nil pass0 (pa_cons (pv 0) pa_nil)))) (pss_one ps_never) pss_nil) (pss_cons (ps_setLc (i := 1) (own := [("lot", 2)]) rfl sc_by_counts.nd rfl rfl (sw_true rfl rfl rfl (by decide +kernel)) (pi_any (pe_call G_all_lots (hr.mono (by decide)) (by rfl) g_all_lots F_all_lots.kp b_all_lots .nil pass0 (pa_cons (pe_callB c_len (by rfl) T.n_len PySem.boot_len (pa_cons (pv 0) pa_nil)) pa_nil))) (blkOk_by (N := N_by_counts) (sc := defScope s_by_counts) (by decide +kernel)) (fun _ _ _ _ _ => (pg_name (i := 2) sc_by_counts.nd rfl (by first | exact Or.inl rfl | exact Or.inr rfl))) (fun _ _ _ _ _ => (pts_one (pt_cmpR (op_eqD hr.units) (pe_call G_counts_of (hr.mono (by decide)) (by rfl) g_counts_of F_counts_of.kp b_counts_of .nil pass0 (pa_cons (pe_callB c_len (by rfl) T.n_len PySem.boot_len (pa_cons (pv 0) pa_nil)) (pa_cons (pv 2) pa_nil))) (pv 0) (nomark _)))) (fun _ _ _ _ _ => (pv 2))) (pss_one (ps_ret (pe_tup (pa_cons (pe_callB c_len (by rfl) T.n_len PySem.boot_len (pa_cons (pv 1) pa_nil)) (pa_cons (pe_callBK (cr_minN rfl (hu65 hr)) (by rfl) T.n_min boot_min (pa_cons (pv 1) pa_nil) (pk_cons pe_non pk_nil)) pa_nil))))))))⟩

abbrev s_Street_heights : Stmt := (clsS 80 5)
abbrev N_Street_heights : List Str := ["self"]
theorem sc_Street_heights : FnScope N_Street_heights ["self"] (defScope s_Street_heights) := ⟨rfl, rfl, rfl, by decide +kernel, rfl, by decide +kernel, by decide +kernel⟩
def bd_Street_heights : Ev → Option Out := (sRetX (xE (eRow 0)))
def fn_Street_heights : FT := fnT 0 0 bd_Street_heights
theorem ok_Street_heights (T : Top K mg) {C : Addr} (hC : mg "Street" = some (.ref C)) : OkM P w K mg base 1 C "heights" "Street.heights" s_Street_heights ["self"] (spT K fn_Street_heights) := by
  obtain ⟨f, fd, F, b, g⟩ := T.m_Street_heights C hC
  have h_Street := hC
  have k_Street := T.k_Street C hC
  have hs : SS K _ bd_Street_heights := (ss_retX (sx_e (se_row k_Street)))
  exact ⟨f, fd, F, b, g, okT hs F sc_Street_heights rfl rfl (fun cdv A outer s H E hr => (pss_one (ps_ret (pe_fld (pv 0) rfl))))⟩

abbrev s_Street_sights : Stmt := (clsS 80 6)
abbrev N_Street_sights : List Str := ["self"]
theorem sc_Street_sights : FnScope N_Street_sights ["self"] (defScope s_Street_sights) := ⟨rfl, rfl, rfl, by decide +kernel, rfl, by decide +kernel, by decide +kernel⟩
def bd_Street_sights : Ev → Option Out := (sRetX (xFn fn_sights_in_row (aCons (eRow 0) aNil)))
def fn_Street_sights : FT := fnT 0 0 bd_Street_sights
theorem ok_Street_sights (T : Top K mg) {C : Addr} (hC : mg "Street" = some (.ref C)) : OkM P w K mg base 3 C "sights" "Street.sights" s_Street_sights ["self"] (spT K fn_Street_sights) := by
  obtain ⟨f, fd, F, b, g⟩ := T.m_Street_sights C hC
  have h_Street := hC
  have k_Street := T.k_Street C hC
  obtain ⟨f_sights_in_row, fd_sights_in_row, F_sights_in_row, b_sights_in_row, g_sights_in_row, G_sights_in_row⟩ := ok_sights_in_row (P := P) (w := w) (base := base) T
  have hs : SS K _ bd_Street_sights := (ss_retX (sx_fn (sa_cons (se_row k_Street) sa_nil)))
  exact ⟨f, fd, F, b, g, okT hs F sc_Street_sights rfl rfl (fun cdv A outer s H E hr => (pss_one (ps_ret (pe_call G_sights_in_row (hr.mono (by decide)) (by rfl) g_sights_in_row F_sights_in_row.kp b_sights_in_row .nil pass0 (pa_cons (pe_fld (pv 0) rfl) pa_nil)))))⟩

abbrev s_law_doubled : Stmt := topS 86
abbrev N_law_doubled : List Str := ["many", "found", "turn"]
theorem sc_law_doubled : FnScope N_law_doubled ["many"] (defScope s_law_doubled) := ⟨rfl, rfl, rfl, by decide +kernel, rfl, by decide +kernel, by decide +kernel⟩
def bd_law_doubled : Ev → Option Out := (sSeq (sSet 1 (xE (eC (.int 1)))) (sSeq (sFor (iR1 (aCons (eOp pSub (eVar 0) (eC (.int 1))) aNil)) (gN 2) (sSet 1 (xE (eOp pMul (eVar 1) (eC (.int 2)))))) (sRetX (xVar 1))))
def fn_law_doubled : List PyData → Option Sl := fnS 1 2 bd_law_doubled
theorem ok_law_doubled (T : Top K mg) : OkAt P w K mg base 1 "_law_doubled" s_law_doubled ["many"] (spS K fn_law_doubled) := by
  obtain ⟨f, fd, F, b, g⟩ := T.d_law_doubled
  have hs : SS K _ bd_law_doubled := (ss_seq (ss_set (sx_e se_int)) (ss_seq (ss_for (si_rng1 (sa_cons (se_op sr_sub se_var se_int) sa_nil)) sg_name (ss_set (sx_e (se_op sr_mul se_var se_int)))) (ss_retX sx_var)))
  exact ⟨f, fd, F, b, g, okS hs F sc_law_doubled rfl rfl (fun cdv A outer s H E hr => (pss_cons (ps_set (i := 1) sc_law_doubled.nd rfl (by first | exact Or.inl rfl | exact Or.inr rfl) pe_int) (pss_cons (ps_for PassesOwn.never rfl (pi_range1 (by rfl) T.n_range (pa_cons (pe_op op_sub (pv 0) pe_int) pa_nil)) (pg_name (i := 2) sc_law_doubled.nd rfl (by first | exact Or.inl rfl | exact Or.inr rfl)) (pss_one (ps_set (i := 1) sc_law_doubled.nd rfl (by first | exact Or.inl rfl | exact Or.inr rfl) (pe_op op_mul (pv 1) pe_int)))) (pss_one (ps_ret (pv 1))))))⟩

abbrev s_TreeCount_bare : Stmt := (clsS 67 0)
abbrev N_TreeCount_bare : List Str := ["self"]
theorem sc_TreeCount_bare : FnScope N_TreeCount_bare ["self"] (defScope s_TreeCount_bare) := ⟨rfl, rfl, rfl, by decide +kernel, rfl, by decide +kernel, by decide +kernel⟩
def bd_TreeCount_bare : Ev → Option Out := (sRetX (xE (eC (.int 1))))
def fn_TreeCount_bare : List Sl → Option Sl := fnF 1 0 bd_TreeCount_bare
theorem ok_TreeCount_bare (T : Top K mg) {C : Addr} (hC : mg "TreeCount" = some (.ref C)) : OkM P w K mg base 1 C "bare" "TreeCount.bare" s_TreeCount_bare ["self"] (spF K fn_TreeCount_bare) := by
  obtain ⟨f, fd, F, b, g⟩ := T.m_TreeCount_bare C hC
  have hs : SS K _ bd_TreeCount_bare := (ss_retX (sx_e se_int))
  exact ⟨f, fd, F, b, g, okF hs F sc_TreeCount_bare rfl rfl (fun cdv A outer s H E hr => (pss_one (ps_ret pe_int)))⟩

abbrev s_TreeCount_joined : Stmt := (clsS 67 1)
abbrev N_TreeCount_joined : List Str := ["self", "own", "before", "behind"]
theorem sc_TreeCount_joined : FnScope N_TreeCount_joined ["self", "own", "before", "behind"] (defScope s_TreeCount_joined) := ⟨rfl, rfl, rfl, by decide +kernel, rfl, by decide +kernel, by decide +kernel⟩
def bd_TreeCount_joined : Ev → Option Out := (sRetX (xE (eOp pMul (eVar 2) (eVar 3))))
def fn_TreeCount_joined : List Sl → Option Sl := fnF 4 0 bd_TreeCount_joined
theorem ok_TreeCount_joined (T : Top K mg) {C : Addr} (hC : mg "TreeCount" = some (.ref C)) : OkM P w K mg base 1 C "joined" "TreeCount.joined" s_TreeCount_joined ["self", "own", "before", "behind"] (spF K fn_TreeCount_joined) := by
  obtain ⟨f, fd, F, b, g⟩ := T.m_TreeCount_joined C hC
  have hs : SS K _ bd_TreeCount_joined := (ss_retX (sx_e (se_op sr_mul se_var se_var)))
  exact ⟨f, fd, F, b, g, okF hs F sc_TreeCount_joined rfl rfl (fun cdv A outer s H E hr => (pss_one (ps_ret (pe_op op_mul (pv 2) (pv 3)))))⟩

abbrev s_parts_of_gap_TreeCount : Stmt := topS 61
abbrev N_parts_of_gap_TreeCount : List Str := ["many", "seen", "unseen", "gap", "maker", "made", "left", "right", "house"]
theorem sc_parts_of_gap_TreeCount : FnScope N_parts_of_gap_TreeCount ["many", "seen", "unseen", "gap", "maker", "made"] (defScope s_parts_of_gap_TreeCount) := ⟨rfl, rfl, rfl, by decide +kernel, rfl, by decide +kernel, by decide +kernel⟩
def bd_parts_of_gap_TreeCount : Ev → Option Out := (sSeq (sAsg (eVar 3) (gT 2 (gsCons (gN 6) (gsCons (gN 7) gsNil)))) (sRetX (xLc (iAny (eX (xFn fn_houses_that_fit (aCons (eVar 1) (aCons (eVar 2) (aCons (eVar 3) aNil)))))) (gN 8) (bAnd (bB (eOp (pIs true) (eDGet 5 (eTup (aCons (eVar 6) (aCons (eVar 8) aNil)))) (eC .none))) (bB (eOp (pIs true) (eDGet 5 (eTup (aCons (eVar 8) (aCons (eVar 7) aNil)))) (eC .none)))) (eX (xMeth "TreeCount" 4 fn_TreeCount_joined (asSh (eX (xFn fn_sights_to_sides (aCons (eVar 0) (aCons (eVar 3) (aCons (eVar 8) aNil))))) (asSh (eDGet 5 (eTup (aCons (eVar 6) (aCons (eVar 8) aNil)))) (asSh (eDGet 5 (eTup (aCons (eVar 8) (aCons (eVar 7) aNil)))) asNil))))) [8])))
def fn_parts_of_gap_TreeCount : List Sl → Option Sl := fnF 6 3 bd_parts_of_gap_TreeCount
theorem ok_parts_of_gap_TreeCount (T : Top K mg) : OkAt P w K mg base 2 "parts_of_gap" s_parts_of_gap_TreeCount ["many", "seen", "unseen", "gap", "maker", "made"] (spF K fn_parts_of_gap_TreeCount) := by
  obtain ⟨f, fd, F, b, g⟩ := T.d_parts_of_gap
  obtain ⟨C_TreeCount, h_TreeCount⟩ := T.e_TreeCount
  have k_TreeCount := T.k_TreeCount C_TreeCount h_TreeCount
  obtain ⟨f_houses_that_fit, fd_houses_that_fit, F_houses_that_fit, b_houses_that_fit, g_houses_that_fit, G_houses_that_fit⟩ := ok_houses_that_fit (P := P) (w := w) (base := base) T
  obtain ⟨f_TreeCount_joined, fd_TreeCount_joined, F_TreeCount_joined, b_TreeCount_joined, m_TreeCount_joined, G_TreeCount_joined⟩ := ok_TreeCount_joined (P := P) (w := w) (base := base) T h_TreeCount
  obtain ⟨f_sights_to_sides, fd_sights_to_sides, F_sights_to_sides, b_sights_to_sides, g_sights_to_sides, G_sights_to_sides⟩ := ok_sights_to_sides (P := P) (w := w) (base := base) T
  have hs : SS K _ bd_parts_of_gap_TreeCount := (ss_seq (ss_asg se_var (sg_tup (sgs_cons sg_name (sgs_cons sg_name sgs_nil)))) (ss_retX (sx_lc (by decide) (si_any (se_x (sx_fn (sa_cons se_var (sa_cons se_var (sa_cons se_var sa_nil)))))) sg_name (lcl_name (by decide)) mn_name (st_and (st_t (se_op sr_isnot (se_dget (se_tup (sa_cons se_var (sa_cons se_var sa_nil)))) se_non)) (st_t (se_op sr_isnot (se_dget (se_tup (sa_cons se_var (sa_cons se_var sa_nil)))) se_non))) (se_x (sx_meth (m := "joined") k_TreeCount.ns (sas_sh (se_x (sx_fn (sa_cons se_var (sa_cons se_var (sa_cons se_var sa_nil))))) (sas_sh (se_dget (se_tup (sa_cons se_var (sa_cons se_var sa_nil)))) (sas_sh (se_dget (se_tup (sa_cons se_var (sa_cons se_var sa_nil)))) sas_nil))))))))
  exact ⟨f, fd, F, b, g, okF hs F sc_parts_of_gap_TreeCount rfl rfl (fun cdv A outer s H E hr => (pss_cons (ps_asg (pv 3) (pg_tup rfl (pgs_cons (pg_name (i := 6) sc_parts_of_gap_TreeCount.nd rfl (by first | exact Or.inl rfl | exact Or.inr rfl)) (pgs_cons (pg_name (i := 7) sc_parts_of_gap_TreeCount.nd rfl (by first | exact Or.inl rfl | exact Or.inr rfl)) pgs_nil)))) (pss_one (ps_ret (pe_lc (own := [("house", 8)]) rfl sc_parts_of_gap_TreeCount.nd (pi_any (pe_call G_houses_that_fit (hr.mono (by decide)) (by rfl) g_houses_that_fit F_houses_that_fit.kp b_houses_that_fit .nil pass0 (pa_cons (pv 1) (pa_cons (pv 2) (pa_cons (pv 3) pa_nil))))) (blkOk_by (N := N_parts_of_gap_TreeCount) (sc := defScope s_parts_of_gap_TreeCount) (by decide +kernel)) (fun _ _ _ _ _ => (pg_name (i := 8) sc_parts_of_gap_TreeCount.nd rfl (by first | exact Or.inl rfl | exact Or.inr rfl))) (fun _ _ _ _ _ => (pts_one (PW.pt (pw_and (pt_cmpR op_isnotA (pe_dgN (hu65 hr) (pv 5) (pe_tup (pa_cons (pv 6) (pa_cons (pv 8) pa_nil)))) pe_non (nomark _)) (pw_and1 (pt_cmpR op_isnotA (pe_dgN (hu65 hr) (pv 5) (pe_tup (pa_cons (pv 8) (pa_cons (pv 7) pa_nil)))) pe_non (nomark _))))))) (fun _ _ _ _ _ => (pe_meth (pv 4) k_TreeCount.cls m_TreeCount_joined G_TreeCount_joined (hr.mono (by decide)) b_TreeCount_joined .nil pass0 (pa_cons (pe_call G_sights_to_sides (hr.mono (by decide)) (by rfl) g_sights_to_sides F_sights_to_sides.kp b_sights_to_sides .nil pass0 (pa_cons (pv 0) (pa_cons (pv 3) (pa_cons (pv 8) pa_nil)))) (pa_cons (pe_dgN (hu65 hr) (pv 5) (pe_tup (pa_cons (pv 6) (pa_cons (pv 8) pa_nil)))) (pa_cons (pe_dgN (hu65 hr) (pv 5) (pe_tup (pa_cons (pv 8) (pa_cons (pv 7) pa_nil)))) pa_nil))))))))))⟩

abbrev s_TreeCount_chosen : Stmt := (clsS 67 2)
abbrev N_TreeCount_chosen : List Str := ["self", "parts"]
theorem sc_TreeCount_chosen : FnScope N_TreeCount_chosen ["self", "parts"] (defScope s_TreeCount_chosen) := ⟨rfl, rfl, rfl, by decide +kernel, rfl, by decide +kernel, by decide +kernel⟩
def bd_TreeCount_chosen : Ev → Option Out := (sRetX (xE (eCall pSum (aCons (eVar 1) aNil))))
def fn_TreeCount_chosen : List Sl → Option Sl := fnF 2 0 bd_TreeCount_chosen
theorem ok_TreeCount_chosen (T : Top K mg) {C : Addr} (hC : mg "TreeCount" = some (.ref C)) : OkM P w K mg base 1 C "chosen" "TreeCount.chosen" s_TreeCount_chosen ["self", "parts"] (spF K fn_TreeCount_chosen) := by
  obtain ⟨f, fd, F, b, g⟩ := T.m_TreeCount_chosen C hC
  have hs : SS K _ bd_TreeCount_chosen := (ss_retX (sx_e (se_callB sr_sum (sa_cons se_var sa_nil))))
  exact ⟨f, fd, F, b, g, okF hs F sc_TreeCount_chosen rfl rfl (fun cdv A outer s H E hr => (pss_one (ps_ret (pe_callB (cr_sum rfl) (by rfl) T.n_sum boot_sum (pa_cons (pv 1) pa_nil)))))⟩

abbrev s_made_of_trees_TreeCount : Stmt := topS 59
abbrev N_made_of_trees_TreeCount : List Str := ["many", "seen", "unseen", "left", "maker", "made", "gap", "parts"]
theorem sc_made_of_trees_TreeCount : FnScope N_made_of_trees_TreeCount ["many", "seen", "unseen", "left", "maker"] (defScope s_made_of_trees_TreeCount) := ⟨rfl, rfl, rfl, by decide +kernel, rfl, by decide +kernel, by decide +kernel⟩
def bd_made_of_trees_TreeCount : Ev → Option Out := (sSeq (sSet 5 xDict) (sSeq (sFor (iAny (eX (xFn fn_gaps_within (aCons (eVar 3) (aCons (eVar 0) aNil))))) (gN 6) (sIf (bB (eOp pEq (eOp pSub (eIxV 6 (eC (.int 1))) (eIxV 6 (eC (.int 0)))) (eC (.int 1)))) (sDPut 5 (eX (xMeth "TreeCount" 4 fn_TreeCount_bare asNil)) (eVar 6)) (sSeq (sSet 7 (xFnF fn_parts_of_gap_TreeCount (asSh (eVar 0) (asSh (eVar 1) (asSh (eVar 2) (asSh (eVar 6) (asV 4 (asV 5 asNil)))))))) (sDPut 5 (eIf (bTru (eVar 7)) (eX (xMeth "TreeCount" 4 fn_TreeCount_chosen (asSh (eVar 7) asNil))) (eC .none)) (eVar 6))))) (sRetX (xE (eDGet 5 (eTup (aCons (eVar 3) (aCons (eVar 0) aNil))))))))
def fn_made_of_trees_TreeCount : List Sl → Option Sl := fnF 5 3 bd_made_of_trees_TreeCount
theorem ok_made_of_trees_TreeCount (T : Top K mg) : OkAt P w K mg base 3 "made_of_trees" s_made_of_trees_TreeCount ["many", "seen", "unseen", "left", "maker"] (spF K fn_made_of_trees_TreeCount) := by
  obtain ⟨f, fd, F, b, g⟩ := T.d_made_of_trees
  obtain ⟨C_TreeCount, h_TreeCount⟩ := T.e_TreeCount
  have k_TreeCount := T.k_TreeCount C_TreeCount h_TreeCount
  obtain ⟨f_gaps_within, fd_gaps_within, F_gaps_within, b_gaps_within, g_gaps_within, G_gaps_within⟩ := ok_gaps_within (P := P) (w := w) (base := base) T
  obtain ⟨f_TreeCount_bare, fd_TreeCount_bare, F_TreeCount_bare, b_TreeCount_bare, m_TreeCount_bare, G_TreeCount_bare⟩ := ok_TreeCount_bare (P := P) (w := w) (base := base) T h_TreeCount
  obtain ⟨f_parts_of_gap_TreeCount, fd_parts_of_gap_TreeCount, F_parts_of_gap_TreeCount, b_parts_of_gap_TreeCount, g_parts_of_gap_TreeCount, G_parts_of_gap_TreeCount⟩ := ok_parts_of_gap_TreeCount (P := P) (w := w) (base := base) T
  obtain ⟨f_TreeCount_chosen, fd_TreeCount_chosen, F_TreeCount_chosen, b_TreeCount_chosen, m_TreeCount_chosen, G_TreeCount_chosen⟩ := ok_TreeCount_chosen (P := P) (w := w) (base := base) T h_TreeCount
  have hs : SS K _ bd_made_of_trees_TreeCount := (ss_seq (ss_set sx_dict) (ss_seq (ss_for (si_any (se_x (sx_fn (sa_cons se_var (sa_cons se_var sa_nil))))) sg_name (ss_if (st_t (se_op sr_eq (se_op sr_sub (se_ixv se_int) (se_ixv se_int)) se_int)) (ss_dput (se_x (sx_meth (m := "bare") k_TreeCount.ns sas_nil)) se_var) (ss_seq (ss_set (sx_fnF (sas_sh se_var (sas_sh se_var (sas_sh se_var (sas_sh se_var (sas_v (sas_v sas_nil)))))))) (ss_dput (se_if (st_tru se_var) (se_x (sx_meth (m := "chosen") k_TreeCount.ns (sas_sh se_var sas_nil))) se_non) se_var)))) (ss_retX (sx_e (se_dget (se_tup (sa_cons se_var (sa_cons se_var sa_nil))))))))
  exact ⟨f, fd, F, b, g, okF hs F sc_made_of_trees_TreeCount rfl rfl (fun cdv A outer s H E hr => (pss_cons (ps_set (i := 5) sc_made_of_trees_TreeCount.nd rfl (by first | exact Or.inl rfl | exact Or.inr rfl) pe_dnewN) (pss_cons (ps_for PassesOwn.never rfl (pi_any (pe_call G_gaps_within (hr.mono (by decide)) (by rfl) g_gaps_within F_gaps_within.kp b_gaps_within .nil pass0 (pa_cons (pv 3) (pa_cons (pv 0) pa_nil)))) (pg_name (i := 6) sc_made_of_trees_TreeCount.nd rfl (by first | exact Or.inl rfl | exact Or.inr rfl)) (pss_one (ps_if (pt_cmpR (op_eqD hr.units) (pe_op op_sub (pe_ix ix_seq (pv 6) pe_int (fun _ _ => rfl)) (pe_ix ix_seq (pv 6) pe_int (fun _ _ => rfl))) pe_int (nomark _)) (pss_one (ps_dpN (hu65 hr) (pv 5) (pv 6) (pe_meth0 (pv 4) k_TreeCount.cls m_TreeCount_bare G_TreeCount_bare (hr.mono (by decide)) b_TreeCount_bare .nil pass0))) (pss_cons (ps_set (i := 7) sc_made_of_trees_TreeCount.nd rfl (by first | exact Or.inl rfl | exact Or.inr rfl) (pe_call G_parts_of_gap_TreeCount (hr.mono (by decide)) (by rfl) g_parts_of_gap_TreeCount F_parts_of_gap_TreeCount.kp b_parts_of_gap_TreeCount .nil pass0 (pa_cons (pv 0) (pa_cons (pv 1) (pa_cons (pv 2) (pa_cons (pv 6) (pa_cons (pv 4) (pa_cons (pv 5) pa_nil)))))))) (pss_one (ps_dpN (hu65 hr) (pv 5) (pv 6) (pe_ifExp (pt_tru (pv 7)) (pe_meth (pv 4) k_TreeCount.cls m_TreeCount_chosen G_TreeCount_chosen (hr.mono (by decide)) b_TreeCount_chosen .nil pass0 (pa_cons (pv 7) pa_nil)) pe_non))))))) (pss_one (ps_ret (pe_dgN (hu65 hr) (pv 5) (pe_tup (pa_cons (pv 3) (pa_cons (pv 0) pa_nil)))))))))⟩

abbrev s_lots_with : Stmt := topS 65
abbrev N_lots_with : List Str := ["many", "seen", "unseen"]
theorem sc_lots_with : FnScope N_lots_with ["many", "seen", "unseen"] (defScope s_lots_with) := ⟨rfl, rfl, rfl, by decide +kernel, rfl, by decide +kernel, by decide +kernel⟩
def bd_lots_with : Ev → Option Out := (sSeq (sExpr (eX (xFn fn_check_many_seen_and_unseen (aCons (eVar 0) (aCons (eVar 1) (aCons (eVar 2) aNil)))))) (sRetX (xE (eOrT (eX (xFnF fn_made_of_trees_TreeCount (asSh (eVar 0) (asSh (eVar 1) (asSh (eVar 2) (asSh (eC (.int 0)) (asMk "TreeCount" asNil))))))) (eC (.int 0))))))
def fn_lots_with : List PyData → Option Sl := fnS 3 0 bd_lots_with
theorem ok_lots_with (T : Top K mg) : OkAt P w K mg base 8 "lots_with" s_lots_with ["many", "seen", "unseen"] (spS K fn_lots_with) := by
  obtain ⟨f, fd, F, b, g⟩ := T.d_lots_with
  obtain ⟨C_TreeCount, h_TreeCount⟩ := T.e_TreeCount
  have k_TreeCount := T.k_TreeCount C_TreeCount h_TreeCount
  obtain ⟨f_check_many_seen_and_unseen, fd_check_many_seen_and_unseen, F_check_many_seen_and_unseen, b_check_many_seen_and_unseen, g_check_many_seen_and_unseen, G_check_many_seen_and_unseen⟩ := ok_check_many_seen_and_unseen (P := P) (w := w) (base := base) T
  obtain ⟨f_made_of_trees_TreeCount, fd_made_of_trees_TreeCount, F_made_of_trees_TreeCount, b_made_of_trees_TreeCount, g_made_of_trees_TreeCount, G_made_of_trees_TreeCount⟩ := ok_made_of_trees_TreeCount (P := P) (w := w) (base := base) T
  have hs : SS K _ bd_lots_with := (ss_seq (ss_expr (se_x (sx_fn (sa_cons se_var (sa_cons se_var (sa_cons se_var sa_nil)))))) (ss_retX (sx_e (se_orT (se_x (sx_fnF (sas_sh se_var (sas_sh se_var (sas_sh se_var (sas_sh se_int (sas_mk k_TreeCount.ns sas_nil))))))) se_int))))
  exact ⟨f, fd, F, b, g, okS hs F sc_lots_with rfl rfl (fun cdv A outer s H E hr => (pss_cons (ps_expr (pe_call G_check_many_seen_and_unseen (hr.mono (by decide)) (by rfl) g_check_many_seen_and_unseen F_check_many_seen_and_unseen.kp b_check_many_seen_and_unseen .nil pass0 (pa_cons (pv 0) (pa_cons (pv 1) (pa_cons (pv 2) pa_nil))))) (pss_one (ps_ret (pe_orT (pe_call G_made_of_trees_TreeCount (hr.mono (by decide)) (by rfl) g_made_of_trees_TreeCount F_made_of_trees_TreeCount.kp b_made_of_trees_TreeCount .nil pass0 (pa_cons (pv 0) (pa_cons (pv 1) (pa_cons (pv 2) (pa_cons pe_int (pa_cons (pe_mk0 k_TreeCount.mk0 (by rfl) h_TreeCount) pa_nil)))))) (pe_one pe_int))))))⟩

abbrev s_lots_of : Stmt := topS 73
abbrev N_lots_of : List Str := ["number", "trees", "more", "before", "behind"]
theorem sc_lots_of : FnScope N_lots_of ["number"] (defScope s_lots_of) := ⟨rfl, rfl, rfl, by decide +kernel, rfl, by decide +kernel, by decide +kernel⟩
def bd_lots_of : Ev → Option Out := (sSeq (sIf (bNot (bTru (eX (xFn fn_is_whole_within (aCons (eVar 0) (aCons (eC (.int 1)) (aCons (eC (.int 60)) aNil))))))) sNever sNil) (sSeq (sSet 1 (xLst (aCons (eC (.int 1)) aNil))) (sSeq (wloop (bScal (bB (eOp pLt (eCall pLen (aCons (eVar 1) aNil)) (eVar 0)))) (sSeq (sSet 2 (xE (eScal (eCall pSum (aCons (eX (xLc (iZp (eVar 1) (eX (xRev (eVar 1)))) (gT 2 (gsCons (gN 3) (gsCons (gN 4) gsNil))) bYes (eOp pMul (eVar 3) (eVar 4)) [3, 4])) aNil))))) (sApp 1 (eVar 2))) 64) (sRetX (xE (eIxV 1 (eOp pSub (eVar 0) (eC (.int 1)))))))))
def fn_lots_of : List PyData → Option Sl := fnS 1 4 bd_lots_of
theorem ok_lots_of (T : Top K mg) : OkAt P w K mg base 3 "lots_of" s_lots_of ["number"] (spS K fn_lots_of) := by
  obtain ⟨f, fd, F, b, g⟩ := T.d_lots_of
  obtain ⟨f_is_whole_within, fd_is_whole_within, F_is_whole_within, b_is_whole_within, g_is_whole_within, G_is_whole_within⟩ := ok_is_whole_within (P := P) (w := w) (base := base) T
  have hs : SS K _ bd_lots_of := (ss_seq (ss_if (st_not (st_tru (se_x (sx_fn (sa_cons se_var (sa_cons se_int (sa_cons se_int sa_nil))))))) ss_never ss_nil) (ss_seq (ss_set (sx_lst (sa_cons se_int sa_nil))) (ss_seq (ss_while 64 (st_scal (st_t (se_op sr_lt (se_callB sr_len (sa_cons se_var sa_nil)) se_var))) (ss_seq (ss_set (sx_e (se_scal (se_callB sr_sum (sa_cons (se_x (sx_lc (by decide) (si_zip se_var (se_x (sx_rev se_var))) (sg_tup (sgs_cons sg_name (sgs_cons sg_name sgs_nil))) (lcl_tup (lcls_cons mn_name (mns_cons mn_name mns_nil) (lcl_name (by decide)) (lcls_cons mn_name mns_nil (lcl_name (by decide)) lcls_nil))) (mn_tup (mns_cons mn_name (mns_cons mn_name mns_nil))) st_yes (se_op sr_mul se_var se_var))) sa_nil))))) (ss_app se_var))) (ss_retX (sx_e (se_ixv (se_op sr_sub se_var se_int)))))))
  exact ⟨f, fd, F, b, g, okS hs F sc_lots_of rfl rfl (fun cdv A outer s H E hr => (pss_cons (ps_if (pt_not (pt_tru (pe_call G_is_whole_within (hr.mono (by decide)) (by rfl) g_is_whole_within F_is_whole_within.kp b_is_whole_within .nil pass0 (pa_cons (pv 0) (pa_cons pe_int (pa_cons (pe_glob (v := .int 60) (by rfl) T.c_MOST_NUMBER.choose_spec ⟨_, rfl⟩) pa_nil)))))) (pss_one ps_never) pss_nil) (pss_cons (ps_set (i := 1) sc_lots_of.nd rfl (by first | exact Or.inl rfl | exact Or.inr rfl) (pe_lst (pa_cons pe_int pa_nil))) (pss_cons (ps_while PassesOwn.never (pt_cmpR (op_ltA hr.units0) (pe_callB c_len (by rfl) T.n_len PySem.boot_len (pa_cons (pv 1) pa_nil)) (pv 0) (nomark _)) (pss_cons (ps_set (i := 2) sc_lots_of.nd rfl (by first | exact Or.inl rfl | exact Or.inr rfl) (pe_callB (cr_sum rfl) (by rfl) T.n_sum boot_sum (pa_cons (pe_lc (own := [("before", 3), ("behind", 4)]) rfl sc_lots_of.nd (RZ.pi_zipA (by rfl) T.n_zip (pa_cons (pv 1) (pa_cons (pe_revS (pv 1)) pa_nil))) (blkOk_by (N := N_lots_of) (sc := defScope s_lots_of) (by decide +kernel)) (fun _ _ _ _ _ => (pg_tup rfl (pgs_cons (pg_name (i := 3) sc_lots_of.nd rfl (by first | exact Or.inl rfl | exact Or.inr rfl)) (pgs_cons (pg_name (i := 4) sc_lots_of.nd rfl (by first | exact Or.inl rfl | exact Or.inr rfl)) pgs_nil)))) (fun _ _ _ _ _ => pts_nil) (fun _ _ _ _ _ => (pe_op op_mul (pv 3) (pv 4)))) pa_nil))) (pss_one (ps_expr (pe_bm PySem.F.plainAttrs_list PySem.F.slot_list_append PySem.F.type_list_append mt_append (pv 1) (pa_cons (pv 2) pa_nil)))))) (pss_one (ps_ret (pe_ix ix_seq (pv 1) (pe_op op_sub (pv 0) pe_int) (fun _ _ => rfl))))))))⟩

abbrev s_law : Stmt := topS 88
abbrev N_law : List Str := ["script", "cell", "street", "deck", "many", "path", "counts", "closed", "place", "height", "house", "left", "right", "count", "top"]
theorem sc_law : FnScope N_law ["script"] (defScope s_law) := ⟨rfl, rfl, rfl, by decide +kernel, rfl, by decide +kernel, by decide +kernel⟩
def bd_law : Ev → Option Out := (sSeq (sFor (iAny (eX (xSl (eX (xOps pAdd (eX (xLst (aCons (eC (.int 0)) aNil))) (eVar 0))) oNo (oSome (eC (.int 4)))))) (gN 1) (sSeq (sSet 3 (xFn fn_law_deck (aCons (eVar 1) (aCons (eC (.int 13)) aNil)))) (sSeq (sSet 4 (xOps pAdd (eC (.int 3)) (eX (xFnB 3 fn_law_pick (aCons (eC (.int 10)) aNil))))) (sSeq (sSet 5 (xE (eCall pTuple (aCons (eX (xLc (iR1 (aCons (eOp pSub (eVar 4) (eC (.int 1))) aNil)) (gN 10) bYes (eTup (aCons (eVar 10) (aCons (eX (xOps pAdd (eVar 10) (eC (.int 1)))) aNil))) [10])) aNil)))) (sSeq (sIf (bOr (bB (eOp pNe (eX (xFn fn_how_many (aCons (eVar 4) (aCons (eVar 5) aNil)))) (eX (xFn fn_law_doubled (aCons (eVar 4) aNil))))) (bB (eOp pNe (eX (xFn fn_first_order (aCons (eVar 4) (aCons (eVar 5) aNil)))) (eTupRg (rg2 (eC (.int 1)) (eX (xOps pAdd (eVar 4) (eC (.int 1))))))))) (sRetX (xE (eC (.bool false)))) sNil) (sSeq (sIf (bB (eOp pNe (eX (xFn fn_sights (aCons (eTupRg (rg1 (eVar 4))) aNil))) (eVar 5))) (sRetX (xE (eC (.bool false)))) sNil) (sSeq (sIf (bB (eOp pNe (eX (xLc (iAny (eX (xFn fn_highest (aCons (eVar 4) (aCons (eVar 5) aNil))))) (gT 2 (gsCons (gN 14) (gsCons (gN 13) gsNil))) bYes (eVar 14) [14, 13])) (eX (xListRg (rg1 (eVar 4)))))) (sRetX (xE (eC (.bool false)))) sNil) (sSeq (sSet 6 (xLc (iAny (eX (xFn fn_from_ends (aCons (eVar 4) (aCons (eVar 5) aNil))))) (gT 3 (gsCons (gN 11) (gsCons (gN 12) (gsCons (gN 13) gsNil)))) bYes (eVar 13) [11, 12, 13])) (sSeq (sIf (bOr (bB (eOp pNe (eX (xFn fn_higher (aCons (eVar 4) (aCons (eVar 5) (aCons (eC (.int 0)) (aCons (eOp pSub (eVar 4) (eC (.int 1))) aNil)))))) (eC (.str "either")))) (bB (eOp pNe (eCall pSum (aCons (eVar 6) aNil)) (eX (xFn fn_law_doubled (aCons (eVar 4) aNil)))))) (sRetX (xE (eC (.bool false)))) sNil) (sSeq (sIf (bNot (bTru (eX (xFn fn_law_fan_right (aCons (eVar 4) (aCons (eVar 5) aNil)))))) (sRetX (xE (eC (.bool false)))) sNil) (sSeq (sIf (bOr (bB (eOp pNe (eX (xFn fn_what_bars (aCons (eVar 4) (aCons (eX (xSl (eVar 5) (oSome (eC (.int 1))) oNo)) aNil)))) (eTup (aCons (eC (.str "apart")) (aCons (eC (.int 0)) (aCons (eC (.int 1)) aNil)))))) (bB (eOp (pIs true) (eX (xFn fn_what_bars (aCons (eVar 4) (aCons (eX (xOps pAdd (eVar 5) (eTup aNil))) aNil)))) (eC .none)))) (sRetX (xE (eC (.bool false)))) sNil) (sSeq (sSet 7 (xE (eCall pTuple (aCons (eX (xCall pSortB (aCons (eX (xOps pAdd (eVar 5) (eTup (aCons (eTup (aCons (eC (.int 0)) (aCons (eOp pSub (eVar 4) (eC (.int 1))) aNil))) aNil)))) aNil))) aNil)))) (sSeq (sIf (bB (eOp pNe (eX (xFn fn_what_bars (aCons (eVar 4) (aCons (eVar 7) aNil)))) (eIf (bB (eOp pEq (eVar 4) (eC (.int 3)))) (eC .none) (eTup (aCons (eC (.str "alone")) (aCons (eC (.int 0)) (aCons (eOp pSub (eVar 4) (eC (.int 1))) aNil))))))) (sRetX (xE (eC (.bool false)))) sNil) (sSeq (sIf (bOr (bB (eOp pNe (eX (xFn fn_lots_with (aCons (eVar 4) (aCons (eTup (aCons (eTup (aCons (eC (.int 0)) (aCons (eOp pSub (eVar 4) (eC (.int 1))) aNil))) aNil)) (aCons (eTup aNil) aNil))))) (eX (xFn fn_lots_of (aCons (eOp pSub (eVar 4) (eC (.int 1))) aNil))))) (bB (eOp pNe (eX (xFn fn_lots_with (aCons (eVar 4) (aCons (eTup aNil) (aCons (eX (xSl (eVar 5) oNo (oSome (eC (.int 1))))) aNil))))) (eC (.int 0))))) (sRetX (xE (eC (.bool false)))) sNil) (sIf (bB (eOp pNe (eX (xFn fn_by_counts (aCons (eTup (aCons (eC (.int 2)) (aCons (eC (.int 2)) (aCons (eC (.int 2)) aNil)))) aNil))) (eTup (aCons (eC (.int 1)) (aCons (eTup (aCons (eTup (aCons (eC (.int 0)) (aCons (eC (.int 1)) aNil))) (aCons (eTup (aCons (eC (.int 0)) (aCons (eC (.int 2)) aNil))) (aCons (eTup (aCons (eC (.int 1)) (aCons (eC (.int 2)) aNil))) aNil)))) aNil))))) (sRetX (xE (eC (.bool false)))) sNil))))))))))))))) (sSeq (sSet 2 xMkT) (sSeq (sFor (iAny (eX (xLst (aCons (eTup (aCons (eC (.int 0)) (aCons (eC (.int 5)) aNil))) (aCons (eTup (aCons (eC (.int 1)) (aCons (eC (.int 9)) aNil))) (aCons (eTup (aCons (eC (.int 1)) (aCons (eC (.int 2)) aNil))) (aCons (eTup (aCons (eC (.int 3)) (aCons (eC (.int 4)) aNil))) aNil))))))) (gT 2 (gsCons (gN 8) (gsCons (gN 9) gsNil))) (sExpr (eX (xMethT 2 fn_Street_build (aCons (eVar 8) (aCons (eVar 9) aNil)))))) (sSeq (sIf (bOr (bB (eOp pNe (eX (xMethT 2 fn_Street_heights aNil)) (eTup (aCons (eC (.int 5)) (aCons (eC (.int 2)) (aCons (eC (.int 9)) (aCons (eC (.int 4)) aNil))))))) (bB (eOp pNe (eX (xMethT 2 fn_Street_sights aNil)) (eTup (aCons (eTup (aCons (eC (.int 0)) (aCons (eC (.int 1)) aNil))) (aCons (eTup (aCons (eC (.int 0)) (aCons (eC (.int 2)) aNil))) (aCons (eTup (aCons (eC (.int 1)) (aCons (eC (.int 2)) aNil))) (aCons (eTup (aCons (eC (.int 2)) (aCons (eC (.int 3)) aNil))) aNil)))))))) (sRetX (xE (eC (.bool false)))) sNil) (sRetX (xE (eOp pEq (eX (xMethT 2 fn_Street_from_ends aNil)) (eTup (aCons (eTup (aCons (eC (.int 0)) (aCons (eC (.int 2)) aNil))) (aCons (eTup (aCons (eC (.int 2)) (aCons (eC (.int 3)) aNil))) aNil))))))))))
def fn_law : List PyData → Option Sl := fnS 1 14 bd_law
theorem ok_law (T : Top K mg) : OkAt P w K mg base 13 "law" s_law ["script"] (spS K fn_law) := by
  obtain ⟨f, fd, F, b, g⟩ := T.d_law
  obtain ⟨C_Street, h_Street⟩ := T.e_Street
  have k_Street := T.k_Street C_Street h_Street
  obtain ⟨f_law_deck, fd_law_deck, F_law_deck, b_law_deck, g_law_deck, G_law_deck⟩ := ok_law_deck (P := P) (w := w) (base := base) T
  obtain ⟨f_law_pick, fd_law_pick, F_law_pick, b_law_pick, g_law_pick, G_law_pick⟩ := ok_law_pick (P := P) (w := w) (base := base) T
  obtain ⟨f_how_many, fd_how_many, F_how_many, b_how_many, g_how_many, G_how_many⟩ := ok_how_many (P := P) (w := w) (base := base) T
  obtain ⟨f_law_doubled, fd_law_doubled, F_law_doubled, b_law_doubled, g_law_doubled, G_law_doubled⟩ := ok_law_doubled (P := P) (w := w) (base := base) T
  obtain ⟨f_first_order, fd_first_order, F_first_order, b_first_order, g_first_order, G_first_order⟩ := ok_first_order (P := P) (w := w) (base := base) T
  obtain ⟨f_sights, fd_sights, F_sights, b_sights, g_sights, G_sights⟩ := ok_sights (P := P) (w := w) (base := base) T
  obtain ⟨f_highest, fd_highest, F_highest, b_highest, g_highest, G_highest⟩ := ok_highest (P := P) (w := w) (base := base) T
  obtain ⟨f_from_ends, fd_from_ends, F_from_ends, b_from_ends, g_from_ends, G_from_ends⟩ := ok_from_ends (P := P) (w := w) (base := base) T
  obtain ⟨f_higher, fd_higher, F_higher, b_higher, g_higher, G_higher⟩ := ok_higher (P := P) (w := w) (base := base) T
  obtain ⟨f_law_fan_right, fd_law_fan_right, F_law_fan_right, b_law_fan_right, g_law_fan_right, G_law_fan_right⟩ := ok_law_fan_right (P := P) (w := w) (base := base) T
  obtain ⟨f_what_bars, fd_what_bars, F_what_bars, b_what_bars, g_what_bars, G_what_bars⟩ := ok_what_bars (P := P) (w := w) (base := base) T
  obtain ⟨f_lots_with, fd_lots_with, F_lots_with, b_lots_with, g_lots_with, G_lots_with⟩ := ok_lots_with (P := P) (w := w) (base := base) T
  obtain ⟨f_lots_of, fd_lots_of, F_lots_of, b_lots_of, g_lots_of, G_lots_of⟩ := ok_lots_of (P := P) (w := w) (base := base) T
  obtain ⟨f_by_counts, fd_by_counts, F_by_counts, b_by_counts, g_by_counts, G_by_counts⟩ := ok_by_counts (P := P) (w := w) (base := base) T
  obtain ⟨f_Street___init__, fd_Street___init__, F_Street___init__, b_Street___init__, m_Street___init__, G_Street___init__⟩ := ok_Street___init__ (P := P) (w := w) (base := base) T h_Street
  obtain ⟨f_Street_build, fd_Street_build, F_Street_build, b_Street_build, m_Street_build, G_Street_build⟩ := ok_Street_build (P := P) (w := w) (base := base) T h_Street
  obtain ⟨f_Street_heights, fd_Street_heights, F_Street_heights, b_Street_heights, m_Street_heights, G_Street_heights⟩ := ok_Street_heights (P := P) (w := w) (base := base) T h_Street
  obtain ⟨f_Street_sights, fd_Street_sights, F_Street_sights, b_Street_sights, m_Street_sights, G_Street_sights⟩ := ok_Street_sights (P := P) (w := w) (base := base) T h_Street
  obtain ⟨f_Street_from_ends, fd_Street_from_ends, F_Street_from_ends, b_Street_from_ends, m_Street_from_ends, G_Street_from_ends⟩ := ok_Street_from_ends (P := P) (w := w) (base := base) T h_Street
  have hs : SS K _ bd_law := (ss_seq (ss_for (si_any (se_x (sx_slice (se_x (sx_ops sr_add (se_x (sx_lst (sa_cons se_int sa_nil))) se_var)) so_no (so_some se_int)))) sg_name (ss_seq (ss_set (sx_fn (sa_cons se_var (sa_cons se_int sa_nil)))) (ss_seq (ss_set (sx_ops sr_add se_int (se_x (sx_fnB (sa_cons se_int sa_nil))))) (ss_seq (ss_set (sx_e (se_callB sr_tuple (sa_cons (se_x (sx_lc (by decide) (si_rng1 (sa_cons (se_op sr_sub se_var se_int) sa_nil)) sg_name (lcl_name (by decide)) mn_name st_yes (se_tup (sa_cons se_var (sa_cons (se_x (sx_ops sr_add se_var se_int)) sa_nil))))) sa_nil)))) (ss_seq (ss_if (st_or (st_t (se_op sr_ne (se_x (sx_fn (sa_cons se_var (sa_cons se_var sa_nil)))) (se_x (sx_fn (sa_cons se_var sa_nil))))) (st_t (se_op sr_ne (se_x (sx_fn (sa_cons se_var (sa_cons se_var sa_nil)))) (se_tupRg (srg2 se_int (se_x (sx_ops sr_add se_var se_int))))))) (ss_retX (sx_e se_bl)) ss_nil) (ss_seq (ss_if (st_t (se_op sr_ne (se_x (sx_fn (sa_cons (se_tupRg (srg1 se_var)) sa_nil))) se_var)) (ss_retX (sx_e se_bl)) ss_nil) (ss_seq (ss_if (st_t (se_op sr_ne (se_x (sx_lc (by decide) (si_any (se_x (sx_fn (sa_cons se_var (sa_cons se_var sa_nil))))) (sg_tup (sgs_cons sg_name (sgs_cons sg_name sgs_nil))) (lcl_tup (lcls_cons mn_name (mns_cons mn_name mns_nil) (lcl_name (by decide)) (lcls_cons mn_name mns_nil (lcl_name (by decide)) lcls_nil))) (mn_tup (mns_cons mn_name (mns_cons mn_name mns_nil))) st_yes se_var)) (se_x (sx_listRg (srg1 se_var))))) (ss_retX (sx_e se_bl)) ss_nil) (ss_seq (ss_set (sx_lc (by decide) (si_any (se_x (sx_fn (sa_cons se_var (sa_cons se_var sa_nil))))) (sg_tup (sgs_cons sg_name (sgs_cons sg_name (sgs_cons sg_name sgs_nil)))) (lcl_tup (lcls_cons mn_name (mns_cons mn_name (mns_cons mn_name mns_nil)) (lcl_name (by decide)) (lcls_cons mn_name (mns_cons mn_name mns_nil) (lcl_name (by decide)) (lcls_cons mn_name mns_nil (lcl_name (by decide)) lcls_nil)))) (mn_tup (mns_cons mn_name (mns_cons mn_name (mns_cons mn_name mns_nil)))) st_yes se_var)) (ss_seq (ss_if (st_or (st_t (se_op sr_ne (se_x (sx_fn (sa_cons se_var (sa_cons se_var (sa_cons se_int (sa_cons (se_op sr_sub se_var se_int) sa_nil)))))) se_str)) (st_t (se_op sr_ne (se_callB sr_sum (sa_cons se_var sa_nil)) (se_x (sx_fn (sa_cons se_var sa_nil)))))) (ss_retX (sx_e se_bl)) ss_nil) (ss_seq (ss_if (st_not (st_tru (se_x (sx_fn (sa_cons se_var (sa_cons se_var sa_nil)))))) (ss_retX (sx_e se_bl)) ss_nil) (ss_seq (ss_if (st_or (st_t (se_op sr_ne (se_x (sx_fn (sa_cons se_var (sa_cons (se_x (sx_slice se_var (so_some se_int) so_no)) sa_nil)))) (se_tup (sa_cons se_str (sa_cons se_int (sa_cons se_int sa_nil)))))) (st_t (se_op sr_isnot (se_x (sx_fn (sa_cons se_var (sa_cons (se_x (sx_ops sr_add se_var (se_tup sa_nil))) sa_nil)))) se_non))) (ss_retX (sx_e se_bl)) ss_nil) (ss_seq (ss_set (sx_e (se_callB sr_tuple (sa_cons (se_x (sx_callB sr_sortB (sa_cons (se_x (sx_ops sr_add se_var (se_tup (sa_cons (se_tup (sa_cons se_int (sa_cons (se_op sr_sub se_var se_int) sa_nil))) sa_nil)))) sa_nil))) sa_nil)))) (ss_seq (ss_if (st_t (se_op sr_ne (se_x (sx_fn (sa_cons se_var (sa_cons se_var sa_nil)))) (se_if (st_t (se_op sr_eq se_var se_int)) se_non (se_tup (sa_cons se_str (sa_cons se_int (sa_cons (se_op sr_sub se_var se_int) sa_nil))))))) (ss_retX (sx_e se_bl)) ss_nil) (ss_seq (ss_if (st_or (st_t (se_op sr_ne (se_x (sx_fn (sa_cons se_var (sa_cons (se_tup (sa_cons (se_tup (sa_cons se_int (sa_cons (se_op sr_sub se_var se_int) sa_nil))) sa_nil)) (sa_cons (se_tup sa_nil) sa_nil))))) (se_x (sx_fn (sa_cons (se_op sr_sub se_var se_int) sa_nil))))) (st_t (se_op sr_ne (se_x (sx_fn (sa_cons se_var (sa_cons (se_tup sa_nil) (sa_cons (se_x (sx_slice se_var so_no (so_some se_int))) sa_nil))))) se_int))) (ss_retX (sx_e se_bl)) ss_nil) (ss_if (st_t (se_op sr_ne (se_x (sx_fn (sa_cons (se_tup (sa_cons se_int (sa_cons se_int (sa_cons se_int sa_nil)))) sa_nil))) (se_tup (sa_cons se_int (sa_cons (se_tup (sa_cons (se_tup (sa_cons se_int (sa_cons se_int sa_nil))) (sa_cons (se_tup (sa_cons se_int (sa_cons se_int sa_nil))) (sa_cons (se_tup (sa_cons se_int (sa_cons se_int sa_nil))) sa_nil)))) sa_nil))))) (ss_retX (sx_e se_bl)) ss_nil))))))))))))))) (ss_seq (ss_set (sx_mkT k_Street)) (ss_seq (ss_for (si_any (se_x (sx_lst (sa_cons (se_tup (sa_cons se_int (sa_cons se_int sa_nil))) (sa_cons (se_tup (sa_cons se_int (sa_cons se_int sa_nil))) (sa_cons (se_tup (sa_cons se_int (sa_cons se_int sa_nil))) (sa_cons (se_tup (sa_cons se_int (sa_cons se_int sa_nil))) sa_nil))))))) (sg_tup (sgs_cons sg_name (sgs_cons sg_name sgs_nil))) (ss_expr (se_x (sx_methT (m := "build") k_Street rfl (sa_cons se_var (sa_cons se_var sa_nil)))))) (ss_seq (ss_if (st_or (st_t (se_op sr_ne (se_x (sx_methT (m := "heights") k_Street rfl sa_nil)) (se_tup (sa_cons se_int (sa_cons se_int (sa_cons se_int (sa_cons se_int sa_nil))))))) (st_t (se_op sr_ne (se_x (sx_methT (m := "sights") k_Street rfl sa_nil)) (se_tup (sa_cons (se_tup (sa_cons se_int (sa_cons se_int sa_nil))) (sa_cons (se_tup (sa_cons se_int (sa_cons se_int sa_nil))) (sa_cons (se_tup (sa_cons se_int (sa_cons se_int sa_nil))) (sa_cons (se_tup (sa_cons se_int (sa_cons se_int sa_nil))) sa_nil)))))))) (ss_retX (sx_e se_bl)) ss_nil) (ss_retX (sx_e (se_op sr_eq (se_x (sx_methT (m := "from_ends") k_Street rfl sa_nil)) (se_tup (sa_cons (se_tup (sa_cons se_int (sa_cons se_int sa_nil))) (sa_cons (se_tup (sa_cons se_int (sa_cons se_int sa_nil))) sa_nil))))))))))
  exact ⟨f, fd, F, b, g, okS hs F sc_law rfl rfl (fun cdv A outer s H E hr => (pss_cons (ps_for PassesOwn.never rfl (pi_any (pe_slice sl_X (pe_op op_addA (pe_lst (pa_cons pe_int pa_nil)) (pv 0)) po_none (po_some pe_int))) (pg_name (i := 1) sc_law.nd rfl (by first | exact Or.inl rfl | exact Or.inr rfl)) (pss_cons (ps_set (i := 3) sc_law.nd rfl (by first | exact Or.inl rfl | exact Or.inr rfl) (pe_call G_law_deck (hr.mono (by decide)) (by rfl) g_law_deck F_law_deck.kp b_law_deck .nil pass0 (pa_cons (pv 1) (pa_cons pe_int pa_nil)))) (pss_cons (ps_set (i := 4) sc_law.nd rfl (by first | exact Or.inl rfl | exact Or.inr rfl) (pe_op op_addA pe_int (pe_call G_law_pick (hr.mono (by decide)) (by rfl) g_law_pick F_law_pick.kp b_law_pick .nil pass0 (pa_cons (pv 3) (pa_cons pe_int pa_nil))))) (pss_cons (ps_set (i := 5) sc_law.nd rfl (by first | exact Or.inl rfl | exact Or.inr rfl) (pe_callTy c_tuple (by rfl) T.n_tuple boot_tuple (pa_cons (pe_lc (own := [("house", 10)]) rfl sc_law.nd (pi_range1 (by rfl) T.n_range (pa_cons (pe_op op_sub (pv 4) pe_int) pa_nil)) (blkOk_by (N := N_law) (sc := defScope s_law) (by decide +kernel)) (fun _ _ _ _ _ => (pg_name (i := 10) sc_law.nd rfl (by first | exact Or.inl rfl | exact Or.inr rfl))) (fun _ _ _ _ _ => pts_nil) (fun _ _ _ _ _ => (pe_tup (pa_cons (pv 10) (pa_cons (pe_op op_addA (pv 10) pe_int) pa_nil))))) pa_nil))) (pss_cons (ps_if (PW.pt (pw_or (pt_cmpR (op_neD hr.units) (pe_call G_how_many (hr.mono (by decide)) (by rfl) g_how_many F_how_many.kp b_how_many .nil pass0 (pa_cons (pv 4) (pa_cons (pv 5) pa_nil))) (pe_call G_law_doubled (hr.mono (by decide)) (by rfl) g_law_doubled F_law_doubled.kp b_law_doubled .nil pass0 (pa_cons (pv 4) pa_nil)) (nomark _)) (pw_or1 (pt_cmpR (op_neD hr.units) (pe_call G_first_order (hr.mono (by decide)) (by rfl) g_first_order F_first_order.kp b_first_order .nil pass0 (pa_cons (pv 4) (pa_cons (pv 5) pa_nil))) (pe_tupRg rfl (by rfl) T.n_tuple (prg_2 (by rfl) T.n_range pe_int (pe_op op_addA (pv 4) pe_int))) (nomark _))))) (pss_one (ps_ret pe_bl)) pss_nil) (pss_cons (ps_if (pt_cmpR (op_neD hr.units) (pe_call G_sights (hr.mono (by decide)) (by rfl) g_sights F_sights.kp b_sights .nil pass0 (pa_cons (pe_tupRg rfl (by rfl) T.n_tuple (prg_1 (by rfl) T.n_range (pv 4))) pa_nil)) (pv 5) (nomark _)) (pss_one (ps_ret pe_bl)) pss_nil) (pss_cons (ps_if (pt_cmpR (op_neD hr.units) (pe_lc (own := [("top", 14), ("count", 13)]) rfl sc_law.nd (pi_any (pe_call G_highest (hr.mono (by decide)) (by rfl) g_highest F_highest.kp b_highest .nil pass0 (pa_cons (pv 4) (pa_cons (pv 5) pa_nil)))) (blkOk_by (N := N_law) (sc := defScope s_law) (by decide +kernel)) (fun _ _ _ _ _ => (pg_tup rfl (pgs_cons (pg_name (i := 14) sc_law.nd rfl (by first | exact Or.inl rfl | exact Or.inr rfl)) (pgs_cons (pg_name (i := 13) sc_law.nd rfl (by first | exact Or.inl rfl | exact Or.inr rfl)) pgs_nil)))) (fun _ _ _ _ _ => pts_nil) (fun _ _ _ _ _ => (pv 14))) (pe_listRg rfl (by rfl) T.n_list (prg_1 (by rfl) T.n_range (pv 4))) (nomark _)) (pss_one (ps_ret pe_bl)) pss_nil) (pss_cons (ps_setLc (i := 6) (own := [("left", 11), ("right", 12), ("count", 13)]) rfl sc_law.nd rfl rfl (sw_true rfl rfl rfl (by decide +kernel)) (pi_any (pe_call G_from_ends (hr.mono (by decide)) (by rfl) g_from_ends F_from_ends.kp b_from_ends .nil pass0 (pa_cons (pv 4) (pa_cons (pv 5) pa_nil)))) (blkOk_by (N := N_law) (sc := defScope s_law) (by decide +kernel)) (fun _ _ _ _ _ => (pg_tup rfl (pgs_cons (pg_name (i := 11) sc_law.nd rfl (by first | exact Or.inl rfl | exact Or.inr rfl)) (pgs_cons (pg_name (i := 12) sc_law.nd rfl (by first | exact Or.inl rfl | exact Or.inr rfl)) (pgs_cons (pg_name (i := 13) sc_law.nd rfl (by first | exact Or.inl rfl | exact Or.inr rfl)) pgs_nil))))) (fun _ _ _ _ _ => pts_nil) (fun _ _ _ _ _ => (pv 13))) (pss_cons (ps_if (PW.pt (pw_or (pt_cmpR (op_neD hr.units) (pe_call G_higher (hr.mono (by decide)) (by rfl) g_higher F_higher.kp b_higher .nil pass0 (pa_cons (pv 4) (pa_cons (pv 5) (pa_cons pe_int (pa_cons (pe_op op_sub (pv 4) pe_int) pa_nil))))) pe_str (nomark _)) (pw_or1 (pt_cmpR (op_neD hr.units) (pe_callB (cr_sum rfl) (by rfl) T.n_sum boot_sum (pa_cons (pv 6) pa_nil)) (pe_call G_law_doubled (hr.mono (by decide)) (by rfl) g_law_doubled F_law_doubled.kp b_law_doubled .nil pass0 (pa_cons (pv 4) pa_nil)) (nomark _))))) (pss_one (ps_ret pe_bl)) pss_nil) (pss_cons (ps_if (pt_not (pt_tru (pe_call G_law_fan_right (hr.mono (by decide)) (by rfl) g_law_fan_right F_law_fan_right.kp b_law_fan_right .nil pass0 (pa_cons (pv 4) (pa_cons (pv 5) pa_nil))))) (pss_one (ps_ret pe_bl)) pss_nil) (pss_cons (ps_if (PW.pt (pw_or (pt_cmpR (op_neD hr.units) (pe_call G_what_bars (hr.mono (by decide)) (by rfl) g_what_bars F_what_bars.kp b_what_bars .nil pass0 (pa_cons (pv 4) (pa_cons (pe_slice sl_X (pv 5) (po_some pe_int) po_none) pa_nil))) (pe_tup (pa_cons pe_str (pa_cons pe_int (pa_cons pe_int pa_nil)))) (nomark _)) (pw_or1 (pt_cmpR op_isnotA (pe_call G_what_bars (hr.mono (by decide)) (by rfl) g_what_bars F_what_bars.kp b_what_bars .nil pass0 (pa_cons (pv 4) (pa_cons (pe_op op_addA (pv 5) (pe_tup pa_nil)) pa_nil))) pe_non (nomark _))))) (pss_one (ps_ret pe_bl)) pss_nil) (pss_cons (ps_set (i := 7) sc_law.nd rfl (by first | exact Or.inl rfl | exact Or.inr rfl) (pe_callTy c_tuple (by rfl) T.n_tuple boot_tuple (pa_cons (pe_callB (cr_sortedB (hu65 hr)) (by rfl) T.n_sorted boot_sorted (pa_cons (pe_op op_addA (pv 5) (pe_tup (pa_cons (pe_tup (pa_cons pe_int (pa_cons (pe_op op_sub (pv 4) pe_int) pa_nil))) pa_nil))) pa_nil)) pa_nil))) (pss_cons (ps_if (pt_cmpR (op_neD hr.units) (pe_call G_what_bars (hr.mono (by decide)) (by rfl) g_what_bars F_what_bars.kp b_what_bars .nil pass0 (pa_cons (pv 4) (pa_cons (pv 7) pa_nil))) (pe_ifExp (pt_cmpR (op_eqD hr.units) (pv 4) pe_int (nomark _)) pe_non (pe_tup (pa_cons pe_str (pa_cons pe_int (pa_cons (pe_op op_sub (pv 4) pe_int) pa_nil))))) (nomark _)) (pss_one (ps_ret pe_bl)) pss_nil) (pss_cons (ps_if (PW.pt (pw_or (pt_cmpR (op_neD hr.units) (pe_call G_lots_with (hr.mono (by decide)) (by rfl) g_lots_with F_lots_with.kp b_lots_with .nil pass0 (pa_cons (pv 4) (pa_cons (pe_tup (pa_cons (pe_tup (pa_cons pe_int (pa_cons (pe_op op_sub (pv 4) pe_int) pa_nil))) pa_nil)) (pa_cons (pe_tup pa_nil) pa_nil)))) (pe_call G_lots_of (hr.mono (by decide)) (by rfl) g_lots_of F_lots_of.kp b_lots_of .nil pass0 (pa_cons (pe_op op_sub (pv 4) pe_int) pa_nil)) (nomark _)) (pw_or1 (pt_cmpR (op_neD hr.units) (pe_call G_lots_with (hr.mono (by decide)) (by rfl) g_lots_with F_lots_with.kp b_lots_with .nil pass0 (pa_cons (pv 4) (pa_cons (pe_tup pa_nil) (pa_cons (pe_slice sl_X (pv 5) po_none (po_some pe_int)) pa_nil)))) pe_int (nomark _))))) (pss_one (ps_ret pe_bl)) pss_nil) (pss_one (ps_if (pt_cmpR (op_neD hr.units) (pe_call G_by_counts (hr.mono (by decide)) (by rfl) g_by_counts F_by_counts.kp b_by_counts .nil pass0 (pa_cons (pe_tup (pa_cons pe_int (pa_cons pe_int (pa_cons pe_int pa_nil)))) pa_nil)) (pe_tup (pa_cons pe_int (pa_cons (pe_tup (pa_cons (pe_tup (pa_cons pe_int (pa_cons pe_int pa_nil))) (pa_cons (pe_tup (pa_cons pe_int (pa_cons pe_int pa_nil))) (pa_cons (pe_tup (pa_cons pe_int (pa_cons pe_int pa_nil))) pa_nil)))) pa_nil))) (nomark _)) (pss_one (ps_ret pe_bl)) pss_nil)))))))))))))))) (pss_cons (ps_set (i := 2) sc_law.nd rfl (by first | exact Or.inl rfl | exact Or.inr rfl) (pe_make0 m_Street___init__ G_Street___init__ (hr.mono (by decide)) (by rfl) h_Street b_Street___init__ .nil pass0)) (pss_cons (ps_for PassesOwn.never rfl (pi_any (pe_lst (pa_cons (pe_tup (pa_cons pe_int (pa_cons pe_int pa_nil))) (pa_cons (pe_tup (pa_cons pe_int (pa_cons pe_int pa_nil))) (pa_cons (pe_tup (pa_cons pe_int (pa_cons pe_int pa_nil))) (pa_cons (pe_tup (pa_cons pe_int (pa_cons pe_int pa_nil))) pa_nil)))))) (pg_tup rfl (pgs_cons (pg_name (i := 8) sc_law.nd rfl (by first | exact Or.inl rfl | exact Or.inr rfl)) (pgs_cons (pg_name (i := 9) sc_law.nd rfl (by first | exact Or.inl rfl | exact Or.inr rfl)) pgs_nil))) (pss_one (ps_expr (pe_meth (pv 2) k_Street.cls m_Street_build G_Street_build (hr.mono (by decide)) b_Street_build .nil pass0 (pa_cons (pv 8) (pa_cons (pv 9) pa_nil)))))) (pss_cons (ps_if (PW.pt (pw_or (pt_cmpR (op_neD hr.units) (pe_meth0 (pv 2) k_Street.cls m_Street_heights G_Street_heights (hr.mono (by decide)) b_Street_heights .nil pass0) (pe_tup (pa_cons pe_int (pa_cons pe_int (pa_cons pe_int (pa_cons pe_int pa_nil))))) (nomark _)) (pw_or1 (pt_cmpR (op_neD hr.units) (pe_meth0 (pv 2) k_Street.cls m_Street_sights G_Street_sights (hr.mono (by decide)) b_Street_sights .nil pass0) (pe_tup (pa_cons (pe_tup (pa_cons pe_int (pa_cons pe_int pa_nil))) (pa_cons (pe_tup (pa_cons pe_int (pa_cons pe_int pa_nil))) (pa_cons (pe_tup (pa_cons pe_int (pa_cons pe_int pa_nil))) (pa_cons (pe_tup (pa_cons pe_int (pa_cons pe_int pa_nil))) pa_nil))))) (nomark _))))) (pss_one (ps_ret pe_bl)) pss_nil) (pss_one (ps_ret (pe_cmpR (op_eqD hr.units) (pe_meth0 (pv 2) k_Street.cls m_Street_from_ends G_Street_from_ends (hr.mono (by decide)) b_Street_from_ends .nil pass0) (pe_tup (pa_cons (pe_tup (pa_cons pe_int (pa_cons pe_int pa_nil))) (pa_cons (pe_tup (pa_cons pe_int (pa_cons pe_int pa_nil))) pa_nil))) (nomark _)))))))))⟩
end
theorem top_mk {K : PySem.W.Frag} {mg : Str → Option Value} {h : Heap} (X : K.In h) (G : h.Ns mainGlobals mg) (f_n_all : PySem.W.nsIn K mainGlobals "all" = some none) (f_n_any : PySem.W.nsIn K mainGlobals "any" = some none) (f_n_bool : PySem.W.nsIn K mainGlobals "bool" = some none) (f_n_enumerate : PySem.W.nsIn K mainGlobals "enumerate" = some none) (f_n_int : PySem.W.nsIn K mainGlobals "int" = some none) (f_n_isinstance : PySem.W.nsIn K mainGlobals "isinstance" = some none) (f_n_len : PySem.W.nsIn K mainGlobals "len" = some none) (f_n_list : PySem.W.nsIn K mainGlobals "list" = some none) (f_n_max : PySem.W.nsIn K mainGlobals "max" = some none) (f_n_min : PySem.W.nsIn K mainGlobals "min" = some none) (f_n_range : PySem.W.nsIn K mainGlobals "range" = some none) (f_n_set : PySem.W.nsIn K mainGlobals "set" = some none) (f_n_sorted : PySem.W.nsIn K mainGlobals "sorted" = some none) (f_n_str : PySem.W.nsIn K mainGlobals "str" = some none) (f_n_sum : PySem.W.nsIn K mainGlobals "sum" = some none) (f_n_tuple : PySem.W.nsIn K mainGlobals "tuple" = some none) (f_n_zip : PySem.W.nsIn K mainGlobals "zip" = some none) (f_c_MOST_HOUSES : CstF K "MOST_HOUSES" 12) (f_c_MOST_HEIGHT : CstF K "MOST_HEIGHT" 1000000000) (f_c_MOST_NUMBER : CstF K "MOST_NUMBER" 60) (f_c_MOST_COUNTS : CstF K "MOST_COUNTS" 8) (f_c_MOST_COUNT : CstF K "MOST_COUNT" 7) (f_Street : StrF K) (f_Street___init__ : MthF K "Street" "__init__" "Street.__init__" (clsS 80 0)) (f_law_deck : FnF K "_law_deck" (topS 84)) (f_Street_change_to : MthF K "Street" "change_to" "Street.change_to" (clsS 80 4)) (f_is_whole : FnF K "is_whole" (topS 16)) (f_is_whole_within : FnF K "is_whole_within" (topS 17)) (f_is_height : FnF K "is_height" (topS 19)) (f_Street_build : MthF K "Street" "build" "Street.build" (clsS 80 1)) (f_higher_than_all_ahead : FnF K "higher_than_all_ahead" (topS 81)) (f_higher_than_all_behind : FnF K "higher_than_all_behind" (topS 82)) (f_Street_from_ends : MthF K "Street" "from_ends" "Street.from_ends" (clsS 80 7)) (f_law_pick : FnF K "_law_pick" (topS 85)) (f_all_pairs : FnF K "all_pairs" (topS 32)) (f_see_one_another : FnF K "see_one_another" (topS 33)) (f_sights_in_row : FnF K "sights_in_row" (topS 31)) (f_are_heights : FnF K "are_heights" (topS 29)) (f_sights : FnF K "sights" (topS 30)) (f_is_many : FnF K "is_many" (topS 18)) (f_check_many : FnF K "check_many" (topS 23)) (f_is_place : FnF K "is_place" (topS 20)) (f_is_pair : FnF K "is_pair" (topS 21)) (f_is_lot : FnF K "is_lot" (topS 22)) (f_check_lot : FnF K "check_lot" (topS 24)) (f_check_many_and_lot : FnF K "check_many_and_lot" (topS 25)) (f_both_see_one_between : FnF K "both_see_one_between" (topS 40)) (f_bars_alone : FnF K "bars_alone" (topS 39)) (f_bars_apart : FnF K "bars_apart" (topS 37)) (f_bars_cross : FnF K "bars_cross" (topS 38)) (f_all_bars : FnF K "all_bars" (topS 36)) (f_what_bars : FnF K "what_bars" (topS 35)) (f_can_be : FnF K "can_be" (topS 34)) (f_last_free : FnF K "last_free" (topS 55)) (f_first_order_of : FnF K "first_order_of" (topS 54)) (f_highest_between : FnF K "highest_between" (topS 51)) (f_tree_under : FnF K "tree_under" (topS 50)) (f_is_seen_over : FnF K "is_seen_over" (topS 49)) (f_tops : FnF K "tops" (topS 48)) (f_first_order : FnF K "first_order" (topS 43)) (f_check_can_be : FnF K "check_can_be" (topS 47)) (f_seen_from_left : FnF K "seen_from_left" (topS 56)) (f_seen_from_right : FnF K "seen_from_right" (topS 57)) (f_count_under : FnF K "count_under" (topS 53)) (f_count_orders : FnF K "count_orders" (topS 52)) (f_from_ends : FnF K "from_ends" (topS 46)) (f_check_many_seen_and_unseen : FnF K "check_many_seen_and_unseen" (topS 26)) (f_gaps_within : FnF K "gaps_within" (topS 60)) (f_FirstLot_bare : MthF K "FirstLot" "bare" "FirstLot.bare" (clsS 68 0)) (f_FirstLot_joined : MthF K "FirstLot" "joined" "FirstLot.joined" (clsS 68 1)) (f_sights_to_sides : FnF K "sights_to_sides" (topS 62)) (f_houses_that_fit : FnF K "houses_that_fit" (topS 63)) (f_parts_of_gap : FnF K "parts_of_gap" (topS 61)) (f_FirstLot_chosen : MthF K "FirstLot" "chosen" "FirstLot.chosen" (clsS 68 2)) (f_made_of_trees : FnF K "made_of_trees" (topS 59)) (f_first_with : FnF K "first_with" (topS 66)) (f_highest : FnF K "highest" (topS 44)) (f_how_many : FnF K "how_many" (topS 42)) (f_check_two_houses : FnF K "check_two_houses" (topS 27)) (f_higher : FnF K "higher" (topS 45)) (f_law_fan_right : FnF K "_law_fan_right" (topS 87)) (f_are_counts : FnF K "are_counts" (topS 75)) (f_LotList_bare : MthF K "LotList" "bare" "LotList.bare" (clsS 78 0)) (f_LotList_joined : MthF K "LotList" "joined" "LotList.joined" (clsS 78 1)) (f_LotList_chosen : MthF K "LotList" "chosen" "LotList.chosen" (clsS 78 2)) (f_all_lots : FnF K "all_lots" (topS 76)) (f_counts_of : FnF K "counts_of" (topS 77)) (f_by_counts : FnF K "by_counts" (topS 74)) (f_Street_heights : MthF K "Street" "heights" "Street.heights" (clsS 80 5)) (f_Street_sights : MthF K "Street" "sights" "Street.sights" (clsS 80 6)) (f_law_doubled : FnF K "_law_doubled" (topS 86)) (f_TreeCount_bare : MthF K "TreeCount" "bare" "TreeCount.bare" (clsS 67 0)) (f_TreeCount_joined : MthF K "TreeCount" "joined" "TreeCount.joined" (clsS 67 1)) (f_TreeCount_chosen : MthF K "TreeCount" "chosen" "TreeCount.chosen" (clsS 67 2)) (f_lots_with : FnF K "lots_with" (topS 65)) (f_lots_of : FnF K "lots_of" (topS 73)) (f_law : FnF K "law" (topS 88)) (f_TreeCount : ClsF K "TreeCount") (f_FirstLot : ClsF K "FirstLot") (f_LotList : ClsF K "LotList") : Top K mg where
  n_all := PySem.W.mg_none_of X G f_n_all
  n_any := PySem.W.mg_none_of X G f_n_any
  n_bool := PySem.W.mg_none_of X G f_n_bool
  n_enumerate := PySem.W.mg_none_of X G f_n_enumerate
  n_int := PySem.W.mg_none_of X G f_n_int
  n_isinstance := PySem.W.mg_none_of X G f_n_isinstance
  n_len := PySem.W.mg_none_of X G f_n_len
  n_list := PySem.W.mg_none_of X G f_n_list
  n_max := PySem.W.mg_none_of X G f_n_max
  n_min := PySem.W.mg_none_of X G f_n_min
  n_range := PySem.W.mg_none_of X G f_n_range
  n_set := PySem.W.mg_none_of X G f_n_set
  n_sorted := PySem.W.mg_none_of X G f_n_sorted
  n_str := PySem.W.mg_none_of X G f_n_str
  n_sum := PySem.W.mg_none_of X G f_n_sum
  n_tuple := PySem.W.mg_none_of X G f_n_tuple
  n_zip := PySem.W.mg_none_of X G f_n_zip
  c_MOST_HOUSES := f_c_MOST_HOUSES.at X G
  c_MOST_HEIGHT := f_c_MOST_HEIGHT.at X G
  c_MOST_NUMBER := f_c_MOST_NUMBER.at X G
  c_MOST_COUNTS := f_c_MOST_COUNTS.at X G
  c_MOST_COUNT := f_c_MOST_COUNT.at X G
  e_Street := f_Street.ex X G
  k_Street := f_Street.at X G
  m_Street___init__ := f_Street.mk f_Street___init__ X G (fun _ _ _ _ _ _ us hl => match us, hl with | [_], _ => rfl)
  d_law_deck := f_law_deck.at X G (fun _ _ _ _ _ _ us hl => match us, hl with | [_, _], _ => rfl)
  m_Street_change_to := f_Street_change_to.at X G (fun _ _ _ _ _ _ us hl => match us, hl with | [_, _], _ => rfl)
  d_is_whole := f_is_whole.at X G (fun _ _ _ _ _ _ us hl => match us, hl with | [_], _ => rfl)
  d_is_whole_within := f_is_whole_within.at X G (fun _ _ _ _ _ _ us hl => match us, hl with | [_, _, _], _ => rfl)
  d_is_height := f_is_height.at X G (fun _ _ _ _ _ _ us hl => match us, hl with | [_], _ => rfl)
  m_Street_build := f_Street_build.at X G (fun _ _ _ _ _ _ us hl => match us, hl with | [_, _, _], _ => rfl)
  d_higher_than_all_ahead := f_higher_than_all_ahead.at X G (fun _ _ _ _ _ _ us hl => match us, hl with | [_], _ => rfl)
  d_higher_than_all_behind := f_higher_than_all_behind.at X G (fun _ _ _ _ _ _ us hl => match us, hl with | [_], _ => rfl)
  m_Street_from_ends := f_Street_from_ends.at X G (fun _ _ _ _ _ _ us hl => match us, hl with | [_], _ => rfl)
  d_law_pick := f_law_pick.at X G (fun _ _ _ _ _ _ us hl => match us, hl with | [_, _], _ => rfl)
  d_all_pairs := f_all_pairs.at X G (fun _ _ _ _ _ _ us hl => match us, hl with | [_], _ => rfl)
  d_see_one_another := f_see_one_another.at X G (fun _ _ _ _ _ _ us hl => match us, hl with | [_, _, _], _ => rfl)
  d_sights_in_row := f_sights_in_row.at X G (fun _ _ _ _ _ _ us hl => match us, hl with | [_], _ => rfl)
  d_are_heights := f_are_heights.at X G (fun _ _ _ _ _ _ us hl => match us, hl with | [_], _ => rfl)
  d_sights := f_sights.at X G (fun _ _ _ _ _ _ us hl => match us, hl with | [_], _ => rfl)
  d_is_many := f_is_many.at X G (fun _ _ _ _ _ _ us hl => match us, hl with | [_], _ => rfl)
  d_check_many := f_check_many.at X G (fun _ _ _ _ _ _ us hl => match us, hl with | [_], _ => rfl)
  d_is_place := f_is_place.at X G (fun _ _ _ _ _ _ us hl => match us, hl with | [_, _], _ => rfl)
  d_is_pair := f_is_pair.at X G (fun _ _ _ _ _ _ us hl => match us, hl with | [_, _], _ => rfl)
  d_is_lot := f_is_lot.at X G (fun _ _ _ _ _ _ us hl => match us, hl with | [_, _], _ => rfl)
  d_check_lot := f_check_lot.at X G (fun _ _ _ _ _ _ us hl => match us, hl with | [_, _, _], _ => rfl)
  d_check_many_and_lot := f_check_many_and_lot.at X G (fun _ _ _ _ _ _ us hl => match us, hl with | [_, _], _ => rfl)
  d_both_see_one_between := f_both_see_one_between.at X G (fun _ _ _ _ _ _ us hl => match us, hl with | [_, _, _], _ => rfl)
  d_bars_alone := f_bars_alone.at X G (fun _ _ _ _ _ _ us hl => match us, hl with | [_], _ => rfl)
  d_bars_apart := f_bars_apart.at X G (fun _ _ _ _ _ _ us hl => match us, hl with | [_, _], _ => rfl)
  d_bars_cross := f_bars_cross.at X G (fun _ _ _ _ _ _ us hl => match us, hl with | [_], _ => rfl)
  d_all_bars := f_all_bars.at X G (fun _ _ _ _ _ _ us hl => match us, hl with | [_, _], _ => rfl)
  d_what_bars := f_what_bars.at X G (fun _ _ _ _ _ _ us hl => match us, hl with | [_, _], _ => rfl)
  d_can_be := f_can_be.at X G (fun _ _ _ _ _ _ us hl => match us, hl with | [_, _], _ => rfl)
  d_last_free := f_last_free.at X G (fun _ _ _ _ _ _ us hl => match us, hl with | [_, _], _ => rfl)
  d_first_order_of := f_first_order_of.at X G (fun _ _ _ _ _ _ us hl => match us, hl with | [_], _ => rfl)
  d_highest_between := f_highest_between.at X G (fun _ _ _ _ _ _ us hl => match us, hl with | [_, _, _, _], _ => rfl)
  d_tree_under := f_tree_under.at X G (fun _ _ _ _ _ _ us hl => match us, hl with | [_, _, _], _ => rfl)
  d_is_seen_over := f_is_seen_over.at X G (fun _ _ _ _ _ _ us hl => match us, hl with | [_, _], _ => rfl)
  d_tops := f_tops.at X G (fun _ _ _ _ _ _ us hl => match us, hl with | [_, _], _ => rfl)
  d_first_order := f_first_order.at X G (fun _ _ _ _ _ _ us hl => match us, hl with | [_, _], _ => rfl)
  d_check_can_be := f_check_can_be.at X G (fun _ _ _ _ _ _ us hl => match us, hl with | [_, _], _ => rfl)
  d_seen_from_left := f_seen_from_left.at X G (fun _ _ _ _ _ _ us hl => match us, hl with | [_], _ => rfl)
  d_seen_from_right := f_seen_from_right.at X G (fun _ _ _ _ _ _ us hl => match us, hl with | [_], _ => rfl)
  d_count_under := f_count_under.at X G (fun _ _ _ _ _ _ us hl => match us, hl with | [_, _], _ => rfl)
  d_count_orders := f_count_orders.at X G (fun _ _ _ _ _ _ us hl => match us, hl with | [_], _ => rfl)
  d_from_ends := f_from_ends.at X G (fun _ _ _ _ _ _ us hl => match us, hl with | [_, _], _ => rfl)
  d_check_many_seen_and_unseen := f_check_many_seen_and_unseen.at X G (fun _ _ _ _ _ _ us hl => match us, hl with | [_, _, _], _ => rfl)
  d_gaps_within := f_gaps_within.at X G (fun _ _ _ _ _ _ us hl => match us, hl with | [_, _], _ => rfl)
  m_FirstLot_bare := f_FirstLot_bare.at X G (fun _ _ _ _ _ _ us hl => match us, hl with | [_], _ => rfl)
  m_FirstLot_joined := f_FirstLot_joined.at X G (fun _ _ _ _ _ _ us hl => match us, hl with | [_, _, _, _], _ => rfl)
  d_sights_to_sides := f_sights_to_sides.at X G (fun _ _ _ _ _ _ us hl => match us, hl with | [_, _, _], _ => rfl)
  d_houses_that_fit := f_houses_that_fit.at X G (fun _ _ _ _ _ _ us hl => match us, hl with | [_, _, _], _ => rfl)
  d_parts_of_gap := f_parts_of_gap.at X G (fun _ _ _ _ _ _ us hl => match us, hl with | [_, _, _, _, _, _], _ => rfl)
  m_FirstLot_chosen := f_FirstLot_chosen.at X G (fun _ _ _ _ _ _ us hl => match us, hl with | [_, _], _ => rfl)
  d_made_of_trees := f_made_of_trees.at X G (fun _ _ _ _ _ _ us hl => match us, hl with | [_, _, _, _, _], _ => rfl)
  d_first_with := f_first_with.at X G (fun _ _ _ _ _ _ us hl => match us, hl with | [_, _, _], _ => rfl)
  d_highest := f_highest.at X G (fun _ _ _ _ _ _ us hl => match us, hl with | [_, _], _ => rfl)
  d_how_many := f_how_many.at X G (fun _ _ _ _ _ _ us hl => match us, hl with | [_, _], _ => rfl)
  d_check_two_houses := f_check_two_houses.at X G (fun _ _ _ _ _ _ us hl => match us, hl with | [_, _, _], _ => rfl)
  d_higher := f_higher.at X G (fun _ _ _ _ _ _ us hl => match us, hl with | [_, _, _, _], _ => rfl)
  d_law_fan_right := f_law_fan_right.at X G (fun _ _ _ _ _ _ us hl => match us, hl with | [_, _], _ => rfl)
  d_are_counts := f_are_counts.at X G (fun _ _ _ _ _ _ us hl => match us, hl with | [_], _ => rfl)
  m_LotList_bare := f_LotList_bare.at X G (fun _ _ _ _ _ _ us hl => match us, hl with | [_], _ => rfl)
  m_LotList_joined := f_LotList_joined.at X G (fun _ _ _ _ _ _ us hl => match us, hl with | [_, _, _, _], _ => rfl)
  m_LotList_chosen := f_LotList_chosen.at X G (fun _ _ _ _ _ _ us hl => match us, hl with | [_, _], _ => rfl)
  d_all_lots := f_all_lots.at X G (fun _ _ _ _ _ _ us hl => match us, hl with | [_], _ => rfl)
  d_counts_of := f_counts_of.at X G (fun _ _ _ _ _ _ us hl => match us, hl with | [_, _], _ => rfl)
  d_by_counts := f_by_counts.at X G (fun _ _ _ _ _ _ us hl => match us, hl with | [_], _ => rfl)
  m_Street_heights := f_Street_heights.at X G (fun _ _ _ _ _ _ us hl => match us, hl with | [_], _ => rfl)
  m_Street_sights := f_Street_sights.at X G (fun _ _ _ _ _ _ us hl => match us, hl with | [_], _ => rfl)
  d_law_doubled := f_law_doubled.at X G (fun _ _ _ _ _ _ us hl => match us, hl with | [_], _ => rfl)
  m_TreeCount_bare := f_TreeCount_bare.at X G (fun _ _ _ _ _ _ us hl => match us, hl with | [_], _ => rfl)
  m_TreeCount_joined := f_TreeCount_joined.at X G (fun _ _ _ _ _ _ us hl => match us, hl with | [_, _, _, _], _ => rfl)
  m_TreeCount_chosen := f_TreeCount_chosen.at X G (fun _ _ _ _ _ _ us hl => match us, hl with | [_, _], _ => rfl)
  d_lots_with := f_lots_with.at X G (fun _ _ _ _ _ _ us hl => match us, hl with | [_, _, _], _ => rfl)
  d_lots_of := f_lots_of.at X G (fun _ _ _ _ _ _ us hl => match us, hl with | [_], _ => rfl)
  d_law := f_law.at X G (fun _ _ _ _ _ _ us hl => match us, hl with | [_], _ => rfl)
  e_TreeCount := f_TreeCount.ex X G
  k_TreeCount := f_TreeCount.at X G
  e_FirstLot := f_FirstLot.ex X G
  k_FirstLot := f_FirstLot.at X G
  e_LotList := f_LotList.ex X G
  k_LotList := f_LotList.at X G
theorem all_mk {l : PySem.W.OpenLaw} {K : PySem.W.Frag} {w : World} {mg : Str → Option Value} {fa : Addr} {h : Heap} (X : K.In h) (G : h.Ns mainGlobals mg) (hfa : mg "law" = some (.ref fa)) (T : Top K mg) :
    ∃ fd : FuncData, (∀ (s : Shared) (v : Value), BindsTo s fd ⟨[v], []⟩ [("script", v)]) ∧ ∀ base : Heap, K.In base → base.Ns mainGlobals mg → FnOk l.prog w K mg base CX0 13 fa fd ["script"] (spS K fn_law) := by
  obtain ⟨f, fd, F, b, g⟩ := T.d_law
  rw [g] at hfa
  cases hfa
  refine ⟨fd, fun s v => ?_, fun base _ _ => ?_⟩
  · obtain ⟨oc, od, kV, doc, pm, an, cdv, ct, osl, rfl, l, c⟩ := F.ex
    exact .of_eq rfl
  · obtain ⟨f', fd', F', b', g', G'⟩ := ok_law (P := l.prog) (w := w) (base := base) T
    rw [g] at g'
    cases g'
    obtain ⟨oc, od, kV, doc, pm, an, cdv, ct, osl, rfl, l1, c⟩ := F.ex
    obtain ⟨oc, od, kV, doc, pm, an, cdv, ct, osl, rfl, l2, c⟩ := F'.ex
    rw [l1] at l2
    cases l2
    exact G'
end VG
end
section
set_option maxRecDepth 1000000
set_option maxHeartbeats 4000000
set_option linter.all false
namespace VM
open PySem VL VG L2
def lwI : M (List PyData) := (iAny (eX (xSl (eX (xOps pAdd (eX (xLst (aCons (eC (.int 0)) aNil))) (eVar 0))) oNo (oSome (eC (.int 4))))))
def lwA : Ev → Option Out := (sSet 3 (xFn fn_law_deck (aCons (eVar 1) (aCons (eC (.int 13)) aNil))))
def lwB : Ev → Option Out := (sSet 4 (xOps pAdd (eC (.int 3)) (eX (xFnB 3 fn_law_pick (aCons (eC (.int 10)) aNil)))))
def lwT : Ev → Option Out := (sSeq (sSet 5 (xE (eCall pTuple (aCons (eX (xLc (iR1 (aCons (eOp pSub (eVar 4) (eC (.int 1))) aNil)) (gN 10) bYes (eTup (aCons (eVar 10) (aCons (eX (xOps pAdd (eVar 10) (eC (.int 1)))) aNil))) [10])) aNil)))) (sSeq (sIf (bOr (bB (eOp pNe (eX (xFn fn_how_many (aCons (eVar 4) (aCons (eVar 5) aNil)))) (eX (xFn fn_law_doubled (aCons (eVar 4) aNil))))) (bB (eOp pNe (eX (xFn fn_first_order (aCons (eVar 4) (aCons (eVar 5) aNil)))) (eTupRg (rg2 (eC (.int 1)) (eX (xOps pAdd (eVar 4) (eC (.int 1))))))))) (sRetX (xE (eC (.bool false)))) sNil) (sSeq (sIf (bB (eOp pNe (eX (xFn fn_sights (aCons (eTupRg (rg1 (eVar 4))) aNil))) (eVar 5))) (sRetX (xE (eC (.bool false)))) sNil) (sSeq (sIf (bB (eOp pNe (eX (xLc (iAny (eX (xFn fn_highest (aCons (eVar 4) (aCons (eVar 5) aNil))))) (gT 2 (gsCons (gN 14) (gsCons (gN 13) gsNil))) bYes (eVar 14) [14, 13])) (eX (xListRg (rg1 (eVar 4)))))) (sRetX (xE (eC (.bool false)))) sNil) (sSeq (sSet 6 (xLc (iAny (eX (xFn fn_from_ends (aCons (eVar 4) (aCons (eVar 5) aNil))))) (gT 3 (gsCons (gN 11) (gsCons (gN 12) (gsCons (gN 13) gsNil)))) bYes (eVar 13) [11, 12, 13])) (sSeq (sIf (bOr (bB (eOp pNe (eX (xFn fn_higher (aCons (eVar 4) (aCons (eVar 5) (aCons (eC (.int 0)) (aCons (eOp pSub (eVar 4) (eC (.int 1))) aNil)))))) (eC (.str "either")))) (bB (eOp pNe (eCall pSum (aCons (eVar 6) aNil)) (eX (xFn fn_law_doubled (aCons (eVar 4) aNil)))))) (sRetX (xE (eC (.bool false)))) sNil) (sSeq (sIf (bNot (bTru (eX (xFn fn_law_fan_right (aCons (eVar 4) (aCons (eVar 5) aNil)))))) (sRetX (xE (eC (.bool false)))) sNil) (sSeq (sIf (bOr (bB (eOp pNe (eX (xFn fn_what_bars (aCons (eVar 4) (aCons (eX (xSl (eVar 5) (oSome (eC (.int 1))) oNo)) aNil)))) (eTup (aCons (eC (.str "apart")) (aCons (eC (.int 0)) (aCons (eC (.int 1)) aNil)))))) (bB (eOp (pIs true) (eX (xFn fn_what_bars (aCons (eVar 4) (aCons (eX (xOps pAdd (eVar 5) (eTup aNil))) aNil)))) (eC .none)))) (sRetX (xE (eC (.bool false)))) sNil) (sSeq (sSet 7 (xE (eCall pTuple (aCons (eX (xCall pSortB (aCons (eX (xOps pAdd (eVar 5) (eTup (aCons (eTup (aCons (eC (.int 0)) (aCons (eOp pSub (eVar 4) (eC (.int 1))) aNil))) aNil)))) aNil))) aNil)))) (sSeq (sIf (bB (eOp pNe (eX (xFn fn_what_bars (aCons (eVar 4) (aCons (eVar 7) aNil)))) (eIf (bB (eOp pEq (eVar 4) (eC (.int 3)))) (eC .none) (eTup (aCons (eC (.str "alone")) (aCons (eC (.int 0)) (aCons (eOp pSub (eVar 4) (eC (.int 1))) aNil))))))) (sRetX (xE (eC (.bool false)))) sNil) (sSeq (sIf (bOr (bB (eOp pNe (eX (xFn fn_lots_with (aCons (eVar 4) (aCons (eTup (aCons (eTup (aCons (eC (.int 0)) (aCons (eOp pSub (eVar 4) (eC (.int 1))) aNil))) aNil)) (aCons (eTup aNil) aNil))))) (eX (xFn fn_lots_of (aCons (eOp pSub (eVar 4) (eC (.int 1))) aNil))))) (bB (eOp pNe (eX (xFn fn_lots_with (aCons (eVar 4) (aCons (eTup aNil) (aCons (eX (xSl (eVar 5) oNo (oSome (eC (.int 1))))) aNil))))) (eC (.int 0))))) (sRetX (xE (eC (.bool false)))) sNil) (sIf (bB (eOp pNe (eX (xFn fn_by_counts (aCons (eTup (aCons (eC (.int 2)) (aCons (eC (.int 2)) (aCons (eC (.int 2)) aNil)))) aNil))) (eTup (aCons (eC (.int 1)) (aCons (eTup (aCons (eTup (aCons (eC (.int 0)) (aCons (eC (.int 1)) aNil))) (aCons (eTup (aCons (eC (.int 0)) (aCons (eC (.int 2)) aNil))) (aCons (eTup (aCons (eC (.int 1)) (aCons (eC (.int 2)) aNil))) aNil)))) aNil))))) (sRetX (xE (eC (.bool false)))) sNil))))))))))))
def lwF : Ev → Option Out := (sSeq (sSet 2 xMkT) (sSeq (sFor (iAny (eX (xLst (aCons (eTup (aCons (eC (.int 0)) (aCons (eC (.int 5)) aNil))) (aCons (eTup (aCons (eC (.int 1)) (aCons (eC (.int 9)) aNil))) (aCons (eTup (aCons (eC (.int 1)) (aCons (eC (.int 2)) aNil))) (aCons (eTup (aCons (eC (.int 3)) (aCons (eC (.int 4)) aNil))) aNil))))))) (gT 2 (gsCons (gN 8) (gsCons (gN 9) gsNil))) (sExpr (eX (xMethT 2 fn_Street_build (aCons (eVar 8) (aCons (eVar 9) aNil)))))) (sSeq (sIf (bOr (bB (eOp pNe (eX (xMethT 2 fn_Street_heights aNil)) (eTup (aCons (eC (.int 5)) (aCons (eC (.int 2)) (aCons (eC (.int 9)) (aCons (eC (.int 4)) aNil))))))) (bB (eOp pNe (eX (xMethT 2 fn_Street_sights aNil)) (eTup (aCons (eTup (aCons (eC (.int 0)) (aCons (eC (.int 1)) aNil))) (aCons (eTup (aCons (eC (.int 0)) (aCons (eC (.int 2)) aNil))) (aCons (eTup (aCons (eC (.int 1)) (aCons (eC (.int 2)) aNil))) (aCons (eTup (aCons (eC (.int 2)) (aCons (eC (.int 3)) aNil))) aNil)))))))) (sRetX (xE (eC (.bool false)))) sNil) (sRetX (xE (eOp pEq (eX (xMethT 2 fn_Street_from_ends aNil)) (eTup (aCons (eTup (aCons (eC (.int 0)) (aCons (eC (.int 2)) aNil))) (aCons (eTup (aCons (eC (.int 2)) (aCons (eC (.int 3)) aNil))) aNil)))))))))
theorem law_parts : bd_law = sSeq (sFor lwI (gN 1) (sSeq lwA (sSeq lwB lwT))) lwF := rfl
def kk : Option Out → Option Sl
  | some (.nx [a, _, .un, _, _, _, _, _, .un, .un, .un, .un, .un, .un, .un]) => some a
  | _ => none
def env (s c d m p q r : Sl) : Ev := [s, c, .un, d, m, p, q, r, .un, .un, .un, .un, .un, .un, .un]
theorem kk_inv {o : Option Out} {a : Sl} (h : kk o = some a) : ∃ c d m p q r, o = some (.nx (env a c d m p q r)) := by
  unfold kk at h
  split at h
  · cases h
    exact ⟨_, _, _, _, _, _, rfl⟩
  · cases h
theorem deck_eq (c : Int) : ∃ d0 d1 : Int, 0 ≤ d1 ∧ d1 < 2147483579 ∧ fn_law_deck [.int c, .int 13] = some (.ow [.int d0, .int d1, .int 13]) := by
  have m1 : 0 ≤ c % 2147483579 := Int.emod_nonneg _ (by decide)
  have m2 : c % 2147483579 < 2147483579 := Int.emod_lt_of_pos _ (by decide)
  by_cases h : (1000000000000000000 : Int) ≤ c
  · refine ⟨c - 1000000000000000000, c % 2147483579, m1, m2, ?_⟩
    simp [fn_law_deck, fnS, bd_law_deck, sSeq, sIf, sRetX, xLst, aCons, aNil, bB, eOp, eVar, eC, bnd, put, pGe, pInt, pPow, bPow, pSub, pMod, bMod, yes2, sz, h]
  · refine ⟨0, c % 2147483579, m1, m2, ?_⟩
    simp [fn_law_deck, fnS, bd_law_deck, sSeq, sIf, sNil, sRetX, xLst, aCons, aNil, bB, eOp, eVar, eC, bnd, put, pGe, pInt, pPow, bPow, pSub, pMod, bMod, yes2, sz, h]
end VM
end
section
set_option maxRecDepth 1000000
set_option maxHeartbeats 4000000
set_option linter.all false
namespace VM
open PySem VL VG L2
theorem t3 (s c : Sl) (d : List PyData) (p q r : Sl) : kk (lwT (env s c (.ow d) (.sh (.int 3)) p q r)) = some s := by kernel_rfl
theorem t4 (s c : Sl) (d : List PyData) (p q r : Sl) : kk (lwT (env s c (.ow d) (.sh (.int 4)) p q r)) = some s := by kernel_rfl
theorem t5 (s c : Sl) (d : List PyData) (p q r : Sl) : kk (lwT (env s c (.ow d) (.sh (.int 5)) p q r)) = some s := by kernel_rfl
theorem t6 (s c : Sl) (d : List PyData) (p q r : Sl) : kk (lwT (env s c (.ow d) (.sh (.int 6)) p q r)) = some s := by kernel_rfl
end VM
end
section
set_option maxRecDepth 1000000
set_option maxHeartbeats 4000000
set_option linter.all false
namespace VM
open PySem VL VG L2
theorem pick_eq (d0 d1 : Int) (h1 : 0 ≤ d1) (h2 : d1 < 2147483579) : ∃ (r : Int) (ds : List PyData), 0 ≤ r ∧ r < 10 ∧ fn_law_pick [.int d0, .int d1, .int 13] [.int 10] = some (.sh (.int r), ds) := by
  by_cases h : (1 : Int) < d0
  · refine ⟨d0 % 10, [.int (d0 / 10), .int d1, .int 13], Int.emod_nonneg _ (by decide), Int.emod_lt_of_pos _ (by decide), ?_⟩
    simp [fn_law_pick, fnB, bd_law_pick, lentOf, sSeq, sIf, sNil, sRetX, sSet, sSetI, setOwn, ownOf, ixN, atI, eIxV, bScal, froz, frz1, xE, xVar, xOps, eX, aCons, aNil, bB, eOp, eVar, eC, bnd, put, pGt, pInt, pPow, bPow, pSub, pMod, bMod, pFdiv, bDiv, pAdd, pIx, seqOf, yes2, sz, h]
  · have b1 : Nat.blt (d1 + 216802138).natAbs 18446744073709551616 = true := Nat.blt_eq.mpr (by omega)
    have b2 : ∀ x : Int, 0 ≤ x → x < 2147483647 → Nat.blt (x + 110866).natAbs 18446744073709551616 = true := fun x _ _ => Nat.blt_eq.mpr (by omega)
    have b3 := b2 ((d1 + 216802138) ^ 5 % 2147483647) (Int.emod_nonneg _ (by decide)) (Int.emod_lt_of_pos _ (by decide))
    refine ⟨(((d1 + 216802138) ^ 5 % 2147483647 + 110866) ^ 3 % 2147483629 / 32) % 10, [.int d0, .int d1, .int 14], Int.emod_nonneg _ (by decide), Int.emod_lt_of_pos _ (by decide), ?_⟩
    simp [fn_law_pick, fnB, bd_law_pick, lentOf, sSeq, sIf, sNil, sRetX, sSet, sSetI, setOwn, ownOf, ixN, atI, eIxV, bScal, froz, frz1, xE, xVar, xOps, eX, aCons, aNil, bB, eOp, eVar, eC, bnd, put, pGt, pInt, pPow, bPow, pSub, pMod, bMod, pFdiv, bDiv, pMul, bMul, pAdd, pIx, seqOf, yes2, sz, h, b1, b3]
end VM
end
section
set_option maxRecDepth 1000000
set_option maxHeartbeats 4000000
set_option linter.all false
namespace VM
open PySem VL VG L2
def lwG0 : Ev → Option Out := (sSet 5 (xE (eCall pTuple (aCons (eX (xLc (iR1 (aCons (eOp pSub (eVar 4) (eC (.int 1))) aNil)) (gN 10) bYes (eTup (aCons (eVar 10) (aCons (eX (xOps pAdd (eVar 10) (eC (.int 1)))) aNil))) [10])) aNil))))
def lwG1 : Ev → Option Out := (sIf (bOr (bB (eOp pNe (eX (xFn fn_how_many (aCons (eVar 4) (aCons (eVar 5) aNil)))) (eX (xFn fn_law_doubled (aCons (eVar 4) aNil))))) (bB (eOp pNe (eX (xFn fn_first_order (aCons (eVar 4) (aCons (eVar 5) aNil)))) (eTupRg (rg2 (eC (.int 1)) (eX (xOps pAdd (eVar 4) (eC (.int 1))))))))) (sRetX (xE (eC (.bool false)))) sNil)
def lwG2 : Ev → Option Out := (sSeq (sIf (bB (eOp pNe (eX (xFn fn_sights (aCons (eTupRg (rg1 (eVar 4))) aNil))) (eVar 5))) (sRetX (xE (eC (.bool false)))) sNil) (sIf (bB (eOp pNe (eX (xLc (iAny (eX (xFn fn_highest (aCons (eVar 4) (aCons (eVar 5) aNil))))) (gT 2 (gsCons (gN 14) (gsCons (gN 13) gsNil))) bYes (eVar 14) [14, 13])) (eX (xListRg (rg1 (eVar 4)))))) (sRetX (xE (eC (.bool false)))) sNil))
def lwG3 : Ev → Option Out := (sSeq (sSet 6 (xLc (iAny (eX (xFn fn_from_ends (aCons (eVar 4) (aCons (eVar 5) aNil))))) (gT 3 (gsCons (gN 11) (gsCons (gN 12) (gsCons (gN 13) gsNil)))) bYes (eVar 13) [11, 12, 13])) (sIf (bOr (bB (eOp pNe (eX (xFn fn_higher (aCons (eVar 4) (aCons (eVar 5) (aCons (eC (.int 0)) (aCons (eOp pSub (eVar 4) (eC (.int 1))) aNil)))))) (eC (.str "either")))) (bB (eOp pNe (eCall pSum (aCons (eVar 6) aNil)) (eX (xFn fn_law_doubled (aCons (eVar 4) aNil)))))) (sRetX (xE (eC (.bool false)))) sNil))
def lwG4 : Ev → Option Out := (sIf (bNot (bTru (eX (xFn fn_law_fan_right (aCons (eVar 4) (aCons (eVar 5) aNil)))))) (sRetX (xE (eC (.bool false)))) sNil)
def lwG5 : Ev → Option Out := (sSeq (sIf (bOr (bB (eOp pNe (eX (xFn fn_what_bars (aCons (eVar 4) (aCons (eX (xSl (eVar 5) (oSome (eC (.int 1))) oNo)) aNil)))) (eTup (aCons (eC (.str "apart")) (aCons (eC (.int 0)) (aCons (eC (.int 1)) aNil)))))) (bB (eOp (pIs true) (eX (xFn fn_what_bars (aCons (eVar 4) (aCons (eX (xOps pAdd (eVar 5) (eTup aNil))) aNil)))) (eC .none)))) (sRetX (xE (eC (.bool false)))) sNil) (sSeq (sSet 7 (xE (eCall pTuple (aCons (eX (xCall pSortB (aCons (eX (xOps pAdd (eVar 5) (eTup (aCons (eTup (aCons (eC (.int 0)) (aCons (eOp pSub (eVar 4) (eC (.int 1))) aNil))) aNil)))) aNil))) aNil)))) (sIf (bB (eOp pNe (eX (xFn fn_what_bars (aCons (eVar 4) (aCons (eVar 7) aNil)))) (eIf (bB (eOp pEq (eVar 4) (eC (.int 3)))) (eC .none) (eTup (aCons (eC (.str "alone")) (aCons (eC (.int 0)) (aCons (eOp pSub (eVar 4) (eC (.int 1))) aNil))))))) (sRetX (xE (eC (.bool false)))) sNil)))
def lwG6 : Ev → Option Out := (sIf (bOr (bB (eOp pNe (eX (xFn fn_lots_with (aCons (eVar 4) (aCons (eTup (aCons (eTup (aCons (eC (.int 0)) (aCons (eOp pSub (eVar 4) (eC (.int 1))) aNil))) aNil)) (aCons (eTup aNil) aNil))))) (eX (xFn fn_lots_of (aCons (eOp pSub (eVar 4) (eC (.int 1))) aNil))))) (bB (eOp pNe (eX (xFn fn_lots_with (aCons (eVar 4) (aCons (eTup aNil) (aCons (eX (xSl (eVar 5) oNo (oSome (eC (.int 1))))) aNil))))) (eC (.int 0))))) (sRetX (xE (eC (.bool false)))) sNil)
def lwG7 : Ev → Option Out := (sIf (bB (eOp pNe (eX (xFn fn_by_counts (aCons (eTup (aCons (eC (.int 2)) (aCons (eC (.int 2)) (aCons (eC (.int 2)) aNil)))) aNil))) (eTup (aCons (eC (.int 1)) (aCons (eTup (aCons (eTup (aCons (eC (.int 0)) (aCons (eC (.int 1)) aNil))) (aCons (eTup (aCons (eC (.int 0)) (aCons (eC (.int 2)) aNil))) (aCons (eTup (aCons (eC (.int 1)) (aCons (eC (.int 2)) aNil))) aNil)))) aNil))))) (sRetX (xE (eC (.bool false)))) sNil)
theorem seq_assoc (f g h : Ev → Option Out) : sSeq (sSeq f g) h = sSeq f (sSeq g h) := by
  funext e
  unfold sSeq
  cases f e with
  | none => rfl
  | some o =>
    cases o with
    | nx e1 => rfl
    | rt s e1 => rfl
theorem lwT_groups : lwT = sSeq lwG0 (sSeq lwG1 (sSeq lwG2 (sSeq lwG3 (sSeq lwG4 (sSeq lwG5 (sSeq lwG6 lwG7)))))) := by
  unfold lwG2 lwG3 lwG5
  simp only [seq_assoc]
  rfl
theorem seq_nx {f g : Ev → Option Out} {e e1 : Ev} {o : Option Out} (h : f e = some (.nx e1)) (h2 : g e1 = o) : sSeq f g e = o := by
  unfold sSeq
  rw [h]
  exact h2
def k5 : Option Out → Option (Sl × Sl × Sl × Sl × Sl)
  | some (.nx [a, b, .un, x, m, p, _, _, .un, .un, .un, .un, .un, .un, .un]) => some (a, b, x, m, p)
  | _ => none
theorem k5_inv {o : Option Out} {a b x m p : Sl} (h : k5 o = some (a, b, x, m, p)) : ∃ q r, o = some (.nx (env a b x m p q r)) := by
  unfold k5 at h
  split at h
  · cases h
    exact ⟨_, _, rfl⟩
  · cases h
def path7 : PyData := .tuple [.tuple [.int 0, .int 1], .tuple [.int 1, .int 2], .tuple [.int 2, .int 3], .tuple [.int 3, .int 4], .tuple [.int 4, .int 5], .tuple [.int 5, .int 6]]
theorem u7_0 (s c : Sl) (d : List PyData) (p q r : Sl) : k5 (lwG0 (env s c (.ow d) (.sh (.int 7)) p q r)) = some (s, c, .ow d, .sh (.int 7), .sh path7) := by kernel_rfl
theorem u7_1 (s c : Sl) (d : List PyData) (q r : Sl) : k5 (lwG1 (env s c (.ow d) (.sh (.int 7)) (.sh path7) q r)) = some (s, c, .ow d, .sh (.int 7), .sh path7) := by kernel_rfl
theorem u7_2 (s c : Sl) (d : List PyData) (q r : Sl) : k5 (lwG2 (env s c (.ow d) (.sh (.int 7)) (.sh path7) q r)) = some (s, c, .ow d, .sh (.int 7), .sh path7) := by kernel_rfl
theorem u7_3 (s c : Sl) (d : List PyData) (q r : Sl) : k5 (lwG3 (env s c (.ow d) (.sh (.int 7)) (.sh path7) q r)) = some (s, c, .ow d, .sh (.int 7), .sh path7) := by kernel_rfl
theorem u7_4 (s c : Sl) (d : List PyData) (q r : Sl) : k5 (lwG4 (env s c (.ow d) (.sh (.int 7)) (.sh path7) q r)) = some (s, c, .ow d, .sh (.int 7), .sh path7) := by kernel_rfl
theorem u7_5 (s c : Sl) (d : List PyData) (q r : Sl) : k5 (lwG5 (env s c (.ow d) (.sh (.int 7)) (.sh path7) q r)) = some (s, c, .ow d, .sh (.int 7), .sh path7) := by kernel_rfl
theorem u7_6 (s c : Sl) (d : List PyData) (q r : Sl) : k5 (lwG6 (env s c (.ow d) (.sh (.int 7)) (.sh path7) q r)) = some (s, c, .ow d, .sh (.int 7), .sh path7) := by kernel_rfl
theorem u7_7 (s c : Sl) (d : List PyData) (q r : Sl) : k5 (lwG7 (env s c (.ow d) (.sh (.int 7)) (.sh path7) q r)) = some (s, c, .ow d, .sh (.int 7), .sh path7) := by kernel_rfl
theorem t7 (s c : Sl) (d : List PyData) (p q r : Sl) : kk (lwT (env s c (.ow d) (.sh (.int 7)) p q r)) = some s := by
  obtain ⟨q0, r0, h0⟩ := k5_inv (u7_0 s c d p q r)
  obtain ⟨q1, r1, h1⟩ := k5_inv (u7_1 s c d q0 r0)
  obtain ⟨q2, r2, h2⟩ := k5_inv (u7_2 s c d q1 r1)
  obtain ⟨q3, r3, h3⟩ := k5_inv (u7_3 s c d q2 r2)
  obtain ⟨q4, r4, h4⟩ := k5_inv (u7_4 s c d q3 r3)
  obtain ⟨q5, r5, h5⟩ := k5_inv (u7_5 s c d q4 r4)
  obtain ⟨q6, r6, h6⟩ := k5_inv (u7_6 s c d q5 r5)
  obtain ⟨q7, r7, h7⟩ := k5_inv (u7_7 s c d q6 r6)
  rw [lwT_groups, seq_nx h0 (seq_nx h1 (seq_nx h2 (seq_nx h3 (seq_nx h4 (seq_nx h5 (seq_nx h6 h7))))))]
  rfl
def path8 : PyData := .tuple [.tuple [.int 0, .int 1], .tuple [.int 1, .int 2], .tuple [.int 2, .int 3], .tuple [.int 3, .int 4], .tuple [.int 4, .int 5], .tuple [.int 5, .int 6], .tuple [.int 6, .int 7]]
theorem u8_0 (s c : Sl) (d : List PyData) (p q r : Sl) : k5 (lwG0 (env s c (.ow d) (.sh (.int 8)) p q r)) = some (s, c, .ow d, .sh (.int 8), .sh path8) := by kernel_rfl
theorem u8_1 (s c : Sl) (d : List PyData) (q r : Sl) : k5 (lwG1 (env s c (.ow d) (.sh (.int 8)) (.sh path8) q r)) = some (s, c, .ow d, .sh (.int 8), .sh path8) := by kernel_rfl
theorem u8_2 (s c : Sl) (d : List PyData) (q r : Sl) : k5 (lwG2 (env s c (.ow d) (.sh (.int 8)) (.sh path8) q r)) = some (s, c, .ow d, .sh (.int 8), .sh path8) := by kernel_rfl
theorem u8_3 (s c : Sl) (d : List PyData) (q r : Sl) : k5 (lwG3 (env s c (.ow d) (.sh (.int 8)) (.sh path8) q r)) = some (s, c, .ow d, .sh (.int 8), .sh path8) := by kernel_rfl
theorem u8_4 (s c : Sl) (d : List PyData) (q r : Sl) : k5 (lwG4 (env s c (.ow d) (.sh (.int 8)) (.sh path8) q r)) = some (s, c, .ow d, .sh (.int 8), .sh path8) := by kernel_rfl
theorem u8_5 (s c : Sl) (d : List PyData) (q r : Sl) : k5 (lwG5 (env s c (.ow d) (.sh (.int 8)) (.sh path8) q r)) = some (s, c, .ow d, .sh (.int 8), .sh path8) := by kernel_rfl
theorem u8_6 (s c : Sl) (d : List PyData) (q r : Sl) : k5 (lwG6 (env s c (.ow d) (.sh (.int 8)) (.sh path8) q r)) = some (s, c, .ow d, .sh (.int 8), .sh path8) := by kernel_rfl
theorem u8_7 (s c : Sl) (d : List PyData) (q r : Sl) : k5 (lwG7 (env s c (.ow d) (.sh (.int 8)) (.sh path8) q r)) = some (s, c, .ow d, .sh (.int 8), .sh path8) := by kernel_rfl
theorem t8 (s c : Sl) (d : List PyData) (p q r : Sl) : kk (lwT (env s c (.ow d) (.sh (.int 8)) p q r)) = some s := by
  obtain ⟨q0, r0, h0⟩ := k5_inv (u8_0 s c d p q r)
  obtain ⟨q1, r1, h1⟩ := k5_inv (u8_1 s c d q0 r0)
  obtain ⟨q2, r2, h2⟩ := k5_inv (u8_2 s c d q1 r1)
  obtain ⟨q3, r3, h3⟩ := k5_inv (u8_3 s c d q2 r2)
  obtain ⟨q4, r4, h4⟩ := k5_inv (u8_4 s c d q3 r3)
  obtain ⟨q5, r5, h5⟩ := k5_inv (u8_5 s c d q4 r4)
  obtain ⟨q6, r6, h6⟩ := k5_inv (u8_6 s c d q5 r5)
  obtain ⟨q7, r7, h7⟩ := k5_inv (u8_7 s c d q6 r6)
  rw [lwT_groups, seq_nx h0 (seq_nx h1 (seq_nx h2 (seq_nx h3 (seq_nx h4 (seq_nx h5 (seq_nx h6 h7))))))]
  rfl
def path9 : PyData := .tuple [.tuple [.int 0, .int 1], .tuple [.int 1, .int 2], .tuple [.int 2, .int 3], .tuple [.int 3, .int 4], .tuple [.int 4, .int 5], .tuple [.int 5, .int 6], .tuple [.int 6, .int 7], .tuple [.int 7, .int 8]]
theorem u9_0 (s c : Sl) (d : List PyData) (p q r : Sl) : k5 (lwG0 (env s c (.ow d) (.sh (.int 9)) p q r)) = some (s, c, .ow d, .sh (.int 9), .sh path9) := by kernel_rfl
theorem u9_1 (s c : Sl) (d : List PyData) (q r : Sl) : k5 (lwG1 (env s c (.ow d) (.sh (.int 9)) (.sh path9) q r)) = some (s, c, .ow d, .sh (.int 9), .sh path9) := by kernel_rfl
theorem u9_2 (s c : Sl) (d : List PyData) (q r : Sl) : k5 (lwG2 (env s c (.ow d) (.sh (.int 9)) (.sh path9) q r)) = some (s, c, .ow d, .sh (.int 9), .sh path9) := by kernel_rfl
theorem u9_3 (s c : Sl) (d : List PyData) (q r : Sl) : k5 (lwG3 (env s c (.ow d) (.sh (.int 9)) (.sh path9) q r)) = some (s, c, .ow d, .sh (.int 9), .sh path9) := by kernel_rfl
theorem u9_4 (s c : Sl) (d : List PyData) (q r : Sl) : k5 (lwG4 (env s c (.ow d) (.sh (.int 9)) (.sh path9) q r)) = some (s, c, .ow d, .sh (.int 9), .sh path9) := by kernel_rfl
theorem u9_5 (s c : Sl) (d : List PyData) (q r : Sl) : k5 (lwG5 (env s c (.ow d) (.sh (.int 9)) (.sh path9) q r)) = some (s, c, .ow d, .sh (.int 9), .sh path9) := by kernel_rfl
theorem u9_6 (s c : Sl) (d : List PyData) (q r : Sl) : k5 (lwG6 (env s c (.ow d) (.sh (.int 9)) (.sh path9) q r)) = some (s, c, .ow d, .sh (.int 9), .sh path9) := by kernel_rfl
theorem u9_7 (s c : Sl) (d : List PyData) (q r : Sl) : k5 (lwG7 (env s c (.ow d) (.sh (.int 9)) (.sh path9) q r)) = some (s, c, .ow d, .sh (.int 9), .sh path9) := by kernel_rfl
theorem t9 (s c : Sl) (d : List PyData) (p q r : Sl) : kk (lwT (env s c (.ow d) (.sh (.int 9)) p q r)) = some s := by
  obtain ⟨q0, r0, h0⟩ := k5_inv (u9_0 s c d p q r)
  obtain ⟨q1, r1, h1⟩ := k5_inv (u9_1 s c d q0 r0)
  obtain ⟨q2, r2, h2⟩ := k5_inv (u9_2 s c d q1 r1)
  obtain ⟨q3, r3, h3⟩ := k5_inv (u9_3 s c d q2 r2)
  obtain ⟨q4, r4, h4⟩ := k5_inv (u9_4 s c d q3 r3)
  obtain ⟨q5, r5, h5⟩ := k5_inv (u9_5 s c d q4 r4)
  obtain ⟨q6, r6, h6⟩ := k5_inv (u9_6 s c d q5 r5)
  obtain ⟨q7, r7, h7⟩ := k5_inv (u9_7 s c d q6 r6)
  rw [lwT_groups, seq_nx h0 (seq_nx h1 (seq_nx h2 (seq_nx h3 (seq_nx h4 (seq_nx h5 (seq_nx h6 h7))))))]
  rfl
def path10 : PyData := .tuple [.tuple [.int 0, .int 1], .tuple [.int 1, .int 2], .tuple [.int 2, .int 3], .tuple [.int 3, .int 4], .tuple [.int 4, .int 5], .tuple [.int 5, .int 6], .tuple [.int 6, .int 7], .tuple [.int 7, .int 8], .tuple [.int 8, .int 9]]
theorem u10_0 (s c : Sl) (d : List PyData) (p q r : Sl) : k5 (lwG0 (env s c (.ow d) (.sh (.int 10)) p q r)) = some (s, c, .ow d, .sh (.int 10), .sh path10) := by kernel_rfl
theorem u10_1 (s c : Sl) (d : List PyData) (q r : Sl) : k5 (lwG1 (env s c (.ow d) (.sh (.int 10)) (.sh path10) q r)) = some (s, c, .ow d, .sh (.int 10), .sh path10) := by kernel_rfl
theorem u10_2 (s c : Sl) (d : List PyData) (q r : Sl) : k5 (lwG2 (env s c (.ow d) (.sh (.int 10)) (.sh path10) q r)) = some (s, c, .ow d, .sh (.int 10), .sh path10) := by kernel_rfl
theorem u10_3 (s c : Sl) (d : List PyData) (q r : Sl) : k5 (lwG3 (env s c (.ow d) (.sh (.int 10)) (.sh path10) q r)) = some (s, c, .ow d, .sh (.int 10), .sh path10) := by kernel_rfl
theorem u10_4 (s c : Sl) (d : List PyData) (q r : Sl) : k5 (lwG4 (env s c (.ow d) (.sh (.int 10)) (.sh path10) q r)) = some (s, c, .ow d, .sh (.int 10), .sh path10) := by kernel_rfl
theorem u10_5 (s c : Sl) (d : List PyData) (q r : Sl) : k5 (lwG5 (env s c (.ow d) (.sh (.int 10)) (.sh path10) q r)) = some (s, c, .ow d, .sh (.int 10), .sh path10) := by kernel_rfl
theorem u10_6 (s c : Sl) (d : List PyData) (q r : Sl) : k5 (lwG6 (env s c (.ow d) (.sh (.int 10)) (.sh path10) q r)) = some (s, c, .ow d, .sh (.int 10), .sh path10) := by kernel_rfl
theorem u10_7 (s c : Sl) (d : List PyData) (q r : Sl) : k5 (lwG7 (env s c (.ow d) (.sh (.int 10)) (.sh path10) q r)) = some (s, c, .ow d, .sh (.int 10), .sh path10) := by kernel_rfl
theorem t10 (s c : Sl) (d : List PyData) (p q r : Sl) : kk (lwT (env s c (.ow d) (.sh (.int 10)) p q r)) = some s := by
  obtain ⟨q0, r0, h0⟩ := k5_inv (u10_0 s c d p q r)
  obtain ⟨q1, r1, h1⟩ := k5_inv (u10_1 s c d q0 r0)
  obtain ⟨q2, r2, h2⟩ := k5_inv (u10_2 s c d q1 r1)
  obtain ⟨q3, r3, h3⟩ := k5_inv (u10_3 s c d q2 r2)
  obtain ⟨q4, r4, h4⟩ := k5_inv (u10_4 s c d q3 r3)
  obtain ⟨q5, r5, h5⟩ := k5_inv (u10_5 s c d q4 r4)
  obtain ⟨q6, r6, h6⟩ := k5_inv (u10_6 s c d q5 r5)
  obtain ⟨q7, r7, h7⟩ := k5_inv (u10_7 s c d q6 r6)
  rw [lwT_groups, seq_nx h0 (seq_nx h1 (seq_nx h2 (seq_nx h3 (seq_nx h4 (seq_nx h5 (seq_nx h6 h7))))))]
  rfl
def path11 : PyData := .tuple [.tuple [.int 0, .int 1], .tuple [.int 1, .int 2], .tuple [.int 2, .int 3], .tuple [.int 3, .int 4], .tuple [.int 4, .int 5], .tuple [.int 5, .int 6], .tuple [.int 6, .int 7], .tuple [.int 7, .int 8], .tuple [.int 8, .int 9], .tuple [.int 9, .int 10]]
theorem u11_0 (s c : Sl) (d : List PyData) (p q r : Sl) : k5 (lwG0 (env s c (.ow d) (.sh (.int 11)) p q r)) = some (s, c, .ow d, .sh (.int 11), .sh path11) := by kernel_rfl
theorem u11_1 (s c : Sl) (d : List PyData) (q r : Sl) : k5 (lwG1 (env s c (.ow d) (.sh (.int 11)) (.sh path11) q r)) = some (s, c, .ow d, .sh (.int 11), .sh path11) := by kernel_rfl
theorem u11_2 (s c : Sl) (d : List PyData) (q r : Sl) : k5 (lwG2 (env s c (.ow d) (.sh (.int 11)) (.sh path11) q r)) = some (s, c, .ow d, .sh (.int 11), .sh path11) := by kernel_rfl
theorem u11_3 (s c : Sl) (d : List PyData) (q r : Sl) : k5 (lwG3 (env s c (.ow d) (.sh (.int 11)) (.sh path11) q r)) = some (s, c, .ow d, .sh (.int 11), .sh path11) := by kernel_rfl
theorem u11_4 (s c : Sl) (d : List PyData) (q r : Sl) : k5 (lwG4 (env s c (.ow d) (.sh (.int 11)) (.sh path11) q r)) = some (s, c, .ow d, .sh (.int 11), .sh path11) := by kernel_rfl
theorem u11_5 (s c : Sl) (d : List PyData) (q r : Sl) : k5 (lwG5 (env s c (.ow d) (.sh (.int 11)) (.sh path11) q r)) = some (s, c, .ow d, .sh (.int 11), .sh path11) := by kernel_rfl
theorem u11_6 (s c : Sl) (d : List PyData) (q r : Sl) : k5 (lwG6 (env s c (.ow d) (.sh (.int 11)) (.sh path11) q r)) = some (s, c, .ow d, .sh (.int 11), .sh path11) := by kernel_rfl
theorem u11_7 (s c : Sl) (d : List PyData) (q r : Sl) : k5 (lwG7 (env s c (.ow d) (.sh (.int 11)) (.sh path11) q r)) = some (s, c, .ow d, .sh (.int 11), .sh path11) := by kernel_rfl
theorem t11 (s c : Sl) (d : List PyData) (p q r : Sl) : kk (lwT (env s c (.ow d) (.sh (.int 11)) p q r)) = some s := by
  obtain ⟨q0, r0, h0⟩ := k5_inv (u11_0 s c d p q r)
  obtain ⟨q1, r1, h1⟩ := k5_inv (u11_1 s c d q0 r0)
  obtain ⟨q2, r2, h2⟩ := k5_inv (u11_2 s c d q1 r1)
  obtain ⟨q3, r3, h3⟩ := k5_inv (u11_3 s c d q2 r2)
  obtain ⟨q4, r4, h4⟩ := k5_inv (u11_4 s c d q3 r3)
  obtain ⟨q5, r5, h5⟩ := k5_inv (u11_5 s c d q4 r4)
  obtain ⟨q6, r6, h6⟩ := k5_inv (u11_6 s c d q5 r5)
  obtain ⟨q7, r7, h7⟩ := k5_inv (u11_7 s c d q6 r6)
  rw [lwT_groups, seq_nx h0 (seq_nx h1 (seq_nx h2 (seq_nx h3 (seq_nx h4 (seq_nx h5 (seq_nx h6 h7))))))]
  rfl
def path12 : PyData := .tuple [.tuple [.int 0, .int 1], .tuple [.int 1, .int 2], .tuple [.int 2, .int 3], .tuple [.int 3, .int 4], .tuple [.int 4, .int 5], .tuple [.int 5, .int 6], .tuple [.int 6, .int 7], .tuple [.int 7, .int 8], .tuple [.int 8, .int 9], .tuple [.int 9, .int 10], .tuple [.int 10, .int 11]]
theorem u12_0 (s c : Sl) (d : List PyData) (p q r : Sl) : k5 (lwG0 (env s c (.ow d) (.sh (.int 12)) p q r)) = some (s, c, .ow d, .sh (.int 12), .sh path12) := by kernel_rfl
theorem u12_1 (s c : Sl) (d : List PyData) (q r : Sl) : k5 (lwG1 (env s c (.ow d) (.sh (.int 12)) (.sh path12) q r)) = some (s, c, .ow d, .sh (.int 12), .sh path12) := by kernel_rfl
theorem u12_2 (s c : Sl) (d : List PyData) (q r : Sl) : k5 (lwG2 (env s c (.ow d) (.sh (.int 12)) (.sh path12) q r)) = some (s, c, .ow d, .sh (.int 12), .sh path12) := by kernel_rfl
theorem u12_3 (s c : Sl) (d : List PyData) (q r : Sl) : k5 (lwG3 (env s c (.ow d) (.sh (.int 12)) (.sh path12) q r)) = some (s, c, .ow d, .sh (.int 12), .sh path12) := by kernel_rfl
theorem u12_4 (s c : Sl) (d : List PyData) (q r : Sl) : k5 (lwG4 (env s c (.ow d) (.sh (.int 12)) (.sh path12) q r)) = some (s, c, .ow d, .sh (.int 12), .sh path12) := by kernel_rfl
theorem u12_5 (s c : Sl) (d : List PyData) (q r : Sl) : k5 (lwG5 (env s c (.ow d) (.sh (.int 12)) (.sh path12) q r)) = some (s, c, .ow d, .sh (.int 12), .sh path12) := by kernel_rfl
theorem u12_6 (s c : Sl) (d : List PyData) (q r : Sl) : k5 (lwG6 (env s c (.ow d) (.sh (.int 12)) (.sh path12) q r)) = some (s, c, .ow d, .sh (.int 12), .sh path12) := by kernel_rfl
theorem u12_7 (s c : Sl) (d : List PyData) (q r : Sl) : k5 (lwG7 (env s c (.ow d) (.sh (.int 12)) (.sh path12) q r)) = some (s, c, .ow d, .sh (.int 12), .sh path12) := by kernel_rfl
theorem t12 (s c : Sl) (d : List PyData) (p q r : Sl) : kk (lwT (env s c (.ow d) (.sh (.int 12)) p q r)) = some s := by
  obtain ⟨q0, r0, h0⟩ := k5_inv (u12_0 s c d p q r)
  obtain ⟨q1, r1, h1⟩ := k5_inv (u12_1 s c d q0 r0)
  obtain ⟨q2, r2, h2⟩ := k5_inv (u12_2 s c d q1 r1)
  obtain ⟨q3, r3, h3⟩ := k5_inv (u12_3 s c d q2 r2)
  obtain ⟨q4, r4, h4⟩ := k5_inv (u12_4 s c d q3 r3)
  obtain ⟨q5, r5, h5⟩ := k5_inv (u12_5 s c d q4 r4)
  obtain ⟨q6, r6, h6⟩ := k5_inv (u12_6 s c d q5 r5)
  obtain ⟨q7, r7, h7⟩ := k5_inv (u12_7 s c d q6 r6)
  rw [lwT_groups, seq_nx h0 (seq_nx h1 (seq_nx h2 (seq_nx h3 (seq_nx h4 (seq_nx h5 (seq_nx h6 h7))))))]
  rfl
end VM
end
section
set_option maxRecDepth 1000000
set_option maxHeartbeats 4000000
set_option linter.all false
namespace VM
open PySem VL VG L2
def kf : Option Out → Option Sl
  | some (.rt s _) => some s
  | _ => none
theorem fin_ok (s c d m p q r : Sl) : kf (lwF (env s c d m p q r)) = some (.sh (.bool true)) := by kernel_rfl
theorem it_ok (L : List PyData) (h : sz (1 + L.length) = true) (c d m p q r : Sl) : lwI (env (.sh (.list L)) c d m p q r) = some (cutD (.int 0 :: L) none (some 4), env (.sh (.list L)) c d m p q r) := by
  have s1 : sz 1 = true := by decide
  have h' : sz (L.length + 1) = true := by rw [Nat.add_comm]; exact h
  simp [lwI, iAny, eX, xSl, xOps, xLst, aCons, aNil, eC, eVar, oNo, oSome, bnd, put, pAdd, pSl, seqD, env, h, h', s1]
theorem cut_ints (ns : List Int) : ∀ x ∈ cutD (.int 0 :: ns.map PyData.int) none (some 4), ∃ i, x = .int i := by
  intro x hx
  unfold cutD at hx
  have h1 := List.mem_of_mem_take hx
  have h2 := List.mem_of_mem_drop h1
  rcases List.mem_cons.mp h2 with h | h
  · exact ⟨0, h⟩
  · obtain ⟨i, _, e⟩ := List.mem_map.mp h
    exact ⟨i, e.symm⟩
theorem a_ok (i : Int) (s d m p q r : Sl) : ∃ d0 d1 : Int, 0 ≤ d1 ∧ d1 < 2147483579 ∧ lwA (env s (.sh (.int i)) d m p q r) = some (.nx (env s (.sh (.int i)) (.ow [.int d0, .int d1, .int 13]) m p q r)) := by
  obtain ⟨d0, d1, h1, h2, h3⟩ := deck_eq i
  refine ⟨d0, d1, h1, h2, ?_⟩
  simp [lwA, sSet, xFn, aCons, aNil, eVar, eC, bnd, put, env, h3]
theorem b_ok (d0 d1 : Int) (h1 : 0 ≤ d1) (h2 : d1 < 2147483579) (s c m p q r : Sl) : ∃ (k : Int) (ds : List PyData), 0 ≤ k ∧ k < 10 ∧ lwB (env s c (.ow [.int d0, .int d1, .int 13]) m p q r) = some (.nx (env s c (.ow ds) (.sh (.int (3 + k))) p q r)) := by
  obtain ⟨k, ds, k1, k2, h3⟩ := pick_eq d0 d1 h1 h2
  refine ⟨k, ds, k1, k2, ?_⟩
  simp [lwB, sSet, xFnB, xOps, eX, pAdd, ownOf, setOwn, aCons, aNil, eVar, eC, bnd, put, env, h3]
theorem t_ok (k : Int) (k1 : 0 ≤ k) (k2 : k < 10) (s c : Sl) (d : List PyData) (p q r : Sl) : kk (lwT (env s c (.ow d) (.sh (.int (3 + k))) p q r)) = some s := by
  have : k = 0 ∨ k = 1 ∨ k = 2 ∨ k = 3 ∨ k = 4 ∨ k = 5 ∨ k = 6 ∨ k = 7 ∨ k = 8 ∨ k = 9 := by omega
  rcases this with h | h | h | h | h | h | h | h | h | h <;> subst h
  · exact t3 s c d p q r
  · exact t4 s c d p q r
  · exact t5 s c d p q r
  · exact t6 s c d p q r
  · exact t7 s c d p q r
  · exact t8 s c d p q r
  · exact t9 s c d p q r
  · exact t10 s c d p q r
  · exact t11 s c d p q r
  · exact t12 s c d p q r
theorem body_ok (i : Int) (s c d m p q r : Sl) : ∃ c' d' m' p' q' r', sSeq lwA (sSeq lwB lwT) ((env s c d m p q r).set 1 (.sh (.int i))) = some (.nx (env s c' d' m' p' q' r')) := by
  show ∃ c' d' m' p' q' r', sSeq lwA (sSeq lwB lwT) (env s (.sh (.int i)) d m p q r) = _
  obtain ⟨d0, d1, h1, h2, h3⟩ := a_ok i s d m p q r
  obtain ⟨k, ds, k1, k2, h4⟩ := b_ok d0 d1 h1 h2 s (.sh (.int i)) m p q r
  obtain ⟨c', d', m', p', q', r', h5⟩ := kk_inv (t_ok k k1 k2 s (.sh (.int i)) ds p q r)
  refine ⟨c', d', m', p', q', r', ?_⟩
  unfold sSeq
  rw [h3]
  dsimp only
  rw [h4]
  exact h5
theorem loop_ok (s : Sl) : ∀ (ds : List PyData) (c d m p q r : Sl), (∀ x ∈ ds, ∃ i, x = .int i) → ∃ c' d' m' p' q' r', loop (gN 1) (sSeq lwA (sSeq lwB lwT)) ds (env s c d m p q r) = some (.nx (env s c' d' m' p' q' r'))
  | [], c, d, m, p, q, r, _ => ⟨c, d, m, p, q, r, rfl⟩
  | x :: xs, c, d, m, p, q, r, h => by
    obtain ⟨i, rfl⟩ := h x List.mem_cons_self
    obtain ⟨c1, d1, m1, p1, q1, r1, h1⟩ := body_ok i s c d m p q r
    obtain ⟨c2, d2, m2, p2, q2, r2, h2⟩ := loop_ok s xs c1 d1 m1 p1 q1 r1 fun y hy => h y (List.mem_cons_of_mem _ hy)
    refine ⟨c2, d2, m2, p2, q2, r2, ?_⟩
    unfold loop gN
    dsimp only
    rw [h1]
    exact h2
theorem law_true (ns : List Int) (hl : ns.length ≤ 63) : fn_law [.list (ns.map PyData.int)] = some (.sh (.bool true)) := by
  have hz : sz (1 + (ns.map PyData.int).length) = true := by
    unfold sz
    rw [List.length_map]
    exact Nat.ble_eq_true_of_le (by omega)
  obtain ⟨c, d, m, p, q, r, h1⟩ := loop_ok (.sh (.list (ns.map PyData.int))) _ .un .un .un .un .un .un (cut_ints ns)
  have h2 := fin_ok (.sh (.list (ns.map PyData.int))) c d m p q r
  show (match bd_law (env (.sh (.list (ns.map PyData.int))) .un .un .un .un .un .un) with
    | none => none
    | some (.nx _) => some (Sl.sh .none)
    | some (.rt s _) => some s) = some (.sh (.bool true))
  rw [law_parts]
  unfold sSeq sFor
  rw [it_ok _ hz]
  show (match (match loop (gN 1) (sSeq lwA (sSeq lwB lwT)) _ _ with
      | none => none
      | some (.nx e1) => lwF e1
      | some (.rt s e1) => some (Out.rt s e1)) with
    | none => none
    | some (.nx _) => some (Sl.sh .none)
    | some (.rt s _) => some s) = _
  rw [h1]
  dsimp only
  cases h3 : lwF (env (.sh (.list (ns.map PyData.int))) c d m p q r) with
  | none => rw [h3] at h2; cases h2
  | some o =>
    rw [h3] at h2
    cases o with
    | nx e => cases h2
    | rt s e => exact h2
end VM
end
section
set_option Elab.async false
set_option linter.all false
open PySem PySem.W PyProof.Rows
set_option maxRecDepth 100000 in
set_option maxHeartbeats 0 in
theorem PySem.Challenge.cw_roofsights_k13_whole_small_streets_by_wo_holds : PySem.Challenge.rw_roofsights_k13_whole_small_streets_by_wo.Holds := by
  w_on; o_law; k_head; (case hw => w_witness2)
  k_fill
  refine L2.walk_of (l := PySem.Challenge.rw_roofsights_k13_whole_small_streets_by_wo) (n := 63) (k := 13) (x := "script") (CX := fun _ => L2.CX0) (sp := fun w => VL.spS _ VG.fn_law) rfl (by decide) rfl ⟨rfl, by decide, by decide⟩ (fun w h Y => PySem.W.kIn_of Y) ?F (fun _ _ a ns hl _ hS => VL.spS_law (VM.law_true ns hl) hS _) fun _ _ _ _ _ z => z
  case F =>
    intro w mg fa h KX G hmg
    refine VG.all_mk KX G hmg ?T
    refine' VG.top_mk KX G ?f_n_all ?f_n_any ?f_n_bool ?f_n_enumerate ?f_n_int ?f_n_isinstance ?f_n_len ?f_n_list ?f_n_max ?f_n_min ?f_n_range ?f_n_set ?f_n_sorted ?f_n_str ?f_n_sum ?f_n_tuple ?f_n_zip ?f_c_MOST_HOUSES ?f_c_MOST_HEIGHT ?f_c_MOST_NUMBER ?f_c_MOST_COUNTS ?f_c_MOST_COUNT ?f_Street ?f_Street___init__ ?f_law_deck ?f_Street_change_to ?f_is_whole ?f_is_whole_within ?f_is_height ?f_Street_build ?f_higher_than_all_ahead ?f_higher_than_all_behind ?f_Street_from_ends ?f_law_pick ?f_all_pairs ?f_see_one_another ?f_sights_in_row ?f_are_heights ?f_sights ?f_is_many ?f_check_many ?f_is_place ?f_is_pair ?f_is_lot ?f_check_lot ?f_check_many_and_lot ?f_both_see_one_between ?f_bars_alone ?f_bars_apart ?f_bars_cross ?f_all_bars ?f_what_bars ?f_can_be ?f_last_free ?f_first_order_of ?f_highest_between ?f_tree_under ?f_is_seen_over ?f_tops ?f_first_order ?f_check_can_be ?f_seen_from_left ?f_seen_from_right ?f_count_under ?f_count_orders ?f_from_ends ?f_check_many_seen_and_unseen ?f_gaps_within ?f_FirstLot_bare ?f_FirstLot_joined ?f_sights_to_sides ?f_houses_that_fit ?f_parts_of_gap ?f_FirstLot_chosen ?f_made_of_trees ?f_first_with ?f_highest ?f_how_many ?f_check_two_houses ?f_higher ?f_law_fan_right ?f_are_counts ?f_LotList_bare ?f_LotList_joined ?f_LotList_chosen ?f_all_lots ?f_counts_of ?f_by_counts ?f_Street_heights ?f_Street_sights ?f_law_doubled ?f_TreeCount_bare ?f_TreeCount_joined ?f_TreeCount_chosen ?f_lots_with ?f_lots_of ?f_law ?f_TreeCount ?f_FirstLot ?f_LotList
    case f_n_all => k_is
    case f_n_any => k_is
    case f_n_bool => k_is
    case f_n_enumerate => k_is
    case f_n_int => k_is
    case f_n_isinstance => k_is
    case f_n_len => k_is
    case f_n_list => k_is
    case f_n_max => k_is
    case f_n_min => k_is
    case f_n_range => k_is
    case f_n_set => k_is
    case f_n_sorted => k_is
    case f_n_str => k_is
    case f_n_sum => k_is
    case f_n_tuple => k_is
    case f_n_zip => k_is
    case f_c_MOST_HOUSES => exact ⟨_, by k_is⟩
    case f_c_MOST_HEIGHT => exact ⟨_, by k_is⟩
    case f_c_MOST_NUMBER => exact ⟨_, by k_is⟩
    case f_c_MOST_COUNTS => exact ⟨_, by k_is⟩
    case f_c_MOST_COUNT => exact ⟨_, by k_is⟩
    case f_Street => exact ⟨_, by k_is, by k_is, by k_is, by k_is, by k_is, by k_is, by k_is, by k_is, by k_is⟩
    case f_Street___init__ => exact ⟨_, _, _, _, _, _, _, _, _, _, _, by k_is, by k_is, by k_is, by k_is, by k_is, by k_is⟩
    case f_law_deck => exact ⟨_, _, _, _, _, _, _, _, _, _, by k_is, by k_is, by k_is, by k_is⟩
    case f_Street_change_to => exact ⟨_, _, _, _, _, _, _, _, _, _, _, by k_is, by k_is, by k_is, by k_is, by k_is, by k_is⟩
    case f_is_whole => exact ⟨_, _, _, _, _, _, _, _, _, _, by k_is, by k_is, by k_is, by k_is⟩
    case f_is_whole_within => exact ⟨_, _, _, _, _, _, _, _, _, _, by k_is, by k_is, by k_is, by k_is⟩
    case f_is_height => exact ⟨_, _, _, _, _, _, _, _, _, _, by k_is, by k_is, by k_is, by k_is⟩
    case f_Street_build => exact ⟨_, _, _, _, _, _, _, _, _, _, _, by k_is, by k_is, by k_is, by k_is, by k_is, by k_is⟩
    case f_higher_than_all_ahead => exact ⟨_, _, _, _, _, _, _, _, _, _, by k_is, by k_is, by k_is, by k_is⟩
    case f_higher_than_all_behind => exact ⟨_, _, _, _, _, _, _, _, _, _, by k_is, by k_is, by k_is, by k_is⟩
    case f_Street_from_ends => exact ⟨_, _, _, _, _, _, _, _, _, _, _, by k_is, by k_is, by k_is, by k_is, by k_is, by k_is⟩
    case f_law_pick => exact ⟨_, _, _, _, _, _, _, _, _, _, by k_is, by k_is, by k_is, by k_is⟩
    case f_all_pairs => exact ⟨_, _, _, _, _, _, _, _, _, _, by k_is, by k_is, by k_is, by k_is⟩
    case f_see_one_another => exact ⟨_, _, _, _, _, _, _, _, _, _, by k_is, by k_is, by k_is, by k_is⟩
    case f_sights_in_row => exact ⟨_, _, _, _, _, _, _, _, _, _, by k_is, by k_is, by k_is, by k_is⟩
    case f_are_heights => exact ⟨_, _, _, _, _, _, _, _, _, _, by k_is, by k_is, by k_is, by k_is⟩
    case f_sights => exact ⟨_, _, _, _, _, _, _, _, _, _, by k_is, by k_is, by k_is, by k_is⟩
    case f_is_many => exact ⟨_, _, _, _, _, _, _, _, _, _, by k_is, by k_is, by k_is, by k_is⟩
    case f_check_many => exact ⟨_, _, _, _, _, _, _, _, _, _, by k_is, by k_is, by k_is, by k_is⟩
    case f_is_place => exact ⟨_, _, _, _, _, _, _, _, _, _, by k_is, by k_is, by k_is, by k_is⟩
    case f_is_pair => exact ⟨_, _, _, _, _, _, _, _, _, _, by k_is, by k_is, by k_is, by k_is⟩
    case f_is_lot => exact ⟨_, _, _, _, _, _, _, _, _, _, by k_is, by k_is, by k_is, by k_is⟩
    case f_check_lot => exact ⟨_, _, _, _, _, _, _, _, _, _, by k_is, by k_is, by k_is, by k_is⟩
    case f_check_many_and_lot => exact ⟨_, _, _, _, _, _, _, _, _, _, by k_is, by k_is, by k_is, by k_is⟩
    case f_both_see_one_between => exact ⟨_, _, _, _, _, _, _, _, _, _, by k_is, by k_is, by k_is, by k_is⟩
    case f_bars_alone => exact ⟨_, _, _, _, _, _, _, _, _, _, by k_is, by k_is, by k_is, by k_is⟩
    case f_bars_apart => exact ⟨_, _, _, _, _, _, _, _, _, _, by k_is, by k_is, by k_is, by k_is⟩
    case f_bars_cross => exact ⟨_, _, _, _, _, _, _, _, _, _, by k_is, by k_is, by k_is, by k_is⟩
    case f_all_bars => exact ⟨_, _, _, _, _, _, _, _, _, _, by k_is, by k_is, by k_is, by k_is⟩
    case f_what_bars => exact ⟨_, _, _, _, _, _, _, _, _, _, by k_is, by k_is, by k_is, by k_is⟩
    case f_can_be => exact ⟨_, _, _, _, _, _, _, _, _, _, by k_is, by k_is, by k_is, by k_is⟩
    case f_last_free => exact ⟨_, _, _, _, _, _, _, _, _, _, by k_is, by k_is, by k_is, by k_is⟩
    case f_first_order_of => exact ⟨_, _, _, _, _, _, _, _, _, _, by k_is, by k_is, by k_is, by k_is⟩
    case f_highest_between => exact ⟨_, _, _, _, _, _, _, _, _, _, by k_is, by k_is, by k_is, by k_is⟩
    case f_tree_under => exact ⟨_, _, _, _, _, _, _, _, _, _, by k_is, by k_is, by k_is, by k_is⟩
    case f_is_seen_over => exact ⟨_, _, _, _, _, _, _, _, _, _, by k_is, by k_is, by k_is, by k_is⟩
    case f_tops => exact ⟨_, _, _, _, _, _, _, _, _, _, by k_is, by k_is, by k_is, by k_is⟩
    case f_first_order => exact ⟨_, _, _, _, _, _, _, _, _, _, by k_is, by k_is, by k_is, by k_is⟩
    case f_check_can_be => exact ⟨_, _, _, _, _, _, _, _, _, _, by k_is, by k_is, by k_is, by k_is⟩
    case f_seen_from_left => exact ⟨_, _, _, _, _, _, _, _, _, _, by k_is, by k_is, by k_is, by k_is⟩
    case f_seen_from_right => exact ⟨_, _, _, _, _, _, _, _, _, _, by k_is, by k_is, by k_is, by k_is⟩
    case f_count_under => exact ⟨_, _, _, _, _, _, _, _, _, _, by k_is, by k_is, by k_is, by k_is⟩
    case f_count_orders => exact ⟨_, _, _, _, _, _, _, _, _, _, by k_is, by k_is, by k_is, by k_is⟩
    case f_from_ends => exact ⟨_, _, _, _, _, _, _, _, _, _, by k_is, by k_is, by k_is, by k_is⟩
    case f_check_many_seen_and_unseen => exact ⟨_, _, _, _, _, _, _, _, _, _, by k_is, by k_is, by k_is, by k_is⟩
    case f_gaps_within => exact ⟨_, _, _, _, _, _, _, _, _, _, by k_is, by k_is, by k_is, by k_is⟩
    case f_FirstLot_bare => exact ⟨_, _, _, _, _, _, _, _, _, _, _, by k_is, by k_is, by k_is, by k_is, by k_is, by k_is⟩
    case f_FirstLot_joined => exact ⟨_, _, _, _, _, _, _, _, _, _, _, by k_is, by k_is, by k_is, by k_is, by k_is, by k_is⟩
    case f_sights_to_sides => exact ⟨_, _, _, _, _, _, _, _, _, _, by k_is, by k_is, by k_is, by k_is⟩
    case f_houses_that_fit => exact ⟨_, _, _, _, _, _, _, _, _, _, by k_is, by k_is, by k_is, by k_is⟩
    case f_parts_of_gap => exact ⟨_, _, _, _, _, _, _, _, _, _, by k_is, by k_is, by k_is, by k_is⟩
    case f_FirstLot_chosen => exact ⟨_, _, _, _, _, _, _, _, _, _, _, by k_is, by k_is, by k_is, by k_is, by k_is, by k_is⟩
    case f_made_of_trees => exact ⟨_, _, _, _, _, _, _, _, _, _, by k_is, by k_is, by k_is, by k_is⟩
    case f_first_with => exact ⟨_, _, _, _, _, _, _, _, _, _, by k_is, by k_is, by k_is, by k_is⟩
    case f_highest => exact ⟨_, _, _, _, _, _, _, _, _, _, by k_is, by k_is, by k_is, by k_is⟩
    case f_how_many => exact ⟨_, _, _, _, _, _, _, _, _, _, by k_is, by k_is, by k_is, by k_is⟩
    case f_check_two_houses => exact ⟨_, _, _, _, _, _, _, _, _, _, by k_is, by k_is, by k_is, by k_is⟩
    case f_higher => exact ⟨_, _, _, _, _, _, _, _, _, _, by k_is, by k_is, by k_is, by k_is⟩
    case f_law_fan_right => exact ⟨_, _, _, _, _, _, _, _, _, _, by k_is, by k_is, by k_is, by k_is⟩
    case f_are_counts => exact ⟨_, _, _, _, _, _, _, _, _, _, by k_is, by k_is, by k_is, by k_is⟩
    case f_LotList_bare => exact ⟨_, _, _, _, _, _, _, _, _, _, _, by k_is, by k_is, by k_is, by k_is, by k_is, by k_is⟩
    case f_LotList_joined => exact ⟨_, _, _, _, _, _, _, _, _, _, _, by k_is, by k_is, by k_is, by k_is, by k_is, by k_is⟩
    case f_LotList_chosen => exact ⟨_, _, _, _, _, _, _, _, _, _, _, by k_is, by k_is, by k_is, by k_is, by k_is, by k_is⟩
    case f_all_lots => exact ⟨_, _, _, _, _, _, _, _, _, _, by k_is, by k_is, by k_is, by k_is⟩
    case f_counts_of => exact ⟨_, _, _, _, _, _, _, _, _, _, by k_is, by k_is, by k_is, by k_is⟩
    case f_by_counts => exact ⟨_, _, _, _, _, _, _, _, _, _, by k_is, by k_is, by k_is, by k_is⟩
    case f_Street_heights => exact ⟨_, _, _, _, _, _, _, _, _, _, _, by k_is, by k_is, by k_is, by k_is, by k_is, by k_is⟩
    case f_Street_sights => exact ⟨_, _, _, _, _, _, _, _, _, _, _, by k_is, by k_is, by k_is, by k_is, by k_is, by k_is⟩
    case f_law_doubled => exact ⟨_, _, _, _, _, _, _, _, _, _, by k_is, by k_is, by k_is, by k_is⟩
    case f_TreeCount_bare => exact ⟨_, _, _, _, _, _, _, _, _, _, _, by k_is, by k_is, by k_is, by k_is, by k_is, by k_is⟩
    case f_TreeCount_joined => exact ⟨_, _, _, _, _, _, _, _, _, _, _, by k_is, by k_is, by k_is, by k_is, by k_is, by k_is⟩
    case f_TreeCount_chosen => exact ⟨_, _, _, _, _, _, _, _, _, _, _, by k_is, by k_is, by k_is, by k_is, by k_is, by k_is⟩
    case f_lots_with => exact ⟨_, _, _, _, _, _, _, _, _, _, by k_is, by k_is, by k_is, by k_is⟩
    case f_lots_of => exact ⟨_, _, _, _, _, _, _, _, _, _, by k_is, by k_is, by k_is, by k_is⟩
    case f_law => exact ⟨_, _, _, _, _, _, _, _, _, _, by k_is, by k_is, by k_is, by k_is⟩
    case f_TreeCount => exact ⟨_, by k_is, by k_is, by k_is, by k_is, by k_is, by k_is, by k_is, by k_is, by k_is⟩
    case f_FirstLot => exact ⟨_, by k_is, by k_is, by k_is, by k_is, by k_is, by k_is, by k_is, by k_is, by k_is⟩
    case f_LotList => exact ⟨_, by k_is, by k_is, by k_is, by k_is, by k_is, by k_is, by k_is, by k_is, by k_is⟩
end
